import PyProof.Rows.All
import Wide.All
import OpenK.AllK
import Wide.FinOn
import Lean
import PyProof.EqAt
import PyProof.EqKinds
import PyProof.TupleCall
import PyProof.NeKinds
import PyProof.ForAny
import PyProof.ZipIter
import PyProof.Draws
import PyProof.ListRange
import PyProof.TupleOfGen
import KE.KRevIter
import KE.KMinKey
import PyProof.ConsumeWalk
import OpenK.KOwn
import KE.KTryMore
import KE.KIsAll
import PyProof.ExcArgs
import PyProof.NsDelKeeps
import PyProof.TupleOfSeq
import PyProof.Rows.SetFrom
import PyProof.WalksMore
import PyProof.ListNew
import KE.IntBitsLaws
import PyProof.EnumMake
import KE.KDictOf
import PyProof.AttrMissHeap
import PyProof.Rows.EnumRows
import KE.KDictSum
import PyProof.SumAny
import PyProof.DictValues
import PyProof.SetScanFacts
import PyProof.TupleKey
import PyProof.SetKind
import PySem.Challenge.RW_rillturn_k15_fewest_hues_judged
open List renaming length_map->wA,getElem?_eq_getElem->wC,getElem?_map->wI,size_toArray->wJ,getElem?_eq_some_iff->wL,length_append->wM,mem_cons_self->wN,range->wO,mem_cons_of_mem->wQ,replicate->wX,mem_cons->wZ,getD_eq_getElem?_getD->zA,mem_singleton->zB,mem_append_right->zD,map_map->zE,map_append->zI,mem_map->zJ,mem_append->zK,mem_range->zM,nodup_iff_pairwise_ne->zN,length_replicate->zO,length_range->zR,length_cons->zS,getElem?_set->zV,append_nil->zZ,getElem?_append_right->yC,length_drop->yI,not_mem_nil->yM,replicate_zero->yQ,mem_of_getElem?->yT,map_cons->yV,length_take->yW,lookup_cons->yY,length_filter_le->vC,nodup_cons->vE,getElem?_append_left->vH,Perm->vM,getElem?_eq_none->vP,append_assoc->vR,map_congr_left->vV,pairwise_map->vW,mem_filter->vZ,find?_cons->xC,nodup_nil->xK,take_of_length_le->xO,take_length->xQ,ext_getElem?->xV,length_reverse->xX,all_map->uB,any_cons->uE,all_eq_true->uF,getElem_mem->uG,nil_append->uK,length_nil->uL,take_add_one->uO,filterMap_cons->uU,nodup_append->kI,mem_append_left->kJ,contains_eq_mem->kM,nodup_range->kQ,pairwise_iff_getElem->kU,replicate_succ->kW,mem_map_of_mem->kX,getElem?_range->kY,length_eq_zero_iff->hZ,toArray->gH,take_append_drop->gM,cons_ne_nil->gP,getElem_of_mem->gU,length_pos_iff->gW,lookup_append->fA,pairwise_cons->fG,filter_append->fH,length->fJ,take_sublist->fK,flatten_cons->fM,map_take->fU,getElem?_replicate->fV,getElem?_cons_succ->fY,map_nil->ZF,foldl_cons->ZM,getElem?_toArray->ZP,getElem_toArray->ZQ,drop_zero->ZT,mem_of_mem_take->ZU,mem_filterMap->WA,getElem?_drop->WJ,foldl_append->WR,getElem_take->WT,map->WV,take_succ_eq_append_getElem->WX,getElem_inj->WY,getElem_map->VF,eq_nil_of_length_eq_zero->VI,of_mem_zip->VL,forIn_cons->VN,map_const'->VS,take_zero->UI,map_drop->UR,mem_of_mem_eraseIdx->UU
open PySem renaming wpAny_bind->wB,wpAny_pure->wD,wpAny_call_entry->zW,wpAny_newObj_type->yD,wpAny_callSpecial?_slot->yL,Spec->yR,wpAny_holding->yS,boot_len->yX,wpAny_truthy_bool->vA,wpAny_ite_split->vF,sizeLine_eq->vG,mem_of_lookup->vN,wpAny_mono->xW,wpAny_typeOf->xZ,wpAny_standAt->uC,wpAny_field->uD,plainId_quiet->uS,wpAny_Call_Name_kw->uX,wpAny_passesOwn->kB,wpAny_pyIter_list->kG,wpAny_comprehension_free->kZ,codeAny_mono->gC,wpAny_rule->gO,wpAny_attempt->gQ,codeAny_of_tree->gR,wpAny_seqItems->fC,wpAny_sequenceKey->fL,wpAny_of_eq->fN,wpAny_pyIter_slot->fO,wpAny_storeSet_of->fP,wpAny_newList->fT,wpAny_askSetting->fX,wpAny_isInstance->ZA,typeIs_int->ZG,wpAny_execs_nil->ZK,wpAny_loadPart'->ZL,codeAny_builtin->ZO,wpAny_letGo->ZS,wpAny_raiseNew_none->ZV,evalPart_none->ZX,evalPart_some->ZY,tupleKind_room_in1->WD,wpAny_pyIter_tuple->WH,concat_meets->WO,codeAny_loop->WQ,noFill_tuple_add->WZ,wpAny_noted->VH,wpAny_specialOf->VM,wpAny_updateSeq->VP,call_meets->UA,wpAny_tryCatch->UD,isSubtype_stop->UF,isSubtype_type->UH,seq_tuple_add->UM,filterMap_getElem?_range->US,putSet_of->UZ
open PySem.Heap renaming get?_push_of_some->wF,get?_push_size->wR,lt_size->wY,get?_update_self->vO,get?_update_other->uY,SameBut->kN,size_push->gF
open PySem.W renaming Frag->wG,kia_one->xA,kitOne->xI,fnOf->kO,mg_of->hU,OpenLaw->ZN,methodObj->WM,instObj->VJ,lookIn->VX,keepIn->VY,codeIn->VZ
open Array renaming length_toList->wH,getElem?_eq_getElem->wV,getElem?_toList->zX,getD_eq_getD_getElem?->vS,mem_toList_iff->vU,getElem?_eq_none->xM,getElem?_eq_some_iff->uH,getElem_toList->uQ,toList_filterMap->gJ,mem_iff_getElem->gL,perm_iff_toList_perm->fE,toList_map->fZ,getElem_mem->WS,size_setIfInBounds->UO,getElem?_replicate->UP
open Nat renaming le_refl->wK,le_trans->zC,le_of_ble_eq_true->zG,ne_of_lt->zH,zero_le->zP,lt_of_lt_of_le->zQ,lt_of_le_of_lt->yE,le_add_right->yZ,le_of_not_lt->vL,le_of_lt->vQ,le_of_lt_succ->vT,lt_irrefl->xR,le_of_eq->uA,le_succ->uN,not_lt_zero->kC,lt_succ_of_le->kH,lt_succ_of_lt->gG,min_eq_left->gS,ne_of_gt->gY,lt_or_eq_of_le->fF,add_sub_cancel_left->ZC,min_eq_right->ZD,zero_add->ZH,succ_pos->ZI,mod_lt->WK,sub_zero->WW,succ_le_succ->VA,not_lt_of_gt->VB,lt_succ_self->VC,le_antisymm->VR,not_lt->UE
open Bool renaming false_ne_true->wU,and_eq_true->zY,true_and->yB,false_and->yJ,false_eq_true->xP,eq_iff_iff->uJ,eq_false_iff->gE,not_eq_true'->gK,and_false->fB,not_eq_true->VD,not_false->UG,and_true->UQ
open PySem.SetTable renaming bits->wW,below->vB,runEnd->xD,put->xE,turns->xN,leap->xS,grown->uI,insertAt->uR,sizeAbove->kA,advance->kP,toList_insertAt->hG,layClean->WU
open Option.some renaming inj->zF
open PyProof.Rows renaming slot_tuple_getitem->zL,boot_tuple->zU,boot_max->vD,boot_isinstance->vI,boot_min->vX,boot_all->vY,callWith_type1->xY,boot_sorted->uT,callWith_builtin1->gN,boot_range->TB
open PySem.Builtin.Slice renaming slicePlaces->zT,sliceAdjust->yN,sliceApplied->xJ,sliceFields->fI
open PySem.Value renaming ref->yF,none->xF,int->kD,type->VV,str->UX
open Int renaming toNat_natCast->yG,emod_lt_of_pos->uZ,zero_add->kS,emod_nonneg->hV,not_lt->WI
open PySem.Heap.SameBut renaming update->yO
open PySem.Builtin.Tuple renaming tupleExact->yU,tupleItemsOf->kL
open PySem.PassesOwn renaming never->vK
open PySem.Str renaming ofString->xB
open PySem.F renaming slot_dict_keyiterator_next->xG,plain_max_loop->uV,slot_enumerate_next->kF,called_set->kR,plainAttrs_list->gB,args_tuple_add_2->fR,entry_tuple_add->fW,slot_tuple_add->ZE,args_dict_keyiterator_next_1->ZW,entry_dict_keyiterator_next->ZZ,slot_tuple_iterator_next->UB,called_tuple->UC,slot_list_append->UV,type_list_append->UW,args_enumerate_next_1->UY
open PySem.NameKind renaming free->xH,cell->kE
open Sum renaming inl->xT,inr->WL
open PySem.Builtin.Range renaming rangeSize->xU,small->gV,rangeFitsLong->VT
open ForInStep renaming yield->uM
open PySem.SetTable.probe renaming go->uP
open List.Nodup renaming length_le_of_subset->uW
open False renaming elim->kK
open PySem.Calls renaming call_function_entry->kT,spliced_cons->WB,spliced_nil->WN,Name_function_global->VW
open List.cons renaming inj->hE
open True renaming intro->hW
open PySem.Obj renaming mapSeq->hX,putSet->ZJ
open Option renaming map_eq_some_iff->gD,isSome_iff_exists->UL
open PySem.SetTable.layClean renaming free->gI
open Ne renaming symm->gX
open PySem.SeqAt renaming EqAt->gZ
open PySem.Paired renaming length->fQ
open PySem.Builtin.List renaming listTooLong->fS,listLengthHint->VU
open PySem.Around renaming under_plainId->ZR
open PySem.Heap.IsSliceOf renaming new->WC
open PySem.SeqAt.EqAt renaming of_refs->WE,same->VO
open PySem.Walks renaming list->WG
open And renaming intro->VG
open Array.Perm renaming refl->VQ
open Prod renaming fst->UJ
open Classical renaming byContradiction->UK
open PySem.AutoSeq1 renaming wpAny_loadPart'->UN
open PySem.Builtin.Frozenset renaming addrOf->UT
set_option Elab.async false
set_option linter.all false
noncomputable section
set_option maxRecDepth 100000
namespace L2
open PySem PySem.Spec PyProof.Rows
noncomputable abbrev Key:=Sum Int Str
noncomputable def qEZ:Key->Value->Bool
 | .inl k,v=>Value.isInt k v
 | .inr x,v=>Value.isStrOf x v
noncomputable def qNG (w:World):Key->Int
 | .inl k=>hashInt k
 | .inr x=>hashStr w x
theorem jB:∀{k:Key} {v:Value},qEZ k v=true->(∃ i t,k=xT i/\v=kD i t)\/(∃ x t,k=WL x/\v=UX x t)
 | .inl i,v,h=>by
  obtain ⟨t,e⟩:=Value.isInt_shape (k:=i) (v:=v) h
  exact .inl ⟨i,t,rfl,e⟩
 | .inr x,v,h=>by
  obtain ⟨t,e⟩:=Value.isStrOf_shape (x:=x) (v:=v) h
  exact .inr ⟨x,t,rfl,e⟩
theorem qGP (i:Int) (t:Tok):qEZ (.inl i) (.int i t)=true:=by simp [qEZ,Value.isInt]
theorem qEi (x:Str) (t:Tok):qEZ (.inr x) (.str x t)=true:=by simp [qEZ,Value.isStrOf]
theorem qLH (a b:Int):decide ((xT a:Key)=xT b)=(a == b):=by
 by_cases e:a=b
 ·subst e; simp
 ·have h:¬ (xT a:Key)=xT b:=fun q=>e (Sum.inl.inj q)
  rw [decide_eq_false h]
  exact (beq_eq_false_iff_ne.mpr e).symm
theorem qKG (a b:Str):decide ((WL a:Key)=WL b)=decide (a=b):=by
 by_cases e:a=b
 ·subst e; simp
 ·have h:¬ (WL a:Key)=WL b:=fun q=>e (Sum.inr.inj q)
  rw [decide_eq_false h,decide_eq_false e]
theorem qKn (a:Int) (b:Str):decide ((xT a:Key)=WL b)=false:=decide_eq_false (fun q=>nomatch q)
theorem qKv (a:Str) (b:Int):decide ((WL a:Key)=xT b)=false:=decide_eq_false (fun q=>nomatch q)
noncomputable def jV (prog:Program) (w:World):PySem.KeyKind prog w Key where
 is:=qEZ
 hash:=qNG w
 inj:=fun v a b ha hb=>by
  rcases jB ha with ⟨i,t,rfl,rfl⟩ | ⟨x,t,rfl,rfl⟩
  ·rcases jB hb with ⟨j,u,rfl,e⟩ | ⟨y,u,rfl,e⟩
   ·injection e with e1 _; rw [e1]
   ·exact nomatch e
  ·rcases jB hb with ⟨j,u,rfl,e⟩ | ⟨y,u,rfl,e⟩
   ·exact nomatch e
   ·injection e with e1 _; rw [e1]
 byValue:=fun k v h=>by
  rcases jB h with ⟨i,t,rfl,rfl⟩ | ⟨x,t,rfl,rfl⟩ <;> rfl
 pyHash:=fun hv h=>by
  rcases jB hv with ⟨i,t,rfl,rfl⟩ | ⟨x,t,rfl,rfl⟩
  ·exact wpAny_pyHash_int h
  ·exact wpAny_pyHash_str h
 eqBool:=fun hu hv h=>by
  rcases jB hu with ⟨i,t,rfl,rfl⟩ | ⟨x,t,rfl,rfl⟩
  ·rcases jB hv with ⟨j,u,rfl,rfl⟩ | ⟨y,u,rfl,rfl⟩
   ·rw [qLH] at h; exact wpAny_eqBool_int h
   ·rw [qKn] at h; exact SeqAt.EqAt.int_str i t y u _ _ _ _ h
  ·rcases jB hv with ⟨j,u,rfl,rfl⟩ | ⟨y,u,rfl,rfl⟩
   ·rw [qKv] at h; exact SeqAt.EqAt.str_int x t j u _ _ _ _ h
   ·rw [qKG] at h; exact wpAny_eqBool_str h
 «strs»:=fun k x t v h=>by
  rcases jB h with ⟨i,u,rfl,e⟩ | ⟨y,u,rfl,e⟩
  ·exact nomatch e
  ·injection e with e1 _
   subst e1
   cases v <;> rfl
theorem qCX (prog:Program) (w:World) (i:Int) (t:Tok):(jV prog w).is (.inl i) (.int i t)=true:=qGP i t
theorem qCq (prog:Program) (w:World) (x:Str) (t:Tok):(jV prog w).is (.inr x) (.str x t)=true:=qEi x t
inductive V where
 | non | bl (b:Bool) | int (i:Int) | str (x:Str) | byt (b:Array UInt8) | flt (b:UInt64) | ref (a:Addr) | ty (n:String)
 deriving DecidableEq
noncomputable def RelV:V->Value->Prop
 | .non,u=>u=xF
 | .bl b,u=>u=Value.bool b
 | .int i,u=>∃ t,u=kD i t
 | .str x,u=>∃ t,u=UX x t
 | .byt b,u=>∃ t,u=Value.bytes b t
 | .flt b,u=>∃ t,u=Value.float b t
 | .ref a,u=>u=yF a
 | .ty n,u=>u=VV n
noncomputable abbrev qt:List V->List Value->Prop:=Paired RelV
theorem qt.length {xs:List V} {us:List Value} (r:qt xs us):xs.length=us.length:=fQ r
theorem qt.get:∀{xs:List V} {us:List Value} {i:Nat} {x:V},qt xs us->xs[i]? = some x->∃ u,us[i]? = some u/\RelV x u
 | _,_,_,_,.nil,e=>by simp at e
 | _,_,0,_,.cons r _,e=>by simp at e; subst e; exact ⟨_,rfl,r⟩
 | _,_,i+1,x,.cons _ t,e=>by
  obtain ⟨u,h1,h2⟩:=qt.get (i:=i) (x:=x) t (by simpa using e)
  exact ⟨u,by simpa using h1,h2⟩
theorem qt.set {x:V} {u:Value} (r:RelV x u):∀{xs:List V} {us:List Value} (i:Nat),qt xs us->qt (xs.set i x) (us.set i u)
 | _,_,_,.nil=>.nil
 | _,_,0,.cons _ t=>.cons r t
 | _,_,i+1,.cons q t=>.cons q (qt.set r i t)
theorem qt.append:∀{xs ys:List V} {us ws:List Value},qt xs us->qt ys ws->qt (xs++ys) (us++ws)
 | _,_,_,_,.nil,s=>s
 | _,_,_,_,.cons r t,s=>.cons r (qt.append t s)
theorem qt.take:∀{xs:List V} {us:List Value} (n:Nat),qt xs us->qt (xs.take n) (us.take n)
 | _,_,0,_=>.nil
 | _,_,_+1,.nil=>.nil
 | _,_,n+1,.cons r t=>.cons r (qt.take n t)
theorem qt.drop:∀{xs:List V} {us:List Value} (n:Nat),qt xs us->qt (xs.drop n) (us.drop n)
 | _,_,0,r=>r
 | _,_,_+1,.nil=>.nil
 | _,_,n+1,.cons _ t=>qt.drop n t
noncomputable def qFQ:Option V->Option Value->Prop
 | some v,some u=>RelV v u
 | none,none=>True
 | _,_=>False
noncomputable def KV {κ:Type}:List (κ×V)->List (κ×Value)->Prop:=Paired fun (p:κ×V) (q:κ×Value)=>p.1=q.1/\RelV p.2 q.2
noncomputable def kV:Key->V
 | .inl i=>.int i
 | .inr x=>.str x
noncomputable def NoD (h:Heap) (a:Addr):Prop:=∀ o,h.get? a=some o->o.dict=none
theorem NoD.new {h:Heap} {o:Obj} (hd:o.dict=none) (hf:o.isFreed=false:=by rfl):NoD (h.push o) h.objs.size:=fun u e=>by
 rw [wR _ hf] at e
 cases e
 exact hd
inductive HO where
 /-- a list -/
 | lst (xs:List V)
 /-- a tuple (never changes) -/
 | tup (xs:List V)
 /-- a dict whose keys are ints and texts; one whose keys are tuples of ints and texts (the empty one is both) -/
 | dK (kvs:List (Key×V)) | dT (kvs:List (List Key×V))
 /-- a set of ints: its members, its size -/
 | set (S:Int->Bool) (n:Nat)
 /-- an instance of the class at C, its dict at dx, its attributes -/
 | ins (C dx:Addr) (fs:List (Str×V))
 /-- the dict of the instance at x -/
 | own (x:Addr)
 /-- the dict of an exception -/
 | xd (fs:List (Str×V))
 /-- a bound method, f of x -/
 | met (f x:Addr)
 /-- a range object lo, lo + 1, .. below hi -/
 | rng (lo hi:Int)
 /-- a thing that is known to the object (the script; a dict while a loop walks it): read, never written while it is so -/
 | frz (o:Obj) (u:HO)
 /-- a code object's table -/
 | tbl (ps:Array Value)
 /-- any other thing, by what is true of its one object (a def of one's own: SetO a S n := HO.ext fun h => ..) -/
 | ext (φ:Heap->Prop)
noncomputable abbrev Hp:=Addr->Option HO
noncomputable def upd (H:Hp) (a:Addr) (o:HO):Hp:=fun b=>if b=a then some o else H b
theorem qJ {H:Hp} {a:Addr} {o:HO}:upd H a o a=some o:=by unfold upd; rw [if_pos rfl]
theorem qN {H:Hp} {a b:Addr} {o:HO} (h:b≠a):upd H a o b=H b:=by unfold upd; rw [if_neg h]
theorem qMb {H:Hp} {a b:Addr} {o u:HO} (h:H a=some o) (h':H b=some u) (d:o≠u):a≠b:=by
 intro e; subst e; rw [h] at h'; exact d (zF h')
theorem jd {H:Hp} {a b:Addr} {o:HO} (h:H a=some o) (h':H b=none):a≠b:=by
 intro e; subst e; rw [h] at h'; cases h'
section
variable (P:Program) (w:World)
noncomputable def jY (H:Hp) (h:Heap) (a:Addr):HO->Prop
 | .lst xs=>xs.length<=sizeLine/\∃(its:List Value) (n:Nat),qt xs its/\h.get? a=some { cls:=.type "list",data:=.seq its.toArray n }
 | .tup xs=>xs.length<=sizeLine/\∃ its:List Value,qt xs its/\IsTup h a its.toArray/\NoD h a
 | .dK kvs=>kvs.length<=sizeLine/\(a == sysModules)=false/\∃ vs,KV kvs vs/\h.DictOf (jV P w) a vs
 | .dT kvs=>kvs.length<=sizeLine/\(a == sysModules)=false/\∃ xs:List (List Key×Addr×Value),
   Paired (fun (p:List Key×V) (q:List Key×Addr×Value)=>p.1=q.1/\H q.2.1=some (.tup (p.1.map kV))/\RelV p.2 q.2.2) kvs xs/\
   ∃ o es ep,h.get? a=some o/\o.ExactDict/\o.data=.dict es ep/\es.toList=xs.map (entryOfKey (tupleKind (jV P w)))/\(xs.map (·.1)).Nodup
 | .set S n=>h.SetOf (intKind P w) a S n
 | .ins C dx fs=>H dx=some (.own a)/\fs.length<=1000/\dx≠a/\h.get? a=some (VJ C dx)/\
   ∃ mA,h.Ns1 dx mA/\(∀ f,qFQ (fs.lookup f) (mA f))/\PySem.Within mA (fs.map (·.1))
 | .own _=>∃ o,h.get? a=some o
 | .xd fs=>∃ mA,h.Ns1 a mA/\∀ f,qFQ (fs.lookup f) (mA f)
 | .rng lo hi=>∃ t u v,h.get? a=some { cls:=.type "range",data:=.fields #[.int lo t,.int hi u,.int 1 v] }
 | .frz o u=>h.get? a=some o/\jY H h a u
 | .tbl ps=>h.get? a=some { cls:=.none,data:=.fields ps }
 | .met f x=>h.get? a=some (WM (.ref f) (.ref x))
 | .ext φ=>φ h/\(∃ o,h.get? a=some o)/\∀ h1 h2:Heap,φ h1->(∀ o,h1.get? a=some o->h2.get? a=some o)->φ h2
noncomputable def HOk (H:Hp) (h:Heap):Prop:=∀ a o,H a=some o->jY P w H h a o
end
section
variable {P:Program} {w:World} {H H':Hp} {h h':Heap} {a:Addr} {o:HO}
theorem jY.lt (x:jY P w H h a o):a<h.objs.size:=by
 cases o with
 | lst xs=>obtain ⟨_,_,_,_,e⟩:=x; exact wY e
 | tup xs=>obtain ⟨_,_,_,p,_⟩:=x; exact p.lt
 | dK kvs=>obtain ⟨_,_,_,_,o,_,_,e,_⟩:=x; exact wY e
 | dT kvs=>obtain ⟨_,_,_,_,o,_,_,e,_⟩:=x; exact wY e
 | set S n=>obtain ⟨o,_,_,_,e,_⟩:=x; exact wY e
 | ins C dx fs=>obtain ⟨_,_,_,e,_⟩:=x; exact wY e
 | own y=>obtain ⟨_,e⟩:=x; exact wY e
 | xd fs=>obtain ⟨_,⟨_,_,_,e,_⟩,_⟩:=x; exact wY e
 | rng lo hi=>obtain ⟨_,_,_,e⟩:=x; exact wY e
 | frz ob u=>obtain ⟨e,_⟩:=x; exact wY e
 | tbl ps=>exact wY (show h.get? a=some _ from x)
 | met f y=>exact wY (show h.get? a=some _ from x)
 | ext φ=>obtain ⟨_,⟨_,e⟩,_⟩:=x; exact wY e
theorem Paired.mapP {α β:Type} {F G:α->β->Prop}:∀{l₁:List α} {l₂:List β},Paired F l₁ l₂->(∀ a b,F a b->G a b)->Paired G l₁ l₂
 | _,_,.nil,_=>.nil
 | _,_,.cons r t,f=>.cons (f _ _ r) (Paired.mapP t f)
theorem jY.stay (x:jY P w H h a o) (k:∀ b u,(b=a\/H b=some (.own a))->h.get? b=some u->h'.get? b=some u)
  (ho:∀ b,H b=some (.own a)->H' b=some (.own a)) (ht:∀ b xs,H b=some (.tup xs)->H' b=some (.tup xs)):jY P w H' h' a o:=by
 induction o with
 | lst xs=>obtain ⟨z,its,n,r,e⟩:=x; exact ⟨z,its,n,r,k _ _ (.inl rfl) e⟩
 | tup xs=>obtain ⟨z,its,r,⟨ob,e,c⟩,nd⟩:=x; exact ⟨z,its,r,⟨ob,k _ _ (.inl rfl) e,c⟩,fun o' e'=>by rw [k _ _ (.inl rfl) e] at e'; cases e'; exact nd _ e⟩
 | dK kvs=>obtain ⟨z,y,vs,r,ob,es,ep,e,c⟩:=x; exact ⟨z,y,vs,r,ob,es,ep,k _ _ (.inl rfl) e,c⟩
 | dT kvs=>
  obtain ⟨z,y,xs,r,ob,es,ep,e,c⟩:=x
  exact ⟨z,y,xs,Paired.mapP r fun p q z=>⟨z.1,ht _ _ z.2.1,z.2.2⟩,ob,es,ep,k _ _ (.inl rfl) e,c⟩
 | set S n=>obtain ⟨ob,es,ep,t,e,c⟩:=x; exact ⟨ob,es,ep,t,k _ _ (.inl rfl) e,c⟩
 | ins C dx fs=>
  obtain ⟨d,z,ne,e,mA,⟨od,es,ep,e2,c⟩,r⟩:=x
  exact ⟨ho _ d,z,ne,k _ _ (.inl rfl) e,mA,⟨od,es,ep,k _ _ (.inr d) e2,c⟩,r⟩
 | own y=>obtain ⟨ob,e⟩:=x; exact ⟨ob,k _ _ (.inl rfl) e⟩
 | xd fs=>obtain ⟨mA,⟨od,es,ep,e,c⟩,r⟩:=x; exact ⟨mA,⟨od,es,ep,k _ _ (.inl rfl) e,c⟩,r⟩
 | rng lo hi=>obtain ⟨t,u,v,e⟩:=x; exact ⟨t,u,v,k _ _ (.inl rfl) e⟩
 | frz ob u ih=>obtain ⟨e,q⟩:=x; exact ⟨k _ _ (.inl rfl) e,ih q⟩
 | tbl ps=>
  have e:h.get? a=some { cls:=.none,data:=.fields ps }:=x
  show h'.get? a=some { cls:=.none,data:=.fields ps }
  exact k a _ (.inl rfl) e
 | met f y=>
  have e:h.get? a=some (WM (.ref f) (.ref y)):=x
  show h'.get? a=some (WM (.ref f) (.ref y))
  exact k a _ (.inl rfl) e
 | ext φ=>obtain ⟨p,⟨o,e⟩,st⟩:=x; exact ⟨st _ _ p fun o q=>k _ _ (.inl rfl) q,⟨o,k _ _ (.inl rfl) e⟩,st⟩
theorem HOk.lt (x:HOk P w H h) (e:H a=some o):a<h.objs.size:=(x a o e).lt
theorem HOk.fresh (x:HOk P w H h) (e:h.objs.size<=a):H a=none:=by
 cases q:H a with
 | none=>rfl
 | some u=>exact absurd (zQ (x.lt q) e) (xR _)
theorem HOk.kept (x:HOk P w H h) (k:∀ b u,h.get? b=some u->h'.get? b=some u):HOk P w H h':=fun a o e=>
 (x a o e).stay (fun b u _ q=>k b u q) (fun _ q=>q) fun _ _ q=>q
theorem HOk.laid (x:HOk P w H h) (k:∀ b u,h.get? b=some u->h'.get? b=some u) (hp:h.objs.size<=a) (new:jY P w (upd H a o) h' a o):HOk P w (upd H a o) h':=fun b u e=>by
 have hn:=x.fresh hp
 by_cases hb:b=a
 ·subst hb; rw [qJ] at e; cases e; exact new
 ·rw [qN hb] at e
  exact (x b u e).stay (fun c v _ q=>k c v q) (fun c q=>by rw [qN (jd q hn)]; exact q) fun c xs q=>by rw [qN (jd q hn)]; exact q
end
noncomputable def Rd (H:Hp) (a:Addr) (u:HO):Prop:=H a=some u\/∃ o,H a=some (.frz o u)
theorem Rd.ok {P:Program} {w:World} {H:Hp} {h:Heap} {a:Addr} {u:HO} (r:Rd H a u) (x:HOk P w H h):jY P w H h a u:=by
 rcases r with r | ⟨o,r⟩
 ·exact x a u r
 ·obtain ⟨_,q⟩:=x a _ r
  exact q
noncomputable def Mut:Option HO->Prop
 | some (.lst _)=>True
 | some (.dK _)=>True
 | some (.dT _)=>True
 | some (.set _ _)=>True
 | some (.ins _ _ _)=>True
 | some (.ext _)=>True
 | _=>False
section
variable {P:Program} {w:World} {H:Hp} {h h':Heap} {x e:Addr} {o':HO}
theorem HOk.write (ok:HOk P w H h) (mu:Mut (H x)) (he:e=x\/H e=some (.own x)) (k:∀ b u,b≠e->h.get? b=some u->h'.get? b=some u) (heo:∃ u,h'.get? e=some u)
  (new:jY P w (upd H x o') h' x o'):HOk P w (upd H x o') h':=fun b u q=>by
 have nown:∀ c y,H c=some (.own y)->c≠x:=fun c y r z=>by subst z; rw [r] at mu; exact mu
 have ntup:∀ c xs,H c=some (.tup xs)->c≠x:=fun c xs r z=>by subst z; rw [r] at mu; exact mu
 by_cases hb:b=x
 ·subst hb; rw [qJ] at q; cases q; exact new
 ·rw [qN hb] at q
  by_cases hbe:b=e
  ·have q':H b=some (.own x):=by
    rcases he with z | z
    ·exact absurd (hbe.trans z) hb
    ·rw [hbe]; exact z
   rw [q] at q'; cases q'
   obtain ⟨v,hv⟩:=heo
   exact ⟨v,by rw [hbe]; exact hv⟩
  ·refine (ok b u q).stay (fun c v hc r=>k c v ?_ r) (fun c r=>by rw [qN (nown c b r)]; exact r) fun c xs r=>by rw [qN (ntup c xs r)]; exact r
   rcases hc with rfl | hc
   ·exact hbe
   ·rintro rfl
    rcases he with z | z
    ·exact nown c b hc z
    ·rw [hc] at z; cases z; exact hb rfl
end
structure Un (fs ex:List Addr) (H H':Hp) (h h':Heap):Prop where
 keep:∀ b o,h.get? b=some o->H b=none->b∉fs->b∉ex->h'.get? b=some o
 slot:∀ b o,h.get? b=some o->H b=none->b∈fs->b∉ex->∃ sl,h'.get? b=some { o with slots:=sl }
 free:∀ b o,h.get? b=some o->H b=none->b∉ex->H' b=none
 there:∀ b o,h.get? b=some o->b∉ex->∃ o',h'.get? b=some o'
 tups:∀ b xs,H b=some (.tup xs)->H' b=some (.tup xs)
 frzs:∀ b o u,H b=some (.frz o u)->H' b=some (.frz o u)
 tbls:∀ b ps,H b=some (.tbl ps)->∃ more,H' b=some (.tbl (ps++more))
section
variable {fs fs' ex ex':List Addr} {H H1 H2:Hp} {h h1 h2 h':Heap} {a x e:Addr} {o:HO}
theorem Un.any (u:Un fs ex H H1 h h1) {b:Addr} {ob:Obj} (q:h.get? b=some ob) (n:H b=none) (hx:b∉ex):∃ sl,h1.get? b=some { ob with slots:=sl }:=by
 by_cases hb:b∈fs
 ·exact u.slot b ob q n hb hx
 ·exact ⟨ob.slots,u.keep b ob q n hb hx⟩
theorem Un.kept (k:∀ b u,h.get? b=some u->h'.get? b=some u):Un fs ex H H h h':=
 ⟨fun b ob q _ _ _=>k b ob q,fun b ob q _ _ _=>⟨ob.slots,k b ob q⟩,fun _ _ _ n _=>n,fun b ob q _=>⟨ob,k b ob q⟩,fun _ _ q=>q,fun _ _ _ q=>q,fun _ ps q=>⟨#[],by rw [q]; simp⟩⟩
theorem Un.refl:Un fs ex H H h h:=Un.kept fun _ _ q=>q
theorem Un.laid (k:∀ b u,h.get? b=some u->h'.get? b=some u) (hp:h.objs.size<=a) (hn:H a=none):Un fs ex H (upd H a o) h h' where
 keep:=fun b u q _ _ _=>k b u q
 slot:=fun b u q _ _ _=>⟨u.slots,k b u q⟩
 free:=fun b u q n _=>by rw [qN (zH (zQ (wY q) hp))]; exact n
 there:=fun b u q _=>⟨u,k b u q⟩
 tups:=fun b xs q=>by rw [qN (jd q hn)]; exact q
 frzs:=fun b u xs q=>by rw [qN (jd q hn)]; exact q
 tbls:=fun b ps q=>⟨#[],by rw [qN (jd q hn),q]; simp⟩
theorem Un.write (mu:Mut (H x)) (he:e=x\/H e=some (.own x)) (k:∀ b u,b≠e->h.get? b=some u->h'.get? b=some u) (heo:∃ u,h'.get? e=some u):Un fs ex H (upd H x o) h h':=by
 have hx:∀ b,H b=none->b≠x:=fun b n z=>by subst z; rw [n] at mu; exact mu
 have hb:∀ b,H b=none->b≠e:=fun b n z=>by
  subst z
  rcases he with r | r
  ·exact hx b n r
  ·rw [n] at r; cases r
 have hm:∀ b u,H b=some u->¬ Mut (some u)->b≠x:=fun b u q nm z=>by subst z; rw [q] at mu; exact nm mu
 refine ⟨fun b u q n _ _=>k b u (hb b n) q,fun b u q n _ _=>⟨u.slots,k b u (hb b n) q⟩,fun b u q n _=>by rw [qN (hx b n)]; exact n,fun b u q _=>?_,
  fun b xs q=>by rw [qN (hm b _ q fun z=>z)]; exact q,fun b u xs q=>by rw [qN (hm b _ q fun z=>z)]; exact q,fun b ps q=>⟨#[],by rw [qN (hm b _ q fun z=>z),q]; simp⟩⟩
 by_cases hbe:b=e
 ·subst hbe; exact heo
 ·exact ⟨u,k b u hbe q⟩
end
noncomputable def trk (h:Heap) (H:Hp):List Addr:=(wO h.objs.size).filter fun a=>(H a).isSome
noncomputable def qHo (h:Heap) (H:Hp):Heap:=PySem.W.hideAll h (trk h H)
theorem qFM (h:Heap) (H:Hp):(qHo h H).objs.size=h.objs.size:=PySem.W.hideAll_size _ _
theorem qHd {h:Heap} {H:Hp} {b:Addr} {o:Obj} (e:h.get? b=some o) (n:H b=none):(qHo h H).get? b=some o:=
 PySem.W.hideAll_get _ e fun hm=>by
  have q:(H b).isSome=true:=(vZ.mp hm).2
  rw [n] at q; simp at q
theorem qJm {h:Heap} {H:Hp} {b:Addr} {o:Obj} (e:(qHo h H).get? b=some o):h.get? b=some o/\H b=none:=by
 have e':h.get? b=some o:=PySem.W.of_hideAll (trk h H) e
 refine ⟨e',?_⟩
 cases q:H b with
 | none=>rfl
 | some x=>
  have hm:b∈trk h H:=vZ.mpr ⟨zM.mpr (wY e'),by simp [q]⟩
  have z:(qHo h H).get? b=none:=PySem.W.hideAll_none (trk h H) hm
  rw [z] at e; cases e
noncomputable def qIu (g h:Heap) (L:Addr):List (Addr×Obj):=(wO h.objs.size).filterMap fun a=>if a=L\/(g.get? a).isSome=true then none else (h.get? a).map fun o=>(a,o)
noncomputable def rest (g h:Heap) (L d:Addr):List (Addr×Obj):=(qIu g h L).filter fun p=>decide (p.1≠d)
structure Mod (K:wG) (mg:Str->Option Value) (base:Heap):Prop where
 kin:K.In base
 glob:base.Ns mainGlobals mg
 blt:∃ mb,base.Ns builtinsNs mb/\∀ x:Str,x≠"__name__"->mb x=bootBuiltins x
 nolimit:base.NoLimit
structure Cx where
 prog:Program
 w:World
 K:wG
 mg:Str->Option Value
 base:Heap
 A:Around
 N:List Str
 s₀:Shared
 H₀:Hp
 env:Env
 outer:List Env
 stack:List Env
 ex:List Addr
 fn:Str->Bool
 calm:Bool
 pn:List (Addr×Obj)
 xe:Value->Shared->Prop
noncomputable def frs (l:List Env):List Addr:=l.filterMap (·.frame)
noncomputable abbrev Cx.fs (X:Cx):List Addr:=frs X.outer
noncomputable def Vis (sc:Scope) (x:Str):Prop:=sc.names.lookup x=some .local\/sc.names.lookup x=some .cell\/sc.names.lookup x=some .free
noncomputable def Loc (sc:Scope) (x:Str):Prop:=sc.names.lookup x=some .local\/sc.names.lookup x=some .cell
noncomputable def Look (env:Env) (h:Heap) (m:Str->Option Value) (x:Str) (u:Value):Prop:=
 (env.kindOf x=some .local/\m x=some u)\/((env.kindOf x=some .cell\/env.kindOf x=some .free)/\∃ c,env.cells.lookup x=some c/\h.IsCell c (some u))
structure Cx.Ok (X:Cx):Prop where
 mod:Mod X.K X.mg X.base
 kind:X.env.scope.kind=.function
 glob:X.env.globals=mainGlobals
 blt:X.env.builtins=builtinsNs
 above:X.s₀.heap.objs.size<=X.env.locals
 inj:∀ x y c,X.env.cells.lookup x=some c->X.env.cells.lookup y=some c->x=y
 has:∀ x,(X.env.kindOf x=some .cell\/X.env.kindOf x=some .free)->∃ c,X.env.cells.lookup x=some c
 cab:∀ x c,X.fn x=true->X.env.cells.lookup x=some c->X.s₀.heap.objs.size<=c
 hd:X.calm=true->X.A.handled=none
 frames:X.A.frames=some X.stack
 stk:X.stack=X.outer\/(X.stack=X.env::X.outer/\X.env.frame=some X.env.locals)
 exf:∀ b∈X.ex,b≠X.env.locals/\∀ x c,X.env.cells.lookup x=some c->c≠b
 bs:∀ b o,X.base.get? b=some o->X.s₀.heap.get? b=some o/\X.H₀ b=none
 bsz:X.base.objs.size<=X.s₀.heap.objs.size
 noex:∀ b o,X.base.get? b=some o->b∉X.ex
 exfs:∀ b∈X.ex,b∉X.fs
 funs:X.s₀.heap.FunFrames X.base X.outer
 frf:∀ b∈X.fs,X.H₀ b=none
structure Inv (X:Cx) (pins:List (Addr×Obj)) (σ:List (Option V)) (H:Hp) (s:Shared):Prop where
 ok:X.Ok
 os:s.os=X.s₀.os
 bare:AllBare s.gens
 base:Un X.fs X.ex X.H₀ H X.s₀.heap s.heap
 loc:∃ m,s.heap.Ns X.env.locals m/\∀(i:Nat) (x:Str) (v:V),X.N[i]? = some x->σ[i]? = some (some v)->Vis X.env.scope x->∃ u,RelV v u/\Look X.env s.heap m x u
 cell:∀ x c,X.env.cells.lookup x=some c->∃ v,s.heap.IsCell c v
 free:H X.env.locals=none
 freeC:∀ x c,X.env.cells.lookup x=some c->H c=none
 pin:∀ p∈X.pn++pins,s.heap.get? p.1=some p.2/\H p.1=none/\p.1≠X.env.locals/\p.1∉X.fs/\∀ v,p.2.data≠.cell v
 hok:HOk X.prog X.w H s.heap
 len:σ.length=X.N.length
section
variable {X:Cx} {pins:List (Addr×Obj)} {σ:List (Option V)} {H H':Hp} {s:Shared} {h':Heap}
theorem Cx.Ok.nofr (ok:X.Ok) {b:Addr} {o:Obj} (e:X.base.get? b=some o):b∉X.fs:=fun hb=>by
 have:=(ok.funs.mem hb).1
 rw [e] at this; cases this
theorem Inv.bs (I:Inv X pins σ H s):∀ b o,X.base.get? b=some o->s.heap.get? b=some o/\H b=none:=fun b o e=>
 ⟨I.base.keep b o (I.ok.bs b o e).1 (I.ok.bs b o e).2 (I.ok.nofr e) (I.ok.noex b o e),I.base.free b o (I.ok.bs b o e).1 (I.ok.bs b o e).2 (I.ok.noex b o e)⟩
theorem Inv.bk (I:Inv X pins σ H s):∀ b o,X.base.get? b=some o->s.heap.get? b=some o:=fun b o e=>(I.bs b o e).1
theorem Inv.mod (I:Inv X pins σ H s):Mod X.K X.mg X.base:=I.ok.mod
theorem Inv.kIn (I:Inv X pins σ H s):X.K.In s.heap:=I.ok.mod.kin.keeps I.bk
theorem Inv.lt (I:Inv X pins σ H s):X.env.locals<s.heap.objs.size:=let ⟨_,hn,_⟩:=I.loc; hn.lt
theorem Inv.sz (I:Inv X pins σ H s):X.s₀.heap.objs.size<=s.heap.objs.size:=zC I.ok.above (vQ I.lt)
theorem Inv.nofs (I:Inv X pins σ H s) {a:Addr} (h:s.heap.objs.size<=a):a∉X.fs:=fun hb=>by
 obtain ⟨_,o,ho,_⟩:=I.ok.funs.mem hb
 exact absurd (zQ (wY ho) (zC I.sz h)) (xR _)
theorem Inv.cne (I:Inv X pins σ H s):∀ x c,X.env.cells.lookup x=some c->c≠X.env.locals:=fun x c e z=>by
 obtain ⟨v,o,ho,hd⟩:=I.cell x c e
 obtain ⟨m,⟨o',es,ep,ho',hd',_⟩,_⟩:=I.loc
 rw [z,ho'] at ho; cases ho; rw [hd'] at hd; cases hd
theorem Inv.funs (I:Inv X pins σ H s):s.heap.FunFrames X.base X.outer:=by
 have all:∀(l:List Env),(∀ b∈frs l,b∈X.fs)->X.s₀.heap.FunFrames X.base l->s.heap.FunFrames X.base l:=by
  intro l
  induction l with
  | nil=>intro _ _; trivial
  | cons env r ih=>
   intro hs hl
   obtain ⟨hk,⟨L,o,hf,hn,ho,hd⟩,hr⟩:=hl
   have hL:L∈X.fs:=hs L (by unfold frs; rw [uU,hf]; exact wN)
   obtain ⟨sl,e⟩:=I.base.slot L o ho (I.ok.frf L hL) hL fun z=>I.ok.exfs L z hL
   exact ⟨hk,⟨L,_,hf,hn,e,hd⟩,ih (fun b hb=>hs b (by unfold frs; rw [uU,hf]; exact wQ _ hb)) hr⟩
 exact all X.outer (fun _ hb=>hb) I.ok.funs
theorem Inv.stack (I:Inv X pins σ H s):s.heap.FunFrames X.base X.stack:=by
 rcases I.ok.stk with e | ⟨e,hf⟩
 ·rw [e]; exact I.funs
 ·rw [e]
  obtain ⟨m,hn,_⟩:=I.loc
  refine .cons (by rw [I.ok.kind]; decide) hf hn ?_ I.funs
  exact Heap.get?_none_of_le (zC I.ok.bsz I.ok.above)
theorem Inv.stkSub (I:Inv X pins σ H s):∀ b∈frs X.stack,b∈X.env.locals::X.fs:=fun b hb=>by
 rcases I.ok.stk with e | ⟨e,hf⟩
 ·rw [e] at hb; exact wQ _ hb
 ·rw [e] at hb
  unfold frs at hb
  rw [uU,hf] at hb
  exact hb
theorem Inv.stkFree (I:Inv X pins σ H s):∀ b∈frs X.stack,H b=none:=fun b hb=>by
 rcases wZ.mp (I.stkSub b hb) with e | hb
 ·rw [e]; exact I.free
 ·obtain ⟨_,o,ho,_⟩:=I.ok.funs.mem hb
  exact I.base.free b o ho (I.ok.frf b hb) fun z=>I.ok.exfs b z hb
theorem Inv.step {g':Array GenState} {t':Nat} {d':Drawn} {ch:List Addr} (I:Inv X pins σ H s)
  (hch:∀ b∈ch,(b∈X.ex\/X.s₀.heap.objs.size<=b)/\b≠X.env.locals/\(∀ x c,X.env.cells.lookup x=some c->c≠b)/\∀ p∈X.pn++pins,p.1≠b)
  (keep:∀ b o,b≠X.env.locals->b∉X.fs->b∉ch->s.heap.get? b=some o->H b=none->h'.get? b=some o)
  (slot:∀ b o,b≠X.env.locals->b∈X.fs->b∉ch->s.heap.get? b=some o->H b=none->∃ sl,h'.get? b=some { o with slots:=sl }) (free:∀ b o,b∉ch->s.heap.get? b=some o->H b=none->H' b=none)
  (there:∀ b o,b∉ch->s.heap.get? b=some o->∃ o',h'.get? b=some o')
  (tups:∀ b xs,H b=some (.tup xs)->H' b=some (.tup xs)) (frzs:∀ b o u,H b=some (.frz o u)->H' b=some (.frz o u)) (tbls:∀ b ps,H b=some (.tbl ps)->∃ more,H' b=some (.tbl (ps++more)))
  (ns:∀ m,s.heap.Ns X.env.locals m->h'.Ns X.env.locals m) (hok:HOk X.prog X.w H' h') (hg:AllBare g') :
  Inv X pins σ H' { s with heap:=h',gens:=g',drawn:=d',toks:=t' }:=by
 have neL:∀ b o,X.s₀.heap.get? b=some o->b≠X.env.locals:=fun b o e=>zH (zQ (wY e) I.ok.above)
 have neC:∀ b o,X.s₀.heap.get? b=some o->b∉X.ex->b∉ch:=fun b o e hx hb=>by
  rcases (hch b hb).1 with z | z
  ·exact hx z
  ·exact absurd (zQ (wY e) z) (xR _)
 have cellK:∀ x c,X.env.cells.lookup x=some c->∀ v,s.heap.IsCell c v->h'.IsCell c v:=fun x c e v ⟨o,ho,hd⟩=>by
  have nch:c∉ch:=fun z=>(hch c z).2.2.1 x c e rfl
  by_cases hc:c∈X.fs
  ·obtain ⟨sl,q⟩:=slot c o (I.cne x c e) hc nch ho (I.freeC x c e)
   exact ⟨_,q,hd⟩
  ·exact ⟨o,keep c o (I.cne x c e) hc nch ho (I.freeC x c e),hd⟩
 refine ⟨I.ok,I.os,hg,⟨fun b o e n hb hx=>?_,fun b o e n hb hx=>?_,fun b o e n hx=>?_,fun b o e hx=>?_,fun b xs e=>tups b xs (I.base.tups b xs e),fun b o xs e=>frzs b o xs (I.base.frzs b o xs e),fun b ps e=>?_⟩,?_,fun x c e=>?_,?_,fun x c e=>?_,fun p hp=>?_,hok,I.len⟩
 ·exact keep b o (neL b o e) hb (neC b o e hx) (I.base.keep b o e n hb hx) (I.base.free b o e n hx)
 ·obtain ⟨sl,e1⟩:=I.base.slot b o e n hb hx
  obtain ⟨sl',e2⟩:=slot b _ (neL b o e) hb (neC b o e hx) e1 (I.base.free b o e n hx)
  exact ⟨sl',e2⟩
 ·obtain ⟨o',e1⟩:=I.base.there b o e hx
  exact free b o' (neC b o e hx) e1 (I.base.free b o e n hx)
 ·obtain ⟨o',e1⟩:=I.base.there b o e hx
  exact there b o' (neC b o e hx) e1
 ·obtain ⟨m1,e1⟩:=I.base.tbls b ps e
  obtain ⟨m2,e2⟩:=tbls b _ e1
  exact ⟨m1++m2,by rw [e2,Array.append_assoc]⟩
 ·obtain ⟨m,hn,hl⟩:=I.loc
  refine ⟨m,ns m hn,fun i x v e1 e2 e3=>?_⟩
  obtain ⟨u,r,l⟩:=hl i x v e1 e2 e3
  refine ⟨u,r,?_⟩
  rcases l with l | ⟨k,c,e,z⟩
  ·exact .inl l
  ·exact .inr ⟨k,c,e,cellK x c e _ z⟩
 ·obtain ⟨v,z⟩:=I.cell x c e
  exact ⟨v,cellK x c e v z⟩
 ·obtain ⟨m,⟨o,_,_,ho,_⟩,_⟩:=I.loc
  exact free _ o (fun z=>(hch _ z).2.1 rfl) ho I.free
 ·obtain ⟨v,o,ho,hd⟩:=I.cell x c e
  exact free c o (fun z=>(hch c z).2.2.1 x c e rfl) ho (I.freeC x c e)
 ·obtain ⟨e,n,ne,nf,d⟩:=I.pin p hp
  have nch:p.1∉ch:=fun z=>(hch p.1 z).2.2.2 p hp rfl
  exact ⟨keep p.1 p.2 ne nf nch e n,free p.1 p.2 nch e n,ne,nf,d⟩
theorem Inv.un {t':Nat} (I:Inv X pins σ H s) (u:Un X.fs [] H H' s.heap h') (hok:HOk X.prog X.w H' h'):Inv X pins σ H' { s with heap:=h',toks:=t' }:=by
 obtain ⟨m,⟨o,es,ep,ho,r⟩,_⟩:=id I.loc
 obtain ⟨sl,hL⟩:=u.any ho I.free (by simp)
 exact I.step (g':=s.gens) (d':=s.drawn) (ch:=[]) (fun _ z=>nomatch z) (fun b o _ hb _ e n=>u.keep b o e n hb (by simp)) (fun b o _ hb _ e n=>u.slot b o e n hb (by simp)) (fun b o _ e n=>u.free b o e n (by simp)) (fun b o _ e=>u.there b o e (by simp)) u.tups u.frzs u.tbls (fun m' hm=>by
  obtain ⟨o',es',ep',ho',r'⟩:=hm
  rw [ho] at ho'; cases ho'
  exact ⟨_,es',ep',hL,r'⟩) hok I.bare
theorem Inv.call {g':Array GenState} {t':Nat} {d':Drawn} {ch:List Addr} (I:Inv X pins σ H s) (u:Un (frs X.stack) ch H H' s.heap h') (hok:HOk X.prog X.w H' h') (hg:AllBare g')
  (hch:∀ b∈ch,(b∈X.ex\/X.s₀.heap.objs.size<=b)/\b≠X.env.locals/\(∀ x c,X.env.cells.lookup x=some c->c≠b)/\∀ p∈X.pn++pins,p.1≠b) :
  Inv X pins σ H' { s with heap:=h',gens:=g',drawn:=d',toks:=t' }:=by
 obtain ⟨m,⟨o,es,ep,ho,r⟩,_⟩:=id I.loc
 obtain ⟨sl,hL⟩:=u.any ho I.free fun z=>(hch _ z).2.1 rfl
 exact I.step (ch:=ch) hch (fun b o hL hb hc e n=>u.keep b o e n (fun z=>(wZ.mp (I.stkSub b z)).elim hL hb) hc) (fun b o _ _ hc e n=>u.any e n hc) (fun b o hc e n=>u.free b o e n hc) (fun b o hc e=>u.there b o e hc) u.tups u.frzs u.tbls (fun m' hm=>by
  obtain ⟨o',es',ep',ho',r'⟩:=hm
  rw [ho] at ho'; cases ho'
  exact ⟨_,es',ep',hL,r'⟩) hok hg
theorem Inv.turned {t':Nat} {it:Addr} (I:Inv X pins σ H s) (k:∀ b o,b≠it->s.heap.get? b=some o->h'.get? b=some o) (hn:H it=none) (hL:it≠X.env.locals)
  (h1:it∈X.ex\/X.s₀.heap.objs.size<=it) (h2:∀ x c,X.env.cells.lookup x=some c->c≠it) (h3:∀ p∈X.pn++pins,p.1≠it):Inv X pins σ H { s with heap:=h',toks:=t' }:=by
 have nit:∀ b u,H b=some u->b≠it:=fun b u e z=>by rw [z,hn] at e; cases e
 refine I.step (g':=s.gens) (d':=s.drawn) (ch:=[it]) (fun b hb=>?_) (fun b o _ _ hc e _=>k b o (fun z=>hc (by simp [z])) e) (fun b o _ _ hc e _=>⟨o.slots,k b o (fun z=>hc (by simp [z])) e⟩) (fun _ _ _ _ n=>n)
  (fun b o hc e=>⟨o,k b o (fun z=>hc (by simp [z])) e⟩) (fun _ _ e=>e) (fun _ _ _ e=>e) (fun b ps e=>⟨#[],by rw [e]; simp⟩) (fun m hm=>?_) (fun b u e=>?_) I.bare
 ·have e:b=it:=by simpa using hb
  subst e
  exact ⟨h1,hL,h2,h3⟩
 ·obtain ⟨o,es,ep,ho,r⟩:=hm
  exact ⟨o,es,ep,k _ o (gX hL) ho,r⟩
 ·refine (I.hok b u e).stay (fun c v hc q=>k c v ?_ q) (fun _ q=>q) fun _ _ q=>q
  rcases hc with z | z
  ·rw [z]; exact nit b u e
  ·exact nit c _ z
theorem Inv.tok (I:Inv X pins σ H s) (t:Nat):Inv X pins σ H { s with toks:=t }:=I.un (h':=s.heap) (t':=t) Un.refl I.hok
theorem Inv.kept {t':Nat} (I:Inv X pins σ H s) (k:∀ b u,s.heap.get? b=some u->h'.get? b=some u):Inv X pins σ H { s with heap:=h',toks:=t' }:=I.un (Un.kept k) (I.hok.kept k)
theorem Inv.laid {a:Addr} {o:HO} {t':Nat} (I:Inv X pins σ H s) (k:∀ b u,s.heap.get? b=some u->h'.get? b=some u) (hp:s.heap.objs.size<=a) (new:jY X.prog X.w (upd H a o) h' a o) :
  Inv X pins σ (upd H a o) { s with heap:=h',toks:=t' }:=I.un (Un.laid k hp (I.hok.fresh hp)) (I.hok.laid k hp new)
theorem Inv.write {x e:Addr} {o:HO} {t':Nat} (I:Inv X pins σ H s) (mu:Mut (H x)) (he:e=x\/H e=some (.own x)) (k:∀ b u,b≠e->s.heap.get? b=some u->h'.get? b=some u) (heo:∃ u,h'.get? e=some u)
  (new:jY X.prog X.w (upd H x o) h' x o):Inv X pins σ (upd H x o) { s with heap:=h',toks:=t' }:=I.un (Un.write mu he k heo) (I.hok.write mu he k heo new)
theorem Inv.pins_of {pins':List (Addr×Obj)} (I:Inv X pins σ H s) (h:∀ p∈pins',s.heap.get? p.1=some p.2/\H p.1=none/\p.1≠X.env.locals/\p.1∉X.fs/\∀ v,p.2.data≠.cell v):Inv X pins' σ H s:=
 ⟨I.ok,I.os,I.bare,I.base,I.loc,I.cell,I.free,I.freeC,fun p hp=>(zK.mp hp).elim (fun z=>I.pin p (kJ _ z)) (h p),I.hok,I.len⟩
theorem qDP {N:List Str} (hN:N.Nodup) {i j:Nat} {x:Str} (a:N[i]? = some x) (b:N[j]? = some x):i=j:=by
 obtain ⟨h1,e1⟩:=wL.mp a
 obtain ⟨h2,e2⟩:=wL.mp b
 exact (WY hN).mp (e1.trans e2.symm)
theorem qBH {M:Model} {A:Around} {E:Value->Shared->Prop} {i:Nat} {x:Str} {v:V} {u:Value} {Q:Unit->Shared->Prop} (I:Inv X pins σ H s) (hN:X.N.Nodup) (hi:X.N[i]? = some x) (hx:Loc X.env.scope x) (r:RelV v u)
  (h:∀ s',Inv X pins (σ.set i (some v)) H s'->(∃ a,kN a s.heap s'.heap/\(a=X.env.locals\/X.env.cells.lookup x=some a))->Q () s') (hf:X.fn x=true\/X.env.scope.names.lookup x=some .local:=by first | exact .inl rfl | exact .inr rfl | assumption):wpAny M A (storeName X.env x u) Q E s:=by
 obtain ⟨m,hn,hl⟩:=id I.loc
 have hcls:(X.env.scope.kind == .class || (X.env.scope.kind == .module && X.env.locals != X.env.globals))=false:=by rw [I.ok.kind]; rfl
 have hiσ:i<σ.length:=by rw [I.len]; exact (wL.mp hi).1
 have cne:=I.cne
 have tracked:∀{a:Addr} {h':Heap},(∃ o,s.heap.get? a=some o/\H a=none)->kN a s.heap h'->HOk X.prog X.w H h':=fun {a h'} ha hs b ob e=>by
  obtain ⟨_,_,hfree⟩:=ha
  refine (I.hok b ob e).stay (fun c w' hc q=>(hs.2 c ?_).trans q) (fun _ q=>q) fun _ _ q=>q
  rintro rfl
  rcases hc with rfl | hc
  ·rw [hfree] at e; cases e
  ·rw [hfree] at hc; cases hc
 rcases hx with hk | hk
 ·refine wpAny_storeName_local hk hn (fun h' hn' hs=>?_) hcls
  obtain ⟨oL,_,_,hoL,_⟩:=id hn
  refine h _ ⟨I.ok,I.os,I.bare,⟨fun b o e n hb hx=>?_,fun b o e n hb hx=>?_,I.base.free,fun b o e hx=>?_,I.base.tups,I.base.frzs,I.base.tbls⟩,⟨_,hn',fun j y v' e1 e2 e3=>?_⟩,fun y c e=>?_,I.free,I.freeC,fun p hp=>?_,tracked ⟨oL,hoL,I.free⟩ hs,by simpa using I.len⟩ ⟨_,hs,.inl rfl⟩
  ·exact (hs.2 b (zH (zQ (wY e) I.ok.above))).trans (I.base.keep b o e n hb hx)
  ·obtain ⟨sl,e1⟩:=I.base.slot b o e n hb hx
   exact ⟨sl,(hs.2 b (zH (zQ (wY e) I.ok.above))).trans e1⟩
  ·obtain ⟨o',e1⟩:=I.base.there b o e hx
   exact ⟨o',(hs.2 b (zH (zQ (wY e) I.ok.above))).trans e1⟩
  ·by_cases hj:j=i
   ·subst hj
    rw [hi] at e1; cases e1
    rw [List.getElem?_set_self hiσ] at e2
    cases e2
    exact ⟨u,r,.inl ⟨hk,by simp⟩⟩
   ·rw [List.getElem?_set_ne (gX hj)] at e2
    obtain ⟨u',r',q⟩:=hl j y v' e1 e2 e3
    refine ⟨u',r',?_⟩
    rcases q with ⟨k,e⟩ | ⟨k,c,e,z⟩
    ·refine .inl ⟨k,?_⟩
     have:y≠x:=fun e=>hj (qDP hN e1 (e ▸ hi))
     simp [this,e]
    ·exact .inr ⟨k,c,e,z.sameBut hs (cne y c e)⟩
  ·obtain ⟨w',z⟩:=I.cell y c e
   exact ⟨w',z.sameBut hs (cne y c e)⟩
  ·obtain ⟨e,n,ne,nf,d⟩:=I.pin p hp
   exact ⟨(hs.2 p.1 ne).trans e,n,ne,nf,d⟩
 ·have hfn:X.fn x=true:=by
   rcases hf with z | z
   ·exact z
   ·rw [z] at hk; cases hk
  obtain ⟨c,hc⟩:=I.ok.has x (.inl hk)
  obtain ⟨w',z⟩:=I.cell x c hc
  refine wpAny_storeName_cell I.ok.kind hk hc z (fun h' hc' hs=>?_)
  obtain ⟨oc,hoc,hocd⟩:=id z
  refine h { s with heap:=h' } ⟨I.ok,I.os,I.bare,⟨fun b o e n hb hx=>?_,fun b o e n hb hx=>?_,I.base.free,fun b o e hx=>?_,I.base.tups,I.base.frzs,I.base.tbls⟩,⟨m,hn.sameBut hs (gX (cne x c hc)),fun j y v' e1 e2 e3=>?_⟩,fun y c' e=>?_,I.free,I.freeC,fun p hp=>?_,tracked ⟨oc,hoc,I.freeC x c hc⟩ hs,by simpa using I.len⟩ ⟨c,hs,.inr hc⟩
  ·exact (hs.2 b (zH (zQ (wY e) (I.ok.cab x c hfn hc)))).trans (I.base.keep b o e n hb hx)
  ·obtain ⟨sl,e1⟩:=I.base.slot b o e n hb hx
   exact ⟨sl,(hs.2 b (zH (zQ (wY e) (I.ok.cab x c hfn hc)))).trans e1⟩
  ·obtain ⟨o',e1⟩:=I.base.there b o e hx
   exact ⟨o',(hs.2 b (zH (zQ (wY e) (I.ok.cab x c hfn hc)))).trans e1⟩
  ·by_cases hj:j=i
   ·subst hj
    rw [hi] at e1; cases e1
    rw [List.getElem?_set_self hiσ] at e2
    cases e2
    exact ⟨u,r,.inr ⟨.inl hk,c,hc,hc'⟩⟩
   ·rw [List.getElem?_set_ne (gX hj)] at e2
    obtain ⟨u',r',q⟩:=hl j y v' e1 e2 e3
    refine ⟨u',r',?_⟩
    rcases q with q | ⟨k,c',e,z'⟩
    ·exact .inl q
    ·refine .inr ⟨k,c',e,z'.sameBut hs ?_⟩
     rintro rfl
     exact hj (qDP hN e1 (I.ok.inj _ _ _ e hc ▸ hi))
  ·by_cases hcc:c'=c
   ·subst hcc; exact ⟨_,hc'⟩
   ·obtain ⟨w2,z2⟩:=I.cell y c' e
    exact ⟨w2,z2.sameBut hs hcc⟩
  ·obtain ⟨e,n,ne,nf,d⟩:=I.pin p hp
   refine ⟨(hs.2 p.1 ?_).trans e,n,ne,nf,d⟩
   intro q
   rw [q,hoc] at e
   have q':oc=p.2:=zF e
   exact d w' (by rw [<- q']; exact hocd)
theorem qAm {M:Model} {A:Around} {E:Value->Shared->Prop} {i:Nat} {x:Str} {v:V} {u:Value} {Q:Unit->Shared->Prop} (I:Inv X pins σ H s) (hN:X.N.Nodup) (hi:X.N[i]? = some x) (hx:Loc X.env.scope x) (r:RelV v u)
  (h:∀ s',Inv X pins (σ.set i (some v)) H s'->Q () s') (hf:X.fn x=true\/X.env.scope.names.lookup x=some .local:=by first | exact .inl rfl | exact .inr rfl | assumption):wpAny M A (storeName X.env x u) Q E s:=
 qBH I hN hi hx r (fun s' I' _=>h s' I') hf
theorem Inv.call' {s':Shared} {ch:List Addr} (I:Inv X pins σ H s) (ho:s'.os=s.os) (u:Un (frs X.stack) ch H H' s.heap s'.heap) (hok:HOk X.prog X.w H' s'.heap) (hg:AllBare s'.gens)
  (hch:∀ b∈ch,(b∈X.ex\/X.s₀.heap.objs.size<=b)/\b≠X.env.locals/\(∀ x c,X.env.cells.lookup x=some c->c≠b)/\∀ p∈X.pn++pins,p.1≠b):Inv X pins σ H' s':=by
 obtain ⟨h',g',d',t',o'⟩:=s'
 have e:o'=s.os:=ho
 subst e
 exact I.call (g':=g') (t':=t') (d':=d') u hok hg hch
end
noncomputable abbrev XK:=Value->Option Addr->Hp->Prop
noncomputable abbrev St:=List (Option V)
noncomputable abbrev VK:=V->Hp->Prop
noncomputable abbrev TE:=St->Hp->VK->Prop
noncomputable abbrev TT:=St->Hp->(Bool->Hp->Prop)->Prop
noncomputable abbrev TA:=St->Hp->(List V->Hp->Prop)->Prop
structure Ends where
 nx:St->Hp->Prop
 rt:VK
 bk:St->Hp->Prop:=fun _ _=>False
 ct:St->Hp->Prop:=fun _ _=>False
noncomputable abbrev TS:=Ends->St->Hp->Prop
noncomputable def EP (X:Cx) (pins:List (Addr×Obj)) (σ:St) (Q:VK) (u:Value) (s':Shared):Prop:=∃ v H',Inv X pins σ H' s'/\RelV v u/\Q v H'
noncomputable def TP (X:Cx) (pins:List (Addr×Obj)) (σ:St) (Q:Bool->Hp->Prop) (b:Bool) (s':Shared):Prop:=∃ H',Inv X pins σ H' s'/\Q b H'
noncomputable def AP (X:Cx) (pins:List (Addr×Obj)) (σ:St) (Q:List V->Hp->Prop) (us:List Value) (s':Shared):Prop:=∃ vs H',Inv X pins σ H' s'/\qt vs us/\Q vs H'
noncomputable def SP (X:Cx) (pins:List (Addr×Obj)) (D:Ends) (f:Flow) (s':Shared):Prop:=
 match f with
 | .next=>∃ σ' H',Inv X pins σ' H' s'/\D.nx σ' H'
 | .brk=>∃ σ' H',Inv X pins σ' H' s'/\D.bk σ' H'
 | .cont=>∃ σ' H',Inv X pins σ' H' s'/\D.ct σ' H'
 | .ret u=>∃ v σ' H',Inv X pins σ' H' s'/\RelV v u/\D.rt v H'
noncomputable def PE (X:Cx) (e:Expr) (t:TE):Prop:=
 ∀(pins:List (Addr×Obj)) (s:Shared) (σ:St) (H:Hp) (Q:VK),Inv X pins σ H s->t σ H Q->wpAny (model X.prog X.w) X.A (eval e X.env) (EP X pins σ Q) X.xe s
noncomputable def PT (X:Cx) (e:Expr) (t:TT):Prop:=
 ∀(pins:List (Addr×Obj)) (s:Shared) (σ:St) (H:Hp) (Q:Bool->Hp->Prop),Inv X pins σ H s->t σ H Q->wpAny (model X.prog X.w) X.A (isTrue e X.env (eval e X.env)) (TP X pins σ Q) X.xe s
noncomputable def PW (X:Cx) (e:Expr) (t:TT):Prop:=
 ∀(whole:Sem Value) (pins:List (Addr×Obj)) (s:Shared) (σ:St) (H:Hp) (Q:Bool->Hp->Prop),Inv X pins σ H s->t σ H Q->wpAny (model X.prog X.w) X.A (isTrue e X.env whole) (TP X pins σ Q) X.xe s
theorem PW.pt {X:Cx} {e:Expr} {t:TT} (h:PW X e t):PT X e t:=h _
noncomputable def PA (X:Cx) (es:List Expr) (t:TA):Prop:=
 ∀(pos:Pos) (pins:List (Addr×Obj)) (s:Shared) (σ:St) (H:Hp) (Q:List V->Hp->Prop),Inv X pins σ H s->t σ H Q->wpAny (model X.prog X.w) X.A (spliced (backTo pos (starEach es X.env))) (AP X pins σ Q) X.xe s
noncomputable def PS (X:Cx) (st:Stmt) (t:TS):Prop:=
 ∀(pins:List (Addr×Obj)) (s:Shared) (σ:St) (H:Hp) (D:Ends),Inv X pins σ H s->t D σ H->wpAny (model X.prog X.w) X.A (exec st X.env) (SP X pins D) X.xe s
noncomputable def PSs (X:Cx) (st:List Stmt) (t:TS):Prop:=
 ∀(pins:List (Addr×Obj)) (s:Shared) (σ:St) (H:Hp) (D:Ends),Inv X pins σ H s->t D σ H->wpAny (model X.prog X.w) X.A (execs st X.env) (SP X pins D) X.xe s
theorem thn {α:Type} {t:Sem α} {Q Q':α->Shared->Prop} {M:Model} {A:Around} {E:Value->Shared->Prop} {s:Shared} (h:wpAny M A t Q E s) (hQ:∀ a s,Q a s->Q' a s):wpAny M A t Q' E s:=xW h hQ fun _ _ x=>x
section
variable {X:Cx}
theorem bin {a b:Expr} {ta tb:TE} (ha:PE X a ta) (hb:PE X b tb) {pins:List (Addr×Obj)} {s:Shared} {σ:St} {H:Hp} {R:V->V->Hp->Prop} (I:Inv X pins σ H s) (h:ta σ H fun x H1=>tb σ H1 fun y H2=>R x y H2)
  {α:Type} {Q:α->Shared->Prop} {f:Value->Value->Sem α}
  (hf:∀ v u s2 x y H2,Inv X pins σ H2 s2->RelV x v->RelV y u->R x y H2->wpAny (model X.prog X.w) X.A (f v u) Q X.xe s2) :
  wpAny (model X.prog X.w) X.A (eval a X.env) (fun v s₁=>wpAny (model X.prog X.w) X.A (eval b X.env) (fun u s₂=>wpAny (model X.prog X.w) X.A (f v u) Q X.xe s₂) X.xe s₁) X.xe s:=by
 refine thn (ha pins s σ H _ I h) fun v s1 ⟨x,H1,I1,r1,q1⟩=>?_
 refine thn (hb pins s1 σ H1 _ I1 q1) fun u s2 ⟨y,H2,I2,r2,q2⟩=>?_
 exact hf v u s2 x y H2 I2 r1 r2 q2
noncomputable def qHn (i:Nat):TE:=fun σ H Q=>∃ v,σ[i]? = some (some v)/\Q v H
noncomputable def tC (v:V):TE:=fun _ H Q=>Q v H
theorem qLE {i:Nat} {x:Str} {pos:Pos} (hN:X.N[i]? = some x) (hv:Vis X.env.scope x) (hd:(x == ("__debug__" : Str))=false:=by decide) (hcd:(x == ("__classdict__" : Str))=false:=by decide):PE X (.Name x pos) (qHn i):=by
 intro pins s σ H Q I h
 obtain ⟨v,e,h⟩:=h
 obtain ⟨m,hn,hl⟩:=I.loc
 obtain ⟨u,r,l⟩:=hl i x v hN e hv
 have fin:EP X pins σ Q u s:=⟨v,H,I,r,h⟩
 rcases l with ⟨hk,hm⟩ | ⟨hk,c,hc,hcell⟩
 ·exact wpAny_Name (wpAny_loadName_local I.ok.kind hk hn hm fin) hd
 ·rcases hk with hk | hk
  ·exact wpAny_Name (wpAny_loadName_cell I.ok.kind hk hc hcell fin) hd
  ·exact wpAny_Name (wpAny_loadName_free I.ok.kind hk hc hcell fin hcd) hd
theorem qC {i j pos}:PE X (.Constant (.int i) j pos) (tC (.int i)):=fun _ _ _ H _ I h=>wpAny_Constant_int ⟨.int i,H,I.tok _,⟨_,rfl⟩,h⟩
theorem JA {b j pos}:PE X (.Constant (.bool b) j pos) (tC (.bl b)):=fun _ _ _ H _ I h=>Constant_bool ⟨.bl b,H,I,rfl,h⟩
theorem JD {x j pos}:PE X (.Constant (.str x) j pos) (tC (.str x)):=fun _ _ _ H _ I h=>Calls.Constant_str ⟨.str x,H,I.tok _,⟨_,rfl⟩,h⟩
noncomputable def Gl (X:Cx) (x:Str):Prop:=X.env.kindOf x=some .globalImplicit
theorem qI4 {E:Value->Shared->Prop} {pins:List (Addr×Obj)} {s:Shared} {σ:St} {H:Hp} {x:Str} {u:Value} {pos:Pos} {Q:Value->Shared->Prop} (I:Inv X pins σ H s) (hg:Gl X x) (hm:X.mg x=some u) (h:Q u s)
  (hd:(x == ("__debug__" : Str))=false:=by decide):wpAny (model X.prog X.w) X.A (eval (.Name x pos) X.env) Q E s:=
 VW I.ok.kind hg (Calls.loadGlobal_global (by rw [I.ok.glob]; exact I.mod.glob.keeps I.bk) hm h) hd
theorem JT {E:Value->Shared->Prop} {pins:List (Addr×Obj)} {s:Shared} {σ:St} {H:Hp} {x:Str} {u:Value} {pos:Pos} {Q:Value->Shared->Prop} (I:Inv X pins σ H s) (hg:Gl X x) (hm:X.mg x=none) (hv:bootBuiltins x=some u) (h:Q u s)
  (hn:x≠"__name__":=by decide) (hd:(x == ("__debug__" : Str))=false:=by decide):wpAny (model X.prog X.w) X.A (eval (.Name x pos) X.env) Q E s:=by
 obtain ⟨mb,h1,h2⟩:=I.mod.blt
 exact VW I.ok.kind hg (Calls.loadGlobal_builtin (by rw [I.ok.glob]; exact I.mod.glob.keeps I.bk) hm (by rw [I.ok.blt]; exact h1.keeps I.bk) ((h2 x hn).trans hv) h) hd
theorem JJ {x:Str} {v:V} {u:Value} {pos:Pos} (hg:Gl X x) (hm:X.mg x=none) (hv:bootBuiltins x=some u) (r:RelV v u) (hn:x≠"__name__":=by decide) (hd:(x == ("__debug__" : Str))=false:=by decide):PE X (.Name x pos) (tC v):=
 fun _ _ _ H _ I h=>JT I hg hm hv ⟨v,H,I,r,h⟩ hn hd
variable {a b:Expr} {ta tb:TE} {pos:Pos}
noncomputable def PC (X:Cx) (op:CmpOp) (a b:Expr) (t:TE):Prop:=
 ∀(pins:List (Addr×Obj)) (s:Shared) (σ:St) (H:Hp) (Q:VK),Inv X pins σ H s->t σ H Q->
  wpAny (model X.prog X.w) X.A (eval a X.env) (fun v s₁=>wpAny (model X.prog X.w) X.A (eval b X.env) (fun u s₂=>wpAny (model X.prog X.w) X.A (compareOp op v u) (EP X pins σ Q) X.xe s₂) X.xe s₁) X.xe s
noncomputable def tB (t:TE):TT:=fun σ H Q=>t σ H fun x H1=>∃ c,x=.bl c/\Q c H1
theorem qKI {op:CmpOp} {t:TE} (h:PC X op a b t) (h1:behindInMarks op b=false:=by first | exact nobehind _ (by decide) (by decide) | rfl):PT X (.Compare a [op] [b] pos) (tB t):=by
 intro pins s σ H Q I hw
 refine wpAny_isTrue_Compare1 (thn (h pins s σ H _ I hw) fun v s1 h1=>thn h1 fun u s2 h2=>thn h2 fun c s3 ⟨x,H1,I1,r1,q1⟩=>?_) h1
 obtain ⟨d,rfl,q⟩:=q1
 cases r1
 exact vA ⟨H1,I1,q⟩
variable {tA tB':TT} {rest:List Expr}
noncomputable def qMa (t u:TT):TT:=fun σ H Q=>t σ H fun c H1=>if c=true then u σ H1 Q else Q false H1
noncomputable def tOr (t u:TT):TT:=fun σ H Q=>t σ H fun c H1=>if c=true then Q true H1 else u σ H1 Q
noncomputable def qMi (t:TT):TT:=fun σ H Q=>t σ H fun c H1=>Q (!c) H1
theorem YW (ha:PT X a tA):PW X (.BoolOp .And [a] pos) tA:=by
 intro wh pins s σ H Q I h
 refine isTrue_and (thn (ha pins s σ H Q I h) fun c s1 e=>?_)
 cases c with
 | true=>exact isTrue_and_nil e
 | false=>exact e
theorem Qk (ha:PT X a tA):PW X (.BoolOp .Or [a] pos) tA:=by
 intro wh pins s σ H Q I h
 refine isTrue_or (thn (ha pins s σ H Q I h) fun c s1 e=>?_)
 cases c with
 | false=>exact isTrue_or_nil e
 | true=>exact e
theorem qB4 (ha:PT X a tA) (hb:PW X (.BoolOp .And (b::rest) pos) tB'):PW X (.BoolOp .And (a::b::rest) pos) (qMa tA tB'):=by
 intro wh pins s σ H Q I h
 refine isTrue_and (thn (ha pins s σ H _ I h) fun c s1 ⟨H1,I1,q1⟩=>?_)
 cases c with
 | true=>exact hb wh pins s1 σ H1 Q I1 q1
 | false=>exact ⟨H1,I1,q1⟩
theorem JI (ha:PT X a tA) (hb:PW X (.BoolOp .Or (b::rest) pos) tB'):PW X (.BoolOp .Or (a::b::rest) pos) (tOr tA tB'):=by
 intro wh pins s σ H Q I h
 refine isTrue_or (thn (ha pins s σ H _ I h) fun c s1 ⟨H1,I1,q1⟩=>?_)
 cases c with
 | true=>exact ⟨H1,I1,q1⟩
 | false=>exact hb wh pins s1 σ H1 Q I1 q1
theorem QM (ha:PT X a tA):PT X (.UnaryOp .Not a pos) (qMi tA):=by
 intro pins s σ H Q I h
 exact isTrue_not (ha pins s σ H (fun c H1=>Q (!c) H1) I h)
noncomputable def qKw (ta tb:TE):TE:=fun σ H Q=>ta σ H fun x H1=>∃ c,x=.bl c/\if c=true then tb σ H1 Q else Q (.bl false) H1
noncomputable def qMt (ta tb:TE):TE:=fun σ H Q=>ta σ H fun x H1=>∃ c,x=.bl c/\if c=true then Q (.bl true) H1 else tb σ H1 Q
theorem Qq {op} {t:TE} (h:PE X a t):PE X (.BoolOp op [a] pos) t:=fun pins s σ H Q I hw=>BoolOp_one (h pins s σ H Q I hw)
theorem Qw (ha:PE X a ta) (hb:PE X (.BoolOp .And (b::rest) pos) tb):PE X (.BoolOp .And (a::b::rest) pos) (qKw ta tb):=by
 intro pins s σ H Q I h
 refine BoolOp_and (thn (ha pins s σ H _ I h) fun v s1 ⟨x,H1,I1,r1,q1⟩=>?_)
 obtain ⟨c,rfl,q1⟩:=q1
 cases r1
 refine vA ?_
 cases c with
 | true=>exact hb pins s1 σ H1 Q I1 q1
 | false=>exact ⟨.bl false,H1,I1,rfl,q1⟩
theorem qMD (ha:PE X a ta) (hb:PE X (.BoolOp .Or (b::rest) pos) tb):PE X (.BoolOp .Or (a::b::rest) pos) (qMt ta tb):=by
 intro pins s σ H Q I h
 refine BoolOp_or (thn (ha pins s σ H _ I h) fun v s1 ⟨x,H1,I1,r1,q1⟩=>?_)
 obtain ⟨c,rfl,q1⟩:=q1
 cases r1
 refine vA ?_
 cases c with
 | false=>exact hb pins s1 σ H1 Q I1 q1
 | true=>exact ⟨.bl true,H1,I1,rfl,q1⟩
noncomputable def tIf (t:TT) (ta tb:TE):TE:=fun σ H Q=>t σ H fun c H1=>if c=true then ta σ H1 Q else tb σ H1 Q
theorem qHv {c:Expr} (hc:PT X c tA) (ha:PE X a ta) (hb:PE X b tb):PE X (.IfExp c a b pos) (tIf tA ta tb):=by
 intro pins s σ H Q I h
 refine wpAny_IfExp (thn (hc pins s σ H _ I h) fun d s1 ⟨H1,I1,q1⟩=>?_)
 cases d with
 | true=>exact ha pins s1 σ H1 Q I1 q1
 | false=>exact hb pins s1 σ H1 Q I1 q1
end
noncomputable def SqL (K:wG) (H:Hp) (a:Addr) (xs:List V):Prop:=
 Rd H a (.lst xs)\/
  ∃(o:Obj) (its:Array Value) (n:Nat),K.lookup a=some o/\o.cls=.type "list"/\o.dict=none/\o.data=.seq its n/\its.size<=sizeLine/\qt xs its.toList
noncomputable def SqT (K:wG) (H:Hp) (a:Addr) (xs:List V):Prop:=
 Rd H a (.tup xs)\/
  ∃(o:Obj) (its:Array Value) (n:Nat),K.lookup a=some o/\o.cls=.type "tuple"/\o.data=.seq its n/\its.size<=sizeLine/\qt xs its.toList
noncomputable def qNK:Value->Option V
 | .none=>some .non
 | .bool b=>some (.bl b)
 | .int i _=>some (.int i)
 | .str x _=>some (.str x)
 | .bytes b _=>some (.byt b)
 | .float b _=>some (.flt b)
 | .ref a=>some (.ref a)
 | .type n=>some (.ty n)
 | _=>none
theorem RelV.abs {x:V} {u:Value} (r:RelV x u):qNK u=some x:=by
 cases x with
 | non=>cases r; rfl
 | bl _=>cases r; rfl
 | int _=>obtain ⟨t,rfl⟩:=r; rfl
 | str _=>obtain ⟨t,rfl⟩:=r; rfl
 | byt _=>obtain ⟨t,rfl⟩:=r; rfl
 | flt _=>obtain ⟨t,rfl⟩:=r; rfl
 | ref _=>cases r; rfl
 | ty _=>cases r; rfl
theorem RelV.inj {x y:V} {u:Value} (r:RelV x u) (q:RelV y u):x=y:=zF (r.abs.symm.trans q.abs)
theorem qt.inj:∀{xs ys:List V} {us:List Value},qt xs us->qt ys us->xs=ys
 | _,_,_,.nil,.nil=>rfl
 | _,_,_,.cons r t,.cons r' t'=>by rw [r.inj r',qt.inj t t']
section
variable {X:Cx} {pins:List (Addr×Obj)} {σ:St} {H:Hp} {s:Shared} {a:Addr} {xs ys:List V}
theorem SqL.of {K:wG} (h:H a=some (.lst xs)):SqL K H a xs:=.inl (.inl h)
theorem SqT.of {K:wG} (h:H a=some (.tup xs)):SqT K H a xs:=.inl (.inl h)
theorem Inv.list (I:Inv X pins σ H s) (h:SqL X.K H a xs):∃ its:List Value,qt xs its/\PlainL s.heap a its.toArray/\xs.length<=sizeLine:=by
 rcases h with h | ⟨o,its,n,hk,hc,hd,hs,hz,r⟩
 ·obtain ⟨z,its,n,r,e⟩:=h.ok I.hok
  exact ⟨its,r,⟨_,n,e,rfl,rfl,rfl⟩,z⟩
 ·refine ⟨its.toList,r,⟨o,n,I.kIn a o hk,hc,hd,by simpa using hs⟩,?_⟩
  have e:=r.length
  simp only [wH] at e
  omega
theorem Inv.tuple (I:Inv X pins σ H s) (h:SqT X.K H a xs):∃ its:List Value,qt xs its/\IsTup s.heap a its.toArray/\xs.length<=sizeLine:=by
 rcases h with h | ⟨o,its,n,hk,hc,hs,hz,r⟩
 ·obtain ⟨z,its,r,p⟩:=h.ok I.hok
  exact ⟨its,r,p.1,z⟩
 ·refine ⟨its.toList,r,⟨o,I.kIn a o hk,hc,n,by simpa using hs⟩,?_⟩
  have e:=r.length
  simp only [wH] at e
  omega
theorem Inv.list_inj (I:Inv X pins σ H s) (h:SqL X.K H a xs) (h':SqL X.K H a ys):xs=ys:=by
 obtain ⟨its,r,⟨o,n,e,_,_,d⟩,_⟩:=I.list h
 obtain ⟨its',r',⟨o',n',e',_,_,d'⟩,_⟩:=I.list h'
 rw [e] at e'; cases e'
 rw [d] at d'
 injection d' with d1 _
 have:its=its':=by simpa using congrArg Array.toList d1
 subst this
 exact r.inj r'
theorem Inv.tuple_inj (I:Inv X pins σ H s) (h:SqT X.K H a xs) (h':SqT X.K H a ys):xs=ys:=by
 obtain ⟨its,r,⟨o,e,_,n,d⟩,_⟩:=I.tuple h
 obtain ⟨its',r',⟨o',e',_,n',d'⟩,_⟩:=I.tuple h'
 rw [e] at e'; cases e'
 rw [d] at d'
 injection d' with d1 _
 have:its=its':=by simpa using congrArg Array.toList d1
 subst this
 exact r.inj r'
end
noncomputable abbrev Cx.wish (X:Cx) (E:Value->Shared->Prop):Cx:={ X with xe:=E }
noncomputable abbrev Cx.nox (X:Cx):Cx:=X.wish fun _ _=>False
theorem Cx.Ok.wish {X:Cx} (ok:X.Ok) (E:Value->Shared->Prop):(X.wish E).Ok:=
 ⟨ok.mod,ok.kind,ok.glob,ok.blt,ok.above,ok.inj,ok.has,ok.cab,ok.hd,ok.frames,ok.stk,ok.exf,ok.bs,ok.bsz,ok.noex,ok.exfs,ok.funs,ok.frf⟩
theorem Cx.Ok.unwish {X:Cx} {E:Value->Shared->Prop} (ok:(X.wish E).Ok):X.Ok:=
 ⟨ok.mod,ok.kind,ok.glob,ok.blt,ok.above,ok.inj,ok.has,ok.cab,ok.hd,ok.frames,ok.stk,ok.exf,ok.bs,ok.bsz,ok.noex,ok.exfs,ok.funs,ok.frf⟩
section
variable {X:Cx} {pins:List (Addr×Obj)} {σ:St} {H:Hp} {s:Shared} {E:Value->Shared->Prop}
theorem Inv.wish (I:Inv X pins σ H s) (E:Value->Shared->Prop):Inv (X.wish E) pins σ H s:=⟨I.ok.wish E,I.os,I.bare,I.base,I.loc,I.cell,I.free,I.freeC,I.pin,I.hok,I.len⟩
theorem Inv.unwish (I:Inv (X.wish E) pins σ H s):Inv X pins σ H s:=⟨I.ok.unwish,I.os,I.bare,I.base,I.loc,I.cell,I.free,I.freeC,I.pin,I.hok,I.len⟩
theorem SP.unwish {D:Ends} {f:Flow} {s':Shared} (h:SP (X.wish E) pins D f s'):SP X pins D f s':=by
 cases f with
 | next=>obtain ⟨σ',H',I,q⟩:=h; exact ⟨σ',H',I.unwish,q⟩
 | brk=>obtain ⟨σ',H',I,q⟩:=h; exact ⟨σ',H',I.unwish,q⟩
 | cont=>obtain ⟨σ',H',I,q⟩:=h; exact ⟨σ',H',I.unwish,q⟩
 | ret u=>obtain ⟨v,σ',H',I,r,q⟩:=h; exact ⟨v,σ',H',I.unwish,r,q⟩
theorem PSs.nox {st:List Stmt} {t:TS} (h:PSs X.nox st t):PSs X st t:=fun pins s σ H D I hw=>
 xW (h pins s σ H D (I.wish _) hw) (fun _ _ q=>q.unwish) fun _ _ z=>kK z
end
section
variable {X:Cx} {st:Stmt} {rest:List Stmt} {t u:TS} {e:Expr} {te:TE} {pos:Pos}
noncomputable def qKs:TS:=fun D σ H=>D.nx σ H
noncomputable def Qm (t u:TS):TS:=fun D σ H=>t { D with nx:=u D } σ H
theorem qi:PSs X [] qKs:=fun _ _ σ H _ I h=>ZK ⟨σ,H,I,h⟩
theorem qD (h1:PS X st t) (h2:PSs X rest u):PSs X (st::rest) (Qm t u):=by
 intro pins s σ H D I h
 refine wpAny_execs_cons (thn (h1 pins s σ H { D with nx:=u D } I h) fun f s1 q=>?_)
 cases f with
 | next=>
  obtain ⟨σ',H',I',q⟩:=q
  exact h2 pins s1 σ' H' D I' q
 | ret v=>exact q
 | brk=>exact q
 | cont=>exact q
theorem qG (h1:PS X st t):PSs X [st] t:=by
 intro pins s σ H D I h
 refine wpAny_execs_cons (thn (h1 pins s σ H D I h) fun f s1 q=>?_)
 cases f with
 | next=>exact ZK q
 | ret v=>exact q
 | brk=>exact q
 | cont=>exact q
theorem Inv.quiet {pins:List (Addr×Obj)} {σ:St} {H:Hp} {s:Shared} (I:Inv X pins σ H s):interactive X.env=false:=by simp [interactive,I.ok.kind]
noncomputable def qJ8 (te:TE):TS:=fun D σ H=>te σ H fun _ H1=>D.nx σ H1
theorem qCo (he:PE X e te) (hs:swapsWith e none pos.line X.env=pure false:=by rfl):PS X (.Expr e pos) (qJ8 te):=by
 intro pins s σ H D I h
 exact wpAny_Expr_any (thn (he pins s σ H _ I h) fun v s1 ⟨x,H1,I1,r1,q1⟩=>⟨σ,H1,I1,q1⟩) I.quiet hs
noncomputable def qM5 (te:TE):TS:=fun D σ H=>te σ H D.rt
theorem qP (he:PE X e te):PS X (.Return (some e) pos) (qM5 te):=by
 intro pins s σ H D I h
 exact wpAny_Return_some (thn (he pins s σ H _ I h) fun v s1 ⟨x,H1,I1,r1,q1⟩=>⟨x,σ,H1,I1,r1,q1⟩)
noncomputable def qMo (c:TT) (t u:TS):TS:=fun D σ H=>c σ H fun b H1=>if b=true then t D σ H1 else u D σ H1
theorem jm {c:Expr} {a b:List Stmt} {tc:TT} (hc:PT X c tc) (ha:PSs X a t) (hb:PSs X b u):PS X (.If c a b pos) (qMo tc t u):=by
 intro pins s σ H D I h
 refine wpAny_If (thn (hc pins s σ H _ I h) fun d s1 ⟨H1,I1,q1⟩=>?_)
 cases d with
 | true=>exact ha pins s1 σ H1 D I1 q1
 | false=>exact hb pins s1 σ H1 D I1 q1
end
noncomputable abbrev TG:=V->St->Hp->(St->Hp->Prop)->Prop
noncomputable abbrev TGs:=List V->St->Hp->(St->Hp->Prop)->Prop
noncomputable def PG (X:Cx) (target:Expr) (t:TG):Prop:=
 ∀(pins:List (Addr×Obj)) (s:Shared) (σ:St) (H:Hp) (v:V) (u:Value) (Q:St->Hp->Prop),Inv X pins σ H s->RelV v u->t v σ H Q->
  wpAny (model X.prog X.w) X.A (assign target X.env u) (fun _ s'=>∃ σ' H',Inv X pins σ' H' s'/\Q σ' H') X.xe s
noncomputable def PGs (X:Cx) (ts:List Expr) (t:TGs):Prop:=
 ∀(pins:List (Addr×Obj)) (s:Shared) (σ:St) (H:Hp) (vs:List V) (us:List Value) (Q:St->Hp->Prop),Inv X pins σ H s->qt vs us->t vs σ H Q->
  wpAny (model X.prog X.w) X.A (assignInOrder ((assignEach ts X.env).map (·.2)) us) (fun _ s'=>∃ σ' H',Inv X pins σ' H' s'/\Q σ' H') X.xe s
noncomputable abbrev qLy:=V->V->V->Hp->(Hp->Prop)->Prop
noncomputable def qMl (X:Cx) (t:qLy):Prop:=
 ∀(pins:List (Addr×Obj)) (s:Shared) (σ:St) (H:Hp) (o i v:V) (ov iv u:Value) (Q:Hp->Prop),Inv X pins σ H s->RelV o ov->RelV i iv->RelV v u->t o i v H Q->
  wpAny (model X.prog X.w) X.A (setItem ov iv u) (fun _ s'=>∃ H',Inv X pins σ H' s'/\Q H') X.xe s
noncomputable abbrev TIp:=V->V->Hp->VK->Prop
noncomputable def PIp (X:Cx) (op:Operator) (t:TIp):Prop:=
 ∀(pins:List (Addr×Obj)) (s:Shared) (σ:St) (H:Hp) (x y:V) (v u:Value) (Q:VK),Inv X pins σ H s->RelV x v->RelV y u->t x y H Q->
  wpAny (model X.prog X.w) X.A (inplaceOp op v u) (EP X pins σ Q) X.xe s
section
variable {X:Cx} {pos:Pos}
noncomputable def qDG (i:Nat):TG:=fun v σ H Q=>Q (σ.set i (some v)) H
theorem qEv {i:Nat} {x:Str} (hN:X.N.Nodup) (hi:X.N[i]? = some x) (hx:Loc X.env.scope x) (hf:X.fn x=true\/X.env.scope.names.lookup x=some .local:=by first | exact .inl rfl | exact .inr rfl | assumption):PG X (.Name x pos) (qDG i):=by
 intro pins s σ H v u Q I r h
 exact wpAny_assign_Name (qAm I hN hi hx r (fun s' I'=>⟨_,H,I',h⟩) hf)
noncomputable def qMr:TGs:=fun vs σ H Q=>vs=[]/\Q σ H
noncomputable def qKr (t:TG) (u:TGs):TGs:=fun vs σ H Q=>∃ v r,vs=v::r/\t v σ H fun σ' H'=>u r σ' H' Q
theorem jU:PGs X [] qMr:=by
 intro pins s σ H vs us Q I r h
 obtain ⟨e,h⟩:=h
 subst e
 cases r
 exact assignInOrder_nil ⟨σ,H,I,h⟩
theorem qM {e:Expr} {es:List Expr} {t:TG} {u:TGs} (h1:PG X e t) (h2:PGs X es u)
  (hs:(assignEach (e::es) X.env).map (·.2)=assign e X.env::(assignEach es X.env).map (·.2):=by rfl):PGs X (e::es) (qKr t u):=by
 intro pins s σ H vs us Q I r h
 obtain ⟨v,vr,e1,h⟩:=h
 subst e1
 cases r with
 | cons r rr=>
  rw [hs]
  refine assignInOrder_cons (thn (h1 pins s σ H _ _ _ I r h) fun _ s1 ⟨σ1,H1,I1,q1⟩=>?_)
  exact h2 pins s1 σ1 H1 _ _ Q I1 rr q1
noncomputable def qMS (K:wG) (n:Nat) (t:TGs):TG:=fun v σ H Q=>∃ a xs,v=.ref a/\SqT K H a xs/\xs.length=n/\t xs σ H Q
theorem qLh {es:List Expr} {k:Nat} {t:TGs} {n:Nat} (hc:X.calm=true) (h:PGs X es t)
  (hn:(assignEach es X.env).length=n:=by rfl) (hst:(assignEach es X.env).findIdx? (·.1)=none:=by rfl):PG X (.Tuple es k pos) (qMS X.K n t):=by
 intro pins s σ H v u Q I r hw
 obtain ⟨a,xs,e1,hq,hl,hw⟩:=hw
 subst e1
 cases r
 obtain ⟨its,rv,ht,hz⟩:=I.tuple hq
 refine assign_Tuple_tuple (I.ok.hd hc) ht (by simp [hn,<- hl,rv.length]) hst fun h' hx=>?_
 have I1:Inv X pins σ H { s with heap:=h' }:=I.kept (t':=s.toks) fun b o e=>hx b o (zH (wY e)) e
 exact h pins _ σ H xs _ Q I1 (by simpa using rv) hw
noncomputable def qMR (to ti:TE) (t:qLy):TG:=fun v σ H Q=>to σ H fun o H1=>ti σ H1 fun i H2=>t o i v H2 fun H3=>Q σ H3
theorem qFt {o i:Expr} {to ti:TE} {t:qLy} (ho:PE X o to) (hi:PE X i ti) (hs:qMl X t)
  (ha:∀ v,assign (.Subscript o i pos) X.env v=(do
   let ov <- holding [v] (eval o X.env)
   let iv <- holding [v,ov] (eval i X.env)
   standAt pos
   holding [v,ov,iv] (setItem ov iv v)
   release [v,ov,iv] []):=by intro _; rfl):PG X (.Subscript o i pos) (qMR to ti t):=by
 intro pins s σ H v u Q I r h
 rw [ha]
 refine wB (yS (thn (ho pins s σ H _ I h) fun ov s1 ⟨x,H1,I1,r1,q1⟩=>?_))
 refine wB (yS (thn (hi pins s1 σ H1 _ I1 q1) fun iv s2 ⟨y,H2,I2,r2,q2⟩=>?_))
 refine wB (uC (wB (yS (thn (hs pins s2 σ H2 x y v ov iv u _ I2 r1 r2 r q2) fun _ s3 ⟨H3,I3,q3⟩=>?_))))
 exact wpAny_release ⟨σ,H3,I3,q3⟩
noncomputable def qJz (te:TE) (g:TG):TS:=fun D σ H=>te σ H fun x H1=>g x σ H1 D.nx
theorem JC {tg e:Expr} {te:TE} {g:TG} (he:PE X e te) (hg:PG X tg g) (hs:swapsWithSole [tg] e pos.line X.env=pure false:=by rfl) (hw:swappedStores [tg] e X.env=pure none:=by rfl)
  (h1:(assignEach [tg] X.env).map (·.2)=[assign tg X.env]:=by rfl):PS X (.Assign [tg] e pos) (qJz te g):=by
 intro pins s σ H D I h
 refine wpAny_Assign_stores (thn (he pins s σ H _ I h) fun v s1 ⟨x,H1,I1,r1,q1⟩=>?_) hs hw
 rw [h1]
 exact thn (hg pins s1 σ H1 x v _ I1 r1 q1) fun _ s2 q=>q
theorem qF0 {i:Nat} {x:Str} {e:Expr} {te:TE} {pos':Pos} (hN:X.N.Nodup) (hi:X.N[i]? = some x) (hx:Loc X.env.scope x) (he:PE X e te) (hs:swapsWith e (some (.Name x pos')) pos.line X.env=pure false:=by rfl) (hf:X.fn x=true\/X.env.scope.names.lookup x=some .local:=by first | exact .inl rfl | exact .inr rfl | assumption) :
  PS X (.Assign [.Name x pos'] e pos) (qJz te (qDG i)):=by
 intro pins s σ H D I h
 refine wpAny_Assign_Name (thn (he pins s σ H _ I h) fun v s1 ⟨y,H1,I1,r1,q1⟩=>?_) hs
 exact qAm I1 hN hi hx r1 (fun s2 I2=>⟨_,H1,I2,q1⟩) hf
noncomputable def qMv (i:Nat) (te:TE) (ti:TIp):TS:=fun D σ H=>∃ x,σ[i]? = some (some x)/\te σ H fun y H1=>ti x y H1 fun z H2=>D.nx (σ.set i (some z)) H2
theorem qK6 {i:Nat} {x:Str} {e:Expr} {te:TE} {op:Operator} {ti:TIp} {pos':Pos} (hN:X.N.Nodup) (hi:X.N[i]? = some x) (hx:Loc X.env.scope x) (he:PE X e te) (ho:PIp X op ti) (hf:X.fn x=true\/X.env.scope.names.lookup x=some .local:=by first | exact .inl rfl | exact .inr rfl | assumption) :
  PS X (.AugAssign (.Name x pos') op e pos) (qMv i te ti):=by
 intro pins s σ H D I h
 obtain ⟨v,e1,h⟩:=h
 obtain ⟨m,hn,hl⟩:=I.loc
 have vis:Vis X.env.scope x:=by rcases hx with k | k; exact .inl k; exact .inr (.inl k)
 obtain ⟨u,r,l⟩:=hl i x v hi e1 vis
 refine wpAny_AugAssign_Name ?_
 have go:wpAny (model X.prog X.w) X.A (eval e X.env) (fun w s₂=>wpAny (model X.prog X.w) X.A (inplaceOp op u w) (fun r s₃=>wpAny (model X.prog X.w) X.A (storeName X.env x r) (fun _=>SP X pins D .next) X.xe s₃) X.xe s₂) X.xe s:=by
  refine thn (he pins s σ H _ I h) fun w s1 ⟨y,H1,I1,r1,q1⟩=>?_
  refine thn (ho pins s1 σ H1 v y u w _ I1 r r1 q1) fun z s2 ⟨zv,H2,I2,r2,q2⟩=>?_
  exact qAm I2 hN hi hx r2 (fun s3 I3=>⟨_,H2,I3,q2⟩) hf
 rcases l with ⟨hk,hm⟩ | ⟨hk,c,hc,hcell⟩
 ·exact wpAny_loadName_local I.ok.kind hk hn hm go
 ·rcases hk with hk | hk
  ·exact wpAny_loadName_cell I.ok.kind hk hc hcell go
  ·rcases hx with k | k
   ·have:X.env.scope.names.lookup x=some .free:=hk
    rw [k] at this; cases this
   ·have:X.env.scope.names.lookup x=some .free:=hk
    rw [k] at this; cases this
end
section
variable {X:Cx} {pos:Pos}
noncomputable def qIU (c:TT) (tb:TS):TS:=fun D σ H=>∃ W:Nat->St->Hp->Prop,(∃ m,W m σ H)/\∀ m σ H,W m σ H->
 c σ H fun b H1=>if b=true then ∃ N:St->Hp->Prop,(∀ σ' H',N σ' H'->∃ m',m'<m/\W m' σ' H')/\tb { D with nx:=N,ct:=N,bk:=D.nx } σ H1 else D.nx σ H1
theorem qDU {c:Expr} {body:List Stmt} {tc:TT} {tb:TS} (hp:PassesOwn (model X.prog X.w) X.A X.env X.xe) (hc:PT X c tc) (hb:PSs X body tb):PS X (.While c body [] pos) (qIU tc tb):=by
 intro pins s σ H D I h
 obtain ⟨W,⟨m0,w0⟩,turn⟩:=h
 refine wpAny_While (codeAny_whileLoop (fun n s'=>∃ σ' H',Inv X pins σ' H' s'/\W n σ' H') ?_ m0 ⟨σ,H,I,w0⟩)
 rintro n s1 ⟨σ1,H1,I1,w1⟩
 refine kB hp (thn (hc pins s1 σ1 H1 _ I1 (turn n σ1 H1 w1)) fun b s2 ⟨H2,I2,q2⟩=>?_)
 cases b with
 | true=>
  obtain ⟨N,hN,q2⟩:=q2
  rw [if_pos rfl]
  refine kB hp (thn (hb pins s2 σ1 H2 _ I2 q2) fun f s3 q3=>?_)
  cases f with
  | next=>
   obtain ⟨σ3,H3,I3,n3⟩:=q3
   obtain ⟨m',hm,w3⟩:=hN σ3 H3 n3
   exact ⟨m',hm,σ3,H3,I3,w3⟩
  | cont=>
   obtain ⟨σ3,H3,I3,n3⟩:=q3
   obtain ⟨m',hm,w3⟩:=hN σ3 H3 n3
   exact ⟨m',hm,σ3,H3,I3,w3⟩
  | brk=>exact q3
  | ret v=>exact q3
 | false=>
  rw [if_neg wU]
  exact ZK ⟨σ1,H2,I2,q2⟩
end
structure It where
 go:Nat->Hp->Prop
 yld:Nat->Hp->V->Hp->Prop
 stop:Nat->Hp->Prop
noncomputable def Y4 (X:Cx) (pins:List (Addr×Obj)) (H:Hp) (b:Addr):Prop:=
 H b=none/\b≠X.env.locals/\b∉X.fs/\(b∈X.ex\/X.s₀.heap.objs.size<=b)/\(∀ x c,X.env.cells.lookup x=some c->c≠b)/\∀ p∈X.pn++pins,p.1≠b
theorem Inv.fpOk {X:Cx} {pins:List (Addr×Obj)} {σ:St} {H H':Hp} {s:Shared} {b:Addr} (I:Inv X pins σ H s) (hb:s.heap.objs.size<=b) (hn:H' b=none):Y4 X pins H' b:=by
 refine ⟨hn,gY (zQ I.lt hb),I.nofs hb,.inr (zC I.sz hb),fun x c e z=>?_,fun p hp z=>?_⟩
 ·obtain ⟨v,q⟩:=I.cell x c e
  exact absurd (zQ q.lt (by rw [z]; exact hb)) (xR _)
 ·exact absurd (zQ (wY (I.pin p hp).1) (by rw [z]; exact hb)) (xR _)
structure Turn (P:Program) (w:World) (K:wG) (tg:Expr) (J:It) (fp:List Addr) (it:Addr) (tn:Nat->Heap->Prop):Prop where
 mem:it∈fp
 obj:∀ i h,tn i h->∀ b∈fp,∃ o,h.get? b=some o/\∀ v,o.data≠.cell v
 keep:∀ i h h',tn i h->(∀ b∈fp,∀ o,h.get? b=some o->h'.get? b=some o)->tn i h'
 item:∀(X:Cx),X.prog=P->X.w=w->X.K=K->X.calm=true->∀(i:Nat) (pins:List (Addr×Obj)) (s:Shared) (σ:St) (H:Hp) (E:Value->Shared->Prop),Inv X pins σ H s->(∀ b∈fp,Y4 X pins H b)->tn i s.heap->J.go i H->
  wpAny (model P w) X.A (pyNext (.ref it)) (fun r s1=>∃ u,r=some u/\
   wpAny (model P w) X.A (letOwnedTupleGo tg (.ref it) u) (fun _ s2=>∃ x H',Inv X pins σ H' s2/\RelV x u/\J.yld i H x H'/\tn (i+1) s2.heap/\∀ b∈fp,H' b=none) E s1) E s
 done:∀(X:Cx),X.prog=P->X.w=w->X.K=K->X.calm=true->∀(i:Nat) (pins:List (Addr×Obj)) (s:Shared) (σ:St) (H:Hp) (E:Value->Shared->Prop),Inv X pins σ H s->(∀ b∈fp,Y4 X pins H b)->tn i s.heap->J.stop i H->
  wpAny (model P w) X.A (pyNext (.ref it)) (fun r s1=>r=none/\Inv X pins σ H s1) E s
 self:∀(A:Around) (i:Nat) (s:Shared) (Q:Value->Shared->Prop) (E:Value->Shared->Prop),tn i s.heap->Q (.ref it) s->wpAny (model P w) A (pyIter (.ref it)) Q E s
noncomputable abbrev TI:=St->Hp->(It->Hp->Prop)->Prop
noncomputable def PIE (X:Cx) (pins:List (Addr×Obj)) (σ:St) (tg:Expr) (R:It->Hp->Prop) (itv:Value) (s2:Shared):Prop:=
 ∃(it:Addr) (fp:List Addr) (tn:Nat->Heap->Prop) (J:It) (H':Hp),itv=.ref it/\Inv X pins σ H' s2/\Turn X.prog X.w X.K tg J fp it tn/\tn 0 s2.heap/\(∀ b∈fp,Y4 X pins H' b)/\R J H'
noncomputable def PI (X:Cx) (tg iter:Expr) (wi:TI):Prop:=
 ∀(pins:List (Addr×Obj)) (s:Shared) (σ:St) (H:Hp) (R:It->Hp->Prop),Inv X pins σ H s->wi σ H R->
  wpAny (model X.prog X.w) X.A (eval iter X.env) (fun v s1=>wpAny (model X.prog X.w) X.A (pyIter v) (PIE X pins σ tg R) X.xe s1) X.xe s
theorem qJw {M:Model} {A:Around} {E:Value->Shared->Prop} {s:Shared} {tg:Expr} {it:Addr} {u:Value} {o:Obj} {n:String} {vs:Array Value} {Q:Unit->Shared->Prop} (ho:s.heap.get? it=some o) (hc:o.cls=.type n) (hd:o.data=.fields vs)
  (hn : ["enumerate","zip","dict_itemiterator","dict_reverseitemiterator","odict_iterator","itertools.zip_longest","itertools.pairwise"].contains n=false) (hQ:Q () s):wpAny M A (letOwnedTupleGo tg (.ref it) u) Q E s:=by
 unfold letOwnedTupleGo
 cases tg <;> first
  | exact wD hQ
  | (cases u <;> first
    | exact wD hQ
    | (refine wB (wpAny_load ho ?_)
       rw [hc,hd]
       show wpAny M A (if (["enumerate","zip","dict_itemiterator","dict_reverseitemiterator","odict_iterator","itertools.zip_longest","itertools.pairwise"].contains n && vs[0]? == some (rawInt _))=true then _ else _) Q E s
       rw [if_neg (by intro h; rw [hn,yJ] at h; cases h)]
       exact wD hQ))
noncomputable def Itl (K:wG) (a:Addr):It:=
 ⟨fun i H=>∃ xs x,SqL K H a xs/\xs[i]? = some x,fun i H x H'=>H'=H/\∀ xs,SqL K H a xs->xs[i]? = some x,fun i H=>∃ xs,SqL K H a xs/\xs.length<=i⟩
noncomputable def Itt (K:wG) (a:Addr):It:=
 ⟨fun i H=>∃ xs x,SqT K H a xs/\xs[i]? = some x,fun i H x H'=>H'=H/\∀ xs,SqT K H a xs->xs[i]? = some x,fun i H=>∃ xs,SqT K H a xs/\xs.length<=i⟩
noncomputable def Itr (lo:Int) (n:Nat):It:=⟨fun i _=>i<n,fun i H x H'=>H'=H/\x=.int (lo+i),fun i _=>n<=i⟩
theorem qF4 {P:Program} {w:World} {K:wG} {tg:Expr} (a it:Addr):Turn P w K tg (Itl K a) [it] it (fun i h=>h.IsListIter it a i) where
 mem:=by simp
 obj:=fun i h st b hb=>by
  have e:b=it:=by simpa using hb
  subst e
  obtain ⟨o,e,c,d⟩:=st
  exact ⟨o,e,fun v z=>by rw [d] at z; cases z⟩
 keep:=fun i h h' st k=>st.at fun o e=>k it (by simp) o e
 item:=by
  intro X hP hw hK hc i pins s σ H E I hf st hg
  subst hP hw hK
  obtain ⟨xs,x,hq,hx⟩:=hg
  obtain ⟨its,rv,p,hz⟩:=I.list hq
  obtain ⟨u,hu,ru⟩:=rv.get hx
  obtain ⟨f0,f1,f2,f3,f4,f5⟩:=hf it (by simp)
  refine wpAny_pyNext_list_item st p.isList (x:=u) (by simpa using hu) fun h' st' sb=>?_
  have I1:Inv X pins σ H { s with heap:=h' }:=I.turned (t':=s.toks) (fun b o hb e=>(sb.2 b hb).trans e) f0 f1 f3 f4 f5
  obtain ⟨o,e,c,d⟩:=id st'
  exact ⟨u,rfl,qJw (s:={ s with heap:=h' }) e c d (by decide) ⟨x,H,I1,ru,⟨rfl,fun ys hy=>by rw [I.list_inj hy hq]; exact hx⟩,st',fun b hb=>(hf b hb).1⟩⟩
 done:=by
  intro X hP hw hK hc i pins s σ H E I hf st hg
  subst hP hw hK
  obtain ⟨xs,hq,hx⟩:=hg
  obtain ⟨its,rv,p,hz⟩:=I.list hq
  obtain ⟨f0,f1,f2,f3,f4,f5⟩:=hf it (by simp)
  have hl:=rv.length
  exact wpAny_pyNext_list_end (I.ok.hd hc) st p.isList (by simp; omega) fun h' eb=>⟨rfl,I.turned (t':=s.toks) (fun b o hb e=>eb b o hb e) f0 f1 f3 f4 f5⟩
 self:=fun _ _ _ _ _ st h=>wpAny_pyIter_listiter st h
theorem qEa {P:Program} {w:World} {K:wG} {tg:Expr} (a it:Addr):Turn P w K tg (Itt K a) [it] it (fun i h=>h.IsTupleIter it a i) where
 mem:=by simp
 obj:=fun i h st b hb=>by
  have e:b=it:=by simpa using hb
  subst e
  obtain ⟨o,e,c,d⟩:=st
  exact ⟨o,e,fun v z=>by rw [d] at z; cases z⟩
 keep:=fun i h h' st k=>st.at fun o e=>k it (by simp) o e
 item:=by
  intro X hP hw hK hc i pins s σ H E I hf st hg
  subst hP hw hK
  obtain ⟨xs,x,hq,hx⟩:=hg
  obtain ⟨its,rv,p,hz⟩:=I.tuple hq
  obtain ⟨u,hu,ru⟩:=rv.get hx
  obtain ⟨f0,f1,f2,f3,f4,f5⟩:=hf it (by simp)
  refine wpAny_pyNext_tuple_item st (show s.heap.IsTuple a its.toArray from p) (x:=u) (by simpa using hu) fun h' st' sb=>?_
  have I1:Inv X pins σ H { s with heap:=h' }:=I.turned (t':=s.toks) (fun b o hb e=>(sb.2 b hb).trans e) f0 f1 f3 f4 f5
  obtain ⟨o,e,c,d⟩:=id st'
  exact ⟨u,rfl,qJw (s:={ s with heap:=h' }) e c d (by decide) ⟨x,H,I1,ru,⟨rfl,fun ys hy=>by rw [I.tuple_inj hy hq]; exact hx⟩,st',fun b hb=>(hf b hb).1⟩⟩
 done:=by
  intro X hP hw hK hc i pins s σ H E I hf st hg
  subst hP hw hK
  obtain ⟨xs,hq,hx⟩:=hg
  obtain ⟨its,rv,p,hz⟩:=I.tuple hq
  obtain ⟨f0,f1,f2,f3,f4,f5⟩:=hf it (by simp)
  have hl:=rv.length
  exact wpAny_pyNext_tuple_end (I.ok.hd hc) st (show s.heap.IsTuple a its.toArray from p) (by simp; omega) fun h' eb=>⟨rfl,I.turned (t':=s.toks) (fun b o hb e=>eb b o hb e) f0 f1 f3 f4 f5⟩
 self:=fun _ _ _ _ _ st h=>wpAny_pyIter_tupleiter st h
theorem qEB {P:Program} {w:World} {K:wG} {tg:Expr} (it:Addr) (lo:Int) (n:Nat):Turn P w K tg (Itr lo n) [it] it (fun i h=>IsRangeIter h it (lo+(i:Nat)*1) ((n:Int) - (i:Nat)) 1) where
 mem:=by simp
 obj:=fun i h st b hb=>by
  have e:b=it:=by simpa using hb
  subst e
  exact ⟨_,st,fun v z=>by
   have z':Data.fields _=Data.cell v:=z
   cases z'⟩
 keep:=fun i h h' st k=>k it (by simp) _ st
 item:=by
  intro X hP hw hK hc i pins s σ H E I hf st hg
  subst hP hw hK
  obtain ⟨f0,f1,f2,f3,f4,f5⟩:=hf it (by simp)
  have W:=Walks.range (prog:=X.prog) (w:=X.w) (I.ok.hd hc) it lo 1 n
  refine W.item i s _ _ hg st fun v h' tk hv st' kk=>?_
  obtain ⟨t,rfl⟩:=hv
  have I1:Inv X pins σ H { s with heap:=h',toks:=tk }:=I.turned (fun b o hb e=>kk b o (by simpa using hb) e) f0 f1 f3 f4 f5
  refine ⟨_,rfl,qJw (s:={ s with heap:=h',toks:=tk }) (n:="range_iterator") st' rfl rfl (by decide) ⟨.int (lo+i),H,I1,⟨t,?_⟩,⟨rfl,rfl⟩,st',fun b hb=>(hf b hb).1⟩⟩
  rw [Int.mul_one]
 done:=by
  intro X hP hw hK hc i pins s σ H E I hf st hg
  subst hP hw hK
  obtain ⟨f0,f1,f2,f3,f4,f5⟩:=hf it (by simp)
  exact wpAny_pyNext_range_end (I.ok.hd hc) st (by have:n<=i:=hg; omega) fun h' eb=>⟨rfl,I.turned (t':=s.toks) (fun b o hb e=>eb b o hb e) f0 f1 f3 f4 f5⟩
 self:=fun _ _ _ _ _ st h=>wpAny_pyIter_rangeiter st h
section
variable {X:Cx} {tg:Expr}
theorem qD2 {pins:List (Addr×Obj)} {σ:St} {H:Hp} {s:Shared} {R:It->Hp->Prop} {E:Value->Shared->Prop} {lo hi:Int} {t u v:Tok} {tk:Nat} (I:Inv X pins σ H s) (h1 : -(2 ^ 62)<=lo) (h2:lo<2 ^ 62) (h3 : -(2 ^ 62)<=hi) (h4:hi<2 ^ 62)
  (q:R (Itr lo (hi - lo).toNat) H):wpAny (model X.prog X.w) X.A (pyIter (.ref s.heap.objs.size)) (PIE X pins σ tg R) E { s with heap:=s.heap.push { cls:=.type "range",data:=.fields #[.int lo t,.int hi u,.int 1 v] },toks:=tk }:=by
 refine wpAny_pyIter_range (IsRange.new ..) (small_one h1 h2 h3 h4) ?_
 have I1:Inv X pins σ H { s with heap:=s.heap.push { cls:=.type "range",data:=.fields #[.int lo t,.int hi u,.int 1 v] },toks:=tk }:=I.kept fun b o e=>wF _ e
 refine ⟨(s.heap.push { cls:=.type "range",data:=.fields #[.int lo t,.int hi u,.int 1 v] }).objs.size,[(s.heap.push { cls:=.type "range",data:=.fields #[.int lo t,.int hi u,.int 1 v] }).objs.size],_,_,H,rfl,
  I1.kept (t':=tk) fun b o e=>wF _ e,qEB _ lo (hi - lo).toNat,?_,fun b hb=>?_,q⟩
 ·have e1:lo+((0:Nat):Int)*1=lo:=by simp
  have e2:(((hi - lo).toNat:Nat):Int) - ((0:Nat):Int)=xU lo hi 1:=by rw [rangeSize_one]; split <;> omega
  show IsRangeIter _ _ (lo+((0:Nat):Int)*1) ((((hi - lo).toNat:Nat):Int) - ((0:Nat):Int)) 1
  rw [e1,e2]
  exact wR _ rfl
 ·have e:b=(s.heap.push { cls:=.type "range",data:=.fields #[.int lo t,.int hi u,.int 1 v] }).objs.size:=by simpa using hb
  subst e
  exact I1.fpOk (wK _) (I1.hok.fresh (wK _))
noncomputable def qJ3 (ta:TA):TI:=fun σ H R=>ta σ H fun vs H1=>∃ j:Int,vs=[.int j]/\-(2 ^ 62)<=j/\j<2 ^ 62/\R (Itr 0 j.toNat) H1
noncomputable def qLM (ta:TA):TI:=fun σ H R=>ta σ H fun vs H1=>∃ i j:Int,vs=[.int i,.int j]/\(-(2 ^ 62)<=i/\i<2 ^ 62/\-(2 ^ 62)<=j/\j<2 ^ 62)/\R (Itr i (j - i).toNat) H1
theorem qq {a:Expr} {ta:TA} {p pos:Pos} (hg:Gl X "range") (hm:X.mg "range" = none) (ha:PA X [a] ta) (hs:starEach [a] X.env=[(false,eval a X.env)]:=by rfl):PI X tg (.Call (.Name "range" p) [a] [] pos) (qJ3 ta):=by
 intro pins s σ H R I h
 refine Call_ (JT I hg hm boot_range (xY (thn (ha pos pins s σ H _ I h) fun us s1 ⟨vs,H1,I1,r1,q1⟩=>?_) hs rfl))
 obtain ⟨j,e,q1,q2,q⟩:=q1
 subst e
 cases r1 with
 | cons r rr=>
  cases rr
  obtain ⟨t,rfl⟩:=r
  exact call_range_1 (qD2 I1 (by omega) (by omega) q1 q2 (by simpa using q))
theorem qEl {a b:Expr} {ta:TA} {p pos:Pos} (hg:Gl X "range") (hm:X.mg "range" = none) (ha:PA X [a,b] ta) (hs:starEach [a,b] X.env=[(false,eval a X.env),(false,eval b X.env)]:=by rfl) (hs2:starEach [b] X.env=[(false,eval b X.env)]:=by rfl) :
  PI X tg (.Call (.Name "range" p) [a,b] [] pos) (qLM ta):=by
 intro pins s σ H R I h
 refine Call_ (JT I hg hm boot_range (xY (thn (ha pos pins s σ H _ I h) fun us s1 ⟨vs,H1,I1,r1,q1⟩=>?_) (by rw [hs,hs2]) (by rw [hs2]; rfl)))
 obtain ⟨i,j,e,⟨q1,q2,q3,q4⟩,q⟩:=q1
 subst e
 cases r1 with
 | cons r rr=>
  cases rr with
  | cons r' rr=>
   cases rr
   obtain ⟨t,rfl⟩:=r
   obtain ⟨t',rfl⟩:=r'
   exact call_range_2 (qD2 I1 q1 q2 q3 q4 q)
noncomputable def qIF (wi:TI) (g:TG) (tb:TS):TS:=fun D σ H=>wi σ H fun J H1=>∃ W:Nat->Nat->St->Hp->Prop,(∃ m,W 0 m σ H1)/\∀ i m σ H,W i m σ H->
 (J.stop i H/\D.nx σ H)\/(J.go i H/\∃ N:St->Hp->Prop,(∀ σ' H',N σ' H'->∃ m',m'<m/\W (i+1) m' σ' H')/\∀ x H',J.yld i H x H'->g x σ H' fun σ2 H2=>tb { D with nx:=N,ct:=N,bk:=D.nx } σ2 H2)
noncomputable def QZ (fp:List Addr) (h:Heap):List (Addr×Obj):=fp.filterMap fun b=>(h.get? b).map fun o=>(b,o)
theorem jE {fp:List Addr} {h:Heap} {b:Addr} {o:Obj} (hb:b∈fp) (e:h.get? b=some o):(b,o)∈QZ fp h:=WA.mpr ⟨b,hb,by rw [e]; rfl⟩
theorem qCB {fp:List Addr} {h:Heap} {p:Addr×Obj} (hp:p∈QZ fp h):p.1∈fp/\h.get? p.1=some p.2:=by
 obtain ⟨b,hb,e⟩:=WA.mp hp
 cases q:h.get? b with
 | none=>rw [q] at e; cases e
 | some o=>
  rw [q] at e
  have e':(b,o)=p:=zF e
  subst e'
  exact ⟨hb,q⟩
theorem Inv.pinned {pins:List (Addr×Obj)} {σ:St} {H:Hp} {s:Shared} {fp:List Addr} (I:Inv X pins σ H s) (hf:∀ b∈fp,Y4 X pins H b) (ho:∀ b∈fp,∃ o,s.heap.get? b=some o/\∀ v,o.data≠.cell v):Inv X (pins++QZ fp s.heap) σ H s:=
 I.pins_of fun p hp=>(zK.mp hp).elim (fun z=>I.pin p (zD _ z)) fun z=>by
  obtain ⟨hb,e⟩:=qCB z
  obtain ⟨f0,f1,f2,_⟩:=hf p.1 hb
  obtain ⟨o,e',d⟩:=ho p.1 hb
  rw [e] at e'; cases e'
  exact ⟨e,f0,f1,f2,d⟩
theorem Inv.unpinned {pins pl:List (Addr×Obj)} {σ:St} {H:Hp} {s:Shared} (I:Inv X (pins++pl) σ H s):Inv X pins σ H s:=I.pins_of fun p hp=>I.pin p (zD _ (kJ _ hp))
theorem Qh {iter:Expr} {body:List Stmt} {wi:TI} {g:TG} {tb:TS} {pos:Pos} (hp:PassesOwn (model X.prog X.w) X.A X.env X.xe) (hc:X.calm=true) (hi:PI X tg iter wi) (hg:PG X tg g) (hb:PSs X body tb)
  (hs:∀ x,foldedSetIterable iter X.env x=pure x:=by intro _; rfl):PS X (.For tg iter body [] pos) (qIF wi g tb):=by
 intro pins s σ H D I h
 refine wpAny_For (thn (hi pins s σ H _ I h) fun v s1 h1=>thn h1 fun itv s2 h2=>?_) hs
 obtain ⟨it,fp,tn,J,H2,e,I2,T,st2,f2,W,⟨m0,w0⟩,turn⟩:=h2
 subst e
 have stat:∀{H':Hp},(∀ b∈fp,H' b=none)->∀ b∈fp,Y4 X pins H' b:=fun hn b hb=>⟨hn b hb,(f2 b hb).2⟩
 refine codeAny_forLoop_any (fun n s'=>∃ i σ' H',Inv X pins σ' H' s'/\tn i s'.heap/\(∀ b∈fp,H' b=none)/\W i n σ' H') ?_ m0 ⟨0,σ,H2,I2,st2,fun b hb=>(f2 b hb).1,w0⟩
 rintro n s3 ⟨i,σ3,H3,I3,st3,fr3,w3⟩
 rcases turn i n σ3 H3 w3 with ⟨stop,qn⟩ | ⟨go,N,hN,step⟩
 ·refine kB hp (thn (T.done X rfl rfl rfl hc i pins s3 σ3 H3 X.xe I3 (stat fr3) st3 stop) fun r s4 ⟨hr,I4⟩=>?_)
  subst hr
  exact ZK ⟨σ3,H3,I4,qn⟩
 ·refine kB hp (thn (T.item X rfl rfl rfl hc i pins s3 σ3 H3 X.xe I3 (stat fr3) st3 go) fun r s4 ⟨u,hr,h4⟩=>?_)
  subst hr
  refine kB hp (thn h4 fun _ s5 ⟨x,H5,I5,r5,y5,st5,fr5⟩=>?_)
  have I5':=I5.pinned (stat fr5) (T.obj _ _ st5)
  refine kB hp (thn (hg _ s5 σ3 H5 x u _ I5' r5 (step x H5 y5)) fun _ s6 ⟨σ6,H6,I6,q6⟩=>?_)
  refine kB hp (thn (hb _ s6 σ6 H6 _ I6 q6) fun f s7 q7=>?_)
  have again:∀{σ7:St} {H7:Hp},Inv X (pins++QZ fp s5.heap) σ7 H7 s7->N σ7 H7->∃ m,m<n/\∃ i σ' H',Inv X pins σ' H' s7/\tn i s7.heap/\(∀ b∈fp,H' b=none)/\W i m σ' H':=fun {σ7 H7} I7 n7=>by
   obtain ⟨m',hm,w7⟩:=hN σ7 H7 n7
   refine ⟨m',hm,i+1,σ7,H7,I7.unpinned,T.keep _ _ _ st5 fun b hb o e=>(I7.pin (b,o) (zD _ (zD _ (jE hb e)))).1,fun b hb=>?_,w7⟩
   obtain ⟨o,e,d⟩:=T.obj _ _ st5 b hb
   exact (I7.pin (b,o) (zD _ (zD _ (jE hb e)))).2.1
  cases f with
  | next=>obtain ⟨σ7,H7,I7,n7⟩:=q7; exact again I7 n7
  | cont=>obtain ⟨σ7,H7,I7,n7⟩:=q7; exact again I7 n7
  | brk=>obtain ⟨σ7,H7,I7,q7⟩:=q7; exact ⟨σ7,H7,I7.unpinned,q7⟩
  | ret v=>obtain ⟨x7,σ7,H7,I7,r7,q7⟩:=q7; exact ⟨x7,σ7,H7,I7.unpinned,r7,q7⟩
end
noncomputable abbrev R2:=V->V->Hp->VK->Prop
noncomputable def OpR (X:Cx) (f:Value->Value->Sem Value) (r:R2):Prop:=
 ∀(pins:List (Addr×Obj)) (s:Shared) (σ:St) (H:Hp) (x y:V) (v u:Value) (Q:VK),Inv X pins σ H s->RelV x v->RelV y u->r x y H Q->
  wpAny (model X.prog X.w) X.A (f v u) (EP X pins σ Q) X.xe s
noncomputable def UnR (X:Cx) (f:Value->Sem Value) (r:V->Hp->VK->Prop):Prop:=
 ∀(pins:List (Addr×Obj)) (s:Shared) (σ:St) (H:Hp) (x:V) (v:Value) (Q:VK),Inv X pins σ H s->RelV x v->r x H Q->
  wpAny (model X.prog X.w) X.A (f v) (EP X pins σ Q) X.xe s
noncomputable def QB (X:Cx) (f:Value) (r:List V->Hp->VK->Prop):Prop:=
 ∀(pins:List (Addr×Obj)) (s:Shared) (σ:St) (H:Hp) (xs:List V) (us:List Value) (Q:VK),Inv X pins σ H s->qt xs us->r xs H Q->
  wpAny (model X.prog X.w) X.A (call f us) (EP X pins σ Q) X.xe s
noncomputable def qNL (X:Cx) (r:V->Hp->(Bool->Hp->Prop)->Prop):Prop:=
 ∀(pins:List (Addr×Obj)) (s:Shared) (σ:St) (H:Hp) (x:V) (v:Value) (Q:Bool->Hp->Prop),Inv X pins σ H s->RelV x v->r x H Q->
  wpAny (model X.prog X.w) X.A (truthy v) (TP X pins σ Q) X.xe s
noncomputable def tOp (r:R2) (ta tb:TE):TE:=fun σ H Q=>ta σ H fun x H1=>tb σ H1 fun y H2=>r x y H2 Q
noncomputable def tUn (r:V->Hp->VK->Prop) (ta:TE):TE:=fun σ H Q=>ta σ H fun x H1=>r x H1 Q
noncomputable def rI (C:Int->Int->Prop) (g:Int->Int->V):R2:=fun x y H Q=>∃ i j,x=.int i/\y=.int j/\C i j/\Q (g i j) H
noncomputable def rI0 (g:Int->Int->V):R2:=fun x y H Q=>∃ i j,x=.int i/\y=.int j/\Q (g i j) H
noncomputable def rU (g:Int->V):V->Hp->VK->Prop:=fun x H Q=>∃ i,x=.int i/\Q (g i) H
section
variable {X:Cx} {a b c:Expr} {ta tb tc:TE} {pos:Pos}
theorem qML (ha:PE X a ta) (hb:PE X b tb) {pins:List (Addr×Obj)} {s:Shared} {σ:St} {H:Hp} {R:V->V->Hp->Prop} (I:Inv X pins σ H s)
  (h:ta σ H fun x H1=>tb σ H1 fun y H2=>R x y H2) {Q:Value->Shared->Prop} {f:Value->Value->Sem Value}
  (hf:∀ v u s2 x y H2,Inv X pins σ H2 s2->RelV x v->RelV y u->R x y H2->wpAny (model X.prog X.w) X.A (f v u) Q X.xe s2) :
  wpAny (model X.prog X.w) X.A (eval a X.env) (fun v s₁=>wpAny (model X.prog X.w) X.A (eval b X.env) (fun u s₂=>wpAny (model X.prog X.w) X.A (f v u) Q X.xe s₂) X.xe s₁) X.xe s:=by
 refine thn (ha pins s σ H _ I h) fun v s1 ⟨x,H1,I1,r1,q1⟩=>?_
 refine thn (hb pins s1 σ H1 _ I1 q1) fun u s2 ⟨y,H2,I2,r2,q2⟩=>?_
 exact hf v u s2 x y H2 I2 r1 r2 q2
theorem qQ {op:Operator} {r:R2} (ho:OpR X (binaryOp op) r) (ha:PE X a ta) (hb:PE X b tb):PE X (.BinOp a op b pos) (tOp r ta tb):=by
 intro pins s σ H Q I h
 exact wpAny_BinOp (qML ha hb I h fun v u s2 x y H2 I2 rx ry q=>ho pins s2 σ H2 x y v u Q I2 rx ry q)
theorem qEK {op:UnaryOp} {r:V->Hp->VK->Prop} (ho:UnR X (unaryOp op) r) (ha:PE X a ta):PE X (.UnaryOp op a pos) (tUn r ta):=by
 intro pins s σ H Q I h
 exact UnaryOp_ (thn (ha pins s σ H _ I h) fun v s1 ⟨x,H1,I1,r1,q1⟩=>ho pins s1 σ H1 x v Q I1 r1 q1)
theorem opI {f:Value->Value->Sem Value} {C:Int->Int->Prop} {g:Int->Int->Int}
  (rule:∀(i j:Int) (t u:Tok) (s:Shared) (Q:Value->Shared->Prop) (E:Value->Shared->Prop),C i j->Q (.int (g i j) s.toks) { s with toks:=s.toks+1 }->wpAny (model X.prog X.w) X.A (f (.int i t) (.int j u)) Q E s) :
  OpR X f (rI C fun i j=>.int (g i j)):=by
 intro pins s σ H x y v u Q I rx ry h
 obtain ⟨i,j,rfl,rfl,hc,q⟩:=h
 obtain ⟨t,rfl⟩:=rx
 obtain ⟨t',rfl⟩:=ry
 exact rule i j t t' s _ _ hc ⟨.int (g i j),H,I.tok _,⟨_,rfl⟩,q⟩
theorem qL6 {f:Value->Value->Sem Value} {g:Int->Int->Int}
  (rule:∀(i j:Int) (t u:Tok) (s:Shared) (Q:Value->Shared->Prop) (E:Value->Shared->Prop),Q (.int (g i j) s.toks) { s with toks:=s.toks+1 }->wpAny (model X.prog X.w) X.A (f (.int i t) (.int j u)) Q E s) :
  OpR X f (rI0 fun i j=>.int (g i j)):=by
 intro pins s σ H x y v u Q I rx ry h
 obtain ⟨i,j,rfl,rfl,q⟩:=h
 obtain ⟨t,rfl⟩:=rx
 obtain ⟨t',rfl⟩:=ry
 exact rule i j t t' s _ _ ⟨.int (g i j),H,I.tok _,⟨_,rfl⟩,q⟩
theorem qLk {f:Value->Value->Sem Value} {g:Int->Int->Bool}
  (rule:∀(i j:Int) (t u:Tok) (s:Shared) (Q:Value->Shared->Prop) (E:Value->Shared->Prop),Q (.bool (g i j)) s->wpAny (model X.prog X.w) X.A (f (.int i t) (.int j u)) Q E s) :
  OpR X f (rI0 fun i j=>.bl (g i j)):=by
 intro pins s σ H x y v u Q I rx ry h
 obtain ⟨i,j,rfl,rfl,q⟩:=h
 obtain ⟨t,rfl⟩:=rx
 obtain ⟨t',rfl⟩:=ry
 exact rule i j t t' s _ _ ⟨.bl (g i j),H,I,rfl,q⟩
noncomputable def qNB (i j:Int):Prop:=0<j/\j<1073741824
noncomputable def qNI (i j:Int):Prop:=0<=j/\j<=1000000/\i.natAbs<2 ^ 64
noncomputable def qLn (i j:Int):Prop:=(-(2 ^ 64)<i/\i<2 ^ 64)\/(-(2 ^ 64)<j/\j<2 ^ 64)
theorem qLn.ok {i j:Int} (h:qLn i j):IntMulOk i j:=by
 rcases h with ⟨h1,h2⟩ | ⟨h1,h2⟩
 ·exact .of_left (intBits_le_64 h1 h2)
 ·exact .of_right (intBits_le_64 h1 h2)
theorem qKb:OpR X (binaryOp .Add) (rI0 fun i j=>.int (i+j)):=qL6 fun _ _ _ _ _ _ _ q=>add_int q
theorem Jb:OpR X (binaryOp .Sub) (rI0 fun i j=>.int (i - j)):=qL6 fun _ _ _ _ _ _ _ q=>sub_int q
theorem qKc:OpR X (binaryOp .Mult) (rI qLn fun i j=>.int (i*j)):=opI fun _ _ _ _ _ _ _ hc q=>mul_int q hc.ok
theorem qGb:OpR X (binaryOp .FloorDiv) (rI qNB fun i j=>.int (i / j)):=opI fun i j _ _ _ _ _ hc q=>by
 have h1:(0:Int)<j:=hc.1
 have h2:j<1073741824:=hc.2
 exact floordiv_int (by omega) (by rw [Int.fdiv_eq_ediv_of_nonneg i (by omega)]; exact q) (.inl (PyProof.noPylong_small (by omega)))
theorem JS:OpR X (binaryOp .Mod) (rI (fun _ j=>0<j) fun i j=>.int (i % j)):=opI fun i j _ _ _ _ _ hc q=>by
 have h1:(0:Int)<j:=hc
 exact mod_int' (by omega) (by rw [Int.fmod_eq_emod_of_nonneg i (by omega)]; exact q)
theorem qCE:OpR X (binaryOp .Pow) (rI qNI fun i j=>.int (i ^ j.toNat)):=opI fun _ _ _ _ _ _ _ hc q=>pow_int_small hc.1 hc.2.1 hc.2.2 q
theorem qJU:OpR X (inplaceOp .Add) (rI0 fun i j=>.int (i+j)):=qL6 fun _ _ _ _ _ _ _ q=>iadd_int q
theorem unI {f:Value->Sem Value} {g:Int->Int}
  (rule:∀(i:Int) (t:Tok) (s:Shared) (Q:Value->Shared->Prop) (E:Value->Shared->Prop),Q (.int (g i) s.toks) { s with toks:=s.toks+1 }->wpAny (model X.prog X.w) X.A (f (.int i t)) Q E s) :
  UnR X f (rU fun i=>.int (g i)):=by
 intro pins s σ H x v Q I rx h
 obtain ⟨i,rfl,q⟩:=h
 obtain ⟨t,rfl⟩:=rx
 exact rule i t s _ _ ⟨.int (g i),H,I.tok _,⟨_,rfl⟩,q⟩
theorem qAK:UnR X (unaryOp .USub) (rU fun i=>.int (-i)):=unI fun _ _ _ _ _ q=>neg_int q
end
noncomputable def qLp:V->V->Bool
 | .non,.non=>true | .non,.int _=>true | .int _,.non=>true | .non,.bl _=>true | .bl _,.non=>true | .non,.str _=>true | .str _,.non=>true
 | .int _,.int _=>true | .bl _,.bl _=>true | .str _,.str _=>true | .byt _,.byt _=>true
 | .int _,.str _=>true | .str _,.int _=>true | .bl _,.str _=>true | .str _,.bl _=>true
 | _,_=>false
noncomputable def rEq:R2:=fun x y H Q=>qLp x y=true/\Q (.bl (decide (x=y))) H
noncomputable def rNe:R2:=fun x y H Q=>qLp x y=true/\Q (.bl (!decide (x=y))) H
theorem qFV {i j:Int}:decide (V.int i=V.int j)=(i == j):=by
 rw [uJ]
 simp
theorem qIE {i j:Bool}:decide (V.bl i=V.bl j)=(i == j):=by
 rw [uJ]
 simp
theorem qF5 {i j:Str}:decide (V.str i=V.str j)=(i == j):=by
 rw [uJ]
 simp
theorem qGB {i j:Array UInt8}:decide (V.byt i=V.byt j)=(i.toList == j.toList):=by
 rw [uJ]
 cases i
 cases j
 simp
section
variable {X:Cx} {a b c:Expr} {ta tb tc:TE} {pos:Pos}
theorem qa {pins:List (Addr×Obj)} {σ:St} {H:Hp} {s:Shared} {Q:VK} {k k':Bool} (I:Inv X pins σ H s) (q:Q (.bl k) H) (e:k=k'):EP X pins σ Q (.bool k') s:=by
 subst e
 exact ⟨.bl k,H,I,rfl,q⟩
theorem qMB:OpR X (compareOp .Eq) rEq:=by
 intro pins s σ H x y v u Q I rx ry h
 obtain ⟨hs,q⟩:=h
 cases x with
 | non=>
  cases rx
  cases y with
  | non=>cases ry; exact PySem.EqNone.eq_none_none (qa I q (by simp))
  | bl j=>cases ry; exact PySem.EqNone.eq_none_bool (qa I q (by simp))
  | int j=>obtain ⟨t',rfl⟩:=ry; exact PySem.EqNone.eq_none_int (qa I q (by simp))
  | str j=>obtain ⟨t',rfl⟩:=ry; exact PySem.EqNone.eq_none_str (qa I q (by simp))
  | _=>exact absurd (show false=true from hs) wU
 | bl i=>
  cases rx
  cases y with
  | non=>cases ry; exact PySem.EqNone.eq_bool_none (qa I q (by simp))
  | bl j=>cases ry; exact eq_bool (qa I q qIE)
  | str j=>obtain ⟨t',rfl⟩:=ry; exact PySem.EqMixed.eq_bool_str (qa I q (by simp))
  | _=>exact absurd (show false=true from hs) wU
 | int i=>
  obtain ⟨t,rfl⟩:=rx
  cases y with
  | non=>cases ry; exact PySem.EqNone.eq_int_none (qa I q (by simp))
  | int j=>obtain ⟨t',rfl⟩:=ry; exact eq_int (qa I q qFV)
  | str j=>obtain ⟨t',rfl⟩:=ry; exact PySem.EqMixed.eq_int_str (qa I q (by simp))
  | _=>exact absurd (show false=true from hs) wU
 | str i=>
  obtain ⟨t,rfl⟩:=rx
  cases y with
  | non=>cases ry; exact PySem.EqNone.eq_str_none (qa I q (by simp))
  | bl j=>cases ry; exact PySem.EqMixed.eq_str_bool (qa I q (by simp))
  | int j=>obtain ⟨t',rfl⟩:=ry; exact PySem.EqMixed.eq_str_int (qa I q (by simp))
  | str j=>obtain ⟨t',rfl⟩:=ry; exact eq_str (qa I q qF5)
  | _=>exact absurd (show false=true from hs) wU
 | byt i=>
  obtain ⟨t,rfl⟩:=rx
  cases y with
  | byt j=>obtain ⟨t',rfl⟩:=ry; exact PySem.W.eq_bytes (qa I q qGB)
  | _=>exact absurd (show false=true from hs) wU
 | _=>cases y <;> exact absurd (show false=true from hs) wU
theorem qMA:OpR X (compareOp .NotEq) rNe:=by
 intro pins s σ H x y v u Q I rx ry h
 obtain ⟨hs,q⟩:=h
 cases x with
 | non=>
  cases rx
  cases y with
  | non=>cases ry; exact PySem.EqNone.ne_none_none (qa I q (by simp))
  | bl j=>cases ry; exact PySem.EqNone.ne_none_bool (qa I q (by simp))
  | int j=>obtain ⟨t',rfl⟩:=ry; exact PySem.EqNone.ne_none_int (qa I q (by simp))
  | str j=>obtain ⟨t',rfl⟩:=ry; exact PySem.EqNone.ne_none_str (qa I q (by simp))
  | _=>exact absurd (show false=true from hs) wU
 | bl i=>
  cases rx
  cases y with
  | non=>cases ry; exact PySem.EqNone.ne_bool_none (qa I q (by simp))
  | bl j=>cases ry; exact ne_bool (qa I q (congrArg not qIE))
  | str j=>obtain ⟨t',rfl⟩:=ry; exact PySem.EqMixed.ne_bool_str (qa I q (by simp))
  | _=>exact absurd (show false=true from hs) wU
 | int i=>
  obtain ⟨t,rfl⟩:=rx
  cases y with
  | non=>cases ry; exact PySem.EqNone.ne_int_none (qa I q (by simp))
  | int j=>obtain ⟨t',rfl⟩:=ry; exact ne_int (qa I q (congrArg not qFV))
  | str j=>obtain ⟨t',rfl⟩:=ry; exact PySem.EqMixed.ne_int_str (qa I q (by simp))
  | _=>exact absurd (show false=true from hs) wU
 | str i=>
  obtain ⟨t,rfl⟩:=rx
  cases y with
  | non=>cases ry; exact PySem.EqNone.ne_str_none (qa I q (by simp))
  | bl j=>cases ry; exact PySem.EqMixed.ne_str_bool (qa I q (by simp))
  | int j=>obtain ⟨t',rfl⟩:=ry; exact PySem.EqMixed.ne_str_int (qa I q (by simp))
  | str j=>obtain ⟨t',rfl⟩:=ry; exact ne_str (qa I q (congrArg not qF5))
  | _=>exact absurd (show false=true from hs) wU
 | byt i=>
  obtain ⟨t,rfl⟩:=rx
  cases y with
  | byt j=>obtain ⟨t',rfl⟩:=ry; exact PySem.W.ne_bytes (qa I q (congrArg not qGB))
  | _=>exact absurd (show false=true from hs) wU
 | _=>cases y <;> exact absurd (show false=true from hs) wU
theorem Yi:OpR X (compareOp .Lt) (rI0 fun i j=>.bl (decide (i<j))):=qLk fun _ _ _ _ _ _ _ q=>lt_int q
theorem qE8:OpR X (compareOp .LtE) (rI0 fun i j=>.bl (decide (i<=j))):=qLk fun _ _ _ _ _ _ _ q=>le_int q
theorem qC3:OpR X (compareOp .Gt) (rI0 fun i j=>.bl (decide (j<i))):=qLk fun _ _ _ _ _ _ _ q=>gt_int q
theorem qMT:OpR X (compareOp .GtE) (rI0 fun i j=>.bl (decide (j<=i))):=qLk fun _ _ _ _ _ _ _ q=>ge_int q
theorem OpR.or {f:Value->Value->Sem Value} {r r':R2} (h:OpR X f r) (h':OpR X f r'):OpR X f (fun x y H Q=>r x y H Q\/r' x y H Q):=by
 intro pins s σ H x y v u Q I rx ry q
 rcases q with q | q
 ·exact h pins s σ H x y v u Q I rx ry q
 ·exact h' pins s σ H x y v u Q I rx ry q
theorem qY (b:Expr) {op:CmpOp} (h:op≠.In:=by decide) (h2:op≠.NotIn:=by decide):behindInMarks op b=false:=by
 have e1:(op == CmpOp.In)=false:=by cases op <;> first | rfl | exact absurd rfl h
 have e2:(op == CmpOp.NotIn)=false:=by cases op <;> first | rfl | exact absurd rfl h2
 cases b <;> simp [behindInMarks,e1,e2]
theorem QR {op:CmpOp} {r:R2} (ho:OpR X (compareOp op) r) (ha:PE X a ta) (hb:PE X b tb) (hm:behindInMarks op b=false):PE X (.Compare a [op] [b] pos) (tOp r ta tb):=by
 intro pins s σ H Q I h
 exact wpAny_Compare1 (qML ha hb I h fun v u s2 x y H2 I2 rx ry q=>ho pins s2 σ H2 x y v u Q I2 rx ry q) hm
noncomputable def qJW (t:TE):TT:=fun σ H Q=>t σ H fun x H'=>∃ k,x=.bl k/\Q k H'
theorem qO {op:CmpOp} {r:R2} (ho:OpR X (compareOp op) r) (ha:PE X a ta) (hb:PE X b tb) (hm:behindInMarks op b=false):PT X (.Compare a [op] [b] pos) (qJW (tOp r ta tb)):=by
 intro pins s σ H Q I h
 refine wpAny_isTrue_Compare1 (thn (ha pins s σ H _ I h) fun v s1 ⟨x,H1,I1,r1,q1⟩=>thn (hb pins s1 σ H1 _ I1 q1) fun u s2 ⟨y,H2,I2,r2,q2⟩=>
  thn (ho pins s2 σ H2 x y v u _ I2 r1 r2 q2) fun c s3 ⟨z,H3,I3,r3,k,e,q3⟩=>?_) hm
 subst e
 cases r3
 exact vA ⟨H3,I3,q3⟩
noncomputable def qIV (r r':R2) (ta tb tc:TE):TE:=fun σ H Q=>ta σ H fun x H1=>tb σ H1 fun y H2=>r x y H2 fun z H3=>∃ k,z=.bl k/\
 (if k=true then tc σ H3 fun w' H4=>r' y w' H4 Q else Q (.bl false) H3)
theorem qAz {op op':CmpOp} {r r':R2} (ho:OpR X (compareOp op) r) (ho':OpR X (compareOp op') r') (ha:PE X a ta) (hb:PE X b tb) (hc:PE X c tc)
  (hm:lastMarks [op,op'] [b,c]=false:=by with_unfolding_all rfl):PE X (.Compare a [op,op'] [b,c] pos) (qIV r r' ta tb tc):=by
 intro pins s σ H Q I h
 refine Compare_chain (thn (ha pins s σ H _ I h) fun v s1 ⟨x,H1,I1,r1,q1⟩=>chain_link (thn (hb pins s1 σ H1 _ I1 q1) fun u s2 ⟨y,H2,I2,r2,q2⟩=>
  thn (ho pins s2 σ H2 x y v u _ I2 r1 r2 q2) fun d s3 ⟨z,H3,I3,r3,k,e,q3⟩=>?_)) hm
 subst e
 cases r3
 refine vA ?_
 cases k with
 | false=>exact ite_ff ⟨.bl false,H3,I3,rfl,q3⟩
 | true=>exact ite_tt (chain_last (thn (hc pins s3 σ H3 _ I3 q3) fun w' s4 ⟨z',H4,I4,r4,q4⟩=>ho' pins s4 σ H4 y z' u w' Q I4 r2 r4 q4))
noncomputable def qKe (K:wG) (x:V) (H:Hp) (k:Bool):Prop:=
 match x with
 | .non=>k=false
 | .bl b=>k=b
 | .int i=>k=(i != 0)
 | .str y=>y.length<=sizeLine/\k=((y.length:Int) != 0)
 | .byt y=>y.size<=sizeLine/\k=((y.size:Int) != 0)
 | .ref p=>(∃ xs,SqL K H p xs/\k = !xs.isEmpty)\/(∃ xs,SqT K H p xs/\k = !xs.isEmpty)\/∃ kvs,H p=some (.dK kvs)/\k = !kvs.isEmpty
 | _=>False
theorem qEJ {κ:Type} {kvs:List (κ×V)} {vs:List (κ×Value)} (r:KV kvs vs):(!vs.isEmpty) = !kvs.isEmpty:=by
 cases r <;> rfl
theorem qAJ {xs:List V} {its:List Value} (r:qt xs its):(!its.toArray.isEmpty) = !xs.isEmpty:=by
 cases r <;> simp
theorem qAL:(sizeLine:Nat)<2 ^ 63:=by rw [vG]; decide
theorem qIB:qNL X (fun x H Q=>∃ k,qKe X.K x H k/\Q k H):=by
 intro pins s σ H x v Q I rx h
 obtain ⟨k,e,q⟩:=h
 have hl:=qAL
 have hs:sizeLine=16777216:=vG
 cases x with
 | non=>
  cases rx
  have e':k=false:=e
  subst e'
  exact truthy_none ⟨H,I,q⟩
 | bl b=>
  cases rx
  have e':k=b:=e
  subst e'
  exact vA ⟨H,I,q⟩
 | int i=>
  obtain ⟨t,rfl⟩:=rx
  have e':k=(i != 0):=e
  subst e'
  exact PySem.P.truthy_int ⟨H,I,q⟩
 | str y=>
  obtain ⟨t,rfl⟩:=rx
  obtain ⟨hy,e'⟩:y.length<=sizeLine/\k=((y.length:Int) != 0):=e
  subst e'
  exact PySem.P.truthy_str (by omega) ⟨H,I.tok _,q⟩
 | byt y=>
  obtain ⟨t,rfl⟩:=rx
  obtain ⟨hy,e'⟩:y.size<=sizeLine/\k=((y.size:Int) != 0):=e
  subst e'
  exact PySem.W.truthy_bytes (by omega) ⟨H,I.tok _,q⟩
 | ref p=>
  cases rx
  have e':(∃ xs,SqL X.K H p xs/\k = !xs.isEmpty)\/(∃ xs,SqT X.K H p xs/\k = !xs.isEmpty)\/∃ kvs,H p=some (.dK kvs)/\k = !kvs.isEmpty:=e
  rcases e' with ⟨xs,hx,e'⟩ | ⟨xs,hx,e'⟩ | ⟨kvs,hx,e'⟩
  ·subst e'
   obtain ⟨its,r,pl,hz⟩:=I.list hx
   have hlen:=r.length
   exact wpAny_truthy_list pl.isList (by simp only [wJ]; omega) ⟨H,I.tok _,by rw [qAJ r]; exact q⟩
  ·subst e'
   obtain ⟨its,r,pl,hz⟩:=I.tuple hx
   have hlen:=r.length
   exact truthy_tuple pl (by simp only [wJ]; omega) ⟨H,I.tok _,by rw [qAJ r]; exact q⟩
  ·subst e'
   obtain ⟨hz,hS,vs,r,m⟩:kvs.length<=sizeLine/\(p == sysModules)=false/\∃ vs,KV kvs vs/\s.heap.DictOf (jV X.prog X.w) p vs:=I.hok p _ hx
   have hlen:kvs.length=vs.length:=fQ r
   exact wpAny_truthy_dict hS m (by omega) ⟨H,I.tok _,by rw [qEJ r]; exact q⟩
 | _=>exact (show False from e).elim
theorem qHH (ha:PE X a ta) (he:∀ whole,isTrue a X.env whole=(do let v <- whole; standAt a.pos; holding [v] (truthy v))) :
  PT X a (fun σ H Q=>ta σ H fun x H'=>∃ k,qKe X.K x H' k/\Q k H'):=by
 intro pins s σ H Q I h
 exact isTrue_plain (thn (ha pins s σ H _ I h) fun v s1 ⟨x,H1,I1,r1,q1⟩=>qIB pins s1 σ H1 x v Q I1 r1 q1) (he _)
theorem vals1 {x:V} {us:List Value} (r:qt [x] us):∃ u,us=[u]/\RelV x u:=by
 cases r with
 | cons r1 r2=>cases r2; exact ⟨_,rfl,r1⟩
theorem vals2 {x y:V} {us:List Value} (r:qt [x,y] us):∃ u w',us=[u,w']/\RelV x u/\RelV y w':=by
 cases r with
 | cons r1 r2=>
  cases r2 with
  | cons r3 r4=>cases r4; exact ⟨_,_,rfl,r1,r3⟩
theorem j9 (hc:X.calm=true):QB X (.builtin "max") (fun xs H Q=>∃ i j,xs=[.int i,.int j]/\Q (.int (if j > i then j else i)) H):=by
 intro pins s σ H xs us Q I r h
 obtain ⟨i,j,rfl,q⟩:=h
 obtain ⟨u,w',rfl,⟨t,rfl⟩,⟨t',rfl⟩⟩:=vals2 r
 refine max_two_ints (I.ok.hd hc) fun h' tk k=>⟨_,H,I.kept k,?_,q⟩
 by_cases hj:j > i
 ·rw [if_pos hj,if_pos hj]; exact ⟨_,rfl⟩
 ·rw [if_neg hj,if_neg hj]; exact ⟨_,rfl⟩
theorem QA (hc:X.calm=true):QB X (.builtin "min") (fun xs H Q=>∃ i j,xs=[.int i,.int j]/\Q (.int (if j<i then j else i)) H):=by
 intro pins s σ H xs us Q I r h
 obtain ⟨i,j,rfl,q⟩:=h
 obtain ⟨u,w',rfl,⟨t,rfl⟩,⟨t',rfl⟩⟩:=vals2 r
 refine min_two_ints (I.ok.hd hc) fun h' tk k=>⟨_,H,I.kept k,?_,q⟩
 by_cases hj:j<i
 ·rw [if_pos hj,if_pos hj]; exact ⟨_,rfl⟩
 ·rw [if_neg hj,if_neg hj]; exact ⟨_,rfl⟩
theorem qEt:QB X (.type "int") (fun xs H Q=>(∃ i,xs=[.int i]/\Q (.int i) H)\/∃ k,xs=[.bl k]/\Q (.int (if k then 1 else 0)) H):=by
 intro pins s σ H xs us Q I r h
 rcases h with ⟨i,rfl,q⟩ | ⟨k,rfl,q⟩
 ·obtain ⟨u,rfl,t,rfl⟩:=vals1 r
  exact call_int_int ⟨.int i,H,I,⟨_,rfl⟩,q⟩
 ·obtain ⟨u,rfl,r1⟩:=vals1 r
  cases r1
  exact call_int_bool ⟨.int (if k then 1 else 0),H,I.tok _,⟨_,rfl⟩,q⟩
end
structure qL9 (h:Heap) (x dx C:Addr) (mA:Str->Option Value):Prop where
 obj:h.get? x=some (VJ C dx)
 ns:h.Ns1 dx mA
 ne:dx≠x
theorem qFz {h:Heap} {dx:Addr} {mA:Str->Option Value} (n:h.Ns1 dx mA):∃ od,h.get? dx=some od/\∀ name,VX name od=some (mA name):=by
 obtain ⟨o,es,ep,ho,hd,hk,_,hm⟩:=n
 refine ⟨o,ho,fun name=>?_⟩
 have e:=hm name
 unfold nsFind findBy at e
 rw [<- Array.find?_toList] at e
 unfold VX
 rw [hd]
 dsimp only
 split
 ·rename_i y q
  rw [q] at e
  exact congrArg some e
 ·rename_i q
  rw [q] at e
  have a:es.toList.any (·.refKey)=false:=by
   rw [List.any_eq_false]
   intro y hy
   obtain ⟨z,t,hkey⟩:=hk y (vU.mp hy)
   simp [DictEntry.refKey,hkey]
  have a':¬ es.toList.any (·.refKey)=true:=by rw [a]; exact wU
  rw [if_neg a']
  exact congrArg some e
theorem qL9.look {h:Heap} {x dx C:Addr} {mA:Str->Option Value} (I:qL9 h x dx C mA):∃ od,PySem.W.InstAt h x (VJ C dx) C (some od)/\∀ name,VX name od=some (mA name):=
 let ⟨od,ho,hl⟩:=qFz I.ns
 ⟨od,⟨I.obj,rfl,rfl,ho⟩,hl⟩
theorem qFQ.some_of {v:V} {o:Option Value} (r:qFQ (some v) o):∃ u,o=some u/\RelV v u:=by
 cases o with
 | none=>exact (show False from r).elim
 | some u=>exact ⟨u,rfl,r⟩
section
variable {P:Program} {w:World} {H H':Hp} {h h':Heap} {a C dx:Addr} {fs fs':List (Str×V)}
theorem qIf (hok:HOk P w H h) (e:H a=some (.ins C dx fs)):∃ mA,qL9 h a dx C mA/\(∀ f,qFQ (fs.lookup f) (mA f))/\PySem.Within mA (fs.map (·.1))/\fs.length<=1000/\H dx=some (.own a):=by
 obtain ⟨d,z,ne,ob,mA,n,r,q⟩:=(show jY P w H h a (.ins C dx fs) from hok a _ e)
 exact ⟨mA,⟨ob,n,ne⟩,r,q,z,d⟩
end
structure Cls (K:wG) (C:Addr):Prop where
 pg:PySem.W.plainGet K C Str.empty=true
 hd:PySem.W.hasDictIn K C=true
 po:PySem.W.plainOver K C=true
 sa:PySem.W.findIn K (.ref C) "__setattr__" = some (some (.builtin "object.__setattr__"))
theorem Cls.get {K:wG} {C:Addr} (c:Cls K C) (f:Str):PySem.W.plainGet K C f=true:=c.pg
section
variable {X:Cx} {pins:List (Addr×Obj)} {σ:St} {H:Hp} {s:Shared} {A:Around} {E:Value->Shared->Prop} {Q:Value->Shared->Prop} {c:Value} {b:Bool}
inductive qCV (K:wG) (H:Hp):V->Value->Prop where
 | non:qCV K H .non (.type "NoneType")
 | bl (x:Bool):qCV K H (.bl x) (.type "bool")
 | int (i:Int):qCV K H (.int i) (.type "int")
 | str (x:Str):qCV K H (.str x) (.type "str")
 | flt (x:UInt64):qCV K H (.flt x) (.type "float")
 | lst {a:Addr} {xs:List V} (e:H a=some (.lst xs)):qCV K H (.ref a) (.type "list")
 | frz {a:Addr} {o:Obj} {xs:List V} (e:H a=some (.frz o (.lst xs))):qCV K H (.ref a) (.type "list")
 | tup {a:Addr} {xs:List V} (e:H a=some (.tup xs)):qCV K H (.ref a) (.type "tuple")
 | dK {a:Addr} {kvs:List (Key×V)} (e:H a=some (.dK kvs)):qCV K H (.ref a) (.type "dict")
 | dT {a:Addr} {kvs:List (List Key×V)} (e:H a=some (.dT kvs)):qCV K H (.ref a) (.type "dict")
 | ins {a C dx:Addr} {fs:List (Str×V)} (e:H a=some (.ins C dx fs)) (cl:Cls K C) (ha:PySem.W.findIn K (.ref C) "__class__" = some (some (.builtin "object.__class__")))
   (hn:PySem.W.specialIn K (.builtin "object.__class__") "__get__" = some (some (.builtin "getset_descriptor.__get__"))) (htk:PySem.W.takesIn K (.builtin "object.__class__")=some true)
   (hm:PySem.W.mroIn K C (.type "object")=some true):qCV K H (.ref a) (.ref C)
theorem qGa {x:V} {u t:Value} (I:Inv X pins σ H s) (rx:RelV x u) (ty:qCV X.K H x t) (e:xI X.K t c=some b) (h:∀ tk,Q (.bool b) { s with toks:=tk }) :
  wpAny (model X.prog X.w) A (call (.builtin "isinstance") [u,c]) Q E s:=by
 cases ty with
 | non=>cases (show u=xF from rx); exact xA PySem.W.kitx_none I.kIn hW e (fun z=>nomatch z) h
 | bl y=>cases (show u=Value.bool y from rx); exact xA PySem.W.kitx_bool I.kIn hW e (fun z=>nomatch z) h
 | int i=>obtain ⟨t,q⟩:=(show ∃ t,u=kD i t from rx); cases q; exact xA PySem.W.kitx_int I.kIn hW e (fun z=>nomatch z) h
 | str y=>obtain ⟨t,q⟩:=(show ∃ t,u=UX y t from rx); cases q; exact xA PySem.W.kitx_str I.kIn hW e (fun z=>nomatch z) h
 | flt y=>obtain ⟨t,q⟩:=(show ∃ t,u=Value.float y t from rx); cases q; exact xA PySem.W.kitx_float I.kIn hW e (fun z=>nomatch z) h
 | @lst a xs ea=>
  cases (show u=yF a from rx)
  obtain ⟨_,_,n,_,h1⟩:=(show jY X.prog X.w H s.heap a (.lst xs) from I.hok a _ ea)
  exact xA PySem.W.kitx_list I.kIn ⟨_,h1,rfl⟩ e (fun z=>nomatch z) h
 | @frz a ob xs ea=>
  cases (show u=yF a from rx)
  obtain ⟨_,_,_,n,_,h1⟩:=(show jY X.prog X.w H s.heap a (.frz ob (.lst xs)) from I.hok a _ ea)
  exact xA PySem.W.kitx_list I.kIn ⟨_,h1,rfl⟩ e (fun z=>nomatch z) h
 | @tup a xs ea=>
  cases (show u=yF a from rx)
  obtain ⟨_,_,_,p⟩:=(show jY X.prog X.w H s.heap a (.tup xs) from I.hok a _ ea)
  obtain ⟨⟨o,h1,h2,_⟩,_⟩:=p
  exact xA PySem.W.kitx_tuple I.kIn ⟨o,h1,h2⟩ e (fun z=>nomatch z) h
 | @dK a kvs ea=>
  cases (show u=yF a from rx)
  obtain ⟨_,_,vs,_,p⟩:=(show jY X.prog X.w H s.heap a (.dK kvs) from I.hok a _ ea)
  obtain ⟨o,es,ep,h1,h2,_⟩:=p
  exact xA PySem.W.kitx_dict I.kIn ⟨o,h1,h2.1⟩ e (fun z=>nomatch z) h
 | @dT a kvs ea=>
  cases (show u=yF a from rx)
  obtain ⟨_,_,xs,_,o,es,ep,h1,h2,_⟩:=(show jY X.prog X.w H s.heap a (.dT kvs) from I.hok a _ ea)
  exact xA PySem.W.kitx_dict I.kIn ⟨o,h1,h2.1⟩ e (fun z=>nomatch z) h
 | @ins a C dx fs ea cl ha hn htk hm=>
  cases (show u=yF a from rx)
  obtain ⟨mA,O,_⟩:=qIf I.hok ea
  obtain ⟨od,J,_⟩:=O.look
  exact xA (PySem.W.kitx_own (cl.get _) cl.hd ha hn htk hm) I.kIn J e (fun z=>nomatch z) h
end
structure Y0 (k:Nat) (A:Around):Prop where
 hd:A.handled=none
 dp:A.depth+3*k+5<recursionLimit
 un:A.units+16*k+200<cLine
theorem Y0.mono {j k:Nat} {A:Around} (r:Y0 k A) (h:j<=k):Y0 j A:=⟨r.hd,by have:=r.dp; omega,by have:=r.un; omega⟩
theorem Y0.deeper {k:Nat} {A:Around} (r:Y0 (k+1) A) (env:Env):Y0 k (A.deeper env):=
 ⟨r.hd,by have:=r.dp; show A.depth+1+3*k+5<_; omega,by have:=r.un; show A.units+3+16*k+200<_; omega⟩
theorem Y0.depth {k:Nat} {A:Around} (r:Y0 k A):A.depth<recursionLimit:=by have:=r.dp; omega
theorem Y0.units {k:Nat} {A:Around} (r:Y0 k A):A.units+64<cLine:=by have:=r.un; omega
noncomputable def qLm:TA:=fun _ H Q=>Q [] H
noncomputable def qHl (ta:TE) (tr:TA):TA:=fun σ H Q=>ta σ H fun x H1=>tr σ H1 fun xs H2=>Q (x::xs) H2
section
variable {X:Cx} {e:Expr} {es:List Expr} {te:TE} {t:TA} {pos:Pos}
theorem qB:PA X [] qLm:=fun _ _ _ _ H Q I h=>WN ⟨[],H,I,.nil,h⟩
theorem qA (ha:PE X e te) (hr:PA X es t) (hs:starEach (e::es) X.env=(false,eval e X.env)::starEach es X.env:=by rfl):PA X (e::es) (qHl te t):=by
 intro pos pins s σ H Q I h
 rw [hs]
 show wpAny _ _ (spliced ((false,eval e X.env)::backTo pos (starEach es X.env))) _ _ s
 refine WB (thn (ha pins s σ H _ I h) fun u s1 ⟨x,H1,I1,r1,q1⟩=>?_)
 exact thn (hr pos pins s1 σ H1 _ I1 q1) fun us s2 ⟨xs,H2,I2,r2,q2⟩=>⟨x::xs,H2,I2,.cons r1 r2,q2⟩
noncomputable def qMk (t:TA):TE:=fun σ H Q=>t σ H fun xs H1=>xs.length<=sizeLine/\∀ p,H1 p=none->Q (.ref p) (upd H1 p (.tup xs))
noncomputable def qMj (t:TA):TE:=fun σ H Q=>t σ H fun xs H1=>xs.length<=sizeLine/\∀ p,H1 p=none->Q (.ref p) (upd H1 p (.lst xs))
theorem qS {x1} (h:PA X es t):PE X (.Tuple es x1 pos) (qMk t):=by
 intro pins s σ H Q I hq
 refine wpAny_Tuple_spliced (thn (h pos pins s σ H _ I hq) fun us s1 ⟨xs,H1,I1,r,z,q⟩=>⟨by rw [<- r.length]; exact z,?_⟩)
 have hf:H1 s1.heap.objs.size=none:=I1.hok.fresh (wK _)
 refine ⟨.ref s1.heap.objs.size,upd H1 s1.heap.objs.size (.tup xs),I1.laid (t':=s1.toks) (fun b u e=>wF _ e) (wK _) ?_,rfl,q _ hf⟩
 exact ⟨z,us,r,⟨_,wR _ rfl,rfl,_,rfl⟩,NoD.new rfl⟩
theorem jM (h:PA X es t):PE X (.List es pos) (qMj t):=by
 intro pins s σ H Q I hq
 refine wpAny_List_spliced (thn (h pos pins s σ H _ I hq) fun us s1 ⟨xs,H1,I1,r,z,q⟩=>⟨by rw [<- r.length]; exact z,?_⟩)
 have hf:H1 s1.heap.objs.size=none:=I1.hok.fresh (wK _)
 refine ⟨.ref s1.heap.objs.size,upd H1 s1.heap.objs.size (.lst xs),I1.laid (t':=s1.toks) (fun b u e=>wF _ e) (wK _) ?_,rfl,q _ hf⟩
 exact ⟨z,us,0,r,wR _ rfl⟩
end
noncomputable abbrev Sp:=List V->Hp->VK->XK->Prop
noncomputable abbrev CXT:=List Env->Hp->Shared->XK->Value->Shared->Prop
structure qLj (P:Program) (w:World) (K:wG) (mg:Str->Option Value) (base:Heap) (A:Around) (outer:List Env) (s:Shared) (H:Hp):Prop where
 frames:A.frames=some outer
 mod:Mod K mg base
 bs:∀ b o,base.get? b=some o->s.heap.get? b=some o/\H b=none
 bsz:base.objs.size<=s.heap.objs.size
 funs:s.heap.FunFrames base outer
 frf:∀ b∈frs outer,H b=none
 hok:HOk P w H s.heap
 bare:AllBare s.gens
noncomputable def CE (outer:List Env) (P:Program) (w:World) (H:Hp) (s:Shared) (Q:VK) (u:Value) (s':Shared):Prop:=
 ∃ v H',s'.os=s.os/\AllBare s'.gens/\Un (frs outer) [] H H' s.heap s'.heap/\HOk P w H' s'.heap/\RelV v u/\Q v H'
noncomputable def CR (CX:CXT) (outer:List Env) (P:Program) (w:World) (H:Hp) (s:Shared) (Q:VK) (E:XK) (r:Result) (s':Shared):Prop:=
 match r with
 | .ok (.ret u)=>CE outer P w H s Q u s'
 | .ok _=>False
 | .error e=>CX outer H s E e s'
structure jo (P:Program) (w:World) (K:wG) (mg:Str->Option Value) (base:Heap) (CX:CXT) (k:Nat) (f:Addr) (fd:FuncData) (ps:List Str) (sp:Sp):Prop where
 len:∀ vs H Q E,sp vs H Q E->vs.length=ps.length
 run:∀(A:Around) (outer:List Env) (s:Shared) (H:Hp) (args:Args) (us:List Value) (vs:List V) (Q:VK) (E:XK),Y0 k A->qLj P w K mg base A outer s H->BindsTo s fd args (ps.zip us)->qt vs us->sp vs H Q E->
  codeAny (model P w) A (.call (.ref f) args) (CR CX outer P w H s Q E) s
section
variable {X:Cx} {pins:List (Addr×Obj)} {σ:St} {H:Hp} {s s':Shared}
theorem Inv.env0 (I:Inv X pins σ H s):qLj X.prog X.w X.K X.mg X.base X.A X.stack s H:=
 ⟨I.ok.frames,I.ok.mod,I.bs,zC I.ok.bsz I.sz,I.stack,I.stkFree,I.hok,I.bare⟩
theorem Inv.after {Q:VK} {u:Value} (I:Inv X pins σ H s) (h:CE X.stack X.prog X.w H s Q u s'):EP X pins σ Q u s':=by
 obtain ⟨v,H',os,bare,un,hok,r,q⟩:=h
 obtain ⟨hh,g,d,t,os'⟩:=s'
 obtain rfl:os'=s.os:=os
 exact ⟨v,H',I.call (h':=hh) (g':=g) (d':=d) (t':=t) (ch:=[]) un hok bare (fun b z=>absurd z (by simp)),r,q⟩
end
noncomputable def qHA (sp:Sp) (dvs:List V) (E:XK) (t:TA):TE:=fun σ H Q=>t σ H fun vs H1=>sp (vs++dvs) H1 Q E
noncomputable def Binds (K:wG) (fd:FuncData) (ps:List Str) (ds:List Value):Prop:=
 ∀(s:Shared) (us:List Value),K.In s.heap->(us++ds).length=ps.length->BindsTo s fd ⟨us,[]⟩ (ps.zip (us++ds))
theorem Binds.all {K:wG} {fd:FuncData} {ps:List Str} (h:∀ us:List Value,us.length=ps.length->bindArgs fd ⟨us,[]⟩=pure (ps.zip us)):Binds K fd ps []:=fun s us _ hl=>by
 rw [zZ] at hl ⊢
 exact .of_eq (h us hl)
noncomputable def qFB (CX:CXT) (X:Cx) (E:XK):Prop:=∀(pins:List (Addr×Obj)) (σ:St) (H:Hp) (s:Shared) (e:Value) (s':Shared),Inv X pins σ H s->CX X.stack H s E e s'->X.xe e s'
section
variable {X:Cx} {CX:CXT} {k:Nat} {f C:Addr} {fd:FuncData} {ps:List Str} {sp:Sp} {dvs:List V} {ds:List Value} {E:XK} {x m:Str} {p pos apos:Pos} {e o:Expr} {es:List Expr} {ta:TE} {t:TA}
theorem qKL {pins:List (Addr×Obj)} {σ:St} {H:Hp} {s:Shared} {Q:VK} {us:List Value} {vs:List V} (F:jo X.prog X.w X.K X.mg X.base CX k f fd ps sp) (hr:Y0 k X.A) (hb:Binds X.K fd ps ds) (hd:qt dvs ds) (hx:qFB CX X E)
  (I:Inv X pins σ H s) (r:qt vs us) (h:sp (vs++dvs) H Q E):wpAny (model X.prog X.w) X.A (call (.ref f) us) (EP X pins σ Q) X.xe s:=by
 have r2:qt (vs++dvs) (us++ds):=r.append hd
 have hl:(us++ds).length=ps.length:=by rw [<- r2.length]; exact F.len _ _ _ _ h
 refine wpAny_call (gC (F.run X.A X.stack s H ⟨us,[]⟩ (us++ds) (vs++dvs) Q E hr I.env0 (hb s us I.kIn hl) r2 h) fun r s' hq=>?_)
 cases r with
 | error e=>exact hx pins σ H s e s' I hq
 | ok fl=>
  cases fl with
  | ret u=>exact I.after hq
  | next=>exact kK hq
  | brk=>exact kK hq
  | cont=>exact kK hq
theorem qJg (F:jo X.prog X.w X.K X.mg X.base CX k f fd ps sp) (hr:Y0 k X.A) (hg:Gl X x) (hm:X.mg x=some (.ref f)) (hk:VY X.K (.ref f)=true) (hb:Binds X.K fd ps ds) (hd:qt dvs ds) (hx:qFB CX X E)
  (ha:PA X (e::es) t) (hdb:(x == ("__debug__" : Str))=false:=by decide) (he:starEach (e::es) X.env=(false,eval e X.env)::starEach es X.env:=by rfl) (hpl:(backTo pos (starEach es X.env)).any (·.1)=false:=by rfl) :
  PE X (.Call (.Name x p) (e::es) [] pos) (qHA sp dvs E t):=by
 intro pins s σ H Q I h
 refine uX (qI4 I hg hm ?_ hdb)
 refine PySem.W.callWith_K (h₀:=X.base) I.ok.mod.kin hk (thn (ha pos pins s σ H _ I h) fun us s1 ⟨vs,H1,I1,r,q⟩=>⟨I1.kIn,?_⟩) he hpl
 exact qKL F hr hb hd hx I1 r q
end
structure qR (N P:List Str) (sc:Scope):Prop where
 kind:sc.kind=.function
 co:sc.isCoroutine=false
 gen:sc.isGenerator=false
 nd:N.Nodup
 pre:N.take P.length=P
 par:∀ x∈P,sc.names.lookup x=some .local\/sc.names.lookup x=some .cell
 nofree:∀ y∈sc.names,y.2≠.free
theorem qBE {kindOf:Str->Option NameKind} {x:Str}:∀{binds:List (Str×Value)} {m:Str->Option Value},(∀ v,(x,v)∉binds)->bindL kindOf binds m x=m x
 | [],_,_=>rfl
 | (n,v)::r,m,h=>by
  unfold bindL
  rw [qBE fun w hw=>h w (wQ _ hw)]
  split
  ·have:x≠n:=by rintro rfl; exact h v wN
   simp [this]
  ·rfl
theorem qBx {kindOf:Str->Option NameKind} {x:Str}:∀{binds:List (Str×Value)} {m:Str->Option Value},(∀ v,(x,v)∉binds)->bindC kindOf binds m x=m x
 | [],_,_=>rfl
 | (n,v)::r,m,h=>by
  unfold bindC
  rw [qBx fun w hw=>h w (wQ _ hw)]
  split
  ·rfl
  ·have:x≠n:=by rintro rfl; exact h v wN
   simp [this]
theorem qBq {kindOf:Str->Option NameKind} {x:Str} {v:Value}:∀{P:List Str} {vs:List Value} {i:Nat} {m:Str->Option Value},P.Nodup->P[i]? = some x->vs[i]? = some v->kindOf x=some .local->
  bindL kindOf (P.zip vs) m x=some v
 | [],_,_,_,_,h,_,_=>by simp at h
 | _::_,[],_,_,_,_,h,_=>by simp at h
 | p::P,w::vs,0,m,nd,h1,h2,hk=>by
  simp at h1 h2; subst h1; subst h2
  show bindL kindOf ((p,w)::P.zip vs) m p=_
  unfold bindL
  rw [qBE fun v hv=>(vE.mp nd).1 (VL hv).1,if_pos hk]
  simp
 | p::P,w::vs,i+1,m,nd,h1,h2,hk=>by
  show bindL kindOf ((p,w)::P.zip vs) m x=_
  unfold bindL
  exact qBq (i:=i) (vE.mp nd).2 (by simpa using h1) (by simpa using h2) hk
theorem qCK {kindOf:Str->Option NameKind} {x:Str} {v:Value}:∀{P:List Str} {vs:List Value} {i:Nat} {m:Str->Option Value},P.Nodup->P[i]? = some x->vs[i]? = some v->kindOf x≠some .local->
  bindC kindOf (P.zip vs) m x=some v
 | [],_,_,_,_,h,_,_=>by simp at h
 | _::_,[],_,_,_,_,h,_=>by simp at h
 | p::P,w::vs,0,m,nd,h1,h2,hk=>by
  simp at h1 h2; subst h1; subst h2
  show bindC kindOf ((p,w)::P.zip vs) m p=_
  unfold bindC
  rw [qBx fun v hv=>(vE.mp nd).1 (VL hv).1,if_neg hk]
  simp
 | p::P,w::vs,i+1,m,nd,h1,h2,hk=>by
  show bindC kindOf ((p,w)::P.zip vs) m x=_
  unfold bindC
  exact qCK (i:=i) (vE.mp nd).2 (by simpa using h1) (by simpa using h2) hk
noncomputable def start (N:List Str) (vs:List V):St:=vs.map some++wX (N.length - vs.length) none
noncomputable def qH9 (CX:CXT) (P:Program) (w:World) (K:wG) (mg:Str->Option Value) (base:Heap) (N:List Str) (qual:Str) (scope:Scope) (f:Addr) (cd:Value) (A:Around) (outer:List Env) (s:Shared) (H:Hp) (E:XK):Cx where
 prog:=P
 w:=w
 K:=K
 mg:=mg
 base:=base
 A:=A.deeper (envOfC qual scope s.heap.objs.size f cd)
 N:=N
 s₀:=s
 H₀:=H
 env:=envOfC qual scope s.heap.objs.size f cd
 outer:=outer
 stack:=envOfC qual scope s.heap.objs.size f cd::outer
 ex:=[]
 calm:=true
 fn:=fun _=>true
 pn:=[]
 xe:=fun e s'=>wpAny (model P w) (A.deeper (envOfC qual scope s.heap.objs.size f cd)) (leaving (envOfC qual scope s.heap.objs.size f cd) e) (fun _ s''=>CX outer H s E e s'') (fun e' s''=>CX outer H s E e' s'') s'
theorem J5 {sc:Scope} {n:Nat} {x:Str} (h:sc.names.lookup x=some .cell):∃ c,(cellsFrom n sc.names []).lookup x=some c:=by
 have q:=PySem.W.cellsFrom_some sc.names n [] (.inl h)
 exact UL.mp q
theorem qFN {CX:CXT} {P:Program} {w:World} {K:wG} {mg:Str->Option Value} {base:Heap} {N ps:List Str} {qual:Str} {scope:Scope} {f:Addr} {cd:Value} {A:Around} {outer:List Env} {s s1:Shared} {H:Hp} {E:XK} {us:List Value} {vs:List V}
  (S:qR N ps scope) (hd:A.handled=none) (e0:qLj P w K mg base A outer s H) (hl:vs.length=ps.length) (r:qt vs us)
  (x:InCallC s s.heap.objs.size (bindL (envOfC qual scope s.heap.objs.size f cd).kindOf (ps.zip us) fun _=>none) (cellsFrom (s.heap.objs.size+1) scope.names []) (bindC (envOfC qual scope s.heap.objs.size f cd).kindOf (ps.zip us) fun _=>none) s1) :
  Inv (qH9 CX P w K mg base N qual scope f cd A outer s H E) [] (start N vs) H s1:=by
 have hpl:ps.length<=N.length:=by have:=congrArg fJ S.pre; rw [yW] at this; omega
 obtain ⟨h1,tk,rfl,hk⟩:=x.done
 have noA:∀ b:Addr,b∉(qH9 CX P w K mg base N qual scope f cd A outer s H E).ex:=fun b z=>absurd (show b∈([]:List Addr) from z) (by simp)
 refine ⟨⟨e0.mod,S.kind,rfl,rfl,wK _,fun y z c h1 h2=>?_,fun y hy=>?_,fun y c _ h=>?_,fun _=>hd,Around.frames_deeper e0.frames,.inr ⟨rfl,rfl⟩,fun b z=>absurd z (noA b),e0.bs,e0.bsz,fun b _ _=>noA b,fun b z=>absurd z (noA b),e0.funs,e0.frf⟩,
  rfl,e0.bare,Un.kept hk,⟨_,x.toInCall.ns,fun i y v h1 h2 h3=>?_⟩,fun y c h=>⟨_,x.cell y c h⟩,e0.hok.fresh (wK _),fun y c h=>?_,fun p hp=>absurd (show p∈([]:List (Addr×Obj)) from hp) (by simp),e0.hok.kept hk,?_⟩
 ·exact name_of_addr x.apart (vN h1) (vN h2)
 ·have hy:scope.names.lookup y=some .cell\/scope.names.lookup y=some .free:=hy
  rcases hy with hy | hy
  ·exact J5 hy
  ·exact absurd rfl (S.nofree _ (vN hy))
 ·exact vQ (x.above y c (vN h))
 ·have hi:i<vs.length:=by
   unfold start at h2
   by_cases hi:i<vs.length
   ·exact hi
   ·rw [yC (by simpa using hi)] at h2
    rw [fV] at h2
    split at h2 <;> cases h2
  have ha:vs[i]? = some v:=by
   unfold start at h2
   rw [vH (by simpa using hi),wI] at h2
   cases e:vs[i]? with
   | none=>rw [e] at h2; cases h2
   | some a=>rw [e] at h2; cases h2; rfl
  obtain ⟨u,hu,rv⟩:=r.get ha
  have hp:ps[i]? = some y:=by
   rw [<- S.pre,List.getElem?_take_of_lt (by omega)]; exact h1
  have ndP:ps.Nodup:=by rw [<- S.pre]; exact S.nd.sublist (fK _ _)
  refine ⟨u,rv,?_⟩
  rcases S.par y (yT hp) with k | k
  ·exact .inl ⟨k,qBq ndP hp hu k⟩
  ·obtain ⟨c,e⟩:=J5 (n:=s.heap.objs.size+1) k
   refine .inr ⟨.inl k,c,e,?_⟩
   have q:=x.cell y c e
   rw [qCK ndP hp hu (by show scope.names.lookup y≠_; rw [k]; decide)] at q
   exact q
 ·exact e0.hok.fresh (vQ (x.above y c (vN h)))
 ·unfold start
  show _=N.length
  rw [wM,wA,zO]
  omega
theorem qMF {CX:CXT} {P:Program} {w:World} {K:wG} {mg:Str->Option Value} {base:Heap} {k:Nat} {f:Addr} {name qual:Str} {params:Arguments} {body:List Stmt} {scope:Scope} {dV kV doc pm cdv ct oc:Value} {an od:Option Addr}
  {osl:Array (Option Value)} {N ps:List Str} {sp:Sp} (lk:K.lookup f=some ⟨oc,od,.func (kO name qual params body scope dV kV doc pm an cdv ct),osl⟩) (hcd:VZ K cdv qual=true) (S:qR N ps scope)
  (len:∀ vs H Q E,sp vs H Q E->vs.length=ps.length)
  (hbody:∀(A:Around) (outer:List Env) (s:Shared) (H:Hp) (vs:List V) (Q:VK) (E:XK),Y0 k (A.deeper (envOfC qual scope s.heap.objs.size f cdv))->sp vs H Q E->
   ∃ t,PSs (qH9 CX P w K mg base N qual scope f cdv A outer s H E) body t/\t { nx:=fun _ H'=>Q .non H',rt:=Q } (start N vs) H) :
  jo P w K mg base CX (k+1) f (kO name qual params body scope dV kV doc pm an cdv ct) ps sp:=by
 refine ⟨len,fun A outer s H args us vs Q E hr e0 hb r hsp=>?_⟩
 have hl:=len _ _ _ _ hsp
 have KX:K.In s.heap:=e0.mod.kin.keeps fun b o e=>(e0.bs b o e).1
 have lim:s.heap.NoLimit:=e0.mod.nolimit.keeps fun b o e=>(e0.bs b o e).1
 have hkind:∀ y∈ps.zip us,scope.names.lookup y.1=some .local\/(scope.names.lookup y.1=some .cell/\((cellsFrom (s.heap.objs.size+1) scope.names []).lookup y.1).isSome=true):=fun ⟨n,v⟩ hy=>by
  rcases S.par n (VL hy).1 with q | q
  ·exact .inl q
  ·exact .inr ⟨q,PySem.W.cellsFrom_some _ _ _ (.inl q)⟩
 refine codeAny_call_function hr.depth (KX _ _ lk) rfl S.co S.gen rfl (PySem.W.codeRec_of KX hcd) (hb _ _ _ _ ?_)
 refine wpAny_newFunctionEnv_cells S.kind hkind fun env he s1 x=>?_
 subst he
 refine ⟨lim.keeps x.toInCall.keep,codeAny_func ?_⟩
 obtain ⟨t,ht,hq⟩:=hbody A outer s H vs Q E (hr.deeper _) hsp
 have I:Inv (qH9 CX P w K mg base N qual scope f cdv A outer s H E) [] (start N vs) H s1:=qFN S hr.hd e0 hl r x
 refine xW (ht [] s1 (start N vs) H _ I hq) (fun fl s' hs=>?_) fun e s' hs=>hs
 have fin:∀{σ':St} {H':Hp} {v:V} {u:Value},Inv (qH9 CX P w K mg base N qual scope f cdv A outer s H E) [] σ' H' s'->RelV v u->Q v H'->CE outer P w H s Q u s':=
  fun {σ' H' v u} J rv q=>⟨v,H',J.os,J.bare,J.base,J.hok,rv,q⟩
 cases fl with
 | ret u=>
  obtain ⟨v,σ',H',J,rv,q⟩:=hs
  exact fin J rv q
 | next=>
  obtain ⟨σ',H',J,q⟩:=hs
  exact fin (v:=V.non) (u:=xF) J rfl q
 | brk=>
  obtain ⟨_,_,_,q⟩:=hs
  exact kK q
 | cont=>
  obtain ⟨_,_,_,q⟩:=hs
  exact kK q
section
variable {X:Cx} {x:Str} {p pos:Pos} {e:Expr} {es:List Expr} {t:TA} {id T:String} {r:List V->Hp->VK->Prop}
noncomputable def tCB (r:List V->Hp->VK->Prop) (t:TA):TE:=fun σ H Q=>t σ H fun vs H1=>r vs H1 Q
theorem qF (hc:QB X (.builtin id) r) (hg:Gl X x) (hm:X.mg x=none) (hv:bootBuiltins x=some (.builtin id)) (ha:PA X (e::es) t) (hn:x≠"__name__":=by decide) (hdb:(x == ("__debug__" : Str))=false:=by decide)
  (he:starEach (e::es) X.env=(false,eval e X.env)::starEach es X.env:=by rfl) (hpl:(backTo pos (starEach es X.env)).any (·.1)=false:=by rfl):PE X (.Call (.Name x p) (e::es) [] pos) (tCB r t):=by
 intro pins s σ H Q I h
 refine uX (JT I hg hm hv ?_ hn hdb)
 exact gN (thn (ha pos pins s σ H _ I h) fun us s1 ⟨vs,H1,I1,r1,q1⟩=>hc pins s1 σ H1 vs us Q I1 r1 q1) he hpl
theorem qp (hc:QB X (.type T) r) (hg:Gl X x) (hm:X.mg x=none) (hv:bootBuiltins x=some (.type T)) (ha:PA X (e::es) t) (hn:x≠"__name__":=by decide) (hdb:(x == ("__debug__" : Str))=false:=by decide)
  (he:starEach (e::es) X.env=(false,eval e X.env)::starEach es X.env:=by rfl) (hpl:(backTo pos (starEach es X.env)).any (·.1)=false:=by rfl):PE X (.Call (.Name x p) (e::es) [] pos) (tCB r t):=by
 intro pins s σ H Q I h
 refine uX (JT I hg hm hv ?_ hn hdb)
 exact xY (thn (ha pos pins s σ H _ I h) fun us s1 ⟨vs,H1,I1,r1,q1⟩=>hc pins s1 σ H1 vs us Q I1 r1 q1) he hpl
end
end L2
namespace HT
open PySem PyProof.Rows
noncomputable def lexLt:List Int->List Int->Bool
 | [],[]=>false
 | [],_::_=>true
 | _::_,[]=>false
 | x::xs,y::ys=>if x=y then lexLt xs ys else decide (x<y)
theorem lexLt_cons (x y:Int) (xs ys:List Int):lexLt (x::xs) (y::ys)=if x=y then lexLt xs ys else decide (x<y):=rfl
theorem lexLt_nil_nil:lexLt [] []=false:=rfl
theorem lexLt_nil_cons (y:Int) (ys:List Int):lexLt [] (y::ys)=true:=rfl
theorem lexLt_cons_nil (x:Int) (xs:List Int):lexLt (x::xs) []=false:=rfl
theorem eqAt_int (A:Around) (s:Shared) (a:Int) (t:Tok) (c:Int) (u:Tok):∃ e,gZ A s (.int a t) (.int c u) e/\(e=true↔a=c):=
 ⟨(a == c),SeqAt.EqAt.int_int a t c u,by simp⟩
theorem rcLt_int (A:Around) (s:Shared) (a:Int) (t:Tok) (c:Int) (u:Tok) (prog:Program) (w:World) (E:Value->Shared->Prop) (Q:Value->Shared->Prop) (h:Q (.bool (decide (a<c))) s) :
  wpAny (model prog w) A (richCompare .Lt (.int a t) (.int c u)) Q E s:=
 (PyProof.Rows.lt_int h:wpAny (model prog w) A (compareOp .Lt (.int a t) (.int c u)) Q E s)
section
open PySem.SeqAt
open PySem.AutoSeq1 (wpAny_loadPart')
open PySem.MeetsSeq PySem.MeetsSeq2 PySem.MeetsSeq3
end
section
variable {prog:Program} {w:World} {A:Around} {E:Value->Shared->Prop} {s:Shared}
theorem cat_tup {t b:Addr} {vs ws:List Value} {Q:Value->Shared->Prop} (ht:IsTup s.heap t vs.toArray) (hb:IsTup s.heap b ws.toArray) (hv:vs≠[])
  (h1:ws=[]->Q (.ref t) s) (h2:ws≠[]->Q (.ref s.heap.objs.size) { s with heap:=s.heap.push { cls:=.type "tuple",data:=.seq (vs++ws).toArray } })
  (hsz:vs.length+ws.length<=sizeLine):wpAny (model prog w) A (binaryOp .Add (.ref t) (.ref b)) Q E s:=by
 obtain ⟨⟨cls,dd,data,sl⟩,ho,hc,n,hd⟩:=id ht
 obtain ⟨⟨cls2,dd2,data2,sl2⟩,ho2,hc2,n2,hd2⟩:=id hb
 simp only at hc hd hc2 hd2
 subst hc hd hc2 hd2
 have e:vs.toArray++ws.toArray=(vs++ws).toArray:=by simp
 by_cases hw:ws=[]
 ·exact WO ⟨_,ho,rfl⟩ ⟨_,ho2,rfl⟩ WZ UM ZE fW (fR _ _)
   (tuple_addW1 t b vs.toArray ws.toArray n n2 dd dd2 sl sl2 (by simpa using hv) (by simp [hw])) ⟨ho,ho2,h1 hw⟩
 ·refine WO ⟨_,ho,rfl⟩ ⟨_,ho2,rfl⟩ WZ UM ZE fW (fR _ _)
   (tuple_addW2 t b vs.toArray ws.toArray n n2 dd dd2 sl sl2 (by simpa using hv) (by simpa using hw) (by rw [wJ,wJ]; exact hsz)) ⟨ho,ho2,?_⟩
  rw [e]
  exact h2 hw
noncomputable def sIx (n d:Nat):Option Int->Nat
 | none=>d
 | some v=>if v<0 then (v+(n:Int)).toNat else min v.toNat n
theorem sIx_none (n d:Nat):sIx n d none=d:=rfl
theorem sIx_nat (n d k:Nat):sIx n d (some (k:Int))=min k n:=by
 show (if (k:Int)<0 then ((k:Int)+(n:Int)).toNat else min (k:Int).toNat n)=min k n
 rw [if_neg (by omega),yG]
theorem qLD (n d:Nat) (hd:d<=n) (o:Option Int):sIx n d o<=n:=by
 cases o with
 | none=>exact hd
 | some v=>
  show (if v<0 then (v+(n:Int)).toNat else min v.toNat n)<=n
  by_cases hv:v<0
  ·rw [if_pos hv]; omega
  ·rw [if_neg hv]; exact Nat.min_le_right _ _
theorem qGf (v:Int) (n d:Nat):(if v<0 then max (v+(n:Int)) 0 else min v (n:Int))=((sIx n d (some v):Nat):Int):=by
 show (if v<0 then max (v+(n:Int)) 0 else min v (n:Int))=(((if v<0 then (v+(n:Int)).toNat else min v.toNat n):Nat):Int)
 by_cases hv:v<0
 ·simp only [if_pos hv]; omega
 ·simp only [if_neg hv]; omega
theorem qEV (lo hi:Option Int) (n:Nat):yN lo hi 1 (n:Int)=(((sIx n 0 lo:Nat):Int),((sIx n n hi:Nat):Int)):=by
 have h1:¬ ((1:Int)<0):=by omega
 unfold yN
 simp only [h1,if_false]
 refine Prod.ext ?_ ?_
 ·cases lo with
  | none=>rfl
  | some v=>exact qGf v n 0
 ·cases hi with
  | none=>rfl
  | some v=>exact qGf v n n
theorem qET (i j:Nat):zT (i:Int) (j:Int) 1=j - i:=by
 unfold zT
 have h1:(1:Int) > 0:=by omega
 simp only [h1,if_true,Int.ediv_one]
 split <;> omega
theorem qAQ {v:Value} {o:Option Int} {Q:Option Int->Shared->Prop} (p:IsPart v o) (h:Q o s):wpAny (model prog w) A (Builtin.Slice.slicePartIndex v) Q E s:=by
 cases p with
 | none=>exact slicePart_none h
 | int i t=>exact slicePart_int h
theorem Qb {sl:Addr} {vl vu:Value} {lo hi:Option Int} {n:Nat} {Q:Int×Int×Nat->Shared->Prop} (hs:s.heap.IsSliceOf sl vl vu .none) (pl:IsPart vl lo) (pu:IsPart vu hi)
  (h:Q (((sIx n 0 lo:Nat):Int),1,sIx n n hi - sIx n 0 lo) s):wpAny (model prog w) A (xJ (.ref sl) (pure (n:Int))) Q E s:=by
 obtain ⟨os,hos,hcs,hds⟩:=id hs
 unfold xJ fI
 refine wB (wB (uD hos hds (x:=vl) rfl (wB (uD hos hds (x:=vu) rfl (wB (uD hos hds (x:=.none) rfl (wD ?_)))))))
 refine wB (slicePart_none ?_)
 show wpAny _ _ (if ((1:Int) == 0)=true then _ else _) _ _ s
 rw [if_neg (by decide)]
 refine wB (qAQ pl (wB (qAQ pu (wB (wD ?_)))))
 show wpAny _ _ (match yN lo hi 1 (n:Int) with | (lo,hi)=>pure (lo,(1:Int),zT lo hi 1)) _ _ s
 rw [qEV lo hi n]
 show wpAny _ _ (pure (((sIx n 0 lo:Nat):Int),(1:Int),zT ((sIx n 0 lo:Nat):Int) ((sIx n n hi:Nat):Int) 1)) _ _ s
 rw [qET]
 exact wD h
theorem qHf (xs:Array Value) (i k:Nat):((wO k).filterMap fun (m:Nat)=>xs[((i:Int)+(m:Int)*1).toNat]?).toArray=((xs.toList.drop i).take k).toArray:=by
 have e:(fun (m:Nat)=>xs[((i:Int)+(m:Int)*1).toNat]?)=fun m=>xs[i+m]?:=by
  funext m
  have:((i:Int)+(m:Int)*1).toNat=i+m:=by omega
  rw [this]
 rw [e]
 have:=pick_run xs i k
 rw [List.filterMap_map] at this
 have e2:((fun x=>xs[x]?)∘fun x=>i+x)=fun m=>xs[i+m]?:=rfl
 rw [e2] at this
 rw [this]
theorem getItem_tuple_cut {t sl:Addr} {items:Array Value} {vl vu:Value} {lo hi:Option Int} {Q:Value->Shared->Prop} (ht:IsTup s.heap t items) (hs:s.heap.IsSliceOf sl vl vu .none) (pl:IsPart vl lo) (pu:IsPart vu hi)
  (hw:¬ (sIx items.size 0 lo=0/\sIx items.size items.size hi=items.size))
  (h:Q (.ref s.heap.objs.size) { s with heap:=s.heap.push { cls:=.type "tuple",data:=.seq ((items.toList.drop (sIx items.size 0 lo)).take (sIx items.size items.size hi - sIx items.size 0 lo)).toArray } })
  (hsz:items.size<=sizeLine):wpAny (model prog w) A (getItem (.ref t) (.ref sl)) Q E s:=by
 have htake:sizeOk (.seq ((items.toList.drop (sIx items.size 0 lo)).take (sIx items.size items.size hi - sIx items.size 0 lo)).toArray):=by
  show ((items.toList.drop (sIx items.size 0 lo)).take (sIx items.size items.size hi - sIx items.size 0 lo)).toArray.size<=sizeLine
  rw [wJ,yW,yI,wH]
  omega
 have hj:sIx items.size items.size hi<=items.size:=qLD _ _ (wK _) hi
 obtain ⟨os,hos,hcs,hds⟩:=id hs
 have hTs:s.TypeIs (.ref sl) "slice":=⟨os,hos,hcs⟩
 unfold getItem
 try with_reducible refine yS ?_
 first | refine wB (wD ?_) | skip
 refine wB (fL ht.typeIs (by decide) ?_)
 refine wB (yL (name:=xB "__getitem__") ht.typeIs zL
  (zW zL ht.typeIs entry_tuple_getitem ?_ (args_tuple_getitem _ _)))
 show wpAny _ _ (kL (.ref t) >>= _) _ _ s
 refine wB (tupleItemsOf_ ht ?_)
 refine wB (xZ hTs ?_)
 rw [if_pos (by decide)]
 refine wB (Qb hs pl pu ?_)
 have hno:¬ ((((sIx items.size 0 lo:Nat):Int) == 0 && (1:Int) == 1 && (sIx items.size items.size hi - sIx items.size 0 lo) == items.size)=true):=by
  intro q
  rw [zY,zY] at q
  have q1:((sIx items.size 0 lo:Nat):Int)=0:=eq_of_beq q.1.1
  have q2:sIx items.size items.size hi - sIx items.size 0 lo=items.size:=eq_of_beq q.2
  exact hw ⟨by omega,by omega⟩
 show wpAny _ _ (if (((sIx items.size 0 lo:Nat):Int) == 0 && (1:Int) == 1 && (sIx items.size items.size hi - sIx items.size 0 lo) == items.size)=true then _ else _) _ _ s
 rw [if_neg hno,qHf]
 first
  | exact wB (m:=yU _) (yD (wD ⟨_,rfl,wD h⟩) htake)
  | exact wB (m:=yU _) (yD (wB (wD (wD ⟨_,rfl,wD h⟩))) htake)
  | exact wB (wB (m:=yU _) (yD (wD (wD ⟨_,rfl,wD h⟩)) htake))
  | exact wB (wB (m:=yU _) (yD (wD ⟨_,rfl,wD h⟩) htake))
end
end HT
namespace L2
open PySem PySem.Spec PyProof.Rows
noncomputable abbrev TO:=St->Hp->(Option Int->Hp->Prop)->Prop
noncomputable def PO (X:Cx) (e:Option Expr) (t:TO):Prop:=
 ∀(pins:List (Addr×Obj)) (s:Shared) (σ:St) (H:Hp) (Q:Option Int->Hp->Prop),Inv X pins σ H s->t σ H Q->
  wpAny (model X.prog X.w) X.A (evalPart e X.env) (fun u s'=>∃ o H',Inv X pins σ H' s'/\IsPart u o/\Q o H') X.xe s
noncomputable def qFb:TO:=fun _ H Q=>Q none H
noncomputable def qKf (t:TE):TO:=fun σ H Q=>t σ H fun x H1=>∃ i,x=.int i/\Q (some i) H1
theorem intsAre_of {ns:List Int}:∀{us:List Value},qt (ns.map V.int) us->IntsAre us ns:=by
 induction ns with
 | nil=>intro us r; rw [ZF] at r; cases r; exact .nil
 | cons n ns ih=>
  intro us r
  rw [yV] at r
  cases r with
  | cons r1 r2=>
   obtain ⟨t,e⟩:=r1
   subst e
   exact .cons n t (ih r2)
section
variable {X:Cx} {e:Expr} {te:TE} {lo hi:Option Expr} {tl th:TO} {pos p2:Pos}
theorem jO:PO X none qFb:=by
 intro pins s σ H Q I h
 rw [ZX]
 exact wD ⟨none,H,I,.none,h⟩
theorem jG (h:PE X e te):PO X (some e) (qKf te):=by
 intro pins s σ H Q I hw
 rw [ZY]
 refine thn (h pins s σ H _ I hw) fun u s1 ⟨x,H1,I1,r1,q1⟩=>?_
 obtain ⟨i,rfl,q⟩:=q1
 obtain ⟨t,rfl⟩:=r1
 exact ⟨some i,H1,I1,.int i t,q⟩
noncomputable def SlR (X:Cx) (r:V->Option Int->Option Int->Hp->VK->Prop):Prop:=
 ∀(pins:List (Addr×Obj)) (s:Shared) (σ:St) (H:Hp) (x:V) (v vl vu:Value) (lo hi:Option Int) (sl:Addr) (Q:VK),Inv X pins σ H s->RelV x v->s.heap.IsSliceOf sl vl vu .none->IsPart vl lo->IsPart vu hi->r x lo hi H Q->
  ∃ T id,typeLookup (.type T) "__getitem__" = pure (some (.builtin id))/\s.TypeIs v T/\wpAny (model X.prog X.w) X.A (getItem v (.ref sl)) (EP X pins σ Q) X.xe s
theorem SlR.or {r r':V->Option Int->Option Int->Hp->VK->Prop} (h:SlR X r) (h':SlR X r'):SlR X (fun x lo hi H Q=>r x lo hi H Q\/r' x lo hi H Q):=by
 intro pins s σ H x v vl vu lo hi sl Q I rx hs pl pu q
 rcases q with q | q
 ·exact h pins s σ H x v vl vu lo hi sl Q I rx hs pl pu q
 ·exact h' pins s σ H x v vl vu lo hi sl Q I rx hs pl pu q
noncomputable def tSl (r:V->Option Int->Option Int->Hp->VK->Prop) (te:TE) (tl th:TO):TE:=fun σ H Q=>te σ H fun x H1=>tl σ H1 fun l H2=>th σ H2 fun u H3=>r x l u H3 Q
theorem qv {r:V->Option Int->Option Int->Hp->VK->Prop} (hr:SlR X r) (he:PE X e te) (hl:PO X lo tl) (hu:PO X hi th):PE X (.Subscript e (.Slice lo hi none p2) pos) (tSl r te tl th):=by
 intro pins s σ H Q I h
 refine Subscript_ (thn (he pins s σ H _ I h) fun v s1 ⟨x,H1,I1,r1,q1⟩=>?_)
 refine wpAny_Slice (thn (hl pins s1 σ H1 _ I1 q1) fun vl s2 ⟨l,H2,I2,pl,q2⟩=>thn (hu pins s2 σ H2 _ I2 q2) fun vu s3 ⟨u,H3,I3,pu,q3⟩=>?_)
 rw [ZX]
 refine wD ?_
 have I4:Inv X pins σ H3 { s3 with heap:=s3.heap.push { cls:=.type "slice",data:=.fields #[vl,vu,.none] } }:=I3.kept (t':=s3.toks) fun b ob q=>wF _ q
 obtain ⟨T,id,hT,ht,hg⟩:=hr pins { s3 with heap:=s3.heap.push { cls:=.type "slice",data:=.fields #[vl,vu,.none] } } σ H3 x v vl vu l u s3.heap.objs.size Q I4 r1 (WC ..) pl pu q3
 show wpAny (model X.prog X.w) X.A (subscriptTail e (.Slice lo hi none p2) v (.ref s3.heap.objs.size)) (EP X pins σ Q) X.xe { s3 with heap:=s3.heap.push { cls:=.type "slice",data:=.fields #[vl,vu,.none] } }
 exact tail_any (ops:=[.ref s3.heap.objs.size,v]) ht hT hg (by with_unfolding_all rfl)
noncomputable def qGx (xs:List V) (lo hi:Option Int):List V:=(xs.drop (HT.sIx xs.length 0 lo)).take (HT.sIx xs.length xs.length hi - HT.sIx xs.length 0 lo)
theorem YM (xs:List V) (lo hi:Option Int):(qGx xs lo hi).length<=xs.length:=by
 unfold qGx
 rw [yW,yI]
 omega
noncomputable def qNR (K:wG):V->Option Int->Option Int->Hp->VK->Prop:=fun x lo hi H Q=>∃ a xs,x=.ref a/\SqT K H a xs/\
 ¬ (HT.sIx xs.length 0 lo=0/\HT.sIx xs.length xs.length hi=xs.length)/\∀ p,H p=none->Q (.ref p) (upd H p (.tup (qGx xs lo hi)))
theorem qLW:SlR X (qNR X.K):=by
 intro pins s σ H x v vl vu lo hi sl Q I rx hs pl pu h
 obtain ⟨a,xs,rfl,hx,hw,q⟩:=h
 cases rx
 obtain ⟨its,r,ht,hz⟩:=I.tuple hx
 have hlen:its.toArray.size=xs.length:=by rw [wJ]; exact r.length.symm
 refine ⟨"tuple",_,zL.lookup,ht.typeIs,?_⟩
 refine HT.getItem_tuple_cut ht hs pl pu (by rw [hlen]; exact hw) ?_ (by rw [hlen]; exact hz)
 rw [hlen]
 refine ⟨.ref s.heap.objs.size,_,I.laid (t':=s.toks) (o:=.tup (qGx xs lo hi)) (fun b ob q=>wF _ q) (wK _) ?_,rfl,q _ (I.hok.fresh (wK _))⟩
 exact ⟨zC (YM xs lo hi) hz,_,(r.drop (HT.sIx xs.length 0 lo)).take (HT.sIx xs.length xs.length hi - HT.sIx xs.length 0 lo),IsTup.new _ _,NoD.new rfl⟩
noncomputable def qL0 (K:wG):R2:=fun x y H Q=>∃ a b xs ys,x=.ref a/\y=.ref b/\SqT K H a xs/\SqT K H b ys/\xs≠[]/\xs.length+ys.length<=sizeLine/\
 (ys=[]->Q (.ref a) H)/\(ys≠[]->∀ p,H p=none->Q (.ref p) (upd H p (.tup (xs++ys))))
theorem qt.nil_iff {xs:List V} {us:List Value} (r:qt xs us):us=[]↔xs=[]:=by
 cases r with
 | nil=>simp
 | cons _ _=>simp
theorem qIw:OpR X (binaryOp .Add) (qL0 X.K):=by
 intro pins s σ H x y v u Q I rx ry h
 obtain ⟨a,b,xs,ys,rfl,rfl,ha,hb,hx,hz,q1,q2⟩:=h
 cases rx
 cases ry
 obtain ⟨its,r1,p1,_⟩:=I.tuple ha
 obtain ⟨its2,r2,p2,_⟩:=I.tuple hb
 refine HT.cat_tup p1 p2 (fun z=>hx (r1.nil_iff.mp z)) (fun z=>⟨.ref a,H,I,rfl,q1 (r2.nil_iff.mp z)⟩) (fun z=>?_) (by rw [<- r1.length,<- r2.length]; exact hz)
 refine ⟨.ref s.heap.objs.size,_,I.laid (t':=s.toks) (o:=.tup (xs++ys)) (fun b ob q=>wF _ q) (wK _) ?_,rfl,q2 (fun w=>z (r2.nil_iff.mpr w)) _ (I.hok.fresh (wK _))⟩
 exact ⟨by rw [wM]; exact hz,_,r1.append r2,IsTup.new _ _,NoD.new rfl⟩
end
noncomputable def ixN (n:Nat) (i:Int):Option Nat:=if 0<=i then (if i<n then some i.toNat else none) else if -(n:Int)<=i then some (i+n).toNat else none
noncomputable def atI {α:Type} (xs:List α) (i:Int):Option α:=(ixN xs.length i).bind fun j=>xs[j]?
theorem qCd {n:Nat} {i:Int} {j:Nat} (h:ixN n i=some j):seqIndex? i n=some j/\j<n/\-(n:Int)<=i/\i<n:=by
 unfold ixN at h
 by_cases h0:0<=i
 ·rw [if_pos h0] at h
  by_cases h1:i<n
  ·rw [if_pos h1] at h
   have e:i.toNat=j:=zF h
   exact ⟨by rw [seqIndex_of h0 h1,e],by omega,by omega,h1⟩
  ·rw [if_neg h1] at h; cases h
 ·rw [if_neg h0] at h
  by_cases h1 : -(n:Int)<=i
  ·rw [if_pos h1] at h
   have e:(i+n).toNat=j:=zF h
   exact ⟨by rw [seqIndex_neg (by omega) h1,e],by omega,h1,by omega⟩
  ·rw [if_neg h1] at h; cases h
theorem qCY {α:Type} {xs:List α} {i:Int} {v:α} (h:atI xs i=some v):∃ j,seqIndex? i xs.length=some j/\xs[j]? = some v/\j<xs.length/\-(xs.length:Int)<=i/\i<xs.length:=by
 unfold atI at h
 cases e:ixN xs.length i with
 | none=>rw [e] at h; cases h
 | some j=>
  rw [e] at h
  obtain ⟨h1,h2,h3,h4⟩:=qCd e
  exact ⟨j,h1,h,h2,h3,h4⟩
theorem jz {α:Type} {xs:List α} {j:Nat} {v:α} (h:xs[j]? = some v):atI xs (j:Int)=some v:=by
 have hj:j<xs.length:=(wL.mp h).1
 have e:ixN xs.length (j:Int)=some j:=by
  unfold ixN
  rw [if_pos (by omega),if_pos (by omega)]; simp
 unfold atI; rw [e]; exact h
theorem qG3 {α:Type} (xs:List α) (v:α):atI (xs++[v]) (-1)=some v:=by
 have hl:(xs++[v]).length=xs.length+1:=by simp
 have e:ixN (xs++[v]).length (-1)=some xs.length:=by
  unfold ixN
  rw [hl,if_neg (by decide),if_pos (by omega)]
  congr 1
  omega
 unfold atI
 rw [e]
 show (xs++[v])[xs.length]? = some v
 simp
noncomputable def qEj (b:Expr):Prop:=∀ o i,subscripted b false o i=operate [o,i] (getItem o i)
noncomputable def IxR (X:Cx) (r:R2):Prop:=
 ∀(value slice:Expr) (pins:List (Addr×Obj)) (s:Shared) (σ:St) (H:Hp) (x y:V) (v u:Value) (Q:VK),Inv X pins σ H s->RelV x v->RelV y u->r x y H Q->
  subscripted slice false v u=operate [v,u] (getItem v u)->wpAny (model X.prog X.w) X.A (subscriptTail value slice v u) (EP X pins σ Q) X.xe s
noncomputable def MtR (X:Cx) (id:String) (r:V->List V->Hp->VK->Prop):Prop:=
 ∀(pins:List (Addr×Obj)) (s:Shared) (σ:St) (H:Hp) (x:V) (xs:List V) (v:Value) (us:List Value) (Q:VK),Inv X pins σ H s->RelV x v->qt xs us->r x xs H Q->
  wpAny (model X.prog X.w) X.A (call (.builtin id) (v::us)) (EP X pins σ Q) X.xe s
section
variable {X:Cx} {a b:Expr} {ta tb:TE} {pos:Pos}
theorem IxR.or {r r':R2} (h:IxR X r) (h':IxR X r'):IxR X (fun x y H Q=>r x y H Q\/r' x y H Q):=by
 intro value slice pins s σ H x y v u Q I rx ry q hs
 rcases q with q | q
 ·exact h value slice pins s σ H x y v u Q I rx ry q hs
 ·exact h' value slice pins s σ H x y v u Q I rx ry q hs
theorem qMW {r:R2} (hr:IxR X r) (ha:PE X a ta) (hb:PE X b tb) (hs:qEj b):PE X (.Subscript a b pos) (tOp r ta tb):=by
 intro pins s σ H Q I h
 exact Subscript_ (qML ha hb I h fun v u s2 x y H2 I2 rx ry q=>hr a b pins s2 σ H2 x y v u Q I2 rx ry q (hs _ _))
noncomputable def qMh (K:wG):R2:=fun x y H Q=>∃ p xs i v,x=.ref p/\y=.int i/\SqL K H p xs/\atI xs i=some v/\Q v H
noncomputable def qMf (K:wG):R2:=fun x y H Q=>∃ p xs i v,x=.ref p/\y=.int i/\SqT K H p xs/\atI xs i=some v/\Q v H
noncomputable def qM2:R2:=fun x y H Q=>∃ z i c,x=.str z/\y=.int i/\z.length<=sizeLine/\atI z.cps.toList i=some c/\Q (.str ⟨#[c]⟩) H
theorem qJc:IxR X (qMh X.K):=by
 intro value slice pins s σ H x y v u Q I rx ry h hs
 obtain ⟨p,xs,i,z,rfl,rfl,hq,he,q⟩:=h
 cases rx
 obtain ⟨t,rfl⟩:=ry
 obtain ⟨its,r,pl,hz⟩:=I.list hq
 obtain ⟨j,h1,h2,h3,h4,h5⟩:=qCY he
 obtain ⟨w,ew,rw'⟩:=r.get h2
 have hl:=r.length
 have hn:=qAL
 have fin:EP X pins σ Q w s:=⟨z,H,I,rw',q⟩
 by_cases h0:0<=i
 ·have hj:i.toNat=j:=by
   rw [seqIndex_of h0 h5] at h1
   exact zF h1
  exact item_listR pl.isList h0 (by omega) (by rw [hj]; simpa using ew) fin hs
 ·have hj:(i+(its.toArray.size:Int)).toNat=j:=by
   rw [seqIndex_neg (by omega) h4] at h1
   rw [wJ,<- hl]
   exact zF h1
  exact subscriptTail_builtinR (x:=w) pl.isList.typeIs slot_list_getitem.lookup
   (wpAny_getItem_list_neg (Q:=fun r s'=>r=w/\EP X pins σ Q r s') pl.isList (by omega) (by rw [wJ] <;> omega) (by omega) (by rw [hj]; simpa using ew) ⟨rfl,fin⟩) hs
theorem qLA:IxR X (qMf X.K):=by
 intro value slice pins s σ H x y v u Q I rx ry h hs
 obtain ⟨p,xs,i,z,rfl,rfl,hq,he,q⟩:=h
 cases rx
 obtain ⟨t,rfl⟩:=ry
 obtain ⟨its,r,pl,hz⟩:=I.tuple hq
 obtain ⟨j,h1,h2,h3,h4,h5⟩:=qCY he
 obtain ⟨w,ew,rw'⟩:=r.get h2
 have hl:=r.length
 have hn:=qAL
 have fin:EP X pins σ Q w s:=⟨z,H,I,rw',q⟩
 exact subscriptTail_builtinR (x:=w) pl.typeIs slot_tuple_getitem.lookup
  (getItem_tuple (j:=j) (Q:=fun r s'=>r=w/\EP X pins σ Q r s') pl (by omega) (by omega) (by rw [wJ,<- hl]; exact h1) (by simpa using ew) ⟨rfl,fin⟩) hs
theorem qKy:IxR X qM2:=by
 intro value slice pins s σ H x y v u Q I rx ry h hs
 obtain ⟨z,i,c,rfl,rfl,hz,he,q⟩:=h
 obtain ⟨t,rfl⟩:=rx
 obtain ⟨t',rfl⟩:=ry
 obtain ⟨j,h1,h2,h3,h4,h5⟩:=qCY he
 have hl:z.cps.toList.length=z.length:=by simp [Str.length]
 rw [hl] at h1 h4 h5
 have hn:=qAL
 exact tail_any (typeIs_str s z t) slot_str_getitem.lookup (getItem_str (c:=c) (by
  have e1:decide (i < -(2 ^ 63:Int))=false:=decide_eq_false (by omega)
  have e2:decide (i≥2 ^ 63)=false:=decide_eq_false (by omega)
  rw [e1,e2,Bool.or_false]) (by rw [h1]; simpa using h2) ⟨.str ⟨#[c]⟩,H,I.tok _,⟨_,rfl⟩,q⟩) hs
noncomputable def rIx (K:wG):R2:=fun x y H Q=>qMh K x y H Q\/qMf K x y H Q\/qM2 x y H Q
theorem qKK:IxR X (rIx X.K):=qJc.or (qLA.or qKy)
theorem qEb (its:List Value) (n j:Nat) (u:Value):hX (·.setIfInBounds j u) { cls:=.type "list",data:=.seq its.toArray n } = { cls:=.type "list",data:=.seq (its.set j u).toArray n }:=by
 simp [hX]
theorem Inv.lst {pins:List (Addr×Obj)} {σ:St} {H:Hp} {s:Shared} {p:Addr} {xs:List V} (I:Inv X pins σ H s) (h:H p=some (.lst xs)) :
  ∃(its:List Value) (n:Nat),qt xs its/\s.heap.get? p=some { cls:=.type "list",data:=.seq its.toArray n }/\xs.length<=sizeLine:=by
 obtain ⟨z,its,n,r,e⟩:=I.hok p _ h
 exact ⟨its,n,r,e,z⟩
theorem Inv.lstUpd {pins:List (Addr×Obj)} {σ:St} {H:Hp} {s:Shared} {p:Addr} {xs ys:List V} {its its':List Value} {n n':Nat} {f:Obj->Obj} (I:Inv X pins σ H s) (h:H p=some (.lst xs))
  (ho:s.heap.get? p=some { cls:=.type "list",data:=.seq its.toArray n }) (hf:f { cls:=.type "list",data:=.seq its.toArray n } = { cls:=.type "list",data:=.seq its'.toArray n' }) (r:qt ys its') (hz:ys.length<=sizeLine) (t:Nat) :
  Inv X pins σ (upd H p (.lst ys)) { s with heap:=s.heap.update p f,toks:=t }:=by
 have e:(s.heap.update p f).get? p=some { cls:=.type "list",data:=.seq its'.toArray n' }:=by
  rw [vO f ho (by rw [hf] <;> rfl),hf]
 refine I.write (x:=p) (e:=p) (by rw [h]; trivial) (.inl rfl) (fun b u hb q=>(uY _ _ (gX hb)).trans q) ⟨_,e⟩ ?_
 exact ⟨hz,its',n',r,e⟩
noncomputable def qJG:V->V->V->Hp->(Hp->Prop)->Prop:=fun o i v H Q=>∃ p xs k j,o=.ref p/\i=.int k/\H p=some (.lst xs)/\ixN xs.length k=some j/\Q (upd H p (.lst (xs.set j v)))
theorem set_list:qMl X qJG:=by
 intro pins s σ H o i v ov iv u Q I ro ri rv h
 obtain ⟨p,xs,k,j,rfl,rfl,hp,hj,q⟩:=h
 cases ro
 obtain ⟨t,rfl⟩:=ri
 obtain ⟨its,n,r,ho,hz⟩:=I.lst hp
 obtain ⟨h1,h2,h3,h4⟩:=qCd hj
 have hl:=r.length
 have hn:=qAL
 have I':Inv X pins σ (upd H p (.lst (xs.set j v))) { s with heap:=s.heap.update p (hX (·.setIfInBounds j u)) }:=
  I.lstUpd hp ho (qEb its n j u) (r.set rv j) (by rw [List.length_set]; exact hz) s.toks
 by_cases h0:0<=k
 ·have hk:k.toNat=j:=by
   rw [seqIndex_of h0 h4] at h1
   exact zF h1
  exact PySem.W.ki_setAt ho h0 (by omega) (by rw [wJ,<- hl]; exact h4) (by rw [hk]; exact ⟨_,I',q⟩)
 ·have hk:(k+(its.toArray.size:Int)).toNat=j:=by
   rw [seqIndex_neg (by omega) h3] at h1
   rw [wJ,<- hl]
   exact zF h1
  exact PySem.W.ki_setBack ho (by omega) (by rw [wJ,<- hl]; exact h3) (by omega) (by rw [hk]; exact ⟨_,I',q⟩)
theorem qB0 (lo hi:Option Int) (n:Nat):(sliceBounds lo hi none n).1=((HT.sIx n 0 lo:Nat):Int)/\(sliceBounds lo hi none n).2.1=((HT.sIx n n hi:Nat):Int)/\(sliceBounds lo hi none n).2.2=1:=by
 refine ⟨?_,?_,rfl⟩
 ·cases lo with
  | none=>simp [sliceBounds,HT.sIx]
  | some i=>
   simp only [sliceBounds,HT.sIx,Option.getD_none,show (1:Int) > 0 by decide,if_true]
   by_cases h:i<0
   ·simp only [h,if_true] <;> omega
   ·simp only [h,if_false] <;> omega
 ·cases hi with
  | none=>simp [sliceBounds,HT.sIx]
  | some i=>
   simp only [sliceBounds,HT.sIx,Option.getD_none,show (1:Int) > 0 by decide,if_true]
   by_cases h:i<0
   ·simp only [h,if_true] <;> omega
   ·simp only [h,if_false] <;> omega
theorem qA4 (its:List Value) (lo hi:Option Int):slicePick its.toArray lo hi none=((its.drop (HT.sIx its.length 0 lo)).take (HT.sIx its.length its.length hi - HT.sIx its.length 0 lo)).toArray:=by
 obtain ⟨h1,h2,h3⟩:=qB0 lo hi its.toArray.size
 unfold slicePick
 rw [h1,h2,h3]
 simp only [sliceRange_one,pick_run,wJ] <;> rfl
noncomputable def qLw (K:wG):V->Option Int->Option Int->Hp->VK->Prop:=fun x lo hi H Q=>∃ a xs,x=.ref a/\SqL K H a xs/\∀ p,H p=none->Q (.ref p) (upd H p (.lst (qGx xs lo hi)))
theorem qJK:SlR X (qLw X.K):=by
 intro pins s σ H x v vl vu lo hi sl Q I rx hs pl pu h
 obtain ⟨a,xs,rfl,hx,q⟩:=h
 cases rx
 obtain ⟨its,r,ht,hz⟩:=I.list hx
 have hlen:=r.length
 refine ⟨"list",_,slot_list_getitem.lookup,ht.isList.typeIs,?_⟩
 refine wpAny_getItem_list_slice ht.isList hs pl pu .none (by simp) ?_ (by rw [wJ] <;> omega)
 rw [qA4,<- hlen]
 refine ⟨.ref s.heap.objs.size,_,I.laid (t':=s.toks) (o:=.lst (qGx xs lo hi)) (fun b ob q=>wF _ q) (wK _) ?_,rfl,q _ (I.hok.fresh (wK _))⟩
 exact ⟨zC (YM xs lo hi) hz,_,0,(r.drop (HT.sIx xs.length 0 lo)).take (HT.sIx xs.length xs.length hi - HT.sIx xs.length 0 lo),wR _ rfl⟩
theorem qBd:QB X (.builtin "len") (fun xs H Q=>∃ p ys,xs=[.ref p]/\(SqL X.K H p ys\/SqT X.K H p ys)/\Q (.int ys.length) H):=by
 intro pins s σ H xs us Q I r h
 obtain ⟨p,ys,rfl,hq,q⟩:=h
 obtain ⟨u,rfl,rx⟩:=vals1 r
 cases rx
 have hn:=qAL
 rcases hq with hq | hq
 ·obtain ⟨its,r',pl,hz⟩:=I.list hq
  have hlen:=r'.length
  exact Calls.call_len_list pl.isList (by simp only [wJ] <;> omega) ⟨.int ys.length,H,I.tok _,⟨s.toks+1,by rw [wJ,hlen]⟩,q⟩
 ·obtain ⟨its,r',pl,hz⟩:=I.tuple hq
  have hlen:=r'.length
  exact len_tuple pl (by simp only [wJ] <;> omega) ⟨.int ys.length,H,I.tok _,⟨s.toks+1,by rw [wJ,hlen]⟩,q⟩
theorem qB9:QB X (.type "list") (fun xs H Q=>∃ p ys,xs=[.ref p]/\(SqL X.K H p ys\/SqT X.K H p ys)/\∀ l,H l=none->Q (.ref l) (upd H l (.lst ys))):=by
 intro pins s σ H xs us Q I r h
 obtain ⟨p,ys,rfl,hq,q⟩:=h
 obtain ⟨u,rfl,rx⟩:=vals1 r
 cases rx
 have fin:∀(its:List Value),qt ys its->ys.length<=sizeLine->∀(h':Heap) (c':Nat),(∀ b o',s.heap.get? b=some o'->h'.get? b=some o')->
   h'.get? s.heap.objs.size=some { cls:=.type "list",dict:=none,data:=.seq its.toArray c',slots:=#[] }->EP X pins σ Q (.ref s.heap.objs.size) { s with heap:=h' }:=fun its r' hz h' c' kp e=>
  ⟨.ref s.heap.objs.size,_,I.laid (t':=s.toks) kp (wK _) (show jY X.prog X.w _ h' _ (.lst ys) from ⟨hz,its,c',r',e⟩),rfl,q _ (I.hok.fresh (wK _))⟩
 rcases hq with hq | hq
 ·obtain ⟨its,r',pl,hz⟩:=I.list hq
  have hlen:=r'.length
  obtain ⟨o,ho,hc,n,hd⟩:=pl.isList
  exact call_list_seq p (.inl rfl) ho hc hd (fun h' c' kp e=>fin its r' hz h' c' kp e) (by simp only [wJ] <;> omega)
 ·obtain ⟨its,r',pl,hz⟩:=I.tuple hq
  have hlen:=r'.length
  obtain ⟨o,ho,hc,n,hd⟩:=pl
  exact call_list_seq p (.inr rfl) ho hc hd (fun h' c' kp e=>fin its r' hz h' c' kp e) (by simp only [wJ] <;> omega)
theorem qA7:QB X (.type "tuple") (fun xs H Q=>∃ p ys,xs=[.ref p]/\((SqL X.K H p ys/\∀ l,H l=none->Q (.ref l) (upd H l (.tup ys)))\/(SqT X.K H p ys/\Q (.ref p) H))):=by
 intro pins s σ H xs us Q I r h
 obtain ⟨p,ys,rfl,h⟩:=h
 obtain ⟨u,rfl,rx⟩:=vals1 r
 cases rx
 rcases h with ⟨hq,q⟩ | ⟨hq,q⟩
 ·obtain ⟨its,r',pl,hz⟩:=I.list hq
  have hlen:=r'.length
  refine call_tuple_list pl.isList (fun h' kp=>?_) (by simp only [wJ] <;> omega)
  have I1:Inv X pins σ H { s with heap:=h' }:=I.kept (t':=s.toks) kp
  have I2:Inv X pins σ (upd H h'.objs.size (.tup ys)) { s with heap:=h'.push { cls:=.type "tuple",data:=.seq its.toArray } }:=
   I1.laid (t':=s.toks) (fun b o e=>wF _ e) (wK _) (show jY X.prog X.w _ _ _ (.tup ys) from ⟨hz,its,r',IsTup.new _ _,NoD.new rfl⟩)
  exact ⟨.ref h'.objs.size,_,I2,rfl,q _ (I1.hok.fresh (wK _))⟩
 ·obtain ⟨its,r',pl,hz⟩:=I.tuple hq
  exact call_tuple_same pl ⟨.ref p,H,I,rfl,q⟩
noncomputable def tyV (K:wG) (T:String) (x:V) (H:Hp):Prop:=match x with
 | .str _=>T = "str"
 | .int _=>T = "int"
 | .ref p=>(T = "list"/\∃ xs,SqL K H p xs)\/(T = "tuple"/\∃ o,K.lookup p=some o/\o.cls=.type "tuple"/\o.dict=none)\/
   (T = "dict"/\((∃ kvs,H p=some (.dK kvs))\/∃ kvs,H p=some (.dT kvs)))\/(T = "set"/\∃ S n,H p=some (.set S n))
 | _=>False
theorem qKq {pins:List (Addr×Obj)} {σ:St} {H:Hp} {s:Shared} {T:String} {x:V} {v:Value} (I:Inv X pins σ H s) (r:RelV x v) (ty:tyV X.K T x H) :
  s.TypeIs v T/\∀ a,v=.ref a->∃ ob,s.heap.get? a=some ob/\ob.dict=none:=by
 cases x with
 | str z=>
  obtain ⟨t,rfl⟩:=r
  cases (show T = "str" from ty)
  exact ⟨typeIs_str s z t,fun _ e=>nomatch e⟩
 | int i=>
  obtain ⟨t,rfl⟩:=r
  cases (show T = "int" from ty)
  exact ⟨ZG s i t,fun _ e=>nomatch e⟩
 | ref p=>
  cases r
  rcases ty with ⟨rfl,xs,hq⟩ | ⟨rfl,o,hk,hc,hd⟩ | ⟨rfl,hk⟩ | ⟨rfl,S,n,hk⟩
  ·obtain ⟨its,_,pl,_⟩:=I.list hq
   refine ⟨pl.isList.typeIs,fun a e=>?_⟩
   cases e
   obtain ⟨o,n,e,c,hd,_⟩:=pl
   exact ⟨o,e,hd⟩
  ·refine ⟨⟨o,I.kIn p o hk,hc⟩,fun a e=>?_⟩
   cases e
   exact ⟨o,I.kIn _ o hk,hd⟩
  ·have z:∃ o,s.heap.get? p=some o/\o.ExactDict:=by
    rcases hk with ⟨kvs,hk⟩ | ⟨kvs,hk⟩
    ·obtain ⟨_,_,_,_,o,_,_,e,ex,_⟩:=I.hok p _ hk
     exact ⟨o,e,ex⟩
    ·obtain ⟨_,_,_,_,o,_,_,e,ex,_⟩:=I.hok p _ hk
     exact ⟨o,e,ex⟩
   obtain ⟨o,e,ex⟩:=z
   refine ⟨⟨o,e,ex.1⟩,fun a e2=>?_⟩
   cases e2
   exact ⟨o,e,ex.2.1⟩
  ·obtain ⟨o,_,_,_,e,ex,_⟩:=I.hok p _ hk
   refine ⟨⟨o,e,ex.1⟩,fun a e2=>?_⟩
   cases e2
   exact ⟨o,e,ex.2.1⟩
 | _=>exact kK ty
noncomputable def tBM (K:wG) (T:String) (r:V->List V->Hp->VK->Prop) (to:TE) (t:TA):TE:=fun σ H Q=>to σ H fun x H1=>tyV K T x H1/\t σ H1 fun xs H2=>r x xs H2 Q
variable {o e:Expr} {es:List Expr} {to:TE} {t:TA} {name:Str} {apos cpos:Pos} {T id:String} {r:V->List V->Hp->VK->Prop}
theorem qMO (pa:PlainAttrs T) (slot:Slot T name id) (hty:typeOf (.builtin id)=pure (.type "method_descriptor")) (hm:MtR X id r) (ho:PE X o to) (ha:PA X (e::es) t)
  (hbase:attributeBase o name X.env (eval o X.env)=eval o X.env:=by rfl)
  (hfew:((backTo cpos (starEach (e::es) X.env)).all (fun x=>!x.1) && (backToKw cpos (keywordEach [] X.env)).all (fun x=>x.1.isSome)
   && decide ((e::es).length+([]:List Keyword).length+(if ([]:List Keyword).isEmpty then 0 else 1)<30))=true:=by rfl)
  (hline:(apos.endLine == cpos.line)=true:=by rfl) (hs:starEach (e::es) X.env=(false,eval e X.env)::starEach es X.env:=by rfl) (hplain:(backTo cpos (starEach es X.env)).any (·.1)=false:=by rfl) :
  PE X (.Call (.Attribute o name apos) (e::es) [] cpos) (tBM X.K T r to t):=by
 intro pins s σ H Q I h
 refine wpAny_Call_method_late hbase hfew hline rfl (thn (ho pins s σ H _ I h) fun v s1 ⟨x,H1,I1,r1,ty,q1⟩=>?_)
 obtain ⟨h1,h2⟩:=qKq I1 r1 ty
 refine ⟨T,id,pa,slot,hty,h1,h2,?_⟩
 have hA:=ha cpos pins s1 σ H1 _ I1 q1
 rw [hs] at hA ⊢
 refine Calls.callWith_builtin (by show (false || (backTo cpos (starEach es X.env)).any (·.1))=false; rw [hplain] <;> rfl) (Calls.evalArgs_plain ?_)
 exact thn hA fun us s2 ⟨vs,H2,I2,r2,q2⟩=>hm pins s2 σ H2 x vs v us Q I2 r1 r2 q2
end
noncomputable def MtM (X:Cx) (id:String) (r:V->List V->Hp->VK->Prop):Prop:=
 ∀(pins:List (Addr×Obj)) (s:Shared) (σ:St) (H:Hp) (x:V) (xs:List V) (v:Value) (us:List Value) (Q:VK),Inv X pins σ H s->RelV x v->qt xs us->r x xs H Q->
  wpAny (model X.prog X.w) X.A (call (.builtin id) (v::us)) (EP X pins σ Q) X.xe s
theorem qt.one:∀{x:V} {us:List Value},qt [x] us->∃ u,us=[u]/\RelV x u
 | _,_,.cons r .nil=>⟨_,rfl,r⟩
theorem qt.eraseIdx:∀{xs:List V} {us:List Value} (i:Nat),qt xs us->qt (xs.eraseIdx i) (us.eraseIdx i)
 | _,_,_,.nil=>.nil
 | _,_,0,.cons _ t=>t
 | _,_,i+1,.cons r t=>.cons r (qt.eraseIdx i t)
theorem qt.rep {xs:List V} {us:List Value} (h:qt xs us):∀ k:Nat,qt (wX k xs).flatten (wX k us).flatten
 | 0=>.nil
 | k+1=>by
  rw [kW,kW,fM,fM]
  exact qt.append h (qt.rep h k)
theorem qBD {α:Type}:∀(l:List α) (i:Nat),(l.eraseIdx i).length<=l.length
 | [],_=>wK _
 | _::_,0=>uN _
 | _::r,i+1=>VA (qBD r i)
theorem foldl_rep (its:List Value):∀(k:Nat) (acc:List Value),
  List.foldl (fun x1 x2=>x1++x2) acc.toArray (wX k its.toArray)=(acc++(wX k its).flatten).toArray
 | 0,acc=>by simp
 | k+1,acc=>by
  have e:acc.toArray++its.toArray=(acc++its).toArray:=by simp
  have e2:(acc++its)++(wX k its).flatten=acc++(wX (k+1) its).flatten:=by
   rw [kW,fM,vR]
  rw [<- e2,<- foldl_rep its k (acc++its),<- e,kW,ZM]
section
variable {X:Cx} {pins:List (Addr×Obj)} {σ:St} {H:Hp} {s:Shared} {l b:Addr} {xs ys zs:List V}
theorem Inv.lset {its its':List Value} {n:Nat} {f:Array Value->Array Value} {t':Nat} (I:Inv X pins σ H s) (hH:H l=some (.lst xs))
  (e:s.heap.get? l=some { cls:=.type "list",data:=.seq its.toArray n }) (hf:f its.toArray=its'.toArray) (hv:qt ys its') (hz:ys.length<=sizeLine) :
  Inv X pins σ (upd H l (.lst ys)) { s with heap:=s.heap.update l (hX f),toks:=t' }:=by
 have q:=PySem.IsL.update e f
 rw [hf] at q
 refine I.write (x:=l) (e:=l) (by rw [hH]; exact trivial) (.inl rfl) (fun b' u hb hu=>(uY s.heap (hX f) (gX hb)).trans hu) ⟨_,q⟩ ?_
 exact ⟨hz,its',_,hv,q⟩
theorem Inv.lnew {its:List Value} {t':Nat} (I:Inv X pins σ H s) (hv:qt ys its) (hz:ys.length<=sizeLine) :
  Inv X pins σ (upd H s.heap.objs.size (.lst ys)) { s with heap:=s.heap.push { cls:=.type "list",data:=.seq its.toArray },toks:=t' }:=
 I.laid (fun _ _ q=>wF _ q) (wK _) ⟨hz,its,0,hv,wR _ rfl⟩
theorem Inv.fresh (I:Inv X pins σ H s):H s.heap.objs.size=none:=I.hok.fresh (wK _)
theorem Inv.lstM (I:Inv X pins σ H s) (hH:H l=some (.lst xs)):xs.length<=sizeLine/\∃(its:List Value) (n:Nat),qt xs its/\xs.length=its.length/\s.heap.get? l=some { cls:=.type "list",data:=.seq its.toArray n }:=by
 obtain ⟨z,its,n,r,e⟩:=I.hok l _ hH
 exact ⟨z,its,n,r,r.length,e⟩
theorem qH4 {n:Nat} (h:n<=sizeLine):fS n=false:=by
 unfold fS
 exact decide_eq_false (by omega)
end
section
variable {X:Cx}
noncomputable def qF9:V->List V->Hp->VK->Prop:=fun x vs H Q=>∃ l xs y,x=.ref l/\vs=[y]/\H l=some (.lst xs)/\xs.length<sizeLine/\Q .non (upd H l (.lst (xs++[y])))
theorem JQ:MtM X "list.append" qF9:=by
 intro pins s σ H x vs v us Q I rx rv h
 obtain ⟨l,xs,y,rfl,rfl,hH,hz,q⟩:=h
 cases rx
 obtain ⟨u,rfl,ru⟩:=rv.one
 obtain ⟨z,its,n,r,hl,e⟩:=I.lstM hH
 refine UA F.slot_list_append ⟨_,e,rfl⟩ F.entry_list_append (F.args_list_append_2 _ _) (PySem.list_append l its.toArray n u (by rw [wJ]; omega)) ⟨e,?_⟩
 refine ⟨.non,_,I.lset (its':=its++[u]) hH e (by simp) (r.append (.cons ru .nil)) ?_,rfl,q⟩
 rw [wM,List.length_singleton]
 omega
noncomputable def qIO:V->List V->Hp->VK->Prop:=fun x vs H Q=>∃ l xs i k y,x=.ref l/\vs=[.int i]/\H l=some (.lst xs)/\-(2 ^ 63)<=i/\i<2 ^ 63/\seqIndex? i xs.length=some k/\xs[k]? = some y/\Q y (upd H l (.lst (xs.eraseIdx k)))
theorem qDy:MtM X "list.pop" qIO:=by
 intro pins s σ H x vs v us Q I rx rv h
 obtain ⟨l,xs,i,k,y,rfl,rfl,hH,h1,h2,hk,hy,q⟩:=h
 cases rx
 obtain ⟨u,rfl,ru⟩:=rv.one
 obtain ⟨t,rfl⟩:=ru
 obtain ⟨z,its,n,r,hl,e⟩:=I.lstM hH
 obtain ⟨w,hw,rw'⟩:=r.get hy
 refine UA F.slot_list_pop ⟨_,e,rfl⟩ F.entry_list_pop (F.args_list_pop_2 _ _)
  (MeetsSeq.list_pop_at l its.toArray n i t k w (fitsIndex_both h1 h2) (by rw [wJ,<- hl]; exact hk) (by rw [<- zX]; exact hw) (by rw [wJ]; omega)) ⟨e,?_⟩
 refine ⟨y,_,I.lset (its':=its.eraseIdx k) hH e ?_ (r.eraseIdx k) ?_,rw',q⟩
 ·show its.toArray.eraseIdxIfInBounds k=(its.eraseIdx k).toArray
  rw [List.eraseIdxIfInBounds_toArray]
 ·have:=qBD xs k
  omega
noncomputable def qMg:R2:=fun x y H Q=>∃ l k xs,x=.ref l/\y=.int k/\H l=some (.lst xs)/\-(2 ^ 63)<=k/\k<2 ^ 63/\xs.length*k.toNat<=sizeLine/\
 ∀ p,H p=none->Q (.ref p) (upd H p (.lst (wX k.toNat xs).flatten))
theorem len_rep {α:Type} (xs:List α) (k:Nat):(wX k xs).flatten.length=k*xs.length:=by
 induction k with
 | zero=>simp
 | succ k ih=>rw [kW,fM,wM,ih,Nat.succ_mul,Nat.add_comm]
theorem qK1:OpR X (binaryOp .Mult) qMg:=by
 intro pins s σ H x y v u Q I rx ry h
 obtain ⟨l,k,xs,rfl,rfl,hH,h1,h2,hz,q⟩:=h
 cases rx
 obtain ⟨t,rfl⟩:=ry
 obtain ⟨z,its,n,r,hl,e⟩:=I.lstM hH
 have hlen:its.toArray.size*k.toNat<=sizeLine:=by rw [wJ,<- hl]; exact hz
 have hcap:¬ its.toArray.size*k.toNat > (2 ^ 63 - 1) / 8:=by
  have:(sizeLine:Nat)<=(2 ^ 63 - 1) / 8:=by decide
  omega
 have hfit:¬ (!Builtin.List.listFitsIndex k)=true:=by
  rw [fitsIndex_both h1 h2]
  exact wU
 have hlong:¬ fS (its.toArray.size*k.toNat)=true:=by
  rw [qH4 hlen]
  exact wU
 have hnew:List.foldl (fun x1 x2=>x1++x2) #[] (wX (if its.toArray.isEmpty=true then 0 else k.toNat) its.toArray)=(wX k.toNat its).flatten.toArray:=by
  have f0:∀ m:Nat,List.foldl (fun x1 x2=>x1++x2) #[] (wX m its.toArray)=(wX m its).flatten.toArray:=fun m=>by
   have:=foldl_rep its m []
   rw [uK] at this
   exact this
  rw [f0]
  cases its with
  | nil=>simp
  | cons a r'=>rw [if_neg (by simp)]
 refine wpAny_binaryOp_repeat_ref (T:="list") (U:="int") (by decide) ⟨_,e,rfl⟩ (fun s'=>ZG s' k t) noFill_list_mul F.fills_int_mul F.slot_int_rmul repeat_list F.slot_int_index.lookup
  (UA F.slot_int_rmul (ZG s k t) F.entry_int_rmul (F.args_int_rmul_2 _ _) (int___rmul___int_list k t l its.toArray n)
   ⟨e,rfl,⟨_,e,rfl⟩,UA F.slot_list_mul ⟨_,e,rfl⟩ F.entry_list_mul (F.args_list_mul_2 _ _) (AutoListH.list___mul___list_int_3 l its.toArray n k t hfit hcap hlong) ⟨e,?_⟩⟩)
 rw [hnew]
 exact ⟨.ref _,_,I.lnew (t':=s.toks) (r.rep k.toNat) (by rw [len_rep,Nat.mul_comm]; exact hz),rfl,q _ I.fresh⟩
end
end L2
namespace Att
open PySem PySem.W PySem.Calls PyProof.Rows
theorem YV {P:Params} {h:Heap}:∀(ns:List Int) (vs:List Value),WellAll P h vs (ns.map WData.int)->IntsAre vs ns:=by
 intro ns
 induction ns with
 | nil=>
  intro vs w
  rw [ZF] at w
  cases w
  exact .nil
 | cons n ns ih=>
  intro vs w
  rw [yV] at w
  cases w with
  | cons a b=>
   cases a
   exact .cons _ _ (ih _ b)
theorem qFL {l:OpenLaw} {n:Nat} (hn:l.most=some n) {P:Params} {h:Heap} {args:List WData} {vals:List Value}
  (hpre:l.row.toRowW.claim.pre args=true) (hwl:WellAll P h vals args) :
  ∃ a vs ns,vals=[yF a]/\args=[WData.list (ns.map WData.int)]/\h.get? a=some { cls:=.type "list",data:=.seq vs.toArray }/\IntsAre vs ns/\ns.length<=n:=by
 have hsh:WShape.hasAll [] args [.list .int]=true:=(pre_splitW hpre).1
 have hc:l.pre.holds [] { args:=args } = true:=(pre_splitW hpre).2
 obtain ⟨d,r,rfl,h1,h2⟩:=hasAllW_cons hsh
 obtain rfl:=hasAllW_nil h2
 obtain ⟨xs,rfl,h3⟩:=hasW_list h1
 obtain ⟨ns,rfl⟩:=items_int h3
 have hlen:ns.length<=n:=by
  unfold OpenLaw.pre at hc
  have h4:(WTm.not (.lt (.lit (.int (n:Int))) (.len (.arg 0)))).holds [] { args:=[.list (ns.map .int)] } = true:=by
   have h4:=(holds_andW hc).1
   rw [hn] at h4
   exact h4
  have h5:=condW_of h4 (w_not (w_lt w_lit (w_len_list (w_arg rfl))))
  rw [wA] at h5
  refine vL fun q=>?_
  have q':(n:Int)<((ns.length:Nat):Int):=by omega
  first
   | (rw [decide_eq_true q'] at h5; exact absurd h5 (by decide))
   | (simp at h5; omega)
 cases hwl with
 | cons w1 w2=>
  cases w2
  cases w1 with
  | list ho hall=>exact ⟨_,_,ns,rfl,rfl,ho,YV ns _ hall,hlen⟩
theorem qFr (l:OpenLaw) (args:List WData):l.row.toRowW.claim.post args (.bool true) args=true:=
 postW_of (r:=l.row.toRowW) (X:=(true == true))
  (show WShape.has [] (.bool true) .bool=true by first | rfl | decide | simp [WShape.has,WShape.arms,WShape.armsAll])
  (show (WTm.eq .res (.lit (.bool true))).value [] { args:=args,res:=some (.bool true),after:=args } = some (.bool (true == true)) from w_eq_bool (w_res rfl) w_lit) rfl
theorem attach_call {l:OpenLaw} {n:Nat} {q:Program} {loose:List Str} {XP:(Str->Option Value)->Heap->Prop} {YP:World->Heap->Prop} {d:DefRec}
  (hn:l.most=some n) (hdf:d.params.defaults=[])
  (call:∀(w:World) (s₀ s₁:Shared) (mg mb:Str->Option Value) (fa:Addr) (o:Obj) (pm cd doc:Value) (a:Addr) (vs:List Value) (ns:List Int),
   Ground q loose [] XP w s₀ mg mb s₁.heap->YP w s₁.heap->
   s₁.heap.get? fa=some o->o.data=.func (docDef d.name d.params d.body d.scope pm cd doc)->s₁.heap.CodeRec cd d.name->mg d.name=some (.ref fa)->
   s₁.heap.get? a=some { cls:=.type "list",data:=.seq vs.toArray }->IntsAre vs ns->ns.length<=n->s₁.gens = #[]->
   codeAny (model l.prog w) callerA (.call (.ref fa) ⟨[.ref a],[]⟩) (fun r s'=>r=.ok (.ret (.bool true))/\OldK s₁.heap s'.heap/\s'.os=s₁.os/\AllBare s'.gens) s₁) :
  WalkO q loose XP YP l.row.toRowW d [] (fun f vs=>PySem.call f vs):=by
 intro w s₀ s₁ mg mb G Y fa o pm cd doc dV kV ho hd hcd hD hmg hg args vals as hpre hlay hrd hwl hlo
 obtain rfl:dV=.none:=Dflts.none hD hdf
 obtain rfl:kV=.none:=Dflts.noKw hD
 obtain ⟨a,vs,ns,rfl,rfl,hobj,hints,hlen⟩:=qFL hn hpre hwl
 refine enter_call (gC (call w s₀ s₁ mg mb fa o pm cd doc a vs ns G Y ho (fd_plain hd) hcd hmg hobj hints hlen hg) fun r s' hq=>?_)
 obtain ⟨rfl,h2,h3,h4⟩:=hq
 exact ⟨.inl ⟨.bool true,.bool true,[],rfl,fun _=>rfl,.bool true,qFr l _,fun _=>⟨List.Pairwise.nil,fun _ hm=>(nomatch hm)⟩⟩,h2,h3,h4⟩
section
variable {prog:Program} {w:World} {A:Around} {E:Value->Shared->Prop} {s:Shared} {K:Frag}
noncomputable def ledger (h:Heap) (L d:Addr):List (Addr×Obj):=(wO h.objs.size).filterMap fun a=>if a=L\/a=d then none else (h.get? a).map fun o=>(a,o)
end
end Att
namespace L2
open PySem PySem.Spec PyProof.Rows
theorem Yb:∀{vs:List Value} {ns:List Int},IntsAre vs ns->qt (ns.map V.int) vs
 | _,_,.nil=>.nil
 | _,_,.cons n t h=>.cons ⟨t,rfl⟩ (Yb h)
noncomputable def qL5 (H:Hp):Prop:=∀ b,H b=none\/∃ o xs,H b=some (.frz o (.lst xs))
theorem qHQ {P:Program} {w:World} {K:wG} {mg mb:Str->Option Value} {CX:CXT} {k:Nat} {fa a:Addr} {fd:FuncData} {x:Str} {sp:Sp} {s₁:Shared} {vs:List Value} {ns:List Int}
  (KX:K.In s₁.heap) (hns:s₁.heap.Ns mainGlobals mg) (hb:s₁.heap.Ns builtinsNs mb) (hbb:∀ x:Str,x≠"__name__"->mb x=bootBuiltins x) (hlim:s₁.heap.NoLimit) (hg:s₁.gens = #[])
  (ha:s₁.heap.get? a=some { cls:=.type "list",data:=.seq vs.toArray }) (hi:IntsAre vs ns) (hl:ns.length<=sizeLine) (hr:Y0 k callerA)
  (F:∀ base:Heap,K.In base->base.Ns mainGlobals mg->jo P w K mg base CX k fa fd [x] sp) (hbind:∀(s:Shared) (u:Value),BindsTo s fd ⟨[u],[]⟩ [(x,u)])
  (hsp:∀ H:Hp,qL5 H->SqL K H a (ns.map V.int)->sp [.ref a] H (fun v _=>v=.bl true) fun _ _ _=>False)
  (hCX:∀ H e s',CX [] H s₁ (fun _ _ _=>False) e s'->False) :
  codeAny (model P w) callerA (.call (.ref fa) ⟨[.ref a],[]⟩) (fun r s'=>r=.ok (.ret (.bool true))/\OldK s₁.heap s'.heap/\s'.os=s₁.os/\AllBare s'.gens) s₁:=by
 have rv:=Yb hi
 have lenV:=hi.length
 have core:∀ H:Hp,qL5 H->SqL K H a (ns.map V.int)->HOk P w H s₁.heap->(∀ b,H b≠none->b=a)->(H a≠none->K.lookup a=none)->
   codeAny (model P w) callerA (.call (.ref fa) ⟨[.ref a],[]⟩) (fun r s'=>r=.ok (.ret (.bool true))/\OldK s₁.heap s'.heap/\s'.os=s₁.os/\AllBare s'.gens) s₁:=by
  intro H hO hS hok hA hK
  have base_of:∀{b:Addr} {o:Obj},s₁.heap.get? b=some o->H b=none->(qHo s₁.heap H).get? b=some o:=fun e n=>qHd e n
  have noA:∀{b:Addr} {o:Obj} {es:Array DictEntry} {ep:Nat},s₁.heap.get? b=some o->o.data=.dict es ep->H b=none:=fun {b o es ep} e d=>by
   cases q:H b with
   | none=>rfl
   | some u=>
    have e':b=a:=hA b (by rw [q]; simp)
    subst e'
    rw [ha] at e; cases e
    have d':Data.seq vs.toArray _=Data.dict es ep:=d
    cases d'
  have nsK:∀{b:Addr} {m:Str->Option Value},s₁.heap.Ns b m->(qHo s₁.heap H).Ns b m:=fun {b m} ⟨o,es,ep,e,d,r⟩=>⟨o,es,ep,base_of e (noA e d),d,r⟩
  have hKb:K.In (qHo s₁.heap H):=fun b o e=>base_of (KX b o e) (by
   cases q:H b with
   | none=>rfl
   | some u=>
    have e':b=a:=hA b (by rw [q]; simp)
    subst e'
    rw [hK (by rw [q]; simp)] at e; cases e)
  have hM:Mod K mg (qHo s₁.heap H):=⟨hKb,nsK hns,⟨mb,nsK hb,hbb⟩,let ⟨mc,h1,h2⟩:=hlim; ⟨mc,nsK h1,h2⟩⟩
  have e0:qLj P w K mg (qHo s₁.heap H) callerA [] s₁ H:=⟨rfl,hM,fun b o e=>qJm e,uA (qFM _ _),trivial,fun b hb=>absurd (show b∈([]:List Addr) from hb) (by simp),hok,.of_eq hg⟩
  refine gC ((F _ hKb (nsK hns)).run callerA [] s₁ H ⟨[.ref a],[]⟩ [.ref a] [.ref a] _ _ hr e0 (hbind s₁ (.ref a)) (.cons rfl .nil) (hsp H hO hS)) fun r s' h=>?_
  cases r with
  | error e=>exact (hCX H e s' h).elim
  | ok fl=>
   cases fl with
   | next=>exact kK h
   | brk=>exact kK h
   | cont=>exact kK h
   | ret u=>
    obtain ⟨v,H',os,bare,un,hok',r',q⟩:=h
    have q':v=.bl true:=q
    subst q'
    obtain rfl:u=Value.bool true:=r'
    refine ⟨rfl,OldK.of_keep fun b o e=>?_,os,bare⟩
    cases q:H b with
    | none=>exact un.keep b o e q (by intro z; exact absurd (show b∈([]:List Addr) from z) (by simp)) (by simp)
    | some u=>
     rcases hO b with z | ⟨ob,xs,z⟩
     ·rw [q] at z; cases z
     ·have z2:=un.frzs b ob _ z
      obtain ⟨e1,_⟩:=hok b _ z
      obtain ⟨e2,_⟩:=hok' b _ z2
      rw [e] at e1; cases e1
      exact e2
 cases hk:K.lookup a with
 | some o=>
  have e:=KX a o hk
  rw [ha] at e
  cases e
  refine core (fun _=>none) (fun _=>.inl rfl) (.inr ⟨_,vs.toArray,_,hk,rfl,rfl,rfl,by rw [wJ,lenV]; exact hl,by simpa using rv⟩) (fun b u z=>by have z':(none:Option HO)=some u:=z; cases z') (fun b z=>absurd rfl z) fun z=>absurd rfl z
 | none=>
  refine core (fun b=>if b=a then some (.frz { cls:=.type "list",data:=.seq vs.toArray } (.lst (ns.map V.int))) else none) (fun b=>?_) (.inl (.inr ⟨{ cls:=.type "list",data:=.seq vs.toArray },if_pos rfl⟩)) (fun b u z=>?_) (fun b z=>?_) fun _=>hk
  ·by_cases hb:b=a
   ·exact .inr ⟨_,_,if_pos hb⟩
   ·exact .inl (if_neg hb)
  ·by_cases hb:b=a
   ·have z':=(if_pos hb).symm.trans z
    cases z'
    subst hb
    exact ⟨ha,by rw [wA]; exact hl,vs,_,rv,ha⟩
   ·have z':=(if_neg hb).symm.trans z
    cases z'
  ·by_cases hb:b=a
   ·exact hb
   ·exact absurd (if_neg hb) z
theorem qIt {l:ZN} {n k:Nat} {q:Program} {loose:List Str} {XP:(Str->Option Value)->Heap->Prop} {YP:World->Heap->Prop} {d:DefRec} {K:Params->wG} {CX:World->CXT} {sp:World->Sp} {x:Str}
  (hn:l.most=some n) (hn2:n<=sizeLine) (hdf:d.params.defaults=[]) (hr:Y0 k callerA)
  (hY:∀(w:World) (h:Heap),YP w h->(K w.params).In h)
  (F:∀(w:World) (mg:Str->Option Value) (fa:Addr) (h:Heap),(K w.params).In h->h.Ns mainGlobals mg->mg d.name=some (.ref fa)->
   ∃ fd:FuncData,(∀(s:Shared) (u:Value),BindsTo s fd ⟨[u],[]⟩ [(x,u)])/\
    ∀ base:Heap,(K w.params).In base->base.Ns mainGlobals mg->jo l.prog w (K w.params) mg base (CX w) k fa fd [x] (sp w))
  (hsp:∀(w:World) (H:Hp) (a:Addr) (ns:List Int),ns.length<=n->qL5 H->SqL (K w.params) H a (ns.map V.int)->sp w [.ref a] H (fun v _=>v=.bl true) fun _ _ _=>False)
  (hCX:∀(w:World) (H:Hp) (s:Shared) (e:Value) (s':Shared),CX w [] H s (fun _ _ _=>False) e s'->False) :
  PySem.W.WalkO q loose XP YP l.row.toRowW d [] (fun f vs=>PySem.call f vs):=by
 refine Att.attach_call hn hdf fun w s₀ s₁ mg mb fa o pm cd doc a vs ns G Y ho hd hcd hmg hobj hints hlen hg=>?_
 have KX:=hY w _ Y
 obtain ⟨fd,hb,hF⟩:=F w mg fa _ KX G.T.g hmg
 exact qHQ KX G.T.g G.T.b G.T.builtins G.T.nolimit hg hobj hints (zC hlen hn2) hr hF hb (fun H hO hS=>hsp w H a ns hlen hO hS) fun H e s'=>hCX w H s₁ e s'
noncomputable def Jp (s:Stmt):Arguments:=match s with
 | .FunctionDef _ a _ _ _ _ _ _ _ _=>a
 | _=>{ posonlyargs:=[],args:=[],vararg:=none,kwonlyargs:=[],kw_defaults:=[],kwarg:=none,defaults:=[] }
noncomputable def QQ (s:Stmt):List Stmt:=match s with
 | .FunctionDef _ _ b _ _ _ _ _ _ _=>b
 | _=>[]
noncomputable def qH (s:Stmt):Scope:=match s with
 | .FunctionDef _ _ _ _ _ _ sc _ _ _=>sc
 | _=>{ kind:=.function,names:=[],isGenerator:=false,isCoroutine:=false }
noncomputable abbrev CX0:CXT:=fun _ _ _ _ _ _=>False
noncomputable abbrev E0:XK:=fun _ _ _=>False
theorem qMC {X:Cx}:qFB CX0 X E0:=fun _ _ _ _ _ _ _ h=>h.elim
structure Fun (K:wG) (x qual:Str) (st:Stmt) (f:Addr) (fd:FuncData):Prop where
 ex:∃(oc:Value) (od:Option Addr) (kV doc pm:Value) (an:Option Addr) (cdv ct:Value) (osl:Array (Option Value)),
  fd=kO x qual (Jp st) (QQ st) (qH st) .none kV doc pm an cdv ct/\K.lookup f=some ⟨oc,od,.func fd,osl⟩/\VZ K cdv qual=true
 kp:VY K (.ref f)=true
section
variable {P:Program} {w:World} {K:wG} {mg:Str->Option Value} {base:Heap}
theorem Fun.ok {x qual:Str} {st:Stmt} {f:Addr} {fd:FuncData} {N ps:List Str} {k:Nat} {sp:Sp} (F:Fun K x qual st f fd) (S:qR N ps (qH st)) (len:∀ vs H Q E,sp vs H Q E->vs.length=ps.length)
  (hbody:∀(cdv:Value) (A:Around) (outer:List Env) (s:Shared) (H:Hp) (vs:List V) (Q:VK) (E:XK),Y0 k (A.deeper (envOfC qual (qH st) s.heap.objs.size f cdv))->sp vs H Q E->
   ∃ t,PSs (qH9 CX0 P w K mg base N qual (qH st) f cdv A outer s H E).nox (QQ st) t/\t { nx:=fun _ H'=>Q .non H',rt:=Q } (start N vs) H):jo P w K mg base CX0 (k+1) f fd ps sp:=by
 obtain ⟨oc,od,kV,doc,pm,an,cdv,ct,osl,rfl,lk,hcd⟩:=F.ex
 refine qMF lk hcd S len fun A outer s H vs Q E hr hsp=>?_
 obtain ⟨t,h,q⟩:=hbody cdv A outer s H vs Q E hr hsp
 exact ⟨t,h.nox,q⟩
theorem Fun.binds {x qual:Str} {st:Stmt} {f:Addr} {fd:FuncData} {ps:List Str} (F:Fun K x qual st f fd)
  (h:∀(kV doc pm:Value) (an:Option Addr) (cdv ct:Value) (us:List Value),us.length=ps.length->bindArgs (kO x qual (Jp st) (QQ st) (qH st) .none kV doc pm an cdv ct) ⟨us,[]⟩=pure (ps.zip us)):Binds K fd ps []:=by
 obtain ⟨oc,od,kV,doc,pm,an,cdv,ct,osl,rfl,lk,hcd⟩:=F.ex
 exact .all (h kV doc pm an cdv ct)
theorem qKg {x qual:Str} {st:Stmt} {f:Addr} {oc:Value} {od an:Option Addr} {osl:Array (Option Value)} {kV doc pm cdv ct:Value} (l:K.lookup f=some ⟨oc,od,.func (kO x qual (Jp st) (QQ st) (qH st) .none kV doc pm an cdv ct),osl⟩)
  (c:VZ K cdv qual=true) (k:VY K (.ref f)=true):Fun K x qual st f (kO x qual (Jp st) (QQ st) (qH st) .none kV doc pm an cdv ct):=⟨⟨oc,od,kV,doc,pm,an,cdv,ct,osl,rfl,l,c⟩,k⟩
end
theorem qL {n:Nat} (h:n<=1000):n<sizeLine:=yE h (by decide)
section
variable {X:Cx}
theorem pv (i:Nat) {x:Str} {pos:Pos} (hN:X.N[i]? = some x:=by rfl) (hv:Vis X.env.scope x:=by first | exact Or.inl rfl | exact Or.inr (Or.inl rfl) | exact Or.inr (Or.inr rfl)) (hd:(x == ("__debug__" : Str))=false:=by decide)
  (hcd:(x == ("__classdict__" : Str))=false:=by decide):PE X (.Name x pos) (qHn i):=qLE hN hv hd hcd
end
theorem QH {c A B:Prop} [Decidable c] (h1:c->A) (h2:¬ c->B):if c then A else B:=by
 by_cases h:c
 ·rw [if_pos h]
  exact h1 h
 ·rw [if_neg h]
  exact h2 h
noncomputable def qV (H H':Hp):Prop:=∀ b o,H b=some o->H' b=some o
theorem qV.refl (H:Hp):qV H H:=fun _ _ h=>h
theorem qV.trans {H H1 H2:Hp} (a:qV H H1) (b:qV H1 H2):qV H H2:=fun c o h=>b c o (a c o h)
theorem qV.free {H H':Hp} (e:qV H H') {l:Addr} (h:H' l=Option.none):H l=Option.none:=by
 cases q:H l with
 | none=>rfl
 | some o=>
  rw [e l o q] at h
  cases h
theorem qV.seq {K:wG} {H H':Hp} {a:Addr} {xs:List V} (e:qV H H') (h:SqL K H a xs):SqL K H' a xs:=by
 rcases h with (h | ⟨o,h⟩) | h
 ·exact .inl (.inl (e _ _ h))
 ·exact .inl (.inr ⟨o,e _ _ h⟩)
 ·exact .inr h
end L2
set_option maxHeartbeats 16000000
namespace L2
open PySem PySem.Spec PyProof.Rows
section
variable {κ:Type} [DecidableEq κ]
noncomputable def qDj (kvs:List (κ×V)) (k:κ):Option V:=(kvs.find? fun kv=>decide (kv.1=k)).map (·.2)
noncomputable def putK (kvs:List (κ×V)) (k:κ) (v:V):List (κ×V):=
 if (kvs.any fun kv=>decide (kv.1=k))=true then kvs.map (fun kv=>if kv.1=k then (kv.1,v) else kv) else kvs++[(k,v)]
theorem YA {p:κ×V} {r:List (κ×V)} {k:κ} (e:p.1=k):qDj (p::r) k=some p.2:=by simp [qDj,xC,e]
theorem J7 {p:κ×V} {r:List (κ×V)} {k:κ} (e:¬ p.1=k):qDj (p::r) k=qDj r k:=by simp [qDj,xC,e]
theorem qD4 (k:κ):∀ kvs:List (κ×V),(kvs.any fun kv=>decide (kv.1=k))=(qDj kvs k).isSome
 | []=>rfl
 | p::r=>by
  rw [uE]
  by_cases e:p.1=k
  ·simp only [YA e,decide_eq_true e,Bool.true_or,Option.isSome_some]
  ·rw [J7 e,decide_eq_false e,Bool.false_or]; exact qD4 k r
theorem Yw (kvs:List (κ×V)) (k:κ) (v:V):(putK kvs k v).length<=kvs.length+1:=by
 unfold putK
 split
 ·rw [wA]; omega
 ·rw [wM,zS,uL]; omega
theorem qFQ.isSome_eq {o:Option V} {u:Option Value} (r:qFQ o u):o.isSome=u.isSome:=by
 cases o with
 | none=>cases u with
  | none=>rfl
  | some _=>exact (show False from r).elim
 | some _=>cases u with
  | none=>exact (show False from r).elim
  | some _=>rfl
theorem KV.val {kvs:List (κ×V)} {vs:List (κ×Value)} (r:KV kvs vs) (k:κ):qFQ (qDj kvs k) (valueAt vs k):=by
 unfold KV at r
 induction r with
 | nil=>exact hW
 | @cons p q ps qs h t ih=>
  obtain ⟨h1,h2⟩:=h
  by_cases e:p.1=k
  ·have e':q.1=k:=h1.symm.trans e
   have b:valueAt (q::qs) k=some q.2:=by simp [valueAt,xC,e']
   rw [YA e,b]; exact h2
  ·have e':¬ q.1=k:=fun z=>e (h1.trans z)
   have b:valueAt (q::qs) k=valueAt qs k:=by simp [valueAt,xC,e']
   rw [J7 e,b]; exact ih
theorem KV.any {kvs:List (κ×V)} {vs:List (κ×Value)} (r:KV kvs vs) (k:κ):(kvs.any fun kv=>decide (kv.1=k))=vs.any fun kv=>decide (kv.1=k):=by
 unfold KV at r
 induction r with
 | nil=>rfl
 | cons h t ih=>rw [uE,uE,ih,h.1]
theorem KV.repl {kvs:List (κ×V)} {vs:List (κ×Value)} (r:KV kvs vs) (k:κ) {y:V} {u:Value} (ry:RelV y u) :
  KV (kvs.map fun kv=>if kv.1=k then (kv.1,y) else kv) (vs.map fun kv=>if kv.1=k then (kv.1,u) else kv):=by
 unfold KV at r ⊢
 induction r with
 | nil=>exact .nil
 | @cons p q ps qs h t ih=>
  rw [yV,yV]
  refine .cons ?_ ih
  obtain ⟨h1,h2⟩:=h
  by_cases e:p.1=k
  ·rw [if_pos e,if_pos (h1.symm.trans e)]; exact ⟨h1,ry⟩
  ·rw [if_neg e,if_neg (fun z=>e (h1.trans z))]; exact ⟨h1,h2⟩
theorem KV.put {kvs:List (κ×V)} {vs:List (κ×Value)} (r:KV kvs vs) (k:κ) {y:V} {u:Value} (ry:RelV y u):KV (putK kvs k y) (stored vs k u):=by
 unfold putK stored
 rw [r.any k]
 by_cases e:(vs.any fun kv=>decide (kv.1=k))=true
 ·rw [if_pos e,if_pos e]; exact r.repl k ry
 ·rw [if_neg e,if_neg e]; exact Paired.snoc r ⟨rfl,ry⟩
theorem KV.length {kvs:List (κ×V)} {vs:List (κ×Value)} (r:KV kvs vs):kvs.length=vs.length:=fQ r
end
theorem qHp {P:Program} {w:World} {k:Key} {u:Value} (r:RelV (kV k) u):(jV P w).is k u=true:=by
 cases k with
 | inl i=>obtain ⟨t,e⟩:=(show ∃ t,u=kD i t from r); subst e; exact qCX P w i t
 | inr x=>obtain ⟨t,e⟩:=(show ∃ t,u=UX x t from r); subst e; exact qCq P w x t
theorem qBX {P:Program} {w:World}:∀{ks:List Key} {us:List Value},qt (ks.map kV) us->ItemsAre (jV P w) ks us
 | [],_,r=>by rw [ZF] at r; cases r; exact .nil
 | k::ks,_,r=>by
  rw [yV] at r
  cases r with
  | cons h t=>exact .cons (qHp h) (qBX t)
noncomputable abbrev KT (H:Hp):List (List Key×V)->List (List Key×Addr×Value)->Prop:=Paired fun p q=>p.1=q.1/\H q.2.1=some (.tup (p.1.map kV))/\RelV p.2 q.2.2
theorem KT.val {H:Hp} {kvs:List (List Key×V)} {xs:List (List Key×Addr×Value)} (r:KT H kvs xs) (k:List Key):qFQ (qDj kvs k) ((atKey xs k).map (·.2)):=by
 induction r with
 | nil=>exact hW
 | @cons p q ps qs h t ih=>
  obtain ⟨h1,_,h2⟩:=h
  by_cases e:p.1=k
  ·have e':q.1=k:=h1.symm.trans e
   have b:atKey (q::qs) k=some q.2:=by simp [atKey,xC,e']
   rw [YA e,b]; exact h2
  ·have e':¬ q.1=k:=fun z=>e (h1.trans z)
   have b:atKey (q::qs) k=atKey qs k:=by simp [atKey,xC,e']
   rw [J7 e,b]; exact ih
theorem KT.repl {H:Hp} {kvs:List (List Key×V)} {xs:List (List Key×Addr×Value)} (r:KT H kvs xs) (k:List Key) {y:V} {u:Value} (ry:RelV y u) :
  KT H (kvs.map fun kv=>if kv.1=k then (kv.1,y) else kv) (xs.map (putAt k u)):=by
 induction r with
 | nil=>exact .nil
 | @cons p q ps qs h t ih=>
  rw [yV,yV]
  refine .cons ?_ ih
  obtain ⟨h1,h2,h3⟩:=h
  unfold putAt
  by_cases e:p.1=k
  ·rw [if_pos e,if_pos (h1.symm.trans e)]; exact ⟨h1,h2,ry⟩
  ·rw [if_neg e,if_neg (fun z=>e (h1.trans z))]; exact ⟨h1,h2,h3⟩
theorem KT.put {H:Hp} {kvs:List (List Key×V)} {xs:List (List Key×Addr×Value)} (r:KT H kvs xs) (k:List Key) {b:Addr} {y:V} {u:Value} (hb:H b=some (.tup (k.map kV))) (ry:RelV y u) :
  KT H (putK kvs k y) (storedH xs k b u):=by
 have e:(kvs.any fun kv=>decide (kv.1=k))=(atKey xs k).isSome:=by
  rw [qD4,(r.val k).isSome_eq,Option.isSome_map]
 unfold putK storedH
 rw [e]
 by_cases q:(atKey xs k).isSome=true
 ·rw [if_pos q,if_pos q]; exact r.repl k ry
 ·rw [if_neg q,if_neg q]; exact Paired.snoc r ⟨rfl,hb,ry⟩
theorem KT.keeps {H H':Hp} {kvs:List (List Key×V)} {xs:List (List Key×Addr×Value)} (r:KT H kvs xs) (ht:∀ b ys,H b=some (.tup ys)->H' b=some (.tup ys)):KT H' kvs xs:=
 Paired.mapP r fun _ _ z=>⟨z.1,ht _ _ z.2.1,z.2.2⟩
section
variable {P:Program} {w:World} {H:Hp} {h:Heap} {a:Addr}
theorem qLU {u:HO} (ok:HOk P w H h) (e:Rd H a u):jY P w H h a u:=e.ok ok
theorem qHN {kvs:List (Key×V)} (ok:HOk P w H h) (e:Rd H a (.dK kvs)):kvs.length<=sizeLine/\(a == sysModules)=false/\∃ vs,KV kvs vs/\h.DictOf (jV P w) a vs:=
 show jY P w H h a (.dK kvs) from qLU ok e
theorem qL1 {kvs:List (Key×V)} (ok:HOk P w H h) (e:H a=some (.dK kvs)):kvs.length<=sizeLine/\(a == sysModules)=false/\∃ vs,KV kvs vs/\h.DictOf (jV P w) a vs:=qHN ok (.inl e)
theorem qD3 {ks:List Key} (ok:HOk P w H h) (e:H a=some (.tup (ks.map kV))):(tupleKind (jV P w)).is h ks a:=by
 obtain ⟨_,its,r,⟨o,h1,h2,n,h3⟩,_⟩:=(show jY P w H h a (.tup (ks.map kV)) from ok a _ e)
 exact ⟨o,its.toArray,n,h1,h2,h3,by simpa using qBX r⟩
theorem qHx {kvs:List (List Key×V)} (ok:HOk P w H h) (e:Rd H a (.dT kvs)):kvs.length<=sizeLine/\(a == sysModules)=false/\
  ∃ xs,KT H kvs xs/\h.DictOfH (tupleKind (jV P w)) a xs:=by
 obtain ⟨z,y,xs,r,o,es,ep,h1,h2,h3,h4,h5⟩:=(show jY P w H h a (.dT kvs) from qLU ok e)
 refine ⟨z,y,xs,r,o,es,ep,h1,h2,h3,h4,fun x hx=>?_,h5⟩
 have all:∀{l:List (List Key×V)} {m:List (List Key×Addr×Value)},KT H l m->∀ x∈m,(tupleKind (jV P w)).is h x.1 x.2.1:=by
  intro l m q
  induction q with
  | nil=>intro x hx; exact nomatch hx
  | @cons p q ps qs hq t ih=>
   intro x hx
   rcases wZ.mp hx with e | hx
   ·subst e
    exact qD3 ok (by rw [<- hq.1]; exact hq.2.1)
   ·exact ih x hx
 exact all r x hx
theorem qLf {kvs:List (List Key×V)} (ok:HOk P w H h) (e:H a=some (.dT kvs)):kvs.length<=sizeLine/\(a == sysModules)=false/\
  ∃ xs,KT H kvs xs/\h.DictOfH (tupleKind (jV P w)) a xs:=qHx ok (.inl e)
end
noncomputable def qKh (H:Hp) (a:Addr) (y:V) (r:Option V):Prop:=
 (∃ kvs k,Rd H a (.dK kvs)/\y=kV k/\r=qDj kvs k)\/∃ kvs k b,Rd H a (.dT kvs)/\y=.ref b/\H b=some (.tup (k.map kV))/\r=qDj kvs k
noncomputable def qMy (H:Hp) (a:Addr) (y v:V) (H':Hp):Prop:=
 (∃ kvs k,H a=some (.dK kvs)/\y=kV k/\kvs.length<sizeLine/\H'=upd H a (.dK (putK kvs k v)))\/
 ∃ kvs k b,H a=some (.dT kvs)/\y=.ref b/\H b=some (.tup (k.map kV))/\kvs.length<sizeLine/\H'=upd H a (.dT (putK kvs k v))
section
variable {X:Cx} {pins:List (Addr×Obj)} {σ:St} {H:Hp} {s:Shared} {a:Addr} {y v:V} {u r:Value} {o:Option V} {A:Around} {E:Value->Shared->Prop}
theorem Inv.big (I:Inv X pins σ H s):sysModules<s.heap.objs.size:=by
 have h:mainGlobals<s.heap.objs.size:=(I.mod.glob.keeps I.bk).lt
 exact Nat.lt_trans (by decide) h
theorem qE5 {Q:Value->Shared->Prop} (hu:A.units+1<cLine) (I:Inv X pins σ H s) (g:qKh H a y (some v)) (ry:RelV y u) (h:∀ w' s',Inv X pins σ H s'->RelV v w'->Q w' s') :
  wpAny (model X.prog X.w) A (getItem (.ref a) u) Q E s:=by
 rcases g with ⟨kvs,k,e,ey,l⟩ | ⟨kvs,k,b,e,ey,eb,l⟩
 ·subst ey
  obtain ⟨z,hd,vs,rel,dd⟩:=qHN I.hok e
  obtain ⟨w',hw,rw'⟩:=qFQ.some_of (v:=v) (o:=valueAt vs k) (by rw [l]; exact rel.val k)
  exact wpAny_getItem_of (qHp ry) dd.mapOf hw (h w' _ (I.tok _) rw')
 ·subst ey
  cases (show u=yF b from ry)
  obtain ⟨z,hd,xs,rel,dd⟩:=qHx I.hok e
  obtain ⟨w',hw,rw'⟩:=qFQ.some_of (v:=v) (o:=(atKey xs k).map (·.2)) (by rw [l]; exact rel.val k)
  obtain ⟨p,hp,hp2⟩:=gD.mp hw
  refine wpAny_getItem_heap (WD hu) (qD3 I.hok eb) dd hp ?_
  rw [hp2]
  exact h w' _ (I.tok _) rw'
theorem qNA {Q:Value->Shared->Prop} (hu:A.units+1<cLine) (I:Inv X pins σ H s) (g:qKh H a y o) (ry:RelV y u) (h:∀ s',Inv X pins σ H s'->Q (.bool o.isSome) s') :
  wpAny (model X.prog X.w) A (compareOp .In u (.ref a)) Q E s:=by
 rcases g with ⟨kvs,k,e,ey,l⟩ | ⟨kvs,k,b,e,ey,eb,l⟩
 ·subst ey
  obtain ⟨z,hd,vs,rel,dd⟩:=qHN I.hok e
  refine wpAny_in_of (qHp ry) hd dd.mapOf ?_
  rw [<- (rel.val k).isSome_eq,<- l]
  exact h _ (I.tok _)
 ·subst ey
  cases (show u=yF b from ry)
  obtain ⟨z,hd,xs,rel,dd⟩:=qHx I.hok e
  refine wpAny_in_heap (WD hu) (qD3 I.hok eb) hd dd ?_
  have q:=(rel.val k).isSome_eq
  rw [Option.isSome_map] at q
  rw [<- q,<- l]
  exact h _ (I.tok _)
theorem qFO {h':Heap} {t':Nat} {ob:HO} (I:Inv X pins σ H s) (mu:Mut (H a)) (hs:kN a s.heap h') (he:∃ q,h'.get? a=some q) (new:jY X.prog X.w (upd H a ob) h' a ob) :
  Inv X pins σ (upd H a ob) { s with heap:=h',toks:=t' }:=
 I.write (x:=a) (e:=a) mu (.inl rfl) (fun b q hb z=>(hs.2 b hb).trans z) he new
theorem qKz {P:Program} {w:World} {H':Hp} {h':Heap} {kvs:List (Key×V)} {vs:List (Key×Value)} (z:kvs.length<=sizeLine) (hd:(a == sysModules)=false) (rel:KV kvs vs) (dd:h'.DictOf (jV P w) a vs) :
  jY P w H' h' a (.dK kvs):=⟨z,hd,vs,rel,dd⟩
theorem qF7 {H':Hp} {Q:Unit->Shared->Prop} (hu:A.units+1<cLine) (I:Inv X pins σ H s) (g:qMy H a y v H') (ry:RelV y u) (rv:RelV v r) (h:∀ s',Inv X pins σ H' s'->Q () s') :
  wpAny (model X.prog X.w) A (setItem (.ref a) u r) Q E s:=by
 rcases g with ⟨kvs,k,e,ey,l,eH⟩ | ⟨kvs,k,b,e,ey,eb,l,eH⟩
 ·subst ey eH
  obtain ⟨z,hd,vs,rel,dd⟩:=qL1 I.hok e
  have hz:vs.length<=sizeLine:=by rw [<- rel.length]; exact z
  have hl:(putK kvs k v).length<=sizeLine:=by have:=Yw kvs k v; omega
  refine wpAny_setItem_pairs (hsz:=hz) (qHp ry) dd fun h' dd' hs=>h _ ?_
  have he:∃ q,h'.get? a=some q:=let ⟨q,_,_,hq,_⟩:=dd'; ⟨q,hq⟩
  exact qFO I (by rw [e]; exact hW) hs he (qKz hl hd (rel.put k rv) dd')
 ·subst ey eH
  cases (show u=yF b from ry)
  obtain ⟨z,hd,xs,rel,dd⟩:=qLf I.hok e
  have hz:xs.length<=sizeLine:=by rw [<- fQ rel]; exact z
  have hl:(putK kvs k v).length<=sizeLine:=by have:=Yw kvs k v; omega
  refine wpAny_setItem_heap (hsz:=hz) (WD hu) (qD3 I.hok eb) dd fun h' dd' hs=>h _ ?_
  obtain ⟨q,es,ep,hq,h2,h3,h4,_,h5⟩:=dd'
  refine qFO I (by rw [e]; exact hW) hs ⟨q,hq⟩ ⟨hl,hd,_,(rel.put k eb rv).keeps fun c ys ec=>?_,q,es,ep,hq,h2,h3,h4,h5⟩
  rw [qN (qMb ec e (fun z=>nomatch z))]
  exact ec
end
noncomputable def qM0 (i:Expr):Prop:=∀ ov iv,subscripted i false ov iv=operate [ov,iv] (getItem ov iv)
theorem qJa {prog:Program} {w:World} {A:Around} {E:Value->Shared->Prop} {s:Shared} {env:Env} {value slice:Expr} {pos:Pos} {T id:String} {Q:Value->Shared->Prop}
  (hl:typeLookup (.type T) "__getitem__" = pure (some (.builtin id))) (hs:qM0 slice)
  (h:wpAny (model prog w) A (eval value env) (fun o s₁=>wpAny (model prog w) A (eval slice env) (fun i s₂=>s₂.TypeIs o T/\wpAny (model prog w) A (getItem o i) Q E s₂) E s₁) E s) :
  wpAny (model prog w) A (eval (.Subscript value slice pos) env) Q E s:=by
 refine Subscript_ (xW h (fun o s₁ h₁=>xW h₁ (fun i s₂ h₂=>?_) fun _ _ x=>x) fun _ _ x=>x)
 obtain ⟨hT,h₂⟩:=h₂
 unfold subscriptTail
 refine wB ?_
 rw [getitemInPython_of_ne hT.not_modules]
 refine wB (VM hT hl ?_)
 have fin:wpAny (model prog w) A (subscripted slice false o i) (fun r s₃=>wpAny (model prog w) A (letTemporaryGo value o r >>= fun _=>pure r) Q E s₃) E s₂:=by
  rw [hs o i]
  exact wpAny_operating (xW h₂ (fun r s₃ h₃=>wB (wpAny_letTemporaryGo (wD h₃))) fun _ _ x=>x)
 first
  | exact wD (wB fin)
  | exact wB (wD (wB fin))
  | exact wB fin
theorem qDE {X:Cx} {pins:List (Addr×Obj)} {σ:St} {H:Hp} {s:Shared} {a:Addr} {y:V} {o:Option V} (I:Inv X pins σ H s) (g:qKh H a y o):s.TypeIs (.ref a) "dict":=by
 rcases g with ⟨kvs,k,e,_,_⟩ | ⟨kvs,k,b,e,_,_,_⟩
 ·obtain ⟨_,_,vs,_,dd⟩:=qHN I.hok e
  exact dd.typeIs
 ·obtain ⟨_,_,xs,_,dd⟩:=qHx I.hok e
  exact dd.typeIs
noncomputable def qLc (td ty:TE):TE:=fun σ H Q=>td σ H fun x H1=>ty σ H1 fun y H2=>∃ a v,x=.ref a/\qKh H2 a y (some v)/\Q v H2
noncomputable def qMs (ty td:TE):TE:=fun σ H Q=>ty σ H fun y H1=>td σ H1 fun x H2=>∃ a o,x=.ref a/\qKh H2 a y o/\Q (.bl o.isSome) H2
noncomputable def qJu (td ty tv:TE):TS:=fun D σ H=>tv σ H fun v H1=>td σ H1 fun x H2=>ty σ H2 fun y H3=>∃ a H4,x=.ref a/\qMy H3 a y v H4/\D.nx σ H4
section
variable {X:Cx} {o i e value:Expr} {pos pos' tpos:Pos} {td ty tv:TE}
theorem qGI (hu:X.A.units+1<cLine) (ho:PE X o td) (hi:PE X i ty) (hs:qM0 i):PE X (.Subscript o i pos) (qLc td ty):=by
 intro pins s σ H Q I h
 refine qJa PySem.F.slot_dict_getitem.lookup hs (thn (ho pins s σ H _ I h) fun u s1 ⟨x,H1,I1,rx,q1⟩=>thn (hi pins s1 σ H1 _ I1 q1) fun iv s2 ⟨y,H2,I2,ry,a,v,ex,g,q2⟩=>?_)
 subst ex
 obtain rfl:u=yF a:=rx
 exact ⟨qDE I2 g,qE5 hu I2 g ry fun w' s3 I3 rw'=>⟨v,H2,I3,rw',q2⟩⟩
theorem qK4 (hu:X.A.units+1<cLine) (hi:PE X i ty) (ho:PE X o td):PC X .In i o (qMs ty td):=by
 intro pins s σ H Q I h
 refine thn (hi pins s σ H _ I h) fun iv s1 ⟨y,H1,I1,ry,q1⟩=>thn (ho pins s1 σ H1 _ I1 q1) fun u s2 ⟨x,H2,I2,rx,a,ov,ex,g,q2⟩=>?_
 subst ex
 obtain rfl:u=yF a:=rx
 exact qNA hu I2 g ry fun s3 I3=>⟨.bl ov.isSome,H2,I3,rfl,q2⟩
theorem qGU (hu:X.A.units+1<cLine) (ho:PE X o td) (hi:PE X i ty) (hv:PE X value tv) (hs:swapsWith value (some (.Subscript o i pos')) pos.line X.env=pure false) :
  PS X (.Assign [.Subscript o i pos'] value pos) (qJu td ty tv):=by
 intro pins s σ H D I h
 refine wpAny_Assign_Subscript (thn (hv pins s σ H _ I h) fun r s1 ⟨v,H1,I1,rv,q1⟩=>thn (ho pins s1 σ H1 _ I1 q1) fun u s2 ⟨x,H2,I2,rx,q2⟩=>thn (hi pins s2 σ H2 _ I2 q2) fun iv s3 ⟨y,H3,I3,ry,a,H4,ex,g,q3⟩=>?_) hs
 subst ex
 obtain rfl:u=yF a:=rx
 exact qF7 hu I3 g ry rv fun s4 I4=>⟨σ,H4,I4,q3⟩
end
theorem qHh {P:Program} {w:World} {H:Hp} (h:Heap) (hb:sysModules<h.objs.size):jY P w H (h.push { cls:=.type "dict",data:=.dict #[] }) h.objs.size (.dK []):=
 ⟨zP _,beq_eq_false_iff_ne.mpr (gX (zH hb)),[],.nil,Heap.DictOf.new h⟩
theorem qHE {P:Program} {w:World} {H:Hp} (h:Heap) (hb:sysModules<h.objs.size):jY P w H (h.push { cls:=.type "dict",data:=.dict #[] }) h.objs.size (.dT []):=
 ⟨zP _,beq_eq_false_iff_ne.mpr (gX (zH hb)),[],.nil,_,#[],0,wR _ rfl,⟨rfl,rfl,rfl⟩,rfl,rfl,xK⟩
noncomputable def qIS:TE:=fun _ H Q=>∀ p,H p=none->Q (.ref p) (upd H p (.dK []))
noncomputable def qIZ:TE:=fun _ H Q=>∀ p,H p=none->Q (.ref p) (upd H p (.dT []))
section
variable {X:Cx} {pos:Pos}
theorem qH6:PE X (.Dict [] [] pos) qIS:=fun pins s σ H Q I h=>
 wpAny_Dict_empty ⟨.ref s.heap.objs.size,_,I.laid (a:=s.heap.objs.size) (o:=.dK []) (t':=s.toks) (fun _ _ q=>wF _ q) (wK _) (qHh s.heap I.big),rfl,h _ (I.hok.fresh (wK _))⟩
theorem qGm:PE X (.Dict [] [] pos) qIZ:=fun pins s σ H Q I h=>
 wpAny_Dict_empty ⟨.ref s.heap.objs.size,_,I.laid (a:=s.heap.objs.size) (o:=.dT []) (t':=s.toks) (fun _ _ q=>wF _ q) (wK _) (qHE s.heap I.big),rfl,h _ (I.hok.fresh (wK _))⟩
end
noncomputable def IsD (H:Hp) (a:Addr):Prop:=(∃ kvs,Rd H a (.dK kvs))\/∃ kvs,Rd H a (.dT kvs)
section
variable {w:World} {prog:Program} {A:Around} {s:Shared} {R:Result->Shared->Prop}
theorem qBf {elt target iter:Expr} {ifs:List Expr} {scope:Scope} {pos:Pos} {it acc:Value} {env:Env} (J:Nat->Shared->Prop)
  (turn:∀ n s,J n s->wpAny (model prog w) A (pyNext it) (fun r s1=>match r with
   | none=>R (.ok .next) s1
   | some v=>wpAny (model prog w) A (letOwnedTupleGo target it v) (fun _ s1'=>wpAny (model prog w) A (assign target env v) (fun _ s2=>
     wpAny (model prog w) A (forIn ifs true fun c r=>if r=true then do let ok <- isTrue c env (eval c env); pure (uM ok) else pure (uM r)) (fun ok s3=>
      if ok=true then wpAny (model prog w) A (eval elt env) (fun x s4=>
       wpAny (model prog w) A (call (.builtin "list.append") [acc,x]) (fun _ s5=>∃ m,m<n/\J m s5) (fun _ _=>False) s4) (fun _ _=>False) s3
      else ∃ m,m<n/\J m s3) (fun _ _=>False) s2) (fun _ _=>False) s1') (fun _ _=>False) s1) (fun _ _=>False) s)
  (n:Nat) (h:J n s):codeAny (model prog w) A (.compLoop (.ListComp elt [⟨target,iter,ifs,0⟩] scope pos) 0 it acc env) R s:=by
 refine WQ rfl J (fun n s hI=>?_) n h
 refine VH (env:=env) (m:=compTurn (.ListComp elt [⟨target,iter,ifs,0⟩] scope pos) 0 it acc env) ?_
 rw [compTurn_list]
 refine wB (uC (wB (xW (turn n s hI) (fun r s1 h1=>?_) fun _ _ h'=>h'.elim)))
 cases r with
 | none=>exact wD h1
 | some v=>
  refine wB (xW h1 (fun _ s1' h1'=>?_) fun _ _ h'=>h'.elim)
  refine wB (xW h1' (fun _ s2 h2=>wB (xW h2 (fun ok s3 h3=>?_) fun _ _ h'=>h'.elim)) fun _ _ h'=>h'.elim)
  cases ok with
  | false=>exact wD ⟨rfl,h3⟩
  | true=>
   exact wB (wB (xW h3 (fun x s4 h4=>wB (xW h4 (fun _ s5 h5=>wD (wD ⟨rfl,h5⟩)) fun _ _ h'=>h'.elim)) fun _ _ h'=>h'.elim))
end
theorem Jm {env:Env}:∀(names:List (Str×NameKind)) (cs:List (Str×Addr)),(∀ x∈names,x.2=.free->∃ c,env.cells.lookup x.1=some c)->(∀ x c,cs.lookup x=some c->env.cells.lookup x=some c)->
  ∃ cl,(forIn names cs fun (x:Str×NameKind) (cs:List (Str×Addr))=>(if (x.2 == xH)=true then do let a <- cellOf env x.1; pure (uM ((x.1,a)::cs)) else pure (uM cs):Sem (ForInStep (List (Str×Addr)))))=pure cl/\
   (∀ x c,cl.lookup x=some c->env.cells.lookup x=some c)/\(∀ x,(cs.lookup x).isSome=true->(cl.lookup x).isSome=true)/\∀ x∈names,x.2=.free->(cl.lookup x.1).isSome=true
 | [],cs,_,h=>⟨cs,rfl,h,fun _ z=>z,fun x z=>by cases z⟩
 | (n,k)::r,cs,hf,h=>by
  by_cases hk:k=.free
  ·subst hk
   obtain ⟨c,hc⟩:=hf (n,.free) wN rfl
   have hc':env.cells.lookup n=some c:=hc
   obtain ⟨cl,e,h1,h2,h3⟩:=Jm (env:=env) r ((n,c)::cs) (fun x hx=>hf x (wQ _ hx)) (fun x d hd=>by
    rw [yY] at hd
    by_cases hx:x=n
    ·subst hx
     simp at hd
     subst hd
     exact hc
    ·have:(x == n)=false:=by simpa using hx
     rw [this] at hd
     exact h x d hd)
   refine ⟨cl,?_,h1,fun x hx=>h2 x ?_,fun x hx hk=>?_⟩
   ·rw [VN]
    simp only [beq_self_eq_true,if_true,cellOf,hc',pure_bind]
    exact e
   ·rw [yY]
    by_cases hx':x=n
    ·subst hx'; simp
    ·have:(x == n)=false:=by simpa using hx'
     rw [this]; exact hx
   ·rcases wZ.mp hx with z | z
    ·subst z
     refine h2 _ ?_
     rw [yY]
     simp
    ·exact h3 x z hk
  ·obtain ⟨cl,e,h1,h2,h3⟩:=Jm (env:=env) r cs (fun x hx=>hf x (wQ _ hx)) h
   refine ⟨cl,?_,h1,h2,fun x hx hk'=>?_⟩
   ·rw [VN]
    have:(k == xH)=false:=by simpa using hk
    simp only [this,xP,if_false,pure_bind]
    exact e
   ·rcases wZ.mp hx with z | z
    ·subst z; exact absurd hk' hk
    ·exact h3 x z hk'
theorem Q1 {env:Env} {scope:Scope} (hf:∀ x∈scope.names,x.2=.free->∃ c,env.cells.lookup x.1=some c) :
  ∃ cl,closureFor scope env=pure cl/\(∀ x c,cl.lookup x=some c->env.cells.lookup x=some c)/\∀ x∈scope.names,x.2=.free->(cl.lookup x.1).isSome=true:=by
 obtain ⟨cl,e,h1,_,h3⟩:=Jm (env:=env) scope.names [] hf (fun x c z=>by cases z)
 refine ⟨cl,?_,h1,h3⟩
 unfold closureFor
 simp only [bind_pure]
 exact e
noncomputable def qCi (scope:Scope) (x:Str):Bool:=match scope.names.lookup x with
 | some .cell=>true
 | _=>false
theorem qEO {scope:Scope} {x:Str} (h:qCi scope x=true):scope.names.lookup x=some .cell:=by
 unfold qCi at h
 split at h
 ·assumption
 ·cases h
noncomputable def qW (n:Nat) (scope:Scope):List (Str×Addr):=cellsFrom (n+1) scope.names []
theorem Qs:∀(names:List (Str×NameKind)) (n:Nat) (cl:List (Str×Addr)),cellsFrom n names cl=cellsFrom n names []++cl
 | [],_,_=>rfl
 | (x,k)::r,n,cl=>by
  unfold cellsFrom
  split
  ·rw [Qs r (n+1) ((x,n)::cl),Qs r (n+1) [(x,n)],vR]
   rfl
  ·exact Qs r n cl
theorem YF:∀(names:List (Str×NameKind)) (n:Nat) {x:Str} {c:Addr},(x,c)∈cellsFrom n names []->(x,kE)∈names
 | [],_,_,_,h=>absurd h yM
 | (y,k)::r,n,x,c,h=>by
  unfold cellsFrom at h
  split at h
  ·rename_i hk
   rw [Qs] at h
   rcases zK.mp h with z | z
   ·exact wQ _ (YF r _ z)
   ·cases zB.mp z
    rw [beq_iff_eq.mp hk]
    exact wN
  ·exact wQ _ (YF r _ h)
structure qAp (s:Shared) (scope:Scope) (h':Heap):Prop where
 ns:h'.Ns s.heap.objs.size fun _=>none
 keep:∀ b o,s.heap.get? b=some o->h'.get? b=some o
 cell:∀ x c,(qW s.heap.objs.size scope).lookup x=some c->h'.IsCell c none/\s.heap.objs.size<c
 one:∀ x y c,(qW s.heap.objs.size scope).lookup x=some c->(qW s.heap.objs.size scope).lookup y=some c->x=y
theorem YH {M:Model} {A:Around} {E:Value->Shared->Prop} {s:Shared} {scope:Scope} {gl:Addr} {cl:List (Str×Addr)} {q:Str} {env:Env} {Q:Env->Shared->Prop}
  (h:∀ h',qAp s scope h'->Q (newEnv scope s.heap.objs.size gl (qW s.heap.objs.size scope++cl) q none .none (some env) builtinsNs) { s with heap:=h',toks:=s.toks }) :
  wpAny M A (newFunctionEnv scope gl cl [] q none .none (some env)) Q E s:=by
 unfold newFunctionEnv
 refine wB (wpAny_alloc (wB (wpAny_layCells _ (fun x k cs=>?_) _ _ _ _ (wB ?_))))
 ·by_cases z:(k == kE)=true
  ·rw [if_pos z]
   simp only [z,if_true,pure_bind,bind_assoc]
  ·rw [if_neg z]
   simp only [gE.mpr z,xP,if_false,pure_bind]
 ·have sz:=gF s.heap { cls:=.type "dict",data:=.dict #[] }
  have ok:=cellsFrom_ok scope.names (s.heap.push { cls:=.type "dict",data:=.dict #[] }) (s.heap.objs.size+1) [] ⟨fun x c z=>absurd z yM,.nil⟩ (uA sz.symm)
  rw [sz] at ok
  have b:qAp s scope (pushCells (s.heap.push { cls:=.type "dict",data:=.dict #[] }) scope.names):=by
   refine ⟨(Heap.Ns.new s.heap (.type "dict")).keeps (pushCells_keeps _ _),fun b o e=>pushCells_keeps _ _ b o (wF _ e),fun x c e=>?_,fun x y c e1 e2=>name_of_addr ok.apart (vN e1) (vN e2)⟩
   obtain ⟨z1,z2⟩:=ok.empty x c (vN e)
   exact ⟨z1,z2⟩
  have this:=h _ b
  unfold qW at this
  rw [<- Qs,<- sz] at this
  rw [List.forIn_nil]
  exact wD (wD this)
noncomputable def qd (X:Cx) (NY:List Str) (scope:Scope) (cl:List (Str×Addr)) (C:Addr) (s0:Shared) (H0:Hp) (ex:List Addr):Cx:=
 { X with N:=NY,s₀:=s0,H₀:=H0,env:=compEnvC scope cl C X.env,outer:=X.stack,ex:=ex,fn:=qCi scope,pn:=[],xe:=fun _ _=>False }
noncomputable def YK (X:Cx) (scope:Scope):List (Str×Nat)->Prop
 | []=>True
 | p::r=>(X.N[p.2]? = some p.1/\scope.names.lookup p.1=some .free/\(X.env.kindOf p.1=some .cell\/X.env.kindOf p.1=some .free))/\YK X scope r
theorem YK.all {X:Cx} {scope:Scope}:∀{fr:List (Str×Nat)},YK X scope fr->∀ p∈fr,X.N[p.2]? = some p.1/\scope.names.lookup p.1=some .free/\(X.env.kindOf p.1=some .cell\/X.env.kindOf p.1=some .free)
 | [],_,p,hp=>by cases hp
 | q::r,h,p,hp=>by
  rcases wZ.mp hp with z | z
  ·subst z; exact h.1
  ·exact YK.all h.2 p z
noncomputable def qj (own:List Str) (fr:List (Str×Nat)) (σ:St):St:=own.map (fun _=>none)++fr.map fun p=>(σ[p.2]?).join
theorem Qf {env:Env}:∀{names:List (Str×NameKind)} {x:Str} {k:NameKind},(names.map fun (n,k)=>if (k == xH && env.scope.kind == .function && env.kindOf n == some .cell) then (n,kE) else (n,k)).lookup x=some k->
  k=.cell\/k=.free->names.lookup x=some .free\/names.lookup x=some .cell
 | [],_,_,h,_=>by simp at h
 | (n,k0)::r,x,k,h,hk=>by
  have ih:=@Qf env r x k
  have h':List.lookup x ((if (k0 == xH && env.scope.kind == .function && env.kindOf n == some .cell)=true then (n,kE) else (n,k0))::(r.map fun (n,k)=>if (k == xH && env.scope.kind == .function && env.kindOf n == some .cell) then (n,kE) else (n,k)))=some k:=h
  clear h
  cases hx:x == n with
  | true=>
   simp only [yY,hx]
   by_cases hc:(k0 == xH && env.scope.kind == .function && env.kindOf n == some .cell)=true
   ·simp only [zY,beq_iff_eq] at hc
    exact .inl (by rw [hc.1.1])
   ·rw [if_neg hc] at h'
    simp only [yY,hx] at h'
    cases h'
    rcases hk with rfl | rfl
    ·exact .inr rfl
    ·exact .inl rfl
  | false=>
   simp only [yY,hx]
   by_cases hc:(k0 == xH && env.scope.kind == .function && env.kindOf n == some .cell)=true
   ·rw [if_pos hc] at h'; simp only [yY,hx] at h'; exact ih h' hk
   ·rw [if_neg hc] at h'; simp only [yY,hx] at h'; exact ih h' hk
theorem JX {env:Env}:∀{names:List (Str×NameKind)} {x:Str},(names.map fun (n,k)=>if (k == xH && env.scope.kind == .function && env.kindOf n == some .cell) then (n,kE) else (n,k)).lookup x=some .local->
  names.lookup x=some .local
 | [],_,h=>by simp at h
 | (n,k0)::r,x,h=>by
  have ih:=@JX env r x
  have h':List.lookup x ((if (k0 == xH && env.scope.kind == .function && env.kindOf n == some .cell)=true then (n,kE) else (n,k0))::(r.map fun (n,k)=>if (k == xH && env.scope.kind == .function && env.kindOf n == some .cell) then (n,kE) else (n,k)))=some .local:=h
  clear h
  cases hx:x == n with
  | true=>
   simp only [yY,hx]
   by_cases hc:(k0 == xH && env.scope.kind == .function && env.kindOf n == some .cell)=true
   ·rw [if_pos hc] at h'; simp [yY,hx] at h'
   ·rw [if_neg hc] at h'; simpa [yY,hx] using h'
  | false=>
   simp only [yY,hx]
   by_cases hc:(k0 == xH && env.scope.kind == .function && env.kindOf n == some .cell)=true
   ·rw [if_pos hc] at h'; simp only [yY,hx] at h'; exact ih h'
   ·rw [if_neg hc] at h'; simp only [yY,hx] at h'; exact ih h'
structure jC (X:Cx) (own:List Str) (fr:List (Str×Nat)) (scope:Scope):Prop where
 kind:scope.kind=.function
 cells:∀ y∈scope.names,y.2=.cell->scope.names.lookup y.1=some .cell
 names:∀ x∈scope.names,x.2=.local->scope.names.lookup x.1=some .local
 frees:YK X scope fr
 allf:∀ x∈scope.names,x.2=.free->∃ p∈fr,p.1=x.1
section
variable {X:Cx} {pins:List (Addr×Obj)} {σ:St} {H:Hp} {s:Shared}
theorem jC.has {own:List Str} {fr:List (Str×Nat)} {scope:Scope} (S:jC X own fr scope) (ok:X.Ok):∀ x∈scope.names,x.2=.free->∃ c,X.env.cells.lookup x.1=some c:=fun x hx hk=>by
 obtain ⟨p,hp,e⟩:=S.allf x hx hk
 obtain ⟨_,_,h⟩:=S.frees.all p hp
 rw [<- e]
 exact ok.has p.1 h
theorem Jj {n:Nat} {scope:Scope} {cl:List (Str×Addr)} {x:Str} {c:Addr} (h:(qW n scope++cl).lookup x=some c):(qW n scope).lookup x=some c\/cl.lookup x=some c:=by
 rw [fA] at h
 cases e:(qW n scope).lookup x with
 | none=>rw [e] at h; exact .inr h
 | some d=>rw [e] at h; exact .inl h
theorem jC.outer {own:List Str} {fr:List (Str×Nat)} {scope:Scope} (S:jC X own fr scope) {n:Nat} {cl:List (Str×Addr)} {x:Str} (h:scope.names.lookup x=some .free):(qW n scope++cl).lookup x=cl.lookup x:=by
 rw [fA]
 cases e:(qW n scope).lookup x with
 | none=>rfl
 | some d=>
  have:=S.cells _ (YF _ _ (vN e)) rfl
  rw [h] at this
  cases this
theorem YB {scope:Scope} {cl:List (Str×Addr)} {h':Heap} (B:qAp s scope h') {b:Addr} {o:Obj} (hb:s.heap.get? b=some o) {x:Str} {c:Addr} (h:(qW s.heap.objs.size scope++cl).lookup x=some c) (g:cl.lookup x=some c->c≠b):c≠b:=by
 rcases Jj h with z | z
 ·exact fun e=>absurd (wY hb) (VB (e ▸ (B.cell x c z).2))
 ·exact g z
theorem qA8 {own:List Str} {fr:List (Str×Nat)} {scope:Scope} {cl:List (Str×Addr)} {fp:List Addr} {h':Heap} {tk:Nat} (S:jC X own fr scope) (I:Inv X pins σ H s)
  (hcl:∀ x c,cl.lookup x=some c->X.env.cells.lookup x=some c) (hcs:∀ x∈scope.names,x.2=.free->(cl.lookup x.1).isSome=true)
  (hf:∀ b∈fp,Y4 X pins H b) (hfo:∀ b∈fp,∃ o,s.heap.get? b=some o)
  (B:qAp s scope h') :
  Inv (qd X (own++fr.map (·.1)) scope (qW s.heap.objs.size scope++cl) s.heap.objs.size s H fp) [] (qj own fr σ) H { s with heap:=h',toks:=tk }:=by
 have keep:=B.keep
 have old:∀ x c,cl.lookup x=some c->c<s.heap.objs.size:=fun x c e=>by
  obtain ⟨v,z⟩:=I.cell x c (hcl x c e)
  exact z.lt
 have freeOf:∀ x,scope.names.lookup x=some .free->∃ c,cl.lookup x=some c:=fun x hx=>by
  have hm:=vN hx
  exact UL.mp (hcs _ hm rfl)
 refine ⟨⟨I.ok.mod,?_,I.ok.glob,I.ok.blt,wK _,?_,?_,?_,I.ok.hd,I.ok.frames,.inl rfl,?_,I.bs,zC I.ok.bsz I.sz,?_,?_,I.stack,I.stkFree⟩,rfl,I.bare,Un.kept keep,⟨_,B.ns,?_⟩,?_,I.hok.fresh (wK _),?_,?_,I.hok.kept keep,?_⟩
 ·exact S.kind
 ·intro x y c h1 h2
  rcases Jj h1 with z1 | z1 <;> rcases Jj h2 with z2 | z2
  ·exact B.one x y c z1 z2
  ·exact absurd (old y c z2) (VB (B.cell x c z1).2)
  ·exact absurd (old x c z1) (VB (B.cell y c z2).2)
  ·exact I.ok.inj x y c (hcl x c z1) (hcl y c z2)
 ·intro x hx
  have hx':(relabel scope X.env).names.lookup x=some .cell\/(relabel scope X.env).names.lookup x=some .free:=hx
  have:scope.names.lookup x=some .free\/scope.names.lookup x=some .cell:=by
   rcases hx' with z | z
   ·exact Qf z (.inl rfl)
   ·exact Qf z (.inr rfl)
  rcases this with z | z
  ·obtain ⟨c,hc⟩:=freeOf x z
   exact ⟨c,(S.outer z).trans hc⟩
  ·obtain ⟨c,hc⟩:=J5 (n:=s.heap.objs.size+1) z
   refine ⟨c,?_⟩
   show (qW s.heap.objs.size scope++cl).lookup x=some c
   rw [fA,show (qW s.heap.objs.size scope).lookup x=some c from hc]
   rfl
 ·intro x c hx z
  obtain ⟨d,hd⟩:=J5 (n:=s.heap.objs.size+1) (qEO hx)
  have e:(qW s.heap.objs.size scope++cl).lookup x=some d:=by
   rw [fA,show (qW s.heap.objs.size scope).lookup x=some d from hd]
   rfl
  have z':(qW s.heap.objs.size scope++cl).lookup x=some c:=z
  rw [e] at z'
  cases z'
  exact vQ (B.cell x c hd).2
 ·intro b hb
  obtain ⟨o,ho⟩:=hfo b hb
  exact ⟨zH (wY ho),fun x c e=>YB B ho e fun z=>(hf b hb).2.2.2.2.1 x c (hcl x c z)⟩
 ·intro b o e hb
  obtain ⟨_,_,_,z,_⟩:=hf b hb
  rcases z with z | z
  ·exact I.ok.noex b o e z
  ·exact absurd (zQ (wY (I.ok.bs b o e).1) z) (xR _)
 ·intro b hb hs
  obtain ⟨_,f1,f2,_⟩:=hf b hb
  rcases wZ.mp (I.stkSub b hs) with e | e
  ·exact f1 e
  ·exact f2 e
 ·intro i x v h1 h2 h3
  have h1':(own++fr.map (·.1))[i]? = some x:=h1
  have h2':(own.map (fun _=>(none:Option V))++fr.map fun p=>(σ[p.2]?).join)[i]? = some (some v):=h2
  by_cases hi:i<own.length
  ·rw [vH (by simpa using hi),wI] at h2'
   rw [wC hi] at h2'
   cases h2'
  ·rw [yC (by omega),wI] at h1'
   rw [yC (by simp; omega),wI,wA] at h2'
   cases e:fr[i - own.length]? with
   | none=>rw [e] at h1'; cases h1'
   | some p=>
    rw [e] at h1' h2'
    have e1:p.1=x:=by simpa using h1'
    have e2:(σ[p.2]?).join=some v:=by simpa using h2'
    have e3:σ[p.2]? = some (some v):=by
     cases q:σ[p.2]? with
     | none=>rw [q] at e2; cases e2
     | some y=>rw [q] at e2; cases y with
      | none=>cases e2
      | some y=>simpa using e2
    obtain ⟨g1,g2,g3⟩:=S.frees.all p (yT e)
    subst e1
    obtain ⟨m,hn,hl⟩:=I.loc
    have vis:Vis X.env.scope p.1:=by
     rcases g3 with z | z
     ·exact .inr (.inl z)
     ·exact .inr (.inr z)
    obtain ⟨u,r,l⟩:=hl p.2 p.1 v g1 e3 vis
    refine ⟨u,r,.inr ⟨?_,?_⟩⟩
    ·have h3':Vis (relabel scope X.env) p.1:=h3
     rcases h3' with z | z | z
     ·have:=JX z
      rw [g2] at this
      cases this
     ·exact .inl z
     ·exact .inr z
    ·rcases l with ⟨k,_⟩ | ⟨k,c,hc,hcell⟩
     ·rcases g3 with z | z
      ·rw [z] at k; cases k
      ·rw [z] at k; cases k
     ·obtain ⟨c',hc'⟩:=freeOf p.1 g2
      have:=hcl _ _ hc'
      rw [hc] at this
      cases this
      obtain ⟨o,ho,hd⟩:=hcell
      exact ⟨c,(S.outer g2).trans hc',o,keep c o ho,hd⟩
 ·intro x c e
  rcases Jj e with z | z
  ·exact ⟨none,(B.cell x c z).1⟩
  ·obtain ⟨v,o,ho,hd⟩:=I.cell x c (hcl x c z)
   exact ⟨v,o,keep c o ho,hd⟩
 ·intro x c e
  rcases Jj e with z | z
  ·exact I.hok.fresh (vQ (B.cell x c z).2)
  ·exact I.freeC x c (hcl x c z)
 ·intro p hp
  exact absurd (show p∈([]:List (Addr×Obj)) from hp) (by simp)
 ·show (own.map (fun _=>(none:Option V))++fr.map fun p=>(σ[p.2]?).join).length=(own++fr.map (·.1)).length
  simp
end
noncomputable def PF (X:Cx) (ifs:List Expr) (t:TT):Prop:=
 ∀(pins:List (Addr×Obj)) (s:Shared) (σ:St) (H:Hp) (Q:Bool->Hp->Prop),Inv X pins σ H s->t σ H Q->
  wpAny (model X.prog X.w) X.A (forIn ifs true fun c r=>if r=true then do let ok <- isTrue c X.env (eval c X.env); pure (uM ok) else pure (uM r)) (TP X pins σ Q) X.xe s
noncomputable def qLN:TT:=fun _ H Q=>Q true H
theorem jk {X:Cx}:PF X [] qLN:=fun _ _ _ H _ I h=>wpAny_tests_nil ⟨H,I,h⟩
theorem J2 {X:Cx} {c:Expr} {t:TT} (h:PT X c t):PF X [c] t:=fun pins s σ H Q I q=>wpAny_tests_one (h pins s σ H Q I q)
noncomputable def qAi (J:It) (g:TG) (tt:TT) (te:TE) (σ0:St) (H1:Hp) (D:Addr) (Q:Hp->Prop):Prop:=
 ∃ W:Nat->Nat->List V->St->Hp->Prop,(∃ m,W 0 m [] σ0 (upd H1 D (.lst [])))/\∀ i m ys σ H,W i m ys σ H->H D=some (.lst ys)/\
  ((J.stop i H/\Q H)\/(J.go i H/\ys.length<sizeLine/\∃ N:List V->St->Hp->Prop,(∀ ys' σ' H',N ys' σ' H'->∃ m',m'<m/\W (i+1) m' ys' σ' H')/\
   ∀ x H',J.yld i H x H'->g x σ H' fun σ2 H2=>tt σ2 H2 fun b H3=>if b=true then te σ2 H3 fun y H4=>H4 D=some (.lst ys)/\N (ys++[y]) σ2 (upd H4 D (.lst (ys++[y]))) else N ys σ2 H3))
noncomputable def qEU (own:List Str) (fr:List (Str×Nat)) (wi:TI) (g:TG) (tt:TT) (te:TE):TE:=fun σ H Q=>wi σ H fun J H1=>∀ D,H1 D=none->qAi J g tt te (qj own fr σ) H1 D fun H2=>Q (.ref D) H2
section
variable {X:Cx} {pins:List (Addr×Obj)} {σ:St} {H:Hp} {s:Shared}
theorem qDl {own:List Str} {fr:List (Str×Nat)} {scope:Scope} {cl:List (Str×Addr)} {elt tg iter:Expr} {ifs:List Expr} {pos:Pos} {g:TG} {tt:TT} {te:TE} {Q:Addr->Hp->Prop} {RR:Value->Addr->Result->Shared->Prop} {E:Value->Shared->Prop}
  {it:Addr} {fp:List Addr} {tn:Nat->Heap->Prop} {J:It}
  (hc:X.calm=true) (S:jC X own fr scope) (I:Inv X pins σ H s) (hcl:∀ x c,cl.lookup x=some c->X.env.cells.lookup x=some c) (hcs:∀ x∈scope.names,x.2=.free->(cl.lookup x.1).isSome=true)
  (T:Turn X.prog X.w X.K tg J fp it tn) (st:tn 0 s.heap) (hf:∀ b∈fp,Y4 X pins H b)
  (hB:∀(cl:List (Str×Addr)) (C:Addr) (s0:Shared) (H0:Hp),PG (qd X (own++fr.map (·.1)) scope cl C s0 H0 fp) tg g/\PF (qd X (own++fr.map (·.1)) scope cl C s0 H0 fp) ifs tt/\PE (qd X (own++fr.map (·.1)) scope cl C s0 H0 fp) elt te)
  (body:∀ D,H D=none->qAi J g tt te (qj own fr σ) H D (Q D))
  (hR:∀ D C s' H',Inv X pins σ H' s'->Q D H'->C≠X.env.locals->(∃ m,s'.heap.Ns C m)->Y4 X pins H' C->(∃ o,s'.heap.get? C=some o)->RR (.ref D) C (.ok .next) s') :
  wpAny (model X.prog X.w) X.A (newList []) (fun acc s3=>wpAny (model X.prog X.w) X.A (newFunctionEnv scope X.env.globals cl [] X.env.qual none .none (some X.env)) (fun cenv s4=>
   codeAny (model X.prog X.w) X.A (.compStart (.ListComp elt [⟨tg,iter,ifs,0⟩] scope pos) 0 (.ref it) acc { cenv with scope:=relabel scope X.env }) (RR acc cenv.locals) s4) E s3) E s:=by
 refine yD ?_
 have nD:H s.heap.objs.size=none:=I.hok.fresh (wK _)
 have I3:Inv X pins σ (upd H s.heap.objs.size (.lst [])) { s with heap:=s.heap.push { cls:=.type "list",data:=.seq ([]:List Value).toArray },toks:=s.toks }:=I.lnew (t':=s.toks) .nil (zP _)
 generalize hs3:({ s with heap:=s.heap.push { cls:=.type "list",data:=.seq ([]:List Value).toArray },toks:=s.toks }:Shared)=s3 at I3
 generalize hD:s.heap.objs.size=D at I3 nD
 have st3:tn 0 s3.heap:=by
  subst hs3
  exact T.keep _ _ _ st fun b _ o e=>wF _ e
 have fD:∀ b∈fp,b≠D:=fun b hb z=>by
  obtain ⟨o,ho,_⟩:=T.obj _ _ st b hb
  exact absurd (wY ho) (by rw [hD,z]; exact xR _)
 have hf3:∀ b∈fp,Y4 X pins (upd H D (.lst [])) b:=fun b hb=>⟨by rw [qN (fD b hb)]; exact (hf b hb).1,(hf b hb).2⟩
 obtain ⟨W,⟨m0,w0⟩,turn⟩:=body D nD
 refine YH fun h4 B4=>?_
 have keep4:=B4.keep
 have far:∀ b∈fp,∀ x c,(qW s3.heap.objs.size scope++cl).lookup x=some c->c≠b:=fun b hb x c e=>by
  obtain ⟨o,ho,_⟩:=T.obj _ _ st3 b hb
  exact YB B4 ho e fun z=>(hf b hb).2.2.2.2.1 x c (hcl x c z)
 generalize hs4:({ s3 with heap:=h4,toks:=s3.toks }:Shared)=s4
 have I4:Inv (qd X (own++fr.map (·.1)) scope (qW s3.heap.objs.size scope++cl) s3.heap.objs.size s3 (upd H D (.lst [])) fp) [] (qj own fr σ) (upd H D (.lst [])) s4:=by
  subst hs4
  exact qA8 S I3 hcl hcs hf3 (fun b hb=>let ⟨o,e,_⟩:=T.obj _ _ st3 b hb; ⟨o,e⟩) B4
 have st4:tn 0 s4.heap:=by
  subst hs4
  exact T.keep _ _ _ st3 fun b _ o e=>keep4 b o e
 have Cne:s3.heap.objs.size≠X.env.locals:=gY I3.lt
 generalize hcl2:qW s3.heap.objs.size scope++cl=cl2 at I4 far
 generalize hC:s3.heap.objs.size=C at I4 Cne
 obtain ⟨pG,pF,pE⟩:=hB cl2 C s3 (upd H D (.lst []))
 generalize hY:qd X (own++fr.map (·.1)) scope cl2 C s3 (upd H D (.lst [])) fp=Y at I4 pG pF pE
 have yP:Y.prog=X.prog:=by rw [<- hY]; rfl
 have yw:Y.w=X.w:=by rw [<- hY]; rfl
 have yK:Y.K=X.K:=by rw [<- hY]; rfl
 have yA:Y.A=X.A:=by rw [<- hY]; rfl
 have yc:Y.calm=true:=by rw [<- hY]; exact hc
 have yx:Y.xe=fun _ _=>False:=by rw [<- hY]; rfl
 have yfs:Y.fs=frs X.stack:=by rw [<- hY]; rfl
 have yex:Y.ex=fp:=by rw [<- hY]; rfl
 have yH:Y.H₀=upd H D (.lst []):=by rw [<- hY]; rfl
 have ys:Y.s₀=s3:=by rw [<- hY]; rfl
 have yl:Y.env.locals=C:=by rw [<- hY]; rfl
 have ypn:Y.pn=[]:=by rw [<- hY]; rfl
 have ycl:Y.env.cells=cl2:=by rw [<- hY]; rfl
 have yenv:Y.env=compEnvC scope cl2 C X.env:=by rw [<- hY]; rfl
 have e5:{ (newEnv scope C X.env.globals cl2 X.env.qual none .none (some X.env) builtinsNs:Env) with scope:=relabel scope X.env } = Y.env:=by rw [yenv]; rfl
 have hCe:(newEnv scope C X.env.globals cl2 X.env.qual none .none (some X.env) builtinsNs:Env).locals=C:=rfl
 have fpY:∀{H':Hp},(∀ b∈fp,H' b=none)->∀ b∈fp,Y4 Y [] H' b:=fun hn b hb=>by
  obtain ⟨o,ho,_⟩:=T.obj _ _ st3 b hb
  have hlt:=wY ho
  refine ⟨hn b hb,?_,?_,.inl (by rw [yex]; exact hb),fun x c e=>?_,fun p hp=>?_⟩
  ·rw [yl,<- hC]; exact zH hlt
  ·rw [yfs]
   intro z
   obtain ⟨_,f1,f2,_⟩:=hf b hb
   rcases wZ.mp (I.stkSub b z) with e | e
   ·exact f1 e
   ·exact f2 e
  ·rw [ycl] at e
   exact far b hb x c e
  ·rw [ypn] at hp
   cases hp
 have main:codeAny (model X.prog X.w) X.A (.compLoop (.ListComp elt [⟨tg,iter,ifs,0⟩] scope pos) 0 (.ref it) (.ref D) Y.env) (RR (.ref D) C) s4:=by
  refine qBf (fun n s'=>∃ i ys σ' H',Inv Y [] σ' H' s'/\tn i s'.heap/\(∀ b∈fp,H' b=none)/\W i n ys σ' H') ?_ m0 ⟨0,[],_,_,I4,st4,fun b hb=>(hf3 b hb).1,w0⟩
  rintro n s5 ⟨i,ys5,σ5,H5,I5,st5,fr5,w5⟩
  obtain ⟨hD5,hw⟩:=turn i n ys5 σ5 H5 w5
  rcases hw with ⟨stop,q⟩ | ⟨go,hz,N,hN,step⟩
  ·have:=T.done Y yP yw yK yc i [] s5 σ5 H5 (fun _ _=>False) I5 (fpY fr5) st5 stop
   rw [yA] at this
   refine thn this fun r s6 ⟨hr,I6⟩=>?_
   subst hr
   have I7:Inv X pins σ H5 s6:=by
    refine I3.call' (ch:=fp) (H':=H5) ?_ ?_ ?_ I6.bare fun b hb=>?_
    ·rw [<- ys]; exact I6.os
    ·have:=I6.base
     rw [yfs,yex,yH,ys] at this
     exact this
    ·have:=I6.hok
     rw [yP,yw] at this
     exact this
    ·obtain ⟨_,f1,_,f3,f4,f5⟩:=hf b hb
     exact ⟨f3,f1,f4,f5⟩
   obtain ⟨mC,hnC,_⟩:=I6.loc
   rw [yl] at hnC
   refine hR D C s6 H5 I7 q Cne ⟨mC,hnC⟩ ?_ ?_
   ·refine I3.fpOk (by rw [hC]; exact wK _) ?_
    have:=I6.free
    rw [yl] at this
    exact this
   ·obtain ⟨o,_,_,ho,_⟩:=hnC
    exact ⟨o,ho⟩
  ·have h5:=T.item Y yP yw yK yc i [] s5 σ5 H5 (fun _ _=>False) I5 (fpY fr5) st5 go
   rw [yA] at h5
   refine thn h5 fun r s6 ⟨u,hr,h6⟩=>?_
   subst hr
   refine thn h6 fun _ s7 ⟨x,H7,I7,r7,y7,st7,fr7⟩=>?_
   have I7':=I7.pinned (fpY fr7) (T.obj _ _ st7)
   have h8:=pG _ s7 σ5 H7 x u _ I7' r7 (step x H7 y7)
   rw [yP,yw,yA,yx] at h8
   refine thn h8 fun _ s8 ⟨σ8,H8,I8,q8⟩=>?_
   have h9:=pF _ s8 σ8 H8 _ I8 q8
   rw [yP,yw,yA,yx] at h9
   refine thn h9 fun b s9 ⟨H9,I9,q9⟩=>?_
   have again:∀{ys':List V} {σ':St} {H':Hp} {s':Shared},Inv Y ([]++QZ fp s7.heap) σ' H' s'->N ys' σ' H'->∃ m,m<n/\∃ i ys σ' H',Inv Y [] σ' H' s'/\tn i s'.heap/\(∀ b∈fp,H' b=none)/\W i m ys σ' H':=fun {ys' σ' H' s'} I' n'=>by
    obtain ⟨m',hm,w'⟩:=hN ys' σ' H' n'
    refine ⟨m',hm,i+1,ys',σ',H',I'.unpinned,T.keep _ _ _ st7 fun b hb o e=>(I'.pin (b,o) (zD _ (zD _ (jE hb e)))).1,fun b hb=>?_,w'⟩
    obtain ⟨o,e,d⟩:=T.obj _ _ st7 b hb
    exact (I'.pin (b,o) (zD _ (zD _ (jE hb e)))).2.1
   cases b with
   | false=>
    simp only [xP,if_false] at q9 ⊢
    exact again I9 q9
   | true=>
    simp only [if_true] at q9 ⊢
    have h10:=pE _ s9 σ8 H9 _ I9 q9
    rw [yP,yw,yA,yx] at h10
    refine thn h10 fun y s10 ⟨z,H10,I10,r10,hD10,n10⟩=>?_
    have h11:=JQ (X:=Y) _ s10 σ8 H10 (.ref D) [z] (.ref D) [y] (fun _ H'=>N (ys5++[z]) σ8 H') I10 rfl (.cons r10 .nil) ⟨D,ys5,z,rfl,rfl,hD10,hz,n10⟩
    rw [yP,yw,yA,yx] at h11
    refine thn h11 fun _ s11 ⟨_,H11,I11,_,n11⟩=>?_
    exact again I11 n11
 have start:codeAny (model X.prog X.w) X.A (.compStart (.ListComp elt [⟨tg,iter,ifs,0⟩] scope pos) 0 (.ref it) (.ref D) Y.env) (RR (.ref D) C) s4:=
  codeAny_compStart_list main (T.self X.A 0 s4 _ _ st4 main)
 have goal:codeAny (model X.prog X.w) X.A (.compStart (.ListComp elt [⟨tg,iter,ifs,0⟩] scope pos) 0 (.ref it) (.ref D) { (newEnv scope C X.env.globals cl2 X.env.qual none .none (some X.env) builtinsNs:Env) with scope:=relabel scope X.env }) (RR (.ref D) (newEnv scope C X.env.globals cl2 X.env.qual none .none (some X.env) builtinsNs:Env).locals) s4:=by
  rw [e5,hCe]; exact start
 subst hC hD
 exact goal
end
section
variable {X:Cx}
theorem jF {own:List Str} {fr:List (Str×Nat)} {scope:Scope} {elt tg iter:Expr} {ifs:List Expr} {pos:Pos} {wi:TI} {g:TG} {tt:TT} {te:TE} (hc:X.calm=true) (S:jC X own fr scope) (hi:PI X tg iter wi)
  (hB:∀(cl:List (Str×Addr)) (C:Addr) (s0:Shared) (H0:Hp) (fp:List Addr),PG (qd X (own++fr.map (·.1)) scope cl C s0 H0 fp) tg g/\PF (qd X (own++fr.map (·.1)) scope cl C s0 H0 fp) ifs tt/\PE (qd X (own++fr.map (·.1)) scope cl C s0 H0 fp) elt te)
  (hs:∀ x,foldedSetIterable iter X.env x=pure x:=by intro _; rfl):PE X (.ListComp elt [⟨tg,iter,ifs,0⟩] scope pos) (qEU own fr wi g tt te):=by
 intro pins s σ H Q I h
 obtain ⟨cl,e1,e2,e3⟩:=Q1 (S.has I.ok)
 rw [eval_ListComp]
 refine kZ (use:=none) rfl hs e1 S.kind S.names (thn (hi pins s σ H _ I h) fun v s1 h1=>thn h1 fun itv s2 h2=>?_)
 obtain ⟨it,fp,tn,J,H2,e,I2,T,st2,f2,body⟩:=h2
 subst e
 refine qDl (Q:=fun D H'=>Q (.ref D) H') (RR:=fun acc C=>compPost (model X.prog X.w) X.A X.xe none (EP X pins σ Q) acc C) hc S I2 e2 e3 T st2 f2 (fun cl' C s0 H0=>hB cl' C s0 H0 fp) body ?_
 intro D C s' H' I' q hne ⟨m,hn⟩ ⟨f0,f1,f2',f3,f4,f5⟩ _
 exact ⟨m,hn,fun h'' hs''=>⟨.ref D,H',I'.turned (it:=C) (t':=s'.toks) (fun b o hb e=>hs''.extBut b o hb e) f0 f1 f3 f4 f5,rfl,q⟩⟩
theorem Q2 {i:Nat} {x:Str} {pos' spos:Pos} {own:List Str} {fr:List (Str×Nat)} {scope:Scope} {elt tg iter:Expr} {ifs:List Expr} {pos:Pos} {wi:TI} {g:TG} {tt:TT} {te:TE} (hc:X.calm=true)
  (hN:X.N.Nodup) (hi':X.N[i]? = some x) (hx:X.env.scope.names.lookup x=some .local) (S:jC X own fr scope) (hi:PI X tg iter wi)
  (hB:∀(cl:List (Str×Addr)) (C:Addr) (s0:Shared) (H0:Hp) (fp:List Addr),PG (qd X (own++fr.map (·.1)) scope cl C s0 H0 fp) tg g/\PF (qd X (own++fr.map (·.1)) scope cl C s0 H0 fp) ifs tt/\PE (qd X (own++fr.map (·.1)) scope cl C s0 H0 fp) elt te)
  (hs:∀ x,foldedSetIterable iter X.env x=pure x:=by intro _; rfl)
  (hsw:swapsWith (.ListComp elt [⟨tg,iter,ifs,0⟩] scope pos) (some (.Name x pos')) spos.line X.env=pure true:=by rfl):PS X (.Assign [.Name x pos'] (.ListComp elt [⟨tg,iter,ifs,0⟩] scope pos) spos) (qJz (qEU own fr wi g tt te) (qDG i)):=by
 intro pins s σ H D0 I h
 obtain ⟨cl,e1,e2,e3⟩:=Q1 (S.has I.ok)
 have un:=exec_Assign_Name_used _ _ _ _ hsw
 rw [un]
 apply wB
 apply uC
 apply wB
 show wpAny _ X.A (do let _ <- comprehension (.ListComp elt [⟨tg,iter,ifs,0⟩] scope pos) scope X.env _ (newList []) false (eval iter X.env) (some (assign (.Name x pos') X.env))) _ _ s
 refine wB (thn (kZ (use:=some (assign (.Name x pos') X.env)) (Q:=fun _ s'=>SP X pins D0 .next s') rfl hs e1 S.kind S.names
  (thn (hi pins s σ H _ I h) fun v s1 h1=>thn h1 fun itv s2 h2=>?_)) fun _ s' hq=>wD (wD hq))
 obtain ⟨it,fp,tn,J,H2,e,I2,T,st2,f2,body⟩:=h2
 subst e
 refine qDl (Q:=fun D H'=>D0.nx (σ.set i (some (.ref D))) H') (RR:=fun acc C=>compPost (model X.prog X.w) X.A X.xe (some (assign (.Name x pos') X.env)) (fun _ s'=>SP X pins D0 .next s') acc C) hc S I2 e2 e3 T st2 f2 (fun cl' C s0 H0=>hB cl' C s0 H0 fp) body ?_
 intro D C s' H' I' q hne ⟨m,hn⟩ ⟨f0,f1,f2',f3,f4,f5⟩ _
 show wpAny _ X.A (assign (.Name x pos') X.env (.ref D)) _ _ s'
 refine wpAny_assign_Name (qBH I' hN hi' (.inl hx) (v:=.ref D) rfl (fun s'' I'' hk=>?_) (.inr hx))
 have hC2:∃ m,s''.heap.Ns C m:=by
  obtain ⟨a,hsb,ha⟩:=hk
  obtain ⟨o,es,ep,ho,r⟩:=hn
  refine ⟨m,o,es,ep,hsb.extBut C o ?_ ho,r⟩
  rcases ha with z | z
  ·rw [z]; exact hne
  ·exact fun e=>f4 x a z e.symm
 obtain ⟨m2,hn2⟩:=hC2
 exact ⟨m2,hn2,fun h'' hs''=>⟨_,H',I''.turned (it:=C) (t':=s''.toks) (fun b o hb e=>hs''.extBut b o hb e) f0 f1 f3 f4 f5,q⟩⟩
end
noncomputable abbrev ju (elt tg iter:Expr) (ifs:List Expr) (tg1 iter1:Expr) (ifs1:List Expr) (scope:Scope) (pos:Pos):Expr:=.ListComp elt [⟨tg,iter,ifs,0⟩,⟨tg1,iter1,ifs1,0⟩] scope pos
noncomputable abbrev qCv (ifs:List Expr) (env:Env):Sem Bool:=forIn ifs true fun c r=>if r=true then do let ok <- isTrue c env (eval c env); pure (uM ok) else pure (uM r)
noncomputable abbrev noR:Value->Shared->Prop:=fun _ _=>False
theorem th0 {α:Type} {t:Sem α} {Q Q':α->Shared->Prop} {M:Model} {A:Around} {E:Value->Shared->Prop} {s:Shared} (h:wpAny M A t Q noR s) (hQ:∀ a s,Q a s->Q' a s):wpAny M A t Q' E s:=xW h hQ fun _ _ x=>x.elim
section
variable {w:World} {prog:Program} {A:Around} {s:Shared} {R:Result->Shared->Prop} {elt tg iter tg1 iter1:Expr} {ifs ifs1:List Expr} {scope:Scope} {pos:Pos} {it acc:Value} {env:Env}
theorem qLV (J:Nat->Shared->Prop)
  (turn:∀ n s,J n s->wpAny (model prog w) A (pyNext it) (fun r s1=>match r with
   | none=>R (.ok .next) s1
   | some v=>wpAny (model prog w) A (letOwnedTupleGo tg1 it v) (fun _ s2=>wpAny (model prog w) A (assign tg1 env v) (fun _ s3=>wpAny (model prog w) A (qCv ifs1 env) (fun ok s4=>
     if ok=true then wpAny (model prog w) A (eval elt env) (fun x s5=>wpAny (model prog w) A (call (.builtin "list.append") [acc,x]) (fun _ s6=>∃ m,m<n/\J m s6) noR s5) noR s4
     else ∃ m,m<n/\J m s4) noR s3) noR s2) noR s1) noR s)
  (n:Nat) (h:J n s):codeAny (model prog w) A (.compLoop (ju elt tg iter ifs tg1 iter1 ifs1 scope pos) 1 it acc env) R s:=by
 refine WQ rfl J (fun n s hI=>?_) n h
 refine VH (env:=env) (m:=compTurn (ju elt tg iter ifs tg1 iter1 ifs1 scope pos) 1 it acc env) ?_
 refine wB (uC (wB (th0 (turn n s hI) fun r s1 h1=>?_)))
 cases r with
 | none=>exact wD h1
 | some v=>
  refine wB (th0 h1 fun _ s2 h2=>wB (th0 h2 fun _ s3 h3=>wB (th0 h3 fun ok s4 h4=>?_)))
  cases ok with
  | false=>exact wD ⟨rfl,h4⟩
  | true=>exact wB (wB (th0 h4 fun x s5 h5=>wB (th0 h5 fun _ s6 h6=>wD (wD ⟨rfl,h6⟩))))
theorem qFq (h0:codeAny (model prog w) A (.compLoop (ju elt tg iter ifs tg1 iter1 ifs1 scope pos) 1 it acc env) R s)
  (h:wpAny (model prog w) A (pyIter it) (fun i s'=>codeAny (model prog w) A (.compLoop (ju elt tg iter ifs tg1 iter1 ifs1 scope pos) 1 i acc env) R s') noR s) :
  codeAny (model prog w) A (.compStart (ju elt tg iter ifs tg1 iter1 ifs1 scope pos) 1 it acc env) R s:=by
 refine gR (wpAny_notedAt (env:=env) (m:=compStart (ju elt tg iter ifs tg1 iter1 ifs1 scope pos) 1 it acc env) ?_)
 refine wB ?_
 refine fX ?_
 refine wpAny_ite ?_
 split
 ·exact wD ⟨rfl,h0⟩
 ·exact wB (gO (wB (uC (wB (th0 h fun _ _ z=>wD ⟨rfl,z⟩)))))
theorem qIc (J:Nat->Shared->Prop) (hs:∀ x,foldedSetIterable iter1 env x=pure x)
  (turn:∀ n s,J n s->wpAny (model prog w) A (pyNext it) (fun r s1=>match r with
   | none=>R (.ok .next) s1
   | some v=>wpAny (model prog w) A (letOwnedTupleGo tg it v) (fun _ s2=>wpAny (model prog w) A (assign tg env v) (fun _ s3=>wpAny (model prog w) A (qCv ifs env) (fun ok s4=>
     if ok=true then wpAny (model prog w) A (eval iter1 env) (fun x s5=>wpAny (model prog w) A (pyIter x) (fun i s6=>
      codeAny (model prog w) A (.compStart (ju elt tg iter ifs tg1 iter1 ifs1 scope pos) 1 i acc env) (fun r s7=>(∃ f,r=.ok f)/\∃ m,m<n/\J m s7) s6) noR s5) noR s4
     else ∃ m,m<n/\J m s4) noR s3) noR s2) noR s1) noR s)
  (n:Nat) (h:J n s):codeAny (model prog w) A (.compLoop (ju elt tg iter ifs tg1 iter1 ifs1 scope pos) 0 it acc env) R s:=by
 refine WQ rfl J (fun n s hI=>?_) n h
 refine VH (env:=env) (m:=compTurn (ju elt tg iter ifs tg1 iter1 ifs1 scope pos) 0 it acc env) ?_
 refine wB (uC (wB (th0 (turn n s hI) fun r s1 h1=>?_)))
 cases r with
 | none=>exact wD h1
 | some v=>
  refine wB (th0 h1 fun _ s2 h2=>wB (th0 h2 fun _ s3 h3=>wB (th0 h3 fun ok s4 h4=>?_)))
  cases ok with
  | false=>exact wD ⟨rfl,h4⟩
  | true=>
   refine wB (th0 h4 fun x s5 h5=>wB (uC ?_))
   refine wB (m:=foldedSetIterable iter1 env x) (fN (hs x) ?_)
   refine wB (yS (m:=pyIter x) (th0 h5 fun i s6 h6=>wB (wpAny_runOwn (h:=none) ?_)))
   refine gC h6 fun r s7 h7=>?_
   obtain ⟨⟨f,e⟩,h7⟩:=h7
   subst e
   exact wD ⟨rfl,h7⟩
end
noncomputable def qFf (wi:TI) (g:TG) (tt:TT) (te:TE) (D:Addr) (ys:List V) (σ:St) (H:Hp) (N:List V->St->Hp->Prop):Prop:=
 wi σ H fun J H1=>∃ W:Nat->Nat->List V->St->Hp->Prop,(∃ m,W 0 m ys σ H1)/\∀ i m ys σ H,W i m ys σ H->H D=some (.lst ys)/\
  ((J.stop i H/\N ys σ H)\/(J.go i H/\ys.length<sizeLine/\∃ M:List V->St->Hp->Prop,(∀ ys' σ' H',M ys' σ' H'->∃ m',m'<m/\W (i+1) m' ys' σ' H')/\
   ∀ x H',J.yld i H x H'->g x σ H' fun σ2 H2=>tt σ2 H2 fun b H3=>if b=true then te σ2 H3 fun y H4=>H4 D=some (.lst ys)/\M (ys++[y]) σ2 (upd H4 D (.lst (ys++[y]))) else M ys σ2 H3))
noncomputable def qGT (J:It) (g:TG) (tt:TT) (wi1:TI) (g1:TG) (tt1:TT) (te:TE) (σ0:St) (H1:Hp) (D:Addr) (Q:Hp->Prop):Prop:=
 ∃ W:Nat->Nat->List V->St->Hp->Prop,(∃ m,W 0 m [] σ0 (upd H1 D (.lst [])))/\∀ i m ys σ H,W i m ys σ H->H D=some (.lst ys)/\
  ((J.stop i H/\Q H)\/(J.go i H/\∃ N:List V->St->Hp->Prop,(∀ ys' σ' H',N ys' σ' H'->∃ m',m'<m/\W (i+1) m' ys' σ' H')/\
   ∀ x H',J.yld i H x H'->g x σ H' fun σ2 H2=>tt σ2 H2 fun b H3=>if b=true then qFf wi1 g1 tt1 te D ys σ2 H3 N else N ys σ2 H3))
noncomputable def qMu (own:List Str) (fr:List (Str×Nat)) (wi:TI) (g:TG) (tt:TT) (wi1:TI) (g1:TG) (tt1:TT) (te:TE):TE:=fun σ H Q=>wi σ H fun J H1=>∀ D,H1 D=none->qGT J g tt wi1 g1 tt1 te (qj own fr σ) H1 D fun H2=>Q (.ref D) H2
section
variable {X:Cx} {pins:List (Addr×Obj)} {σ:St} {H:Hp} {s:Shared}
theorem qKH {elt tg iter tg1 iter1:Expr} {ifs ifs1:List Expr} {scope:Scope} {pos:Pos} {wi:TI} {g:TG} {tt:TT} {te:TE} {D:Addr} {ys:List V} {N:List V->St->Hp->Prop}
  (hc:X.calm=true) (hx:X.xe=noR) (hi:PI X tg1 iter1 wi) (pG:PG X tg1 g) (pF:PF X ifs1 tt) (pE:PE X elt te) (I:Inv X pins σ H s) (h:qFf wi g tt te D ys σ H N) :
  wpAny (model X.prog X.w) X.A (eval iter1 X.env) (fun v s1=>wpAny (model X.prog X.w) X.A (pyIter v) (fun i s2=>codeAny (model X.prog X.w) X.A (.compStart (ju elt tg iter ifs tg1 iter1 ifs1 scope pos) 1 i (.ref D) X.env)
   (fun r s3=>(∃ f,r=.ok f)/\∃ ys' σ' H',Inv X pins σ' H' s3/\N ys' σ' H') s2) noR s1) noR s:=by
 have h0:=hi pins s σ H _ I h
 rw [hx] at h0
 refine thn h0 fun v s1 h1=>thn h1 fun itv s2 h2=>?_
 obtain ⟨it,fp,tn,J,H2,e,I2,T,st2,f2,W,⟨m0,w0⟩,turn⟩:=h2
 subst e
 have stat:∀{H':Hp},(∀ b∈fp,H' b=none)->∀ b∈fp,Y4 X pins H' b:=fun hn b hb=>⟨hn b hb,(f2 b hb).2⟩
 have main:codeAny (model X.prog X.w) X.A (.compLoop (ju elt tg iter ifs tg1 iter1 ifs1 scope pos) 1 (.ref it) (.ref D) X.env) (fun r s3=>(∃ f,r=.ok f)/\∃ ys' σ' H',Inv X pins σ' H' s3/\N ys' σ' H') s2:=by
  refine qLV (fun n s'=>∃ i ys σ' H',Inv X pins σ' H' s'/\tn i s'.heap/\(∀ b∈fp,H' b=none)/\W i n ys σ' H') ?_ m0 ⟨0,ys,σ,H2,I2,st2,fun b hb=>(f2 b hb).1,w0⟩
  rintro n s3 ⟨i,ys3,σ3,H3,I3,st3,fr3,w3⟩
  obtain ⟨hD,hw⟩:=turn i n ys3 σ3 H3 w3
  rcases hw with ⟨stop,q⟩ | ⟨go,hz,M,hM,step⟩
  ·refine thn (T.done X rfl rfl rfl hc i pins s3 σ3 H3 noR I3 (stat fr3) st3 stop) fun r s4 ⟨hr,I4⟩=>?_
   subst hr
   exact ⟨⟨_,rfl⟩,ys3,σ3,H3,I4,q⟩
  ·refine thn (T.item X rfl rfl rfl hc i pins s3 σ3 H3 noR I3 (stat fr3) st3 go) fun r s4 ⟨u,hr,h4⟩=>?_
   subst hr
   refine thn h4 fun _ s5 ⟨x,H5,I5,r5,y5,st5,fr5⟩=>?_
   have I5':=I5.pinned (stat fr5) (T.obj _ _ st5)
   have h6:=pG _ s5 σ3 H5 x u _ I5' r5 (step x H5 y5)
   rw [hx] at h6
   refine thn h6 fun _ s6 ⟨σ6,H6,I6,q6⟩=>?_
   have h7:=pF _ s6 σ6 H6 _ I6 q6
   rw [hx] at h7
   refine thn h7 fun b s7 ⟨H7,I7,q7⟩=>?_
   have again:∀{ys':List V} {σ':St} {H':Hp} {s':Shared},Inv X (pins++QZ fp s5.heap) σ' H' s'->M ys' σ' H'->∃ m,m<n/\∃ i ys σ' H',Inv X pins σ' H' s'/\tn i s'.heap/\(∀ b∈fp,H' b=none)/\W i m ys σ' H':=fun {ys' σ' H' s'} I' n'=>by
    obtain ⟨m',hm,w'⟩:=hM ys' σ' H' n'
    have pin:=fun b hb o e=>I'.pin (b,o) (zD _ (zD _ (jE (fp:=fp) (h:=s5.heap) hb e)))
    refine ⟨m',hm,i+1,ys',σ',H',I'.unpinned,T.keep _ _ _ st5 fun b hb o e=>(pin b hb o e).1,fun b hb=>?_,w'⟩
    obtain ⟨o,e,_⟩:=T.obj _ _ st5 b hb
    exact (pin b hb o e).2.1
   cases b with
   | false=>
    rw [if_neg wU] at q7 ⊢
    exact again I7 q7
   | true=>
    rw [if_pos rfl] at q7 ⊢
    have h8:=pE _ s7 σ6 H7 _ I7 q7
    rw [hx] at h8
    refine thn h8 fun y s8 ⟨z,H8,I8,r8,hD8,n8⟩=>?_
    have h9:=JQ (X:=X) _ s8 σ6 H8 (.ref D) [z] (.ref D) [y] (fun _ H'=>M (ys3++[z]) σ6 H') I8 rfl (.cons r8 .nil) ⟨D,ys3,z,rfl,rfl,hD8,hz,n8⟩
    rw [hx] at h9
    exact thn h9 fun _ s9 ⟨_,H9,I9,_,n9⟩=>again I9 n9
 exact qFq main (T.self X.A 0 s2 _ _ st2 main)
end
section
variable {X:Cx} {pins:List (Addr×Obj)} {σ:St} {H:Hp} {s:Shared}
theorem qId {own:List Str} {fr:List (Str×Nat)} {scope:Scope} {cl:List (Str×Addr)} {elt tg iter tg1 iter1:Expr} {ifs ifs1:List Expr} {pos:Pos} {g:TG} {tt:TT} {wi1:TI} {g1:TG} {tt1:TT} {te:TE} {Q:Addr->Hp->Prop} {RR:Value->Addr->Result->Shared->Prop} {E:Value->Shared->Prop}
  {it:Addr} {fp:List Addr} {tn:Nat->Heap->Prop} {J:It}
  (hc:X.calm=true) (S:jC X own fr scope) (I:Inv X pins σ H s) (hcl:∀ x c,cl.lookup x=some c->X.env.cells.lookup x=some c) (hcs:∀ x∈scope.names,x.2=.free->(cl.lookup x.1).isSome=true)
  (T:Turn X.prog X.w X.K tg J fp it tn) (st:tn 0 s.heap) (hf:∀ b∈fp,Y4 X pins H b)
  (hB:∀(cl:List (Str×Addr)) (C:Addr) (s0:Shared) (H0:Hp),PG (qd X (own++fr.map (·.1)) scope cl C s0 H0 fp) tg g/\PF (qd X (own++fr.map (·.1)) scope cl C s0 H0 fp) ifs tt/\PI (qd X (own++fr.map (·.1)) scope cl C s0 H0 fp) tg1 iter1 wi1/\PG (qd X (own++fr.map (·.1)) scope cl C s0 H0 fp) tg1 g1/\PF (qd X (own++fr.map (·.1)) scope cl C s0 H0 fp) ifs1 tt1/\PE (qd X (own++fr.map (·.1)) scope cl C s0 H0 fp) elt te)
  (hs1:∀(env:Env) (x:Value),foldedSetIterable iter1 env x=pure x)
  (body:∀ D,H D=none->qGT J g tt wi1 g1 tt1 te (qj own fr σ) H D (Q D))
  (hR:∀ D C s' H',Inv X pins σ H' s'->Q D H'->C≠X.env.locals->(∃ m,s'.heap.Ns C m)->Y4 X pins H' C->(∃ o,s'.heap.get? C=some o)->RR (.ref D) C (.ok .next) s') :
  wpAny (model X.prog X.w) X.A (newList []) (fun acc s3=>wpAny (model X.prog X.w) X.A (newFunctionEnv scope X.env.globals cl [] X.env.qual none .none (some X.env)) (fun cenv s4=>
   codeAny (model X.prog X.w) X.A (.compStart (ju elt tg iter ifs tg1 iter1 ifs1 scope pos) 0 (.ref it) acc { cenv with scope:=relabel scope X.env }) (RR acc cenv.locals) s4) E s3) E s:=by
 refine yD ?_
 have nD:H s.heap.objs.size=none:=I.hok.fresh (wK _)
 have I3:Inv X pins σ (upd H s.heap.objs.size (.lst [])) { s with heap:=s.heap.push { cls:=.type "list",data:=.seq ([]:List Value).toArray },toks:=s.toks }:=I.lnew (t':=s.toks) .nil (zP _)
 generalize hs3:({ s with heap:=s.heap.push { cls:=.type "list",data:=.seq ([]:List Value).toArray },toks:=s.toks }:Shared)=s3 at I3
 generalize hD:s.heap.objs.size=D at I3 nD
 have st3:tn 0 s3.heap:=by
  subst hs3
  exact T.keep _ _ _ st fun b _ o e=>wF _ e
 have fD:∀ b∈fp,b≠D:=fun b hb z=>by
  obtain ⟨o,ho,_⟩:=T.obj _ _ st b hb
  exact absurd (wY ho) (by rw [hD,z]; exact xR _)
 have hf3:∀ b∈fp,Y4 X pins (upd H D (.lst [])) b:=fun b hb=>⟨by rw [qN (fD b hb)]; exact (hf b hb).1,(hf b hb).2⟩
 obtain ⟨W,⟨m0,w0⟩,turn⟩:=body D nD
 refine YH fun h4 B4=>?_
 have keep4:=B4.keep
 have far:∀ b∈fp,∀ x c,(qW s3.heap.objs.size scope++cl).lookup x=some c->c≠b:=fun b hb x c e=>by
  obtain ⟨o,ho,_⟩:=T.obj _ _ st3 b hb
  exact YB B4 ho e fun z=>(hf b hb).2.2.2.2.1 x c (hcl x c z)
 generalize hs4:({ s3 with heap:=h4,toks:=s3.toks }:Shared)=s4
 have I4:Inv (qd X (own++fr.map (·.1)) scope (qW s3.heap.objs.size scope++cl) s3.heap.objs.size s3 (upd H D (.lst [])) fp) [] (qj own fr σ) (upd H D (.lst [])) s4:=by
  subst hs4
  exact qA8 S I3 hcl hcs hf3 (fun b hb=>let ⟨o,e,_⟩:=T.obj _ _ st3 b hb; ⟨o,e⟩) B4
 have st4:tn 0 s4.heap:=by
  subst hs4
  exact T.keep _ _ _ st3 fun b _ o e=>keep4 b o e
 have Cne:s3.heap.objs.size≠X.env.locals:=gY I3.lt
 generalize hcl2:qW s3.heap.objs.size scope++cl=cl2 at I4 far
 generalize hC:s3.heap.objs.size=C at I4 Cne
 obtain ⟨pG,pF,pI1,pG1,pF1,pE⟩:=hB cl2 C s3 (upd H D (.lst []))
 generalize hY:qd X (own++fr.map (·.1)) scope cl2 C s3 (upd H D (.lst [])) fp=Y at I4 pG pF pI1 pG1 pF1 pE
 have yP:Y.prog=X.prog:=by rw [<- hY]; rfl
 have yw:Y.w=X.w:=by rw [<- hY]; rfl
 have yK:Y.K=X.K:=by rw [<- hY]; rfl
 have yA:Y.A=X.A:=by rw [<- hY]; rfl
 have yc:Y.calm=true:=by rw [<- hY]; exact hc
 have yx:Y.xe=fun _ _=>False:=by rw [<- hY]; rfl
 have yfs:Y.fs=frs X.stack:=by rw [<- hY]; rfl
 have yex:Y.ex=fp:=by rw [<- hY]; rfl
 have yH:Y.H₀=upd H D (.lst []):=by rw [<- hY]; rfl
 have ys:Y.s₀=s3:=by rw [<- hY]; rfl
 have yl:Y.env.locals=C:=by rw [<- hY]; rfl
 have ypn:Y.pn=[]:=by rw [<- hY]; rfl
 have ycl:Y.env.cells=cl2:=by rw [<- hY]; rfl
 have yenv:Y.env=compEnvC scope cl2 C X.env:=by rw [<- hY]; rfl
 have e5:{ (newEnv scope C X.env.globals cl2 X.env.qual none .none (some X.env) builtinsNs:Env) with scope:=relabel scope X.env } = Y.env:=by rw [yenv]; rfl
 have hCe:(newEnv scope C X.env.globals cl2 X.env.qual none .none (some X.env) builtinsNs:Env).locals=C:=rfl
 have fpY:∀{H':Hp},(∀ b∈fp,H' b=none)->∀ b∈fp,Y4 Y [] H' b:=fun hn b hb=>by
  obtain ⟨o,ho,_⟩:=T.obj _ _ st3 b hb
  have hlt:=wY ho
  refine ⟨hn b hb,?_,?_,.inl (by rw [yex]; exact hb),fun x c e=>?_,fun p hp=>?_⟩
  ·rw [yl,<- hC]; exact zH hlt
  ·rw [yfs]
   intro z
   obtain ⟨_,f1,f2,_⟩:=hf b hb
   rcases wZ.mp (I.stkSub b z) with e | e
   ·exact f1 e
   ·exact f2 e
  ·rw [ycl] at e
   exact far b hb x c e
  ·rw [ypn] at hp
   cases hp
 have main:codeAny (model X.prog X.w) X.A (.compLoop (ju elt tg iter ifs tg1 iter1 ifs1 scope pos) 0 (.ref it) (.ref D) Y.env) (RR (.ref D) C) s4:=by
  refine qIc (fun n s'=>∃ i ys σ' H',Inv Y [] σ' H' s'/\tn i s'.heap/\(∀ b∈fp,H' b=none)/\W i n ys σ' H') (hs1 _) ?_ m0 ⟨0,[],_,_,I4,st4,fun b hb=>(hf3 b hb).1,w0⟩
  rintro n s5 ⟨i,ys5,σ5,H5,I5,st5,fr5,w5⟩
  obtain ⟨hD5,hw⟩:=turn i n ys5 σ5 H5 w5
  rcases hw with ⟨stop,q⟩ | ⟨go,N,hN,step⟩
  ·have:=T.done Y yP yw yK yc i [] s5 σ5 H5 (fun _ _=>False) I5 (fpY fr5) st5 stop
   rw [yA] at this
   refine thn this fun r s6 ⟨hr,I6⟩=>?_
   subst hr
   have I7:Inv X pins σ H5 s6:=by
    refine I3.call' (ch:=fp) (H':=H5) ?_ ?_ ?_ I6.bare fun b hb=>?_
    ·rw [<- ys]; exact I6.os
    ·have:=I6.base
     rw [yfs,yex,yH,ys] at this
     exact this
    ·have:=I6.hok
     rw [yP,yw] at this
     exact this
    ·obtain ⟨_,f1,_,f3,f4,f5⟩:=hf b hb
     exact ⟨f3,f1,f4,f5⟩
   obtain ⟨mC,hnC,_⟩:=I6.loc
   rw [yl] at hnC
   refine hR D C s6 H5 I7 q Cne ⟨mC,hnC⟩ ?_ ?_
   ·refine I3.fpOk (by rw [hC]; exact wK _) ?_
    have:=I6.free
    rw [yl] at this
    exact this
   ·obtain ⟨o,_,_,ho,_⟩:=hnC
    exact ⟨o,ho⟩
  ·have h5:=T.item Y yP yw yK yc i [] s5 σ5 H5 (fun _ _=>False) I5 (fpY fr5) st5 go
   rw [yA] at h5
   refine thn h5 fun r s6 ⟨u,hr,h6⟩=>?_
   subst hr
   refine thn h6 fun _ s7 ⟨x,H7,I7,r7,y7,st7,fr7⟩=>?_
   have I7':=I7.pinned (fpY fr7) (T.obj _ _ st7)
   have h8:=pG _ s7 σ5 H7 x u _ I7' r7 (step x H7 y7)
   rw [yP,yw,yA,yx] at h8
   refine thn h8 fun _ s8 ⟨σ8,H8,I8,q8⟩=>?_
   have h9:=pF _ s8 σ8 H8 _ I8 q8
   rw [yP,yw,yA,yx] at h9
   refine thn h9 fun b s9 ⟨H9,I9,q9⟩=>?_
   have again:∀{ys':List V} {σ':St} {H':Hp} {s':Shared},Inv Y ([]++QZ fp s7.heap) σ' H' s'->N ys' σ' H'->∃ m,m<n/\∃ i ys σ' H',Inv Y [] σ' H' s'/\tn i s'.heap/\(∀ b∈fp,H' b=none)/\W i m ys σ' H':=fun {ys' σ' H' s'} I' n'=>by
    obtain ⟨m',hm,w'⟩:=hN ys' σ' H' n'
    refine ⟨m',hm,i+1,ys',σ',H',I'.unpinned,T.keep _ _ _ st7 fun b hb o e=>(I'.pin (b,o) (zD _ (zD _ (jE hb e)))).1,fun b hb=>?_,w'⟩
    obtain ⟨o,e,d⟩:=T.obj _ _ st7 b hb
    exact (I'.pin (b,o) (zD _ (zD _ (jE hb e)))).2.1
   cases b with
   | false=>
    simp only [xP,if_false] at q9 ⊢
    exact again I9 q9
   | true=>
    simp only [if_true] at q9 ⊢
    have h10:=qKH (elt:=elt) (tg:=tg) (iter:=iter) (ifs:=ifs) (scope:=scope) (pos:=pos) yc yx pI1 pG1 pF1 pE I9 q9
    rw [yP,yw,yA] at h10
    exact thn h10 fun v s10 h11=>thn h11 fun i s11 h12=>gC h12 fun r s12 ⟨hr,ys',σ',H',I',n'⟩=>⟨hr,again I' n'⟩
 have start:codeAny (model X.prog X.w) X.A (.compStart (ju elt tg iter ifs tg1 iter1 ifs1 scope pos) 0 (.ref it) (.ref D) Y.env) (RR (.ref D) C) s4:=
  codeAny_compStart_list main (T.self X.A 0 s4 _ _ st4 main)
 have goal:codeAny (model X.prog X.w) X.A (.compStart (ju elt tg iter ifs tg1 iter1 ifs1 scope pos) 0 (.ref it) (.ref D) { (newEnv scope C X.env.globals cl2 X.env.qual none .none (some X.env) builtinsNs:Env) with scope:=relabel scope X.env }) (RR (.ref D) (newEnv scope C X.env.globals cl2 X.env.qual none .none (some X.env) builtinsNs:Env).locals) s4:=by
  rw [e5,hCe]; exact start
 subst hC hD
 exact goal
end
section
variable {X:Cx}
theorem qKU {own:List Str} {fr:List (Str×Nat)} {scope:Scope} {elt tg iter tg1 iter1:Expr} {ifs ifs1:List Expr} {pos:Pos} {wi:TI} {g:TG} {tt:TT} {wi1:TI} {g1:TG} {tt1:TT} {te:TE} (hc:X.calm=true) (S:jC X own fr scope) (hi:PI X tg iter wi)
  (hB:∀(cl:List (Str×Addr)) (C:Addr) (s0:Shared) (H0:Hp) (fp:List Addr),PG (qd X (own++fr.map (·.1)) scope cl C s0 H0 fp) tg g/\PF (qd X (own++fr.map (·.1)) scope cl C s0 H0 fp) ifs tt/\PI (qd X (own++fr.map (·.1)) scope cl C s0 H0 fp) tg1 iter1 wi1/\PG (qd X (own++fr.map (·.1)) scope cl C s0 H0 fp) tg1 g1/\PF (qd X (own++fr.map (·.1)) scope cl C s0 H0 fp) ifs1 tt1/\PE (qd X (own++fr.map (·.1)) scope cl C s0 H0 fp) elt te)
  (hs1:∀(env:Env) (x:Value),foldedSetIterable iter1 env x=pure x:=by intro _ _; rfl)
  (hs:∀ x,foldedSetIterable iter X.env x=pure x:=by intro _; rfl):PE X (ju elt tg iter ifs tg1 iter1 ifs1 scope pos) (qMu own fr wi g tt wi1 g1 tt1 te):=by
 intro pins s σ H Q I h
 obtain ⟨cl,e1,e2,e3⟩:=Q1 (S.has I.ok)
 rw [eval_ListComp]
 refine kZ (use:=none) rfl hs e1 S.kind S.names (thn (hi pins s σ H _ I h) fun v s1 h1=>thn h1 fun itv s2 h2=>?_)
 obtain ⟨it,fp,tn,J,H2,e,I2,T,st2,f2,body⟩:=h2
 subst e
 refine qId (Q:=fun D H'=>Q (.ref D) H') (RR:=fun acc C=>compPost (model X.prog X.w) X.A X.xe none (EP X pins σ Q) acc C) hc S I2 e2 e3 T st2 f2 (fun cl' C s0 H0=>hB cl' C s0 H0 fp) hs1 body ?_
 intro D C s' H' I' q hne ⟨m,hn⟩ ⟨f0,f1,f2',f3,f4,f5⟩ _
 exact ⟨m,hn,fun h'' hs''=>⟨.ref D,H',I'.turned (it:=C) (t':=s'.toks) (fun b o hb e=>hs''.extBut b o hb e) f0 f1 f3 f4 f5,rfl,q⟩⟩
end
inductive D where
 | non | bl (b:Bool) | int (i:Int) | str (x:Str) | tup (l:List D) | lst (l:List D) | dic
mutual
noncomputable def Den (H:Hp):D->V->Prop
 | .non,v=>v=.non
 | .bl b,v=>v=.bl b
 | .int i,v=>v=.int i
 | .str x,v=>v=.str x
 | .tup l,v=>∃ a xs,v=.ref a/\H a=some (.tup xs)/\qZ H l xs
 | .lst l,v=>∃ a xs,v=.ref a/\H a=some (.lst xs)/\qZ H l xs
 | .dic,v=>∃ a kvs,v=.ref a/\H a=some (.dK kvs)
noncomputable def qZ (H:Hp):List D->List V->Prop
 | [],xs=>xs=[]
 | d::l,xs=>∃ x r,xs=x::r/\Den H d x/\qZ H l r
end
mutual
noncomputable def dEq:D->D->Bool
 | .non,.non=>true
 | .bl a,.bl b=>a == b
 | .bl a,.int b=>(if a then 1 else 0) == b
 | .int a,.bl b=>a == (if b then 1 else 0)
 | .int a,.int b=>a == b
 | .str a,.str b=>a == b
 | .tup l,.tup m=>Qc l m
 | .lst l,.lst m=>Qc l m
 | .dic,.dic=>true
 | _,_=>false
noncomputable def Qc:List D->List D->Bool
 | [],[]=>true
 | d::l,e::m=>dEq d e && Qc l m
 | _,_=>false
end
mutual
noncomputable def jQ:D->Nat
 | .tup l=>qK l+1
 | .lst l=>qK l+1
 | .dic=>cLine
 | _=>0
noncomputable def qK:List D->Nat
 | []=>0
 | d::l=>max (jQ d) (qK l)
end
mutual
theorem Den.mono {H H':Hp} (e:qV H H'):∀(d:D) (v:V),Den H d v->Den H' d v
 | .non,v,h=>h
 | .bl _,v,h=>h
 | .int _,v,h=>h
 | .str _,v,h=>h
 | .tup l,v,h=>by
  obtain ⟨a,xs,r,h1,h2⟩:=h
  exact ⟨a,xs,r,e _ _ h1,qZ.mono e l xs h2⟩
 | .lst l,v,h=>by
  obtain ⟨a,xs,r,h1,h2⟩:=h
  exact ⟨a,xs,r,e _ _ h1,qZ.mono e l xs h2⟩
 | .dic,v,h=>by
  obtain ⟨a,xs,r,h1⟩:=h
  exact ⟨a,xs,r,e _ _ h1⟩
theorem qZ.mono {H H':Hp} (e:qV H H'):∀(l:List D) (xs:List V),qZ H l xs->qZ H' l xs
 | [],xs,h=>h
 | d::l,xs,h=>by
  obtain ⟨x,r,h0,h1,h2⟩:=h
  exact ⟨x,r,h0,Den.mono e d x h1,qZ.mono e l r h2⟩
end
theorem qZ.length {H:Hp}:∀{l:List D} {xs:List V},qZ H l xs->xs.length=l.length
 | [],xs,h=>by
  have h':xs=[]:=h
  subst h'; rfl
 | d::l,xs,h=>by
  obtain ⟨x,r,h0,h1,h2⟩:=h
  subst h0
  rw [zS,zS,qZ.length h2]
theorem qZ.get {H:Hp}:∀{l:List D} {xs:List V} {i:Nat} {x:V},qZ H l xs->xs[i]? = some x->∃ d,l[i]? = some d/\Den H d x
 | [],xs,i,x,h,e=>by
  have h':xs=[]:=h
  subst h'; simp at e
 | d::l,xs,i,x,h,e=>by
  obtain ⟨y,r,h0,h1,h2⟩:=h
  subst h0
  cases i with
  | zero=>simp at e; subst e; exact ⟨d,rfl,h1⟩
  | succ i=>
   obtain ⟨d',g1,g2⟩:=qZ.get h2 (by simpa using e:r[i]? = some x)
   exact ⟨d',by simpa using g1,g2⟩
theorem qZ.get' {H:Hp} {l:List D} {xs:List V} {i:Nat} {d:D} (h:qZ H l xs) (e:l[i]? = some d):∃ x,xs[i]? = some x/\Den H d x:=by
 have hi:i<xs.length:=by rw [h.length]; exact (wL.mp e).1
 obtain ⟨d',g1,g2⟩:=h.get (wC hi)
 rw [e] at g1
 cases g1
 exact ⟨_,wC hi,g2⟩
theorem qZ.append {H:Hp}:∀{l m:List D} {xs ys:List V},qZ H l xs->qZ H m ys->qZ H (l++m) (xs++ys)
 | [],m,xs,ys,h,g=>by
  have h':xs=[]:=h
  subst h'; exact g
 | d::l,m,xs,ys,h,g=>by
  obtain ⟨y,r,h0,h1,h2⟩:=h
  subst h0
  exact ⟨y,r++ys,rfl,h1,qZ.append h2 g⟩
theorem qZ.snoc {H:Hp} {l:List D} {xs:List V} {d:D} {x:V} (h:qZ H l xs) (g:Den H d x):qZ H (l++[d]) (xs++[x]):=h.append ⟨x,[],rfl,g,rfl⟩
theorem qZ.ints (H:Hp):∀(ns:List Int),qZ H (ns.map D.int) (ns.map V.int)
 | []=>rfl
 | n::ns=>⟨.int n,_,rfl,rfl,qZ.ints H ns⟩
theorem qZ.ints_eq {H:Hp}:∀{ns:List Int} {xs:List V},qZ H (ns.map D.int) xs->xs=ns.map V.int
 | [],xs,h=>h
 | n::ns,xs,h=>by
  obtain ⟨y,r,h0,h1,h2⟩:=h
  subst h0
  have h1':y=.int n:=h1
  subst h1'
  rw [qZ.ints_eq h2,yV]
theorem qA3:∀{l:List D} {j:Nat} {d:D},l[j]? = some d->jQ d<=qK l
 | [],_,_,h=>by simp at h
 | c::l,0,d,h=>by
  simp at h
  subst h
  exact Nat.le_max_left _ _
 | c::l,j+1,d,h=>zC (qA3 (l:=l) (j:=j) (by simpa using h)) (Nat.le_max_right _ _)
noncomputable def qHJ (l m:List D) (j:Nat):Bool:=match l[j]?,m[j]? with | some d,some e=>dEq d e | _,_=>false
theorem qCn {l m:List D} {j:Nat} {d e:D} (h1:l[j]? = some d) (h2:m[j]? = some e):qHJ l m j=dEq d e:=by
 unfold qHJ
 rw [h1,h2]
theorem jf:∀(l m:List D),l.length=m.length->(wO l.length).all (qHJ l m)=Qc l m
 | [],[],_=>by simp [Qc]
 | [],_::_,h=>by simp at h
 | _::_,[],h=>by simp at h
 | d::l,e::m,h=>by
  have ih:=jf l m (by simpa using h)
  rw [zS,List.range_succ_eq_map,List.all_cons,uB]
  unfold Qc
  rw [<- ih]
  rfl
theorem QX:∀(l m:List D),l.length≠m.length->Qc l m=false
 | [],[],h=>absurd rfl h
 | [],_::_,_=>by simp [Qc]
 | _::_,[],_=>by simp [Qc]
 | d::l,e::m,h=>by
  unfold Qc
  rw [QX l m (by simpa using h),fB]
mutual
theorem qDS:∀ d:D,dEq d d=true
 | .non=>rfl
 | .bl b=>by simp [dEq]
 | .int i=>by simp [dEq]
 | .str x=>by simp [dEq]
 | .tup l=>by simp only [dEq]; exact Ji l
 | .lst l=>by simp only [dEq]; exact Ji l
 | .dic=>by simp [dEq]
theorem Ji:∀ l:List D,Qc l l=true
 | []=>by simp [Qc]
 | d::l=>by simp only [Qc]; rw [qDS d,Ji l]; rfl
end
mutual
noncomputable def nb:D->Bool
 | .bl _=>false
 | .tup l=>nbs l
 | .lst l=>nbs l
 | _=>true
noncomputable def nbs:List D->Bool
 | []=>true
 | d::l=>nb d && nbs l
end
mutual
theorem qLO:∀(d e:D),nb d=true->nb e=true->dEq d e=true->d=e
 | .non,e,h1,h2,h=>by cases e <;> simp [dEq,nb] at * 
 | .bl b,e,h1,h2,h=>by simp [nb] at h1
 | .int i,e,h1,h2,h=>by cases e <;> simp [dEq,nb] at * ; exact h
 | .str x,e,h1,h2,h=>by cases e <;> simp [dEq,nb] at * ; exact h
 | .tup l,e,h1,h2,h=>by
  cases e <;> simp only [dEq,nb,xP] at *
  rw [qDH l _ h1 h2 h]
 | .lst l,e,h1,h2,h=>by
  cases e <;> simp only [dEq,nb,xP] at *
  rw [qDH l _ h1 h2 h]
 | .dic,e,h1,h2,h=>by cases e <;> simp [dEq,nb] at *
theorem qDH:∀(l m:List D),nbs l=true->nbs m=true->Qc l m=true->l=m
 | [],[],_,_,_=>rfl
 | [],_::_,_,_,h=>by simp [Qc] at h
 | _::_,[],_,_,h=>by simp [Qc] at h
 | d::l,e::m,h1,h2,h=>by
  simp only [nbs,Qc,zY] at h1 h2 h
  rw [qLO d e h1.1 h2.1 h.1,qDH l m h1.2 h2.2 h.2]
end
mutual
theorem Den.inj {H:Hp}:∀(d e:D) (x:V),Den H d x->Den H e x->d=e
 | .non,e,x,h,g=>by
  cases (show x=.non from h)
  cases e with
  | non=>rfl
  | bl b=>exact nomatch (show V.non=.bl b from g)
  | int b=>exact nomatch (show V.non=.int b from g)
  | str b=>exact nomatch (show V.non=.str b from g)
  | tup m=>obtain ⟨_,_,z,_⟩:=g; cases z
  | lst m=>obtain ⟨_,_,z,_⟩:=g; cases z
  | dic=>obtain ⟨_,_,z,_⟩:=g; cases z
 | .bl c,e,x,h,g=>by
  cases (show x=.bl c from h)
  cases e with
  | non=>exact nomatch (show V.bl c=.non from g)
  | bl b=>cases (show V.bl c=.bl b from g); rfl
  | int b=>exact nomatch (show V.bl c=.int b from g)
  | str b=>exact nomatch (show V.bl c=.str b from g)
  | tup m=>obtain ⟨_,_,z,_⟩:=g; cases z
  | lst m=>obtain ⟨_,_,z,_⟩:=g; cases z
  | dic=>obtain ⟨_,_,z,_⟩:=g; cases z
 | .int c,e,x,h,g=>by
  cases (show x=.int c from h)
  cases e with
  | non=>exact nomatch (show V.int c=.non from g)
  | bl b=>exact nomatch (show V.int c=.bl b from g)
  | int b=>cases (show V.int c=.int b from g); rfl
  | str b=>exact nomatch (show V.int c=.str b from g)
  | tup m=>obtain ⟨_,_,z,_⟩:=g; cases z
  | lst m=>obtain ⟨_,_,z,_⟩:=g; cases z
  | dic=>obtain ⟨_,_,z,_⟩:=g; cases z
 | .str c,e,x,h,g=>by
  cases (show x=.str c from h)
  cases e with
  | non=>exact nomatch (show V.str c=.non from g)
  | bl b=>exact nomatch (show V.str c=.bl b from g)
  | int b=>exact nomatch (show V.str c=.int b from g)
  | str b=>cases (show V.str c=.str b from g); rfl
  | tup m=>obtain ⟨_,_,z,_⟩:=g; cases z
  | lst m=>obtain ⟨_,_,z,_⟩:=g; cases z
  | dic=>obtain ⟨_,_,z,_⟩:=g; cases z
 | .tup l,e,x,h,g=>by
  obtain ⟨a,xs,rfl,h1,h2⟩:=h
  cases e with
  | non=>exact nomatch (show V.ref a=.non from g)
  | bl b=>exact nomatch (show V.ref a=.bl b from g)
  | int b=>exact nomatch (show V.ref a=.int b from g)
  | str b=>exact nomatch (show V.ref a=.str b from g)
  | tup m=>
   obtain ⟨b,ys,z,g1,g2⟩:=g
   cases z
   rw [h1] at g1
   cases g1
   rw [qZ.inj l m xs h2 g2]
  | lst m=>
   obtain ⟨b,ys,z,g1,g2⟩:=g
   cases z
   rw [h1] at g1
   cases g1
  | dic=>
   obtain ⟨b,ys,z,g1⟩:=g
   cases z
   rw [h1] at g1
   cases g1
 | .lst l,e,x,h,g=>by
  obtain ⟨a,xs,rfl,h1,h2⟩:=h
  cases e with
  | non=>exact nomatch (show V.ref a=.non from g)
  | bl b=>exact nomatch (show V.ref a=.bl b from g)
  | int b=>exact nomatch (show V.ref a=.int b from g)
  | str b=>exact nomatch (show V.ref a=.str b from g)
  | tup m=>
   obtain ⟨b,ys,z,g1,g2⟩:=g
   cases z
   rw [h1] at g1
   cases g1
  | lst m=>
   obtain ⟨b,ys,z,g1,g2⟩:=g
   cases z
   rw [h1] at g1
   cases g1
   rw [qZ.inj l m xs h2 g2]
  | dic=>
   obtain ⟨b,ys,z,g1⟩:=g
   cases z
   rw [h1] at g1
   cases g1
 | .dic,e,x,h,g=>by
  obtain ⟨a,xs,rfl,h1⟩:=h
  cases e with
  | non=>exact nomatch (show V.ref a=.non from g)
  | bl b=>exact nomatch (show V.ref a=.bl b from g)
  | int b=>exact nomatch (show V.ref a=.int b from g)
  | str b=>exact nomatch (show V.ref a=.str b from g)
  | tup m=>
   obtain ⟨b,ys,z,g1,_⟩:=g
   cases z
   rw [h1] at g1
   cases g1
  | lst m=>
   obtain ⟨b,ys,z,g1,_⟩:=g
   cases z
   rw [h1] at g1
   cases g1
  | dic=>rfl
theorem qZ.inj {H:Hp}:∀(l m:List D) (xs:List V),qZ H l xs->qZ H m xs->l=m
 | [],m,xs,h,g=>by
  cases (show xs=[] from h)
  cases m with
  | nil=>rfl
  | cons e m=>obtain ⟨_,_,z,_⟩:=g; cases z
 | d::l,m,xs,h,g=>by
  obtain ⟨x,r,rfl,h1,h2⟩:=h
  cases m with
  | nil=>exact nomatch (show x::r=[] from g)
  | cons e m=>
   obtain ⟨y,r',z,g1,g2⟩:=g
   cases z
   rw [Den.inj d e x h1 g1,qZ.inj l m r h2 g2]
end
theorem qZ.same_eq {H:Hp} {l m:List D} {xs:List V} (h:qZ H l xs) (g:qZ H m xs):Qc l m=true:=by
 rw [qZ.inj l m xs h g]
 exact Ji m
section
variable {X:Cx} {pins:List (Addr×Obj)} {σ:St} {H:Hp} {s:Shared}
mutual
theorem qKN (I:Inv X pins σ H s):∀(d e:D) (A:Around) (x y:V) (u v:Value),Den H d x->Den H e y->RelV x u->RelV y v->A.units+jQ d<cLine->A.units+jQ e<cLine->gZ A s u v (dEq d e)
 | .non,e,A,x,y,u,v,h1,h2,r1,r2,hu,he=>by
  have h1':x=.non:=h1
  subst h1'
  cases r1
  cases e with
  | non=>cases (show y=.non from h2); cases r2; simp only [dEq]; exact VO _
  | bl b=>cases (show y=.bl b from h2); cases r2; simp only [dEq]; exact SeqAt.EqAt.none_bool b
  | int b=>cases (show y=.int b from h2); obtain ⟨t,rfl⟩:=r2; simp only [dEq]; exact SeqAt.EqAt.none_int b t
  | str b=>cases (show y=.str b from h2); obtain ⟨t,rfl⟩:=r2; simp only [dEq]; exact SeqAt.EqAt.none_str b t
  | tup m=>
   obtain ⟨a,xs,rfl,g1,_⟩:=h2
   cases r2
   obtain ⟨its,_,p,_⟩:=I.tuple (SqT.of (K:=X.K) g1)
   simp only [dEq]
   exact SeqAt.EqAt.none_tuple p (yE (yZ _ _) hu)
  | lst m=>
   obtain ⟨a,xs,rfl,g1,_⟩:=h2
   cases r2
   obtain ⟨its,_,p,_⟩:=I.list (SqL.of (K:=X.K) g1)
   simp only [dEq]
   exact SeqAt.EqAt.none_list p.isList (yE (yZ _ _) hu)
  | dic=>exact absurd (show A.units+cLine<cLine from he) (by omega)
 | .bl c,e,A,x,y,u,v,h1,h2,r1,r2,hu,he=>by
  have h1':x=.bl c:=h1
  subst h1'
  cases r1
  cases e with
  | non=>cases (show y=.non from h2); cases r2; simp only [dEq]; exact SeqAt.EqAt.bool_none c
  | bl b=>cases (show y=.bl b from h2); cases r2; simp only [dEq]; exact SeqAt.EqAt.bool_bool c b
  | int b=>cases (show y=.int b from h2); obtain ⟨t,rfl⟩:=r2; simp only [dEq]; exact SeqAt.EqAt.bool_int c b t
  | str b=>cases (show y=.str b from h2); obtain ⟨t,rfl⟩:=r2; simp only [dEq]; exact SeqAt.EqAt.bool_str c b t
  | tup m=>
   obtain ⟨a,xs,rfl,g1,_⟩:=h2
   cases r2
   obtain ⟨its,_,p,_⟩:=I.tuple (SqT.of (K:=X.K) g1)
   simp only [dEq]
   exact SeqAt.EqAt.bool_tuple c p (yE (yZ _ _) hu)
  | lst m=>
   obtain ⟨a,xs,rfl,g1,_⟩:=h2
   cases r2
   obtain ⟨its,_,p,_⟩:=I.list (SqL.of (K:=X.K) g1)
   simp only [dEq]
   exact SeqAt.EqAt.bool_list c p.isList (yE (yZ _ _) hu)
  | dic=>exact absurd (show A.units+cLine<cLine from he) (by omega)
 | .int c,e,A,x,y,u,v,h1,h2,r1,r2,hu,he=>by
  have h1':x=.int c:=h1
  subst h1'
  obtain ⟨t',rfl⟩:=r1
  cases e with
  | non=>cases (show y=.non from h2); cases r2; simp only [dEq]; exact SeqAt.EqAt.int_none c t'
  | bl b=>cases (show y=.bl b from h2); cases r2; simp only [dEq]; exact SeqAt.EqAt.int_bool c t' b
  | int b=>cases (show y=.int b from h2); obtain ⟨t,rfl⟩:=r2; simp only [dEq]; exact SeqAt.EqAt.int_int c t' b t
  | str b=>cases (show y=.str b from h2); obtain ⟨t,rfl⟩:=r2; simp only [dEq]; exact SeqAt.EqAt.int_str c t' b t
  | tup m=>
   obtain ⟨a,xs,rfl,g1,_⟩:=h2
   cases r2
   obtain ⟨its,_,p,_⟩:=I.tuple (SqT.of (K:=X.K) g1)
   simp only [dEq]
   exact SeqAt.EqAt.int_tuple c t' p (yE (yZ _ _) hu)
  | lst m=>
   obtain ⟨a,xs,rfl,g1,_⟩:=h2
   cases r2
   obtain ⟨its,_,p,_⟩:=I.list (SqL.of (K:=X.K) g1)
   simp only [dEq]
   exact SeqAt.EqAt.int_list c t' p.isList (yE (yZ _ _) hu)
  | dic=>exact absurd (show A.units+cLine<cLine from he) (by omega)
 | .str c,e,A,x,y,u,v,h1,h2,r1,r2,hu,he=>by
  have h1':x=.str c:=h1
  subst h1'
  obtain ⟨t',rfl⟩:=r1
  cases e with
  | non=>cases (show y=.non from h2); cases r2; simp only [dEq]; exact SeqAt.EqAt.str_none c t'
  | bl b=>cases (show y=.bl b from h2); cases r2; simp only [dEq]; exact SeqAt.EqAt.str_bool c t' b
  | int b=>cases (show y=.int b from h2); obtain ⟨t,rfl⟩:=r2; simp only [dEq]; exact SeqAt.EqAt.str_int c t' b t
  | str b=>cases (show y=.str b from h2); obtain ⟨t,rfl⟩:=r2; simp only [dEq]; exact SeqAt.EqAt.str_str c t' b t
  | tup m=>
   obtain ⟨a,xs,rfl,g1,_⟩:=h2
   cases r2
   obtain ⟨its,_,p,_⟩:=I.tuple (SqT.of (K:=X.K) g1)
   simp only [dEq]
   exact SeqAt.EqAt.str_tuple c t' p (yE (yZ _ _) hu)
  | lst m=>
   obtain ⟨a,xs,rfl,g1,_⟩:=h2
   cases r2
   obtain ⟨its,_,p,_⟩:=I.list (SqL.of (K:=X.K) g1)
   simp only [dEq]
   exact SeqAt.EqAt.str_list c t' p.isList (yE (yZ _ _) hu)
  | dic=>exact absurd (show A.units+cLine<cLine from he) (by omega)
 | .tup l,e,A,x,y,u,v,h1,h2,r1,r2,hu,he=>by
  obtain ⟨a,xs,rfl,g1,g2⟩:=h1
  cases r1
  obtain ⟨its,rv,p,hz⟩:=I.tuple (SqT.of (K:=X.K) g1)
  have hu0:A.units<cLine:=yE (yZ _ _) hu
  cases e with
  | non=>cases (show y=.non from h2); cases r2; simp only [dEq]; exact SeqAt.EqAt.tuple_none p hu0
  | bl b=>cases (show y=.bl b from h2); cases r2; simp only [dEq]; exact SeqAt.EqAt.tuple_bool b p hu0
  | int b=>cases (show y=.int b from h2); obtain ⟨t,rfl⟩:=r2; simp only [dEq]; exact SeqAt.EqAt.tuple_int b t p hu0
  | str b=>cases (show y=.str b from h2); obtain ⟨t,rfl⟩:=r2; simp only [dEq]; exact SeqAt.EqAt.tuple_str b t p hu0
  | tup m=>
   obtain ⟨b,ys,rfl,k1,k2⟩:=h2
   cases r2
   obtain ⟨its2,rv2,p2,_⟩:=I.tuple (SqT.of (K:=X.K) k1)
   simp only [dEq]
   have key:=Yh I l A.in1 (by have:A.units+(qK l+1)<cLine:=hu; show A.units+1+qK l<cLine; omega)
   by_cases hab:a=b
   ·subst hab
    rw [g1] at k1
    cases k1
    have e1:gZ A s (.ref a) (.ref a) true:=VO _
    by_cases hd:Qc l m=true
    ·rw [hd]; exact e1
    ·exact absurd (qZ.same_eq g2 k2) hd
   ·have l1:=rv.length
    have l2:=rv2.length
    have n1:=g2.length
    have n2:=k2.length
    have h0:=SeqAt.RcAt.tuples (A:=A) (e:=qHJ l m) p p2 hu0 (fun j hj1 hj2=>by
     simp only [ZQ]
     have a1:j<its.length:=by simpa using hj1
     have a2:j<its2.length:=by simpa using hj2
     obtain ⟨d,q1,q2⟩:=g2.get (wC (by omega:j<xs.length))
     obtain ⟨e,q3,q4⟩:=k2.get (wC (by omega:j<ys.length))
     obtain ⟨w1,z1,z2⟩:=rv.get (wC (by omega:j<xs.length))
     obtain ⟨w2,z3,z4⟩:=rv2.get (wC (by omega:j<ys.length))
     rw [wC a1] at z1
     rw [wC a2] at z3
     cases z1
     cases z3
     rw [qCn q1 q3]
     exact key j d q1 e _ _ _ _ q2 q4 z2 z4 (by have h3:=qA3 q3; have h4:A.units+(qK m+1)<cLine:=he; show A.units+1+jQ e<cLine; omega))
    have h1:=WE hab h0
    have e2:((wO (min its.toArray.size its2.toArray.size)).all (qHJ l m) && its.toArray.size == its2.toArray.size)=Qc l m:=by
     rw [wJ,wJ,<- l1,<- l2,n1,n2]
     by_cases hl:l.length=m.length
     ·rw [<- hl,Nat.min_self,jf l m hl]; simp
     ·rw [QX l m hl]; simp [hl]
    rw [e2] at h1
    exact h1
  | lst m=>
   obtain ⟨b,ys,rfl,k1,k2⟩:=h2
   cases r2
   obtain ⟨its2,rv2,p2,_⟩:=I.list (SqL.of (K:=X.K) k1)
   simp only [dEq]
   exact SeqAt.EqAt.tuple_list p p2.isList hu0
  | dic=>exact absurd (show A.units+cLine<cLine from he) (by omega)
 | .lst l,e,A,x,y,u,v,h1,h2,r1,r2,hu,he=>by
  obtain ⟨a,xs,rfl,g1,g2⟩:=h1
  cases r1
  obtain ⟨its,rv,p,hz⟩:=I.list (SqL.of (K:=X.K) g1)
  have hu0:A.units<cLine:=yE (yZ _ _) hu
  cases e with
  | non=>cases (show y=.non from h2); cases r2; simp only [dEq]; exact SeqAt.EqAt.list_none p.isList hu0
  | bl b=>cases (show y=.bl b from h2); cases r2; simp only [dEq]; exact SeqAt.EqAt.list_bool b p.isList hu0
  | int b=>cases (show y=.int b from h2); obtain ⟨t,rfl⟩:=r2; simp only [dEq]; exact SeqAt.EqAt.list_int b t p.isList hu0
  | str b=>cases (show y=.str b from h2); obtain ⟨t,rfl⟩:=r2; simp only [dEq]; exact SeqAt.EqAt.list_str b t p.isList hu0
  | tup m=>
   obtain ⟨b,ys,rfl,k1,k2⟩:=h2
   cases r2
   obtain ⟨its2,rv2,p2,_⟩:=I.tuple (SqT.of (K:=X.K) k1)
   simp only [dEq]
   exact SeqAt.EqAt.list_tuple p.isList p2 hu0
  | lst m=>
   obtain ⟨b,ys,rfl,k1,k2⟩:=h2
   cases r2
   obtain ⟨its2,rv2,p2,_⟩:=I.list (SqL.of (K:=X.K) k1)
   simp only [dEq]
   have key:=Yh I l A.in1 (by have:A.units+(qK l+1)<cLine:=hu; show A.units+1+qK l<cLine; omega)
   by_cases hab:a=b
   ·subst hab
    rw [g1] at k1
    cases k1
    have e1:gZ A s (.ref a) (.ref a) true:=VO _
    by_cases hd:Qc l m=true
    ·rw [hd]; exact e1
    ·exact absurd (qZ.same_eq g2 k2) hd
   ·have l1:=rv.length
    have l2:=rv2.length
    have n1:=g2.length
    have n2:=k2.length
    by_cases hl:l.length=m.length
    ·have hsz:its.toArray.size=its2.toArray.size:=by rw [wJ,wJ]; omega
     have h0:=SeqAt.RcAt.lists (A:=A) (e:=qHJ l m) p.isList p2.isList hsz hu0 (fun j hj1 hj2=>by
      simp only [ZQ]
      have a1:j<its.length:=by simpa using hj1
      have a2:j<its2.length:=by simpa using hj2
      obtain ⟨d,q1,q2⟩:=g2.get (wC (by omega:j<xs.length))
      obtain ⟨e,q3,q4⟩:=k2.get (wC (by omega:j<ys.length))
      obtain ⟨w1,z1,z2⟩:=rv.get (wC (by omega:j<xs.length))
      obtain ⟨w2,z3,z4⟩:=rv2.get (wC (by omega:j<ys.length))
      rw [wC a1] at z1
      rw [wC a2] at z3
      cases z1
      cases z3
      rw [qCn q1 q3]
      exact key j d q1 e _ _ _ _ q2 q4 z2 z4 (by have h3:=qA3 q3; have h4:A.units+(qK m+1)<cLine:=he; show A.units+1+jQ e<cLine; omega))
     have h1:=WE hab h0
     rw [wJ,<- l1,n1,jf l m hl] at h1
     exact h1
    ·rw [QX l m hl]
     have hsz:(its.toArray.size != its2.toArray.size)=true:=by rw [wJ,wJ,<- l1,<- l2,n1,n2]; simpa using hl
     exact WE hab (SeqAt.RcAt.lists_lengths p.isList p2.isList hsz hu0)
  | dic=>exact absurd (show A.units+cLine<cLine from he) (by omega)
 | .dic,e,A,x,y,u,v,h1,h2,r1,r2,hu,he=>absurd (show A.units+cLine<cLine from hu) (by omega)
theorem Yh (I:Inv X pins σ H s):∀(l:List D) (A:Around),A.units+qK l<cLine->∀(j:Nat) (d:D),l[j]? = some d->∀(e:D) (x y:V) (u v:Value),Den H d x->Den H e y->RelV x u->RelV y v->A.units+jQ e<cLine->gZ A s u v (dEq d e)
 | [],A,hu,j,d,h,e,x,y,u,v,_,_,_,_,_=>by simp at h
 | d0::l,A,hu,j,d,h,e,x,y,u,v,h1,h2,r1,r2,he=>by
  have hu':A.units+max (jQ d0) (qK l)<cLine:=hu
  cases j with
  | zero=>
   simp at h
   subst h
   exact qKN I d0 e A x y u v h1 h2 r1 r2 (by omega) he
  | succ j=>exact Yh I l A (by omega) j d (by simpa using h) e x y u v h1 h2 r1 r2 he
end
end
noncomputable def qNP (H:Hp) (l:List D) (v:V):Prop:=Den H (.tup l) v\/Den H (.lst l) v
noncomputable def dIn (d:D) (l:List D):Bool:=l.any fun e=>dEq e d
section
variable {X:Cx}
theorem anyB {α β:Type} {f:α->Bool} {g:β->Bool}:∀{l:List α} {m:List β},l.length=m.length->(∀(j:Nat) (a:α) (b:β),l[j]? = some a->m[j]? = some b->f a=g b)->l.any f=m.any g
 | [],[],_,_=>rfl
 | [],_::_,h,_=>absurd h (by simp)
 | _::_,[],h,_=>absurd h (by simp)
 | a::l,b::m,h,k=>by
  rw [uE,uE,k 0 a b rfl rfl,anyB (by simpa using h) fun j a b h1 h2=>k (j+1) a b (by simpa using h1) (by simpa using h2)]
theorem qG2 {pins:List (Addr×Obj)} {σ:St} {H:Hp} {s:Shared} {A:Around} {l:List D} {xs:List V} {its:List Value} {d:D} {x:V} {u:Value} (I:Inv X pins σ H s) (h:qZ H l xs) (rv:qt xs its) (hd:Den H d x) (r:RelV x u) (hu:A.units+qK l<cLine) (hu2:A.units+jQ d<cLine) :
  ∃ e:Value->Bool,(∀ w,w∈its->gZ A s w u (e w))/\its.any e=dIn d l:=by
 have key:∀(j:Nat) (w:Value),its[j]? = some w->∃ c,l[j]? = some c/\∃ y,xs[j]? = some y/\Den H c y/\RelV y w:=fun j w hw=>by
  have hj:j<xs.length:=by rw [rv.length]; exact (wL.mp hw).1
  obtain ⟨c,g1,g2⟩:=h.get (wC hj)
  obtain ⟨w',g3,g4⟩:=rv.get (wC hj)
  rw [hw] at g3
  cases g3
  exact ⟨c,g1,_,wC hj,g2,g4⟩
 have uniq:∀(w:Value) (c c':D) (y y':V),Den H c y->RelV y w->Den H c' y'->RelV y' w->c=c':=fun w c c' y y' h1 r1 h2 r2=>by
  have e:=r1.inj r2
  subst e
  exact Den.inj c c' y h1 h2
 classical
 refine ⟨fun w=>if hw:∃(c:D) (y:V),Den H c y/\RelV y w then dEq hw.choose d else false,fun w hw=>?_,?_⟩
 ·obtain ⟨j,hj,e⟩:=gU hw
  obtain ⟨c,g1,y,g2,g3,g4⟩:=key j w (by rw [wC hj,e])
  have hex:∃(c:D) (y:V),Den H c y/\RelV y w:=⟨c,y,g3,g4⟩
  simp only [hex,dif_pos]
  obtain ⟨y',q1,q2⟩:=hex.choose_spec
  have:hex.choose=c:=uniq w _ _ _ _ q1 q2 g3 g4
  rw [this]
  exact Yh I l A hu j c g1 d _ _ _ _ g3 hd g4 r hu2
 ·refine anyB (by rw [<- rv.length,h.length]) fun j w c h1 h2=>?_
  obtain ⟨c',g1,y,g2,g3,g4⟩:=key j w h1
  rw [h2] at g1
  cases g1
  have hex:∃(c:D) (y:V),Den H c y/\RelV y w:=⟨c,y,g3,g4⟩
  simp only [hex,dif_pos]
  obtain ⟨y',q1,q2⟩:=hex.choose_spec
  have:hex.choose=c:=uniq w _ _ _ _ q1 q2 g3 g4
  rw [this]
noncomputable def qH2 (neg:Bool):R2:=fun x y H Q=>∃ d l,Den H d x/\qNP H l y/\qK l<=50/\jQ d<=50/\Q (.bl (if neg then !dIn d l else dIn d l)) H
theorem qKS (hu:X.A.units+64<cLine):OpR X (compareOp .In) (qH2 false):=by
 intro pins s σ H x y v u Q I rx ry h
 obtain ⟨d,l,hd,hl,hz,hz2,q⟩:=h
 have hu1:X.A.in1.units+qK l<cLine:=by show X.A.units+1+qK l<cLine; omega
 have hu2:X.A.in1.units+jQ d<cLine:=by show X.A.units+1+jQ d<cLine; omega
 rcases hl with ⟨a,xs,rfl,h1,h2⟩ | ⟨a,xs,rfl,h1,h2⟩
 ·cases ry
  obtain ⟨its,rv,p,_⟩:=I.tuple (SqT.of (K:=X.K) h1)
  obtain ⟨e,e1,e2⟩:=qG2 (A:=X.A.in1) I h2 rv hd rx hu1 hu2
  refine SeqAt.in_tupleAt e p (fun w hw=>e1 w (by simpa using hw)) ⟨.bl _,H,I,rfl,?_⟩
  rw [show its.toArray.any e=its.any e by simp,e2]
  exact q
 ·cases ry
  obtain ⟨its,rv,p,_⟩:=I.list (SqL.of (K:=X.K) h1)
  obtain ⟨e,e1,e2⟩:=qG2 (A:=X.A.in1) I h2 rv hd rx hu1 hu2
  refine SeqAt.in_listAt e p.isList (fun w hw=>e1 w (by simpa using hw)) ⟨.bl _,H,I,rfl,?_⟩
  rw [show its.toArray.any e=its.any e by simp,e2]
  exact q
theorem qEm (hu:X.A.units+64<cLine):OpR X (compareOp .NotIn) (qH2 true):=by
 intro pins s σ H x y v u Q I rx ry h
 obtain ⟨d,l,hd,hl,hz,hz2,q⟩:=h
 have hu1:X.A.in1.units+qK l<cLine:=by show X.A.units+1+qK l<cLine; omega
 have hu2:X.A.in1.units+jQ d<cLine:=by show X.A.units+1+jQ d<cLine; omega
 rcases hl with ⟨a,xs,rfl,h1,h2⟩ | ⟨a,xs,rfl,h1,h2⟩
 ·cases ry
  obtain ⟨its,rv,p,_⟩:=I.tuple (SqT.of (K:=X.K) h1)
  obtain ⟨e,e1,e2⟩:=qG2 (A:=X.A.in1) I h2 rv hd rx hu1 hu2
  refine SeqAt.notIn_tupleAt e p (fun w hw=>e1 w (by simpa using hw)) ⟨.bl _,H,I,rfl,?_⟩
  rw [show its.toArray.any e=its.any e by simp,e2]
  exact q
 ·cases ry
  obtain ⟨its,rv,p,_⟩:=I.list (SqL.of (K:=X.K) h1)
  obtain ⟨e,e1,e2⟩:=qG2 (A:=X.A.in1) I h2 rv hd rx hu1 hu2
  refine SeqAt.notIn_listAt e p.isList (fun w hw=>e1 w (by simpa using hw)) ⟨.bl _,H,I,rfl,?_⟩
  rw [show its.toArray.any e=its.any e by simp,e2]
  exact q
theorem qDX {pins:List (Addr×Obj)} {σ:St} {H:Hp} {s:Shared} {A:Around} {l m:List D} {xs ys:List V} {its its2:List Value} (I:Inv X pins σ H s) (h:qZ H l xs) (rv:qt xs its) (g:qZ H m ys) (rw2:qt ys its2) (hu:A.units+qK l<cLine) (hum:A.units+qK m<cLine)
  (j:Nat) (h1:j<its.toArray.size) (h2:j<its2.toArray.size):gZ A s its.toArray[j] its2.toArray[j] (qHJ l m j):=by
 simp only [ZQ]
 have a1:j<its.length:=by simpa using h1
 have a2:j<its2.length:=by simpa using h2
 have l1:=rv.length
 have l2:=rw2.length
 obtain ⟨d,q1,q2⟩:=h.get (wC (by omega:j<xs.length))
 obtain ⟨e,q3,q4⟩:=g.get (wC (by omega:j<ys.length))
 obtain ⟨w1,z1,z2⟩:=rv.get (wC (by omega:j<xs.length))
 obtain ⟨w2,z3,z4⟩:=rw2.get (wC (by omega:j<ys.length))
 rw [wC a1] at z1
 rw [wC a2] at z3
 cases z1
 cases z3
 rw [qCn q1 q3]
 exact Yh I l A hu j d q1 e _ _ _ _ q2 q4 z2 z4 (yE (Nat.add_le_add_left (qA3 q3) _) hum)
noncomputable def qJO (neg:Bool):R2:=fun x y H Q=>∃ l m,((Den H (.tup l) x/\Den H (.tup m) y)\/(Den H (.lst l) x/\Den H (.lst m) y))/\qK l<=50/\qK m<=50/\Q (.bl (if neg then !Qc l m else Qc l m)) H
theorem qLJ (hu:X.A.units+64<cLine):OpR X (compareOp .Eq) (qJO false):=by
 intro pins s σ H x y v u Q I rx ry h
 obtain ⟨l,m,hl,hz,hz3,q⟩:=h
 have hu0:X.A.units<cLine:=by omega
 have hu3:X.A.in1.units+qK m<cLine:=by show X.A.units+1+qK m<cLine; omega
 have hu1:X.A.in1.units+qK l<cLine:=by show X.A.units+1+qK l<cLine; omega
 rcases hl with ⟨⟨a,xs,rfl,h1,h2⟩,⟨b,ys,rfl,k1,k2⟩⟩ | ⟨⟨a,xs,rfl,h1,h2⟩,⟨b,ys,rfl,k1,k2⟩⟩
 ·cases rx
  cases ry
  obtain ⟨its,rv,p,_⟩:=I.tuple (SqT.of (K:=X.K) h1)
  obtain ⟨its2,rv2,p2,_⟩:=I.tuple (SqT.of (K:=X.K) k1)
  have l1:=rv.length
  have l2:=rv2.length
  have n1:=h2.length
  have n2:=k2.length
  refine SeqAt.eq_tupleAt p p2 hu0 (qDX I h2 rv k2 rv2 hu1 hu3) ⟨.bl _,H,I,rfl,?_⟩
  have e2:((wO (min its.toArray.size its2.toArray.size)).all (qHJ l m) && its.toArray.size == its2.toArray.size)=Qc l m:=by
   rw [wJ,wJ,<- l1,<- l2,n1,n2]
   by_cases hl:l.length=m.length
   ·rw [<- hl,Nat.min_self,jf l m hl]; simp
   ·rw [QX l m hl]; simp [hl]
  rw [e2]
  exact q
 ·cases rx
  cases ry
  obtain ⟨its,rv,p,_⟩:=I.list (SqL.of (K:=X.K) h1)
  obtain ⟨its2,rv2,p2,_⟩:=I.list (SqL.of (K:=X.K) k1)
  have l1:=rv.length
  have l2:=rv2.length
  have n1:=h2.length
  have n2:=k2.length
  by_cases hl:l.length=m.length
  ·have hsz:its.toArray.size=its2.toArray.size:=by rw [wJ,wJ]; omega
   refine SeqAt.eq_listAt p.isList p2.isList hsz hu0 (qDX I h2 rv k2 rv2 hu1 hu3) ⟨.bl _,H,I,rfl,?_⟩
   rw [wJ,<- l1,n1,jf l m hl]
   exact q
  ·have hsz:(its.toArray.size != its2.toArray.size)=true:=by rw [wJ,wJ,<- l1,<- l2,n1,n2]; simpa using hl
   refine SeqAt.eq_list_lengthsAt p.isList p2.isList hsz hu0 ⟨.bl _,H,I,rfl,?_⟩
   rw [QX l m hl] at q
   exact q
theorem qKJ (hu:X.A.units+64<cLine):OpR X (compareOp .NotEq) (qJO true):=by
 intro pins s σ H x y v u Q I rx ry h
 obtain ⟨l,m,hl,hz,hz3,q⟩:=h
 have hu0:X.A.units<cLine:=by omega
 have hu3:X.A.in1.units+qK m<cLine:=by show X.A.units+1+qK m<cLine; omega
 have hu1:X.A.in1.units+qK l<cLine:=by show X.A.units+1+qK l<cLine; omega
 rcases hl with ⟨⟨a,xs,rfl,h1,h2⟩,⟨b,ys,rfl,k1,k2⟩⟩ | ⟨⟨a,xs,rfl,h1,h2⟩,⟨b,ys,rfl,k1,k2⟩⟩
 ·cases rx
  cases ry
  obtain ⟨its,rv,p,_⟩:=I.tuple (SqT.of (K:=X.K) h1)
  obtain ⟨its2,rv2,p2,_⟩:=I.tuple (SqT.of (K:=X.K) k1)
  have l1:=rv.length
  have l2:=rv2.length
  have n1:=h2.length
  have n2:=k2.length
  refine SeqAt.RcNeAt.tuples p p2 hu0 (qDX I h2 rv k2 rv2 hu1 hu3) X.prog X.w X.xe _ ⟨.bl _,H,I,rfl,?_⟩
  have e2:((wO (min its.toArray.size its2.toArray.size)).all (qHJ l m) && its.toArray.size == its2.toArray.size)=Qc l m:=by
   rw [wJ,wJ,<- l1,<- l2,n1,n2]
   by_cases hl:l.length=m.length
   ·rw [<- hl,Nat.min_self,jf l m hl]; simp
   ·rw [QX l m hl]; simp [hl]
  rw [e2]
  exact q
 ·cases rx
  cases ry
  obtain ⟨its,rv,p,_⟩:=I.list (SqL.of (K:=X.K) h1)
  obtain ⟨its2,rv2,p2,_⟩:=I.list (SqL.of (K:=X.K) k1)
  have l1:=rv.length
  have l2:=rv2.length
  have n1:=h2.length
  have n2:=k2.length
  by_cases hl:l.length=m.length
  ·have hsz:its.toArray.size=its2.toArray.size:=by rw [wJ,wJ]; omega
   refine SeqAt.RcNeAt.lists p.isList p2.isList hsz hu0 (qDX I h2 rv k2 rv2 hu1 hu3) X.prog X.w X.xe _ ⟨.bl _,H,I,rfl,?_⟩
   rw [wJ,<- l1,n1,jf l m hl]
   exact q
  ·have hsz:(its.toArray.size != its2.toArray.size)=true:=by rw [wJ,wJ,<- l1,<- l2,n1,n2]; simpa using hl
   refine SeqAt.RcNeAt.lists_lengths p.isList p2.isList hsz hu0 X.prog X.w X.xe _ ⟨.bl _,H,I,rfl,?_⟩
   rw [QX l m hl] at q
   exact q
theorem jj (hc:X.calm=true):QB X (.builtin "all") (fun xs H Q=>∃(p:Addr) (bs:List Bool),xs=[.ref p]/\H p=some (.lst (bs.map V.bl))/\Q (.bl (bs.all id)) H):=by
 intro pins s σ H xs us Q I r h
 obtain ⟨p,bs,rfl,hp,q⟩:=h
 obtain ⟨u,rfl,rx⟩:=vals1 r
 cases rx
 obtain ⟨its,rv,pl,hzz⟩:=I.list (SqL.of (K:=X.K) hp)
 clear hzz
 have hb:LSm.BoolsAre its bs:=by
  clear q pl hp
  induction bs generalizing its with
  | nil=>cases rv; exact .nil
  | cons b bs ih=>
   cases rv with
   | cons r1 r2=>cases r1; exact .cons b (ih _ r2)
 have hlt:p<s.heap.objs.size:=by obtain ⟨_,e,_⟩:=pl.isList; exact wY e
 refine call_all_walk (kG pl.isList ?_)
 refine ⟨s.heap.objs.size,[s.heap.objs.size,p],[s.heap.objs.size],its.toArray.size,_,_,fun i=>(bs[i]?).getD true,rfl,WG (A:=X.A.in1) (I.ok.hd hc) _ p (zH hlt) its.toArray,
  ⟨⟨_,wR _ rfl,rfl,rfl⟩,pl.isList.push _⟩,fun i v s' Q' E' hP hQ=>?_,fun h' tk hk=>?_⟩
 ·rcases hb.get i v (by simpa using hP) with ⟨b,eb,rfl⟩
  replace hQ:Q' b s':=by simpa [eb] using hQ
  exact vA hQ
 ·have e:((wO its.toArray.size).all fun i=>(bs[i]?).getD true)=bs.all id:=by
   rw [wJ,hb.length,LSm.range_all]
  rw [e]
  exact ⟨.bl _,H,I.kept (LSm.kept_iter hk),rfl,q⟩
noncomputable def qJP (K:wG):R2:=fun x y H Q=>∃ l b xs zs,x=.ref l/\y=.ref b/\SqL K H l xs/\SqL K H b zs/\xs.length+zs.length<=sizeLine/\∀ p,H p=none->Q (.ref p) (upd H p (.lst (xs++zs)))
theorem qJe:OpR X (binaryOp .Add) (qJP X.K):=by
 intro pins s σ H x y v u Q I rx ry h
 obtain ⟨l,b,xs,zs,rfl,rfl,hH,hB,hz,q⟩:=h
 cases rx
 cases ry
 obtain ⟨its,r,pl,_⟩:=I.list hH
 obtain ⟨its2,r2,pl2,_⟩:=I.list hB
 have n1:=r.length
 have n2:=r2.length
 obtain ⟨⟨cls,dd,data,sl⟩,ho,hc,n,hd⟩:=pl.isList
 obtain ⟨⟨cls2,dd2,data2,sl2⟩,ho2,hc2,n2',hd2⟩:=pl2.isList
 simp only at hc hd hc2 hd2
 subst hc hd hc2 hd2
 have e:its.toArray++its2.toArray=(its++its2).toArray:=by simp
 refine WO ⟨_,ho,rfl⟩ ⟨_,ho2,rfl⟩ noFill_list_add seq_list_add PySem.F.slot_list_add PySem.F.entry_list_add (PySem.F.args_list_add_2 _ _) (list_addW l b its.toArray its2.toArray n n2' dd dd2 sl sl2 (by simp only [wJ]; omega)) ⟨ho,ho2,?_⟩
 rw [e]
 exact ⟨.ref _,_,I.lnew (t':=s.toks) (r.append r2) (by rw [wM]; omega),rfl,q _ I.fresh⟩
theorem qDN:QB X (.builtin "isinstance") (fun xs H Q=>∃ x t T b,xs=[x,.ty T]/\qCV X.K H x t/\xI X.K t (.type T)=some b/\Q (.bl b) H):=by
 intro pins s σ H xs us Q I r h
 obtain ⟨x,t,T,b,rfl,ty,e,q⟩:=h
 obtain ⟨u,w',rfl,rx,ry⟩:=vals2 r
 cases ry
 exact qGa I rx ty e fun tk=>⟨.bl b,H,I.tok _,rfl,q⟩
end
example (K:wG):xI K (.type "list") (.type "list")=some true:=rfl
example (K:wG):xI K (.type "int") (.type "bool")=some false:=by rfl
example (K:wG):xI K (.type "bool") (.type "int")=some true:=by rfl
end L2
namespace L2
open PySem PySem.Spec PyProof.Rows PySem.W
noncomputable abbrev qMx:=Int×List (Int×Int)
noncomputable abbrev qNC:=qMx×Addr×Addr
end L2
namespace L2
open PySem PySem.Spec PyProof.Rows
section
variable {X:Cx} {a:Expr} {ta:TE} {pos:Pos} {tg:Expr}
theorem opM:OpR X (binaryOp .Mult) (fun x y H Q=>(rI qLn fun i j=>.int (i*j)) x y H Q\/qMg x y H Q):=qKc.or qK1
theorem qBB (hu:X.A.units+64<cLine):OpR X (compareOp .Eq) (fun x y H Q=>rEq x y H Q\/qJO false x y H Q):=qMB.or (qLJ hu)
theorem qD9 (hu:X.A.units+64<cLine):OpR X (compareOp .NotEq) (fun x y H Q=>rNe x y H Q\/qJO true x y H Q):=qMA.or (qKJ hu)
theorem qKW (hu:X.A.units+64<cLine):OpR X (compareOp .In) (qH2 false):=qKS hu
theorem qJY (hu:X.A.units+64<cLine):OpR X (compareOp .NotIn) (qH2 true):=qEm hu
noncomputable def qJy (K:wG) (tl:TE):TI:=fun σ H R=>tl σ H fun x H1=>∃ a,x=.ref a/\(((∃ xs,SqL K H1 a xs)/\R (Itl K a) H1)\/((∃ xs,SqT K H1 a xs)/\R (Itt K a) H1))
theorem qKV {l:Expr} {tl:TE} (hl:PE X l tl):PI X tg l (qJy X.K tl):=by
 intro pins s σ H R I h
 refine thn (hl pins s σ H _ I h) fun v s1 ⟨x,H1,I1,r1,q1⟩=>?_
 obtain ⟨a,e,q⟩:=q1
 subst e
 cases r1
 rcases q with ⟨⟨xs,hq⟩,q⟩ | ⟨⟨xs,hq⟩,q⟩
 ·obtain ⟨its,rv,p,hz⟩:=I1.list hq
  refine kG p.isList ?_
  refine ⟨s1.heap.objs.size,[s1.heap.objs.size],_,_,H1,rfl,I1.kept (t':=s1.toks) fun b o e=>wF _ e,qF4 a _,⟨_,wR _ rfl,rfl,rfl⟩,fun b hb=>?_,q⟩
  have e:b=s1.heap.objs.size:=by simpa using hb
  subst e
  exact I1.fpOk (wK _) (I1.hok.fresh (wK _))
 ·obtain ⟨its,rv,p,hz⟩:=I1.tuple hq
  refine WH (show s1.heap.IsTuple a its.toArray from p) ?_
  refine ⟨s1.heap.objs.size,[s1.heap.objs.size],_,_,H1,rfl,I1.kept (t':=s1.toks) fun b o e=>wF _ e,qEa a _,⟨_,wR _ rfl,rfl,rfl⟩,fun b hb=>?_,q⟩
  have e:b=s1.heap.objs.size:=by simpa using hb
  subst e
  exact I1.fpOk (wK _) (I1.hok.fresh (wK _))
noncomputable def qJo (ta:TE) (K:wG):TE:=fun σ H Q=>ta σ H fun x H1=>∃ k,qKe K x H1 k/\Q (.bl (!k)) H1
theorem qIv (ha:PE X a ta):PE X (.UnaryOp .Not a pos) (qJo ta X.K):=by
 intro pins s σ H Q I h
 refine UnaryOp_ (thn (ha pins s σ H _ I h) fun v s1 ⟨x,H1,I1,r1,k,e,q1⟩=>not_of ?_)
 exact thn (qIB pins s1 σ H1 x v (fun k H'=>Q (.bl (!k)) H') I1 r1 ⟨k,e,q1⟩) fun b s2 ⟨H2,I2,q2⟩=>⟨.bl (!b),H2,I2,rfl,q2⟩
end
theorem qV.new {H:Hp} {p:Addr} {o:HO} (h:H p=none):qV H (upd H p o):=fun b u e=>by rw [qN (jd e h)]; exact e
noncomputable def qLS (H H':Hp):Prop:=∀ a xs,H a=some (.tup xs)->H' a=some (.tup xs)
mutual
noncomputable def qHW:D->Bool
 | .lst _=>false
 | .dic=>false
 | .tup l=>qDV l
 | _=>true
noncomputable def qDV:List D->Bool
 | []=>true
 | d::l=>qHW d && qDV l
end
mutual
theorem Den.monoT {H H':Hp} (e:qLS H H'):∀(d:D) (v:V),qHW d=true->Den H d v->Den H' d v
 | .non,v,_,h=>h
 | .bl _,v,_,h=>h
 | .int _,v,_,h=>h
 | .str _,v,_,h=>h
 | .tup l,v,t,h=>by
  obtain ⟨a,xs,r,h1,h2⟩:=h
  exact ⟨a,xs,r,e _ _ h1,qZ.monoT e l xs t h2⟩
 | .lst l,v,t,h=>by simp [qHW] at t
 | .dic,v,t,h=>by simp [qHW] at t
theorem qZ.monoT {H H':Hp} (e:qLS H H'):∀(l:List D) (xs:List V),qDV l=true->qZ H l xs->qZ H' l xs
 | [],xs,_,h=>h
 | d::l,xs,t,h=>by
  obtain ⟨x,r,h0,h1,h2⟩:=h
  simp only [qDV,zY] at t
  exact ⟨x,r,h0,Den.monoT e d x t.1 h1,qZ.monoT e l r t.2 h2⟩
end
section
variable {X:Cx} {K:wG} {a b o e:Expr} {es:List Expr} {ta tb to:TE} {t:TA} {pos:Pos} {tg:Expr}
theorem ixK (h:X.K=K):IxR X (rIx K):=by subst h; exact qKK
theorem qz {l:Expr} {tl:TE} (h:X.K=K) (hl:PE X l tl):PI X tg l (qJy K tl):=by subst h; exact qKV hl
theorem qHa (h:X.K=K) (ha:PE X a ta):PE X (.UnaryOp .Not a pos) (qJo ta K):=by subst h; exact qIv ha
noncomputable def qMw (K:wG) (ta:TE):TT:=fun σ H Q=>ta σ H fun x H'=>∃ k,qKe K x H' k/\Q k H'
theorem qo (h:X.K=K) (ha:PE X a ta) (he:∀ whole,isTrue a X.env whole=(do let v <- whole; standAt a.pos; holding [v] (truthy v))):PT X a (qMw K ta):=by subst h; exact qHH ha he
theorem qBu (h:X.K=K):QB X (.builtin "len") (fun xs H Q=>∃ p ys,xs=[.ref p]/\(SqL K H p ys\/SqT K H p ys)/\Q (.int ys.length) H):=by subst h; exact qBd
theorem Jh (h:X.K=K):QB X (.type "tuple") (fun xs H Q=>∃ p ys,xs=[.ref p]/\((SqL K H p ys/\∀ l,H l=none->Q (.ref l) (upd H l (.tup ys)))\/(SqT K H p ys/\Q (.ref p) H))):=by subst h; exact qA7
theorem qMZ (h:X.K=K):QB X (.type "list") (fun xs H Q=>∃ p ys,xs=[.ref p]/\(SqL K H p ys\/SqT K H p ys)/\∀ l,H l=none->Q (.ref l) (upd H l (.lst ys))):=by subst h; exact qB9
theorem JK (h:X.K=K):QB X (.builtin "isinstance") (fun xs H Q=>∃ x t T b,xs=[x,.ty T]/\qCV K H x t/\xI K t (.type T)=some b/\Q (.bl b) H):=by subst h; exact qDN
theorem qDa {name:Str} {apos cpos:Pos} {T id:String} {r:V->List V->Hp->VK->Prop} (h:X.K=K) (pa:PlainAttrs T) (slot:Slot T name id) (hty:typeOf (.builtin id)=pure (.type "method_descriptor")) (hm:MtR X id r) (ho:PE X o to) (ha:PA X (e::es) t)
  (hbase:attributeBase o name X.env (eval o X.env)=eval o X.env:=by rfl)
  (hfew:((backTo cpos (starEach (e::es) X.env)).all (fun x=>!x.1) && (backToKw cpos (keywordEach [] X.env)).all (fun x=>x.1.isSome)
   && decide ((e::es).length+([]:List Keyword).length+(if ([]:List Keyword).isEmpty then 0 else 1)<30))=true:=by rfl)
  (hline:(apos.endLine == cpos.line)=true:=by rfl) (hs:starEach (e::es) X.env=(false,eval e X.env)::starEach es X.env:=by rfl) (hplain:(backTo cpos (starEach es X.env)).any (·.1)=false:=by rfl) :
  PE X (.Call (.Attribute o name apos) (e::es) [] cpos) (tBM K T r to t):=by subst h; exact qMO pa slot hty hm ho ha hbase hfew hline hs hplain
theorem jX {es:List Expr} {k:Nat} {t:TGs} {n:Nat} (h:X.K=K) (hc:X.calm=true) (hg:PGs X es t)
  (hn:(assignEach es X.env).length=n:=by rfl) (hst:(assignEach es X.env).findIdx? (·.1)=none:=by rfl):PG X (.Tuple es k pos) (qMS K n t):=by subst h; exact qLh hc hg hn hst
end
structure YC (K:wG) (mg:Str->Option Value) (x:Str) (st:Stmt) (ps:List Str) (f:Addr) (fd:FuncData):Prop where
 fn:Fun K x x st f fd
 bd:Binds K fd ps []
 mg:mg x=some (.ref f)
end L2
namespace L2
open PySem
noncomputable abbrev Fo (h:Heap) (c:String) (a:Addr) (fs:Array Value):Prop:=h.get? a=some ⟨.type c,none,.fields fs,#[]⟩
noncomputable def Q7 (a:Addr) (h h':Heap):Prop:=∀ c o,c≠a->h.get? c=some o->h'.get? c=some o
theorem Q7.refl (a:Addr) (h:Heap):Q7 a h h:=fun _ _ _ y=>y
theorem Q7.then {a:Addr} {h h' h'':Heap} (x:Q7 a h h') (y:Q7 a h' h''):Q7 a h h'':=fun c o n z=>y c o n (x c o n z)
theorem Q7.new {a:Addr} {h h':Heap} (x:Q7 a h h') (o:Obj):Q7 a h (h'.push o):=fun c u n z=>wF o (x c u n z)
theorem Q7.of {a:Addr} {h h':Heap} (x:kN a h h'):Q7 a h h':=x.extBut
section
variable {prog:Program} {w:World} {A:Around} {E:Value->Shared->Prop} {s:Shared} {a:Addr} {c:String} {fs:Array Value} {β:Type} {Q:β->Shared->Prop}
theorem ask {k:Nat} {x:Value} {g:Value->Sem β} (o:Fo s.heap c a fs) (hx:fs[k]? = some x) (K:wpAny (model prog w) A (g x) Q E s):wpAny (model prog w) A (field (.ref a) k >>= g) Q E s:=wB (uD o rfl hx K)
theorem qMI {k:Nat} {v:Value} {Q:Unit->Shared->Prop} (o:Fo s.heap c a fs) (hk:k<fs.size) (K:∀ h',Fo h' c a (fs.setIfInBounds k v)->Q7 a s.heap h'->h'.objs.size=s.heap.objs.size->Q () { s with heap:=h' }):wpAny (model prog w) A (setField (.ref a) k v) Q E s:=
 wpAny_setField_rec o hk fun h' o' same=>K h' o' (.of same) same.1
theorem put {k:Nat} {v:Value} {g:Unit->Sem β} (o:Fo s.heap c a fs) (hk:k<fs.size) (K:∀ h',Fo h' c a (fs.setIfInBounds k v)->Q7 a s.heap h'->h'.objs.size=s.heap.objs.size->wpAny (model prog w) A (g ()) Q E { s with heap:=h' }):wpAny (model prog w) A (setField (.ref a) k v >>= g) Q E s:=
 wB (qMI o hk K)
theorem alive {b:Addr} {g:Option Obj->Sem β} (K:wpAny (model prog w) A (g (s.heap.get? b)) Q E s):wpAny (model prog w) A (loadIfAlive b >>= g) Q E s:=by
 refine wB ?_
 intro Γ p _
 exact (Sem.wp_loadIfAlive ..).symm ▸ K
end
end L2
namespace L2
open PySem PySem.Spec PyProof.Rows
section
variable {w:World} {prog:Program} {A:Around} {s:Shared} {E:Value->Shared->Prop}
theorem qMY {α:Type} {Q:α->Shared->Prop} (calm:A.handled=none) (K:∀ h' e,(∀ b o,s.heap.get? b=some o->h'.get? b=some o)->(∃ o,h'.get? e=some o/\o.cls=.type "StopIteration")->E (.ref e) { s with heap:=h' }):wpAny (model prog w) A (Builtin.SmallTypes.stopIteration:Sem α) Q E s:=by
 refine wB (m:=newExc _ _) (wB (yD (wB (m:=firstArgMember _ _) (fN (a:=xF) (by simp only [firstArgMember]; rfl) (yD (ZV calm (K _ _ (fun b o y=>?_) ⟨_,wR _ rfl,rfl⟩)) (by size_fits)))) (by size_fits)))
 exact wF _ (wF _ y)
theorem nextT {nx tu:Addr} {i:Nat} {its:Array Value} {Q:Value->Shared->Prop} (hi:s.heap.IsTupleIter nx tu i) (ht:s.heap.IsTuple tu its) (yes:∀ y h',its[i]? = some y->h'.IsTupleIter nx tu (i+1)->kN nx s.heap h'->Q y { s with heap:=h' })
  (no:its[i]? = none->A.handled=none/\∀ h' e,Heap.ExtBut nx s.heap h'->(∃ o,h'.get? e=some o/\o.cls=.type "StopIteration")->E (.ref e) { s with heap:=h' }):wpAny (model prog w) A (Builtin.SmallTypes.nextOf (.ref nx)) Q E s:=by
 obtain ⟨ob,eb,cb,db⟩:=id hi
 obtain ⟨ot,et,_,nt,dt⟩:=ht
 refine wB (yL (name:=xB "__next__") hi.typeIs UB (zW UB hi.typeIs F.entry_tuple_iterator_next ?_ (F.args_tuple_iterator_next_1 _)))
 refine wB (fN (a:=(.ref nx,[])) rfl (wB (uD eb db (x:=.ref tu) rfl (vF (fun z=>absurd z wU) fun _=>wB (uD eb db (x:=.int i 0) rfl (wB (fC et dt ?_)))))))
 simp only [yG]
 cases e:its[i]? with
 | some y=>
  refine wB (wpAny_setField eb db (by simp) (wD ⟨y,rfl,wD (yes y _ e ⟨_,vO _ eb (Obj.isFreed_of_fields (Obj.data_mapFields db _)),(Obj.cls_mapFields ..).trans cb,?_⟩ (yO ..))⟩))
  rw [Obj.data_mapFields db]
  simp [rawInt]
 | none=>
  obtain ⟨calm,over⟩:=no e
  exact wB (gO (wB (wpAny_setField eb db (by simp) (qMY calm fun h' x old new=>over h' x (fun b o n y=>old b o ((yO ..).extBut b o n y)) new))))
end
theorem qIT {prog:Program} {w:World} {A:Around} (hh:A.handled=none) (nx tu:Addr) (hne:tu≠nx) (its:Array Value) :
  Draws prog w A nx [nx,tu] its.size (fun i v=>its[i]? = some v) (fun i h=>h.IsTupleIter nx tu i/\h.IsTuple tu its) where
 live:=fun _ _ st=>by obtain ⟨o,ho,_⟩:=st.1; exact ⟨o,ho⟩
 frame:=fun _ _ _ st hk=>⟨st.1.at fun o e=>hk nx (by simp) o e,by obtain ⟨o,e,r⟩:=st.2; exact ⟨o,hk tu (by simp) o e,r⟩⟩
 item:=fun i s Q E hi st k=>nextT st.1 st.2 (no:=fun z=>absurd z (by simp [hi])) (yes:=fun y h' ey g1 g2=>k y h' s.toks ey ⟨g1,by obtain ⟨o,e,r⟩:=st.2; exact ⟨o,g2.extBut tu o hne e,r⟩⟩ g2)
 done:=fun s Q E st k=>nextT st.1 st.2 (yes:=fun y _ ey=>absurd ey (by simp)) (no:=fun _=>⟨hh,k⟩)
end L2
namespace L2
open PySem PyProof.Rows
end L2
namespace L2
open PySem PySem.Spec PyProof.Rows
section
variable {X:Cx} {a b c d:Expr} {ta tb tc td:TE} {pos:Pos}
noncomputable def qCf (r r' r'':R2) (ta tb tc td:TE):TE:=fun σ H Q=>ta σ H fun x H1=>tb σ H1 fun y H2=>r x y H2 fun z H3=>∃ k,z=.bl k/\
 (if k=true then tc σ H3 fun u H4=>r' y u H4 fun z' H5=>∃ k',z'=.bl k'/\(if k'=true then td σ H5 fun v H6=>r'' u v H6 Q else Q (.bl false) H5) else Q (.bl false) H3)
theorem qFW {op op' op'':CmpOp} {r r' r'':R2} (ho:OpR X (compareOp op) r) (ho':OpR X (compareOp op') r') (ho'':OpR X (compareOp op'') r'') (ha:PE X a ta) (hb:PE X b tb) (hc:PE X c tc) (hd:PE X d td)
  (hm:lastMarks [op,op',op''] [b,c,d]=false:=by with_unfolding_all rfl):PE X (.Compare a [op,op',op''] [b,c,d] pos) (qCf r r' r'' ta tb tc td):=by
 intro pins s σ H Q I h
 refine Compare_chain (thn (ha pins s σ H _ I h) fun v s1 ⟨x,H1,I1,r1,q1⟩=>chain_link (thn (hb pins s1 σ H1 _ I1 q1) fun u s2 ⟨y,H2,I2,r2,q2⟩=>
  thn (ho pins s2 σ H2 x y v u _ I2 r1 r2 q2) fun e s3 ⟨z,H3,I3,r3,k,ez,q3⟩=>?_)) hm
 subst ez
 cases r3
 refine vA ?_
 cases k with
 | false=>exact ite_ff ⟨.bl false,H3,I3,rfl,q3⟩
 | true=>
  refine ite_tt (chain_link (thn (hc pins s3 σ H3 _ I3 q3) fun w' s4 ⟨z',H4,I4,r4,q4⟩=>thn (ho' pins s4 σ H4 y z' u w' _ I4 r2 r4 q4) fun e' s5 ⟨z2,H5,I5,r5,k',ez',q5⟩=>?_))
  subst ez'
  cases r5
  refine vA ?_
  cases k' with
  | false=>exact ite_ff ⟨.bl false,H5,I5,rfl,q5⟩
  | true=>exact ite_tt (chain_last (thn (hd pins s5 σ H5 _ I5 q5) fun w2 s6 ⟨z3,H6,I6,r6,q6⟩=>ho'' pins s6 σ H6 z' z3 w' w2 Q I6 r4 r6 q6))
end
end L2
namespace L2
open PySem PySem.Spec PyProof.Rows PySem.SeqAt
open PySem.AutoSeq1 (wpAny_loadPart')
section
variable {X:Cx}
theorem qLZ {its:List Value} {ds:List D} {e:Value->Bool} {d:D}:∀{its:List Value} {ds:List D},its.length=ds.length->(∀(j:Nat) (w:Value) (c:D),its[j]? = some w->ds[j]? = some c->e w=dEq c d)->its.countP e=ds.countP fun c=>dEq c d
 | [],[],_,_=>rfl
 | [],_::_,h,_=>absurd h (by simp)
 | _::_,[],h,_=>absurd h (by simp)
 | w::its,c::ds,h,k=>by
  rw [List.countP_cons,List.countP_cons,k 0 w c rfl rfl,qLZ (its:=its) (ds:=ds) (by simpa using h) fun j a b h1 h2=>k (j+1) a b (by simpa using h1) (by simpa using h2)]
theorem Qy (j:Int):xU 0 j 1=j.toNat:=by
 delta xU
 by_cases h:0<j
 ·rw [if_pos (by decide),if_pos h]; omega
 ·rw [if_pos (by decide),if_neg h]; omega
theorem qBQ {n:Nat} {acc:Array Value} (h:ItemsOf (fun i v=>∃ t,v=.int (0+i*1) t) acc n):qt ((wO n).map fun k:Nat=>V.int k) acc.toList:=by
 obtain ⟨h1,h2⟩:=h
 have key:∀(m:Nat) (l:List Value) (c:Nat),l.length=m->(∀ j v,l[j]? = some v->∃ t,v=kD ((c+j:Nat):Int) t)->qt ((List.range' c m).map fun k:Nat=>V.int k) l:=by
  intro m
  induction m with
  | zero=>intro l c hl _; cases hZ.mp hl; exact .nil
  | succ m ih=>
   intro l c hl hv
   cases l with
   | nil=>simp at hl
   | cons v l=>
    rw [List.range'_succ,yV]
    obtain ⟨t,e⟩:=hv 0 v rfl
    refine .cons ⟨t,by rw [e]; rfl⟩ (ih l (c+1) (by simpa using hl) fun j w hw=>?_)
    obtain ⟨t,e⟩:=hv (j+1) w (by simpa using hw)
    exact ⟨t,by rw [e]; congr 2; omega⟩
 rw [List.range_eq_range']
 refine key n acc.toList 0 (by simpa using h1) fun j v hj=>?_
 obtain ⟨t,e⟩:=h2 j v (by simpa using hj)
 exact ⟨t,by rw [e]; congr 1; omega⟩
noncomputable def qCh:List V->Hp->VK->Prop:=fun xs H Q=>∃ j:Int,xs=[.int j]/\∀ p,H p=none->Q (.ref p) (upd H p (.rng 0 j))
theorem YN:QB X (.type "range") qCh:=by
 intro pins s σ H xs us Q I r h
 obtain ⟨j,rfl,q⟩:=h
 obtain ⟨u,rfl,ru⟩:=vals1 r
 obtain ⟨t,rfl⟩:=ru
 refine call_range_1 ?_
 refine ⟨.ref s.heap.objs.size,_,I.laid (t':=s.toks+1+1) (o:=.rng 0 j) (fun b ob q=>wF _ q) (wK _) ?_,rfl,q _ (I.hok.fresh (wK _))⟩
 exact ⟨_,_,_,wR _ rfl⟩
noncomputable def qDf:List V->Hp->VK->Prop:=fun xs H Q=>∃(p:Addr) (j:Int),xs=[.ref p]/\H p=some (.rng 0 j)/\j<=1000/\-(2 ^ 62)<=j/\∀ l,H l=none->Q (.ref l) (upd H l (.lst ((wO j.toNat).map fun k:Nat=>V.int k)))
theorem qBi (hc:X.calm=true):QB X (.type "list") qDf:=by
 intro pins s σ H xs us Q I r h
 obtain ⟨p,j,rfl,hp,h1,h2,q⟩:=h
 obtain ⟨u,rfl,ru⟩:=vals1 r
 cases ru
 obtain ⟨t,u',v,e⟩:=I.hok p _ hp
 have hh:X.A.handled=none:=I.ok.hd hc
 refine call_list_range (n:=j.toNat) hh e ?_ (Qy j) (by omega) fun h' tk acc' c' hk hS hacc=>?_
 ·have hb:xU 0 j 1=j.toNat:=Qy j
  unfold gV
  rw [hb]
  simp only [VT,zY,Bool.or_eq_true,decide_eq_true_eq,beq_iff_eq,show ((1:Int) > 0) by decide,if_true]
  omega
 ·refine ⟨.ref s.heap.objs.size,_,I.laid (t':=tk) (o:=.lst ((wO j.toNat).map fun k:Nat=>V.int k)) hk (wK _) ?_,rfl,q _ (I.hok.fresh (wK _))⟩
  have hv:=qBQ hacc
  refine ⟨?_,acc'.toList,c',hv,?_⟩
  ·rw [wA,zR]
   exact zC (by omega:j.toNat<=1000) (vQ (qL (wK _)))
  ·rw [hS]
end
end L2
namespace L2
open PySem PySem.Spec PyProof.Rows
section
variable {s:Shared} {prog:Program} {w:World} {A:Around} {E:Value->Shared->Prop}
theorem qKF {id:String} {b:Builtin} {args:Args} {R:Result->Shared->Prop} (he:entryFor table id=some b) (hp:plainId id=true)
  (h:wpAny (model prog w) A.in1 (b args) (fun fin s'=>match fin with | .done f=>R (.ok f) s' | .again c'=>c'.quiet=true/\codeAny (model prog w) A c' R s') (fun e s'=>R (.error e) s') s):codeAny (model prog w) A (.builtin id args) R s:=
 ZO he ((ZR hp args).symm ▸ h)
end
section
variable {s:Shared} {prog:Program} {w:World} {A:Around} {E:Value->Shared->Prop} {r:Addr} {a b c:Int} {t u v:Tok} {n:Nat}
theorem qH0 {Q:List Value->Shared->Prop} (hh:A.handled=none) (hr:IsRange s.heap r a b c t u v) (few:gV a b c=true) (hn:xU a b c=n) (hl:n<=1000)
  (q:∀(h':Heap) (tk:Nat) (acc:Array Value),(∀ d o,s.heap.get? d=some o->h'.get? d=some o)->ItemsOf (fun i v=>∃ t,v=.int (a+i*c) t) acc n->Q acc.toList { s with heap:=h',toks:=tk }):wpAny (model prog w) A (collect (.ref r)) Q E s:=by
 unfold collect
 refine wB (wpAny_runValue (qKF F.entry_proto_collect F.plain_proto_collect ?_))
 simp only [Builtin.«proto.collect»,newList]
 wp_walk
 have oL:(s.heap.push { cls:=.type "list",data:=.seq #[] }).get? s.heap.objs.size=some { cls:=.type "list",data:=.seq #[] }:=wR _ rfl
 have oR:IsRange (s.heap.push { cls:=.type "list",data:=.seq #[] }) r a b c t u v:=wF _ hr
 have go:∀ R:Result->Shared->Prop,(∀ h' tk acc c',(∀ d o,d≠s.heap.objs.size->(s.heap.push { cls:=.type "list",data:=.seq #[] }).get? d=some o->h'.get? d=some o)->h'.get? s.heap.objs.size=some { cls:=.type "list",dict:=none,data:=.seq acc c',slots:=#[] }->ItemsOf (fun i v=>∃ t,v=.int (a+i*c) t) acc n->R (.ok (.ret (.ref s.heap.objs.size))) { s with heap:=h',toks:=tk })->
   codeAny (model prog w) A (.builtin "list.__iadd__" ⟨[.ref s.heap.objs.size,.ref r],[]⟩) R { s with heap:=s.heap.push { cls:=.type "list",data:=.seq #[] } }:=fun R hR=>
  qKF F.entry_list_iadd F.plain_list_iadd (wpAny_extend_range (s:={ s with heap:=s.heap.push { cls:=.type "list",data:=.seq #[] } }) hh oR few hn (zC hl (by decide)) _ _ 0 oL hR)
 refine ⟨uS F.plain_list_iadd _,go _ fun h' tk acc c' hk hS got=>?_⟩
 exact wB (m:=load s.heap.objs.size) (wpAny_load hS (wD (q h' tk acc (fun d o e=>hk d o (zH (wY e)) (wF _ e)) got)))
theorem Y3 {Q:Value->Shared->Prop} (hh:A.handled=none) (hr:IsRange s.heap r a b c t u v) (few:gV a b c=true) (hn:xU a b c=n) (hl:n<=1000)
  (q:∀(h':Heap) (tk:Nat) (acc:Array Value),(∀ d o,s.heap.get? d=some o->h'.get? d=some o)->ItemsOf (fun i v=>∃ t,v=.int (a+i*c) t) acc n->Q (.ref h'.objs.size) { s with heap:=h'.push { cls:=.type "tuple",data:=.seq acc },toks:=tk }) :
  wpAny (model prog w) A (call (.type "tuple") [.ref r]) Q E s:=by
 have made:codeAny (model prog w) A.in1 (.call (.builtin "tuple.__new__") ⟨[.type "tuple",.ref r],[]⟩) (wants (fun v s1=>s1.TypeIs v "tuple"/\Q v s1) E) s:=by
  refine gR ?_
  show wpAny _ _ (checkBuiltinCall "tuple.__new__" ⟨[.type "tuple",.ref r],[]⟩ >>= fun _=>again (.builtin "tuple.__new__" ⟨[.type "tuple",.ref r],[]⟩)) _ _ s
  refine wB (fN (F.newCall_tuple_1 _) (wD ⟨uS F.plain_tuple_new _,qKF F.entry_tuple_new F.plain_tuple_new ?_⟩))
  have f1:=sub_tuple_self
  have f2:=init_tuple_lookup
  have f3:=madeHere_tuple
  have ty:s.TypeIs (.ref r) "range":=⟨_,hr,rfl⟩
  wp_walk using xZ ty,qH0 (A:=A.in1.in1) hh hr few hn hl
  intro h' tk acc hk got
  simp only [Array.toArray_toList,yU]
  exact wB (wD (wB (yD (wD ⟨⟨_,wR _ rfl,rfl⟩,q h' tk acc hk got⟩) (by show acc.size<=sizeLine; rw [got.1,vG]; omega))))
 refine callType_codes UC (F.typeCall_tuple_1 _) F.entry_object_init made fun v s1 ⟨tv,q⟩=>⟨tv,F.args_object_init_2 v _,?_⟩
 exact object_init_meets UC.init.lookup UC.made (by decide) prog w A.in1 _ s1 ⟨tv,rfl,q⟩
end
section
variable {X:Cx}
noncomputable def qFD:List V->Hp->VK->Prop:=fun xs H Q=>∃(p:Addr) (j:Int),xs=[.ref p]/\H p=some (.rng 0 j)/\j<=1000/\-(2 ^ 62)<=j/\∀ l,H l=none->Q (.ref l) (upd H l (.tup ((wO j.toNat).map fun k:Nat=>V.int k)))
theorem qDK (hc:X.calm=true):QB X (.type "tuple") qFD:=by
 intro pins s σ H xs us Q I r h
 obtain ⟨p,j,rfl,hp,h1,h2,q⟩:=h
 obtain ⟨u,rfl,ru⟩:=vals1 r
 cases ru
 obtain ⟨t,u',v,e⟩:=I.hok p _ hp
 refine Y3 (n:=j.toNat) (I.ok.hd hc) e ?_ (Qy j) (by omega) fun h' tk acc hk got=>?_
 ·unfold gV
  rw [Qy j]
  simp only [VT,zY,Bool.or_eq_true,decide_eq_true_eq,beq_iff_eq,show ((1:Int) > 0) by decide,if_true]
  omega
 ·have I1:Inv X pins σ H { s with heap:=h',toks:=tk }:=I.kept (t':=tk) hk
  refine ⟨.ref h'.objs.size,_,I1.laid (t':=tk) (o:=.tup ((wO j.toNat).map fun k:Nat=>V.int k)) (fun b ob q=>wF _ q) (wK _) ?_,rfl,q _ (I1.hok.fresh (wK _))⟩
  have hv:=qBQ got
  refine ⟨?_,acc.toList,hv,⟨_,wR _ rfl,rfl,0,by rw [Array.toArray_toList]⟩,fun o' e'=>?_⟩
  ·rw [wA,zR]
   exact zC (by omega:j.toNat<=1000) (vQ (qL (wK _)))
  ·have e2:=wR h' (o:=({ cls:=.type "tuple",data:=.seq acc }:Obj)) rfl
   rw [e2] at e'
   cases e'
   rfl
end
noncomputable def qJH:Option Int->Int->Option Int
 | none,n=>some n
 | some m,n=>some (if n > m then n else m)
noncomputable def qAM (ns:List Int):Option Int:=ns.foldl qJH none
noncomputable def qHs (a:Option Int) (b:Array Value):Prop:=match a with | none=>b = #[] | some m=>∃ t u,b = #[.int m t,.int m u]
section
variable {s:Shared} {prog:Program} {w:World} {A:Around} {R:Result->Shared->Prop} {J S:Addr} {fp wr:List Addr} {P:Nat->Value->Prop} {St:Nat->Heap->Prop} {ns:List Int} {kw:List (Str×Value)}
theorem qJp {n m:Int} {t u:Tok} {Q:Value->Shared->Prop} {E:Value->Shared->Prop} (h:Q (.bool (decide (n > m))) s):wpAny (model prog w) A (richCompare .Gt (.int n t) (.int m u)) Q E s:=
 CmpOf.ints_gt (P:=fun i v=>(i=0/\v=.int n t)\/(i=1/\v=.int m u)) (fun i=>if i=0 then n else m) (fun i v z=>by rcases z with ⟨rfl,rfl⟩ | ⟨rfl,rfl⟩ <;> exact ⟨_,rfl⟩) 0 1 _ _ s Q E (.inl ⟨rfl,rfl⟩) (.inr ⟨rfl,rfl⟩) h
theorem qLG (W:Walks prog w A.in1 J fp wr ns.length P St) (hP:∀ i v,P i v->∃ n t,ns[i]? = some n/\v=.int n t) (away:S∉fp) (R0:qAM ns=none->∃ k d r,kw=(k,d)::r) :
  ∀(k j:Nat) (s:Shared) (b:Array Value) (c:Nat),j+k=ns.length->St j s.heap->s.heap.get? S=some { cls:=.type "list",data:=.seq b c }->qHs (qAM (ns.take j)) b->
   (∀ v h' tk,(∀ m,qAM ns=some m->∃ t,v=.int m t)->(qAM ns=none->∃ k r,kw=(k,v)::r)->(∀ b o,b∉wr->b≠S->s.heap.get? b=some o->h'.get? b=some o)->R (.ok (.ret v)) { s with heap:=h',toks:=tk })->
   codeAny (model prog w) A (.builtin "max.loop" ⟨[.ref J,.none,.ref S],kw⟩) R s:=by
 have aw:S∉wr:=fun z=>away (W.sub _ z)
 have nm:(toString "max" ++ toString ".loop" : String) = "max.loop":=by decide
 intro k
 induction k with
 | zero=>
  intro j s b c hj st hS hb fin
  have ej:ns.length=j:=by omega
  rw [<- ej,xQ] at hb
  refine qKF F.entry_max_loop uV (wB (fC hS rfl ?_))
  refine wB (m:=tryCatch (pyNext (.ref J)) _) (UD (W.done s _ _ (ej ▸ st) fun h' tk keep=>?_))
  have hS':=keep S _ aw hS
  cases ha:qAM ns with
  | none=>
   rw [ha] at hb
   have hb':b = #[]:=hb
   subst hb'
   obtain ⟨kk,d,r,rfl⟩:=R0 ha
   refine wB (gO (wD (fin d h' tk (fun m z=>?_) (fun _=>⟨kk,r,rfl⟩) fun b o h1 h2 e=>keep b o h1 e)))
   rw [ha] at z; cases z
  | some m=>
   rw [ha] at hb
   obtain ⟨t,u,rfl⟩:=hb
   refine wB (m:=updateSeq S fun _=>#[]) (VP hS' rfl (wB (ZS (wD (fin _ _ tk (fun m' z=>?_) (fun z=>?_) fun b o h1 h2 e=>?_)))))
   ·rw [ha] at z; cases z; exact ⟨t,rfl⟩
   ·rw [ha] at z; cases z
   ·exact (uY _ _ (gX h2)).trans (keep b o h1 e)
 | succ k ih=>
  intro j s b c hj st hS hb fin
  have lt:j<ns.length:=by omega
  refine qKF F.entry_max_loop uV (wB (fC hS rfl ?_))
  refine wB (m:=tryCatch (pyNext (.ref J)) _) (UD (W.item j s _ _ lt st fun v h' tk pv st' keep=>?_))
  have hS':=keep S _ aw hS
  obtain ⟨n,t,en,rfl⟩:=hP j v pv
  have et:qAM (ns.take (j+1))=qJH (qAM (ns.take j)) n:=by
   unfold qAM; rw [uO,en,WR]; rfl
  have st2:∀ f,St (j+1) (h'.update S f):=fun f=>W.frame _ _ _ st' fun b hb o e=>(uY _ _ fun z:S=b=>away (by rw [z]; exact hb)).trans e
  have nx:∀(h2:Heap) b' c',St (j+1) h2->h2.get? S=some { cls:=.type "list",data:=.seq b' c' }->qHs (qAM (ns.take (j+1))) b'->(∀ b o,b∉wr->b≠S->h'.get? b=some o->h2.get? b=some o)->
    codeAny (model prog w) A (.builtin "max.loop" ⟨[.ref J,.none,.ref S],kw⟩) R { s with heap:=h2,toks:=tk }:=fun h2 b' c' z1 z2 z3 z4=>
   ih (j+1) { s with heap:=h2,toks:=tk } b' c' (by omega) z1 z2 z3 fun v h3 tk3 q1 q2 q3=>fin v h3 tk3 q1 q2 fun b o m1 m2 e=>q3 b o m1 m2 (z4 b o m1 m2 (keep b o m1 e))
  have same:∀ f:Array Value->Array Value,∀ b o,b∉wr->b≠S->h'.get? b=some o->(h'.update S (hX f)).get? b=some o:=fun f b o _ h2 e=>(uY _ _ (gX h2)).trans e
  rw [et] at nx
  cases ha:qAM (ns.take j) with
  | none=>
   rw [ha] at hb nx
   have hb':b = #[]:=hb
   subst hb'
   refine wB (m:=updateSeq S fun _=>#[.int n t,.int n t]) (VP hS' rfl ?_)
   rw [nm]
   exact wD ⟨uS uV _,nx _ _ _ (st2 _) (vO _ hS' rfl) ⟨t,t,rfl⟩ (same _)⟩
  | some m=>
   rw [ha] at hb nx
   obtain ⟨t1,t2,rfl⟩:=hb
   refine wB (m:=tryCatch (holding [.int n t,.int n t] (richCompare .Gt (.int n t) (.int m t2) >>= _)) _) (UD (yS (wB (qJp ?_))))
   refine wB (yS (vA (wB (ZS (wD ?_)))))
   by_cases gt:n > m
   ·rw [decide_eq_true gt,if_pos rfl]
    refine wB (m:=updateSeq S fun _=>#[.int n t,.int n t]) (VP hS' rfl (wB (ZS ?_)))
    rw [nm]
    refine wD ⟨uS uV _,nx _ _ _ (st2 _) (vO _ hS' rfl) ?_ (same _)⟩
    show qHs (some (if n > m then n else m)) _
    rw [if_pos gt]
    exact ⟨t,t,rfl⟩
   ·rw [decide_eq_false gt,if_neg wU]
    refine wB (ZS ?_); rw [nm]
    refine wD ⟨uS uV _,nx _ _ _ st' hS' ?_ fun b o _ _ e=>e⟩
    show qHs (some (if n > m then n else m)) _
    rw [if_neg gt]
    exact ⟨t1,t2,rfl⟩
theorem qFA {ns:List Int} {its:List Value} (r:qt (ns.map V.int) its):its.length=ns.length/\∀(i:Nat) (v:Value),its.toArray[i]? = some v->∃(n:Int) (t:Tok),ns[i]? = some n/\v=kD n t:=by
 refine ⟨by rw [<- r.length,wA],?_⟩
 induction ns generalizing its with
 | nil=>cases r; intro i v h; simp at h
 | cons n ns ih=>
  cases r with
  | cons r1 r2=>
   obtain ⟨t,rfl⟩:=r1
   intro i v h
   cases i with
   | zero=>simp at h; exact ⟨n,t,rfl,h.symm⟩
   | succ i=>
    simp only [ZP,fY] at h
    exact ih r2 i v (by simpa using h)
theorem qFK {l:Addr} {its:List Value} {ns:List Int} {kw:List (Str×Value)} {St:Nat->Heap->Prop} {R:Result->Shared->Prop} {h:Heap} (r:qt (ns.map V.int) its) (hl:l<h.objs.size) (o:Obj)
  (W:Walks prog w A.in1 h.objs.size [h.objs.size,l] [h.objs.size] its.toArray.size (fun i v=>its.toArray[i]? = some v) St) (st:St 0 (h.push o)) (R0:qAM ns=none->∃ k d r,kw=(k,d)::r)
  (fin:∀ v h' tk,(∀ m,qAM ns=some m->∃ t,v=.int m t)->(qAM ns=none->∃ k r,kw=(k,v)::r)->(∀ b o,h.get? b=some o->h'.get? b=some o)->R (.ok (.ret v)) { s with heap:=h',toks:=tk }) :
  codeAny (model prog w) A (.builtin "max.loop" ⟨[.ref h.objs.size,.none,.ref (h.push o).objs.size],kw⟩) R { s with heap:=(h.push o).push { cls:=.type "list",data:=.seq #[] } }:=by
 obtain ⟨el,at'⟩:=qFA r
 have ez:its.toArray.size=ns.length:=by rw [wJ,el]
 rw [ez] at W
 have sz:(h.push o).objs.size=h.objs.size+1:=gF ..
 refine qLG W at' (fun z=>?_) R0 ns.length 0 _ #[] 0 (ZH _) (W.frame _ _ _ st fun b _ o e=>wF _ e) (wR _ rfl) rfl fun v h' tk q1 q2 q3=>?_
 ·rw [sz] at z
  rcases wZ.mp z with z | z
  ·exact Nat.succ_ne_self _ z
  ·rw [<- zB.mp z] at hl
   exact absurd hl (UE.mpr (uN _))
 refine fin v h' tk q1 q2 fun b o' e=>q3 b o' ?_ ?_ (wF _ (wF _ e))
 ·have:=wY e
  simp
  exact zH this
 ·have:=wY e
  rw [sz]
  exact zH (gG this)
end
section
variable {X:Cx}
noncomputable def qJv (K:wG):List V->Hp->VK->Prop:=fun xs H Q=>∃(p:Addr) (ns:List Int) (m:Int),xs=[.ref p]/\(SqL K H p (ns.map V.int)\/SqT K H p (ns.map V.int))/\qAM ns=some m/\Q (.int m) H
theorem Yk {K:wG} (hK:X.K=K) (hc:X.calm=true):QB X (.builtin "max") (qJv K):=by
 intro pins s σ H xs us Q I r h
 subst hK
 obtain ⟨p,ns,m,rfl,hp,hm,q⟩:=h
 obtain ⟨u,rfl,rx⟩:=vals1 r
 cases rx
 have hh:X.A.handled=none:=I.ok.hd hc
 have nm:(toString "max" ++ toString ".loop" : String) = "max.loop":=by decide
 have R0:qAM ns=none->∃(k:Str) (d:Value) (r:List (Str×Value)),([]:List (Str×Value))=(k,d)::r:=fun z=>by rw [hm] at z; cases z
 have fin:∀ v h' tk,(∀ m,qAM ns=some m->∃ t,v=.int m t)->(qAM ns=none->∃(k:Str) (r:List (Str×Value)),([]:List (Str×Value))=(k,v)::r)->(∀ b o,s.heap.get? b=some o->h'.get? b=some o)->EP X pins σ Q v { s with heap:=h',toks:=tk }:=fun v h' tk q1 _ q3=>by
  obtain ⟨t,rfl⟩:=q1 m hm
  exact ⟨.int m,H,I.kept q3,⟨t,rfl⟩,q⟩
 refine call_function_tree F.kind_max F.plain_max F.entry_max (F.args_max1 _) (?_)
 refine wB (m:=Builtin.Builtins.bindParams "max" ["key","default"] 0 ⟨[],[]⟩) (fN (a:=[none,none]) rfl (wB (wD ?_)))
 rcases hp with hp | hp
 ·obtain ⟨its,rv,pl,hzz⟩:=I.list hp
  have lt:p<s.heap.objs.size:=let ⟨o,ho,_⟩:=pl.isList; wY ho
  refine wB (kG pl.isList (wB (yD ?_)))
  rw [nm]
  exact wD ⟨uS uV _,qFK (s:=s) rv lt _ (WG (A:=X.A.in1) hh _ p (zH lt) its.toArray) ⟨⟨_,wR _ rfl,rfl,rfl⟩,pl.isList.at fun o e=>wF _ e⟩ R0 fin⟩
 ·obtain ⟨its,rv,tp,hzz⟩:=I.tuple hp
  have lt:p<s.heap.objs.size:=let ⟨o,ho,_⟩:=tp; wY ho
  refine wB (WH (show s.heap.IsTuple p its.toArray from tp) (wB (yD ?_)))
  rw [nm]
  exact wD ⟨uS uV _,qFK (s:=s) rv lt _ (Walks.tuple (A:=X.A.in1) hh _ p (zH lt) its.toArray) ⟨⟨_,wR _ rfl,rfl,rfl⟩,let ⟨o,ho,z⟩:=tp; ⟨o,wF _ ho,z⟩⟩ R0 fin⟩
end
theorem qAN:∀{bs:List Bool} {us:List Value},qt (bs.map V.bl) us->us.length=bs.length/\∀(i:Nat) (v:Value),us[i]? = some v->∃ k,bs[i]? = some k/\v=.bool k
 | [],us,r=>by
  cases r
  exact ⟨rfl,fun i v e=>by cases e⟩
 | b::bs,us,r=>by
  cases r with
  | cons r1 r2=>
   cases r1
   obtain ⟨l,h⟩:=qAN r2
   refine ⟨congrArg (· + 1) l,fun i v e=>?_⟩
   cases i with
   | zero=>
    cases e
    exact ⟨b,rfl,rfl⟩
   | succ i=>exact h i v e
theorem qAO:∀ bs:List Bool,((wO bs.length).any fun i=>(bs[i]?).getD false)=bs.any id
 | []=>rfl
 | b::bs=>by
  rw [zS,List.range_succ_eq_map,uE,List.any_map,uE,<- qAO bs]
  rfl
noncomputable def qKD:List V->Hp->VK->Prop:=fun xs H Q=>∃(p:Addr) (bs:List Bool),xs=[.ref p]/\H p=some (.lst (bs.map V.bl))/\Q (.bl (bs.any id)) H
theorem qFP {X:Cx} (hc:X.calm=true):QB X (.builtin "any") qKD:=by
 intro pins s σ H xs us Q I r h
 obtain ⟨p,bs,rfl,hp,q⟩:=h
 obtain ⟨u,rfl,rx⟩:=vals1 r
 cases rx
 obtain ⟨its,rv,pl,hzz⟩:=I.list (SqL.of (K:=X.K) hp)
 obtain ⟨len,item⟩:=qAN rv
 have old:p<s.heap.objs.size:=by
  obtain ⟨_,e,_⟩:=pl.isList
  exact wY e
 refine call_any_walk (kG pl.isList ⟨s.heap.objs.size,[s.heap.objs.size,p],[s.heap.objs.size],its.toArray.size,_,_,fun i=>(bs[i]?).getD false,rfl,WG (A:=X.A.in1) (I.ok.hd hc) _ p (zH old) its.toArray,⟨⟨_,wR _ rfl,rfl,rfl⟩,pl.isList.push _⟩,fun i v s' Q' E' hP hQ=>?_,fun h' tk hk=>?_⟩)
 ·obtain ⟨k,ek,rfl⟩:=item i v (by simpa using hP)
  replace hQ:Q' ((bs[i]?).getD false) s':=hQ
  rw [ek] at hQ
  exact wD hQ
 ·have e:((wO its.toArray.size).any fun i=>(bs[i]?).getD false)=bs.any id:=by
   rw [wJ,len]
   exact qAO bs
  rw [e]
  exact ⟨.bl _,H,I.kept (LSm.kept_iter hk),rfl,q⟩
theorem jg {α:Type} (l:List α) (d:α):(wO l.length).map (fun i=>l.getD i d)=l:=by
 apply xV
 intro i
 rw [wI]
 by_cases h:i<l.length
 ·rw [wC h]
  simp [h]
 ·rw [vP (by simpa using h)]
  simp [h]
noncomputable abbrev Cx.inner (X:Cx) (pn:List (Addr×Obj)) (E:Value->Shared->Prop):Cx:={ X with pn:=pn,xe:=E }
end L2
namespace L2
open PySem
end L2
namespace L2
open PySem PySem.Spec PyProof.Rows
end L2
namespace LSo
open PySem PySem.W PyProof.Rows
theorem qGS:∀ a:List Int,HT.lexLt a a=false
 | []=>rfl
 | x::a=>by rw [HT.lexLt_cons,if_pos rfl]; exact qGS a
theorem lex_trans:∀ a b c:List Int,HT.lexLt a b=true->HT.lexLt b c=true->HT.lexLt a c=true
 | [],b,[],h1,h2=>by cases b <;> cases h2
 | [],_,_::_,_,_=>rfl
 | _::_,[],_,h1,_=>by cases h1
 | _::_,_::_,[],_,h2=>by cases h2
 | x::a,y::b,z::c,h1,h2=>by
  rw [HT.lexLt_cons] at h1 h2 ⊢
  by_cases e1:x=y
  ·rw [if_pos e1] at h1
   by_cases e2:y=z
   ·rw [if_pos e2] at h2
    rw [if_pos (e1.trans e2)]
    exact lex_trans a b c h1 h2
   ·rw [if_neg e2] at h2
    rw [if_neg (fun z'=>e2 (e1.symm.trans z'))]
    have:=of_decide_eq_true h2
    refine decide_eq_true ?_
    omega
  ·rw [if_neg e1] at h1
   have h1':=of_decide_eq_true h1
   by_cases e2:y=z
   ·rw [if_neg (by omega)]
    refine decide_eq_true ?_
    omega
   ·rw [if_neg e2] at h2
    have:=of_decide_eq_true h2
    rw [if_neg (by omega)]
    refine decide_eq_true ?_
    omega
theorem qCe:∀ a b:List Int,HT.lexLt a b=false->HT.lexLt b a=false->a=b
 | [],[],_,_=>rfl
 | [],_::_,hq,_=>by cases hq
 | _::_,[],_,hq=>by cases hq
 | x::a,y::b,h1,h2=>by
  rw [HT.lexLt_cons] at h1 h2
  by_cases e:x=y
  ·rw [if_pos e] at h1
   rw [if_pos e.symm] at h2
   rw [e,qCe a b h1 h2]
  ·rw [if_neg e] at h1
   rw [if_neg (fun z=>e z.symm)] at h2
   have a1:=of_decide_eq_false h1
   have a2:=of_decide_eq_false h2
   omega
theorem qJX (a b c:List Int) (h:HT.lexLt a c=true):HT.lexLt a b=true\/HT.lexLt b c=true:=by
 cases h1:HT.lexLt a b with
 | true=>exact .inl rfl
 | false=>
  right
  cases h2:HT.lexLt b a with
  | true=>exact lex_trans _ _ _ h2 h
  | false=>rw [<- qCe a b h1 h2]; exact h
noncomputable def qLT:KeyOrd:=⟨List Int,HT.lexLt,qGS,lex_trans,qJX,qCe⟩
section
variable {O:KeyOrd} {key:Nat->O.α} {N:Nat} {cmp:Nat->Nat->(Bool->Shared->Prop)->Shared->Prop} {s:Shared}
noncomputable def qEF (key:Nat->O.α) (N:Nat) (cmp:Nat->Nat->(Bool->Shared->Prop)->Shared->Prop) (s:Shared):Prop:=∀ i j C,i<N->j<N->C (O.blt (key i) (key j)) s->cmp i j C s
noncomputable def kk (key:Nat->O.α) (p:Array Nat) (i:Nat):O.α:=key (p.getD i 0)
structure Pm (N:Nat) (p:Array Nat):Prop where
 pm:p.Perm (gH (wO N))
theorem Pm.size {p:Array Nat} (h:Pm N p):p.size=N:=by rw [h.pm.size_eq]; simp
theorem Pm.lt {p:Array Nat} (h:Pm N p) {i:Nat} (hi:i<N):p.getD i 0<N:=by
 have hs:=h.size
 have e:p.getD i 0=p[i]'(by omega):=by simp [Array.getD,hs,hi]
 rw [e]
 have:p[i]'(by omega)∈gH (wO N):=h.pm.mem_iff.mp (WS _)
 simpa using this
theorem Pm.of {p q:Array Nat} (h:Pm N p) (g:q.Perm p):Pm N q:=⟨g.trans h.pm⟩
theorem qBg {p q:Array Nat} {i j:Nat} (h:p[i]? = q[j]?):kk key p i=kk key q j:=by
 unfold kk
 congr 1
 rw [vS,vS,h]
theorem qGd {p:Array Nat} {i j:Nat} (hj:j<=p.size) (k:Nat):kk key (kas_rev p i j) k=if i<=k/\k<j then kk key p (i+j - 1 - k) else kk key p k:=by
 have e:=getElem?_mirror_all hj k (i:=i)
 by_cases h:i<=k/\k<j
 ·rw [if_pos h] at e ⊢
  exact qBg e
 ·rw [if_neg h] at e ⊢
  exact qBg e
theorem Yo {p:Array Nat} {i j:Nat} (hj:j<=p.size) (he:∀ k,i<=k->k<j->kk key p k=kk key p (j - 1)) (k:Nat):kk key (kas_rev p i j) k=kk key p k:=by
 rw [qGd hj]
 by_cases h:i<=k/\k<j
 ·rw [if_pos h,he _ (by omega) (by omega),he k h.1 h.2]
 ·rw [if_neg h]
theorem qIG {p:Array Nat} {k l:Nat} (hk:k<p.size) (hl:l<=k) (i:Nat):kk key (bubble p k (k - l)) i=if i=l then kk key p k else if l<i/\i<=k then kk key p (i - 1) else kk key p i:=by
 have e:=getElem?_bubble hk (k - l) (by omega) i
 rw [show k - (k - l)=l by omega] at e
 by_cases h1:i=l
 ·rw [if_pos h1] at e ⊢
  exact qBg e
 ·rw [if_neg h1] at e ⊢
  by_cases h2:l<i/\i<=k
  ·rw [if_pos h2] at e ⊢
   exact qBg e
  ·rw [if_neg h2] at e ⊢
   exact qBg e
noncomputable def Up (key:Nat->O.α) (p:Array Nat) (m:Nat):Prop:=∀ i j,i<=j->j<m->O.kle (kk key p i) (kk key p j)
noncomputable def Dn (key:Nat->O.α) (p:Array Nat) (m:Nat):Prop:=∀ i j,i<=j->j<m->O.kle (kk key p j) (kk key p i)
theorem Up.one {p:Array Nat}:Up key p 1:=fun i j h1 h2=>by
 have:i=j:=by omega
 subst this
 exact KeyOrd.kle_refl _
theorem Up.more {p:Array Nat} {n:Nat} (h:Up key p n) (h1:1<=n) (g:O.kle (kk key p (n - 1)) (kk key p n)):Up key p (n+1):=fun i j hij hj=>by
 by_cases hjn:j<n
 ·exact h i j hij hjn
 ·have e:j=n:=by omega
  subst e
  by_cases hi:i=j
  ·subst hi; exact KeyOrd.kle_refl _
  ·exact KeyOrd.kle_trans (h i (j - 1) (by omega) (by omega)) g
theorem Dn.more {p:Array Nat} {n:Nat} (h:Dn key p n) (h1:1<=n) (g:O.kle (kk key p n) (kk key p (n - 1))):Dn key p (n+1):=fun i j hij hj=>by
 by_cases hjn:j<n
 ·exact h i j hij hjn
 ·have e:j=n:=by omega
  subst e
  by_cases hi:i=j
  ·subst hi; exact KeyOrd.kle_refl _
  ·exact KeyOrd.kle_trans g (h i (j - 1) (by omega) (by omega))
theorem Dn.of {p q:Array Nat} {n:Nat} (h:Dn key p n) (e:∀ k,kk key q k=kk key p k):Dn key q n:=fun i j hij hj=>by rw [e,e]; exact h i j hij hj
theorem Dn.flip {p:Array Nat} {n:Nat} (h:Dn key p n) (hn:n<=p.size):Up key (kas_rev p 0 n) n:=fun i j hij hj=>by
 rw [qGd hn,qGd hn,if_pos ⟨zP _,by omega⟩,if_pos ⟨zP _,hj⟩]
 exact h _ _ (by omega) (by omega)
theorem qFZ (hA:qEF key N cmp s) {p:Array Nat} (P:Pm N p) {G:Nat->Shared->Prop}:∀(f a:Nat),1<=a->a+f<=N->Up key p a->(∀ m,a<=m->m<=a+f->Up key p m->(m=a+f\/O.klt (kk key p m) (kk key p (m - 1)))->G m s)->(kas_asc p f a).kasWp cmp G s
 | 0,a,h1,h2,hu,k=>k a (wK _) (wK _) hu (.inl rfl)
 | f+1,a,h1,h2,hu,k=>by
  refine hA _ _ _ (P.lt (by omega)) (P.lt (by omega)) ?_
  cases hb:O.blt (kk key p a) (kk key p (a - 1)) with
  | true=>
   show KasT.kasWp cmp (if O.blt (kk key p a) (kk key p (a - 1))=true then _ else _) G s
   rw [if_pos hb]
   exact k a (wK _) (by omega) hu (.inr hb)
  | false=>
   show KasT.kasWp cmp (if O.blt (kk key p a) (kk key p (a - 1))=true then _ else _) G s
   rw [if_neg (by rw [hb]; decide)]
   exact qFZ hA P f (a+1) (by omega) (by omega) (hu.more h1 hb) fun m m1 m2 m3 m4=>k m (by omega) (by omega) m3 (m4.elim (fun z=>.inl (by omega)) .inr)
theorem qA0 (hA:qEF key N cmp s) {G:Array Nat×Nat×Nat->Shared->Prop}:∀(f:Nat) (p:Array Nat) (n q:Nat),Pm N p->1<=n->n+f<=N->Dn key p n->q+1<=n->(∀ i,n - (q+1)<=i->i<n->kk key p i=kk key p (n - 1))->
  (∀ p' m q',Pm N p'->n<=m->m<=n+f->Dn key p' m->q'+1<=m->(∀ i,m - (q'+1)<=i->i<m->kk key p' i=kk key p' (m - 1))->G (p',m,q') s)->(kas_desc f p n q).kasWp cmp G s
 | 0,p,n,q,P,h1,h2,hd,hq,he,k=>k p n q P (wK _) (wK _) hd hq he
 | f+1,p,n,q,P,h1,h2,hd,hq,he,k=>by
  have hs:=P.size
  refine hA _ _ _ (P.lt (by omega)) (P.lt (by omega)) ?_
  have one:∀(p:Array Nat),∀ i,n+1 - (0+1)<=i->i<n+1->kk key p i=kk key p (n+1 - 1):=fun p i i1 i2=>by congr 1; omega
  cases hb:O.blt (kk key p n) (kk key p (n - 1)) with
  | true=>
   show KasT.kasWp cmp (if O.blt (kk key p n) (kk key p (n - 1))=true then _ else _) G s
   rw [if_pos hb]
   by_cases hq0:q > 0
   ·rw [if_pos hq0]
    have er:=Yo (key:=key) (p:=p) (i:=n - (q+1)) (j:=n) (by omega) he
    refine qA0 hA f _ (n+1) 0 (P.of (mirror_perm _ _ _ _)) (by omega) (by omega) ?_ (by omega) (one _) fun p' m q' a1 a2 a3 a4 a5 a6=>k p' m q' a1 (by omega) (by omega) a4 a5 a6
    exact (hd.of er).more h1 (by rw [er,er]; exact KeyOrd.kle_of_klt hb)
   ·rw [if_neg hq0]
    exact qA0 hA f p (n+1) 0 P (by omega) (by omega) (hd.more h1 (KeyOrd.kle_of_klt hb)) (by omega) (one _) fun p' m q' a1 a2 a3 a4 a5 a6=>k p' m q' a1 (by omega) (by omega) a4 a5 a6
  | false=>
   show KasT.kasWp cmp (if O.blt (kk key p n) (kk key p (n - 1))=true then _ else _) G s
   rw [if_neg (by rw [hb]; decide)]
   refine hA _ _ _ (P.lt (by omega)) (P.lt (by omega)) ?_
   cases hc:O.blt (kk key p (n - 1)) (kk key p n) with
   | true=>
    show KasT.kasWp cmp (if O.blt (kk key p (n - 1)) (kk key p n)=true then _ else _) G s
    rw [if_pos hc]
    exact k p n q P (wK _) (by omega) hd hq he
   | false=>
    show KasT.kasWp cmp (if O.blt (kk key p (n - 1)) (kk key p n)=true then _ else _) G s
    rw [if_neg (by rw [hc]; decide)]
    have eq:kk key p n=kk key p (n - 1):=KeyOrd.kle_antisymm hc hb
    refine qA0 hA f p (n+1) (q+1) P (by omega) (by omega) (hd.more h1 hc) (by omega) (fun i i1 i2=>?_) fun p' m q' a1 a2 a3 a4 a5 a6=>k p' m q' a1 (by omega) (by omega) a4 a5 a6
    rw [show n+1 - 1=n by omega]
    by_cases hi:i=n
    ·rw [hi]
    ·exact eq ▸ he i (by omega) (by omega)
theorem qDv (hA:qEF key N cmp s) {p:Array Nat} (P:Pm N p) {n:Nat} (h1:1<=n) (h2:n<=N) (hd:Dn key p n) {G:Nat×Array Nat->Shared->Prop} (k:∀ m p',Pm N p'->1<=m->m<=N->Up key p' m->G (m,p') s):(kas_tail3 n N p).kasWp cmp G s:=by
 unfold kas_tail3
 rw [KasT.kasWp_bind]
 have hs:=P.size
 have P':Pm N (kas_rev p 0 n):=P.of (mirror_perm _ _ _ _)
 refine qFZ hA P' _ _ h1 (by omega) (hd.flip (by omega)) fun m m1 m2 m3 _=>?_
 exact k m _ P' (by omega) (by omega) m3
theorem YX (hA:qEF key N cmp s) {p:Array Nat} (P:Pm N p) {n:Nat} (h2:n+1<=N) (hd:Dn key p (n+1)) {G:Nat×Array Nat->Shared->Prop} (k:∀ m p',Pm N p'->1<=m->m<=N->Up key p' m->G (m,p') s):(kas_descPart n N p).kasWp cmp G s:=by
 unfold kas_descPart
 rw [KasT.kasWp_bind]
 refine qA0 hA _ p (n+1) 0 P (by omega) (by omega) hd (by omega) (fun i i1 i2=>by congr 1; omega) fun p' m q P' m1 m2 hd' hq he=>?_
 have hs:=P'.size
 show KasT.kasWp cmp (if q > 0 then _ else _) G s
 by_cases hq0:q > 0
 ·rw [if_pos hq0]
  exact qDv hA (P'.of (mirror_perm _ _ _ _)) (by omega) (by omega) (hd'.of (Yo (by omega) he)) k
 ·rw [if_neg hq0]
  exact qDv hA P' (by omega) (by omega) hd' k
theorem qGp (hA:qEF key N cmp s) {p:Array Nat} (P:Pm N p) (h1:1<=N) {G:Nat×Array Nat->Shared->Prop} (k:∀ m p',Pm N p'->1<=m->m<=N->Up key p' m->G (m,p') s):(kas_count N p).kasWp cmp G s:=by
 unfold kas_count
 rw [KasT.kasWp_bind]
 have hs:=P.size
 refine qFZ hA P _ _ (wK 1) (by omega) Up.one fun n n1 n2 hu ho=>?_
 by_cases hn:n=N
 ·rw [if_pos (by simpa using hn)]
  exact k n p P n1 (by omega) hu
 ·rw [if_neg (by simpa using hn)]
  have hlt:O.klt (kk key p n) (kk key p (n - 1)):=ho.resolve_left (by omega)
  by_cases hg:n > 1
  ·rw [if_pos hg]
   refine hA _ _ _ (P.lt (by omega)) (P.lt (by omega)) ?_
   cases hb:O.blt (kk key p 0) (kk key p (n - 1)) with
   | true=>
    show KasT.kasWp cmp (if O.blt (kk key p 0) (kk key p (n - 1))=true then _ else _) G s
    rw [if_pos hb]
    exact k n p P n1 (by omega) hu
   | false=>
    show KasT.kasWp cmp (if O.blt (kk key p 0) (kk key p (n - 1))=true then _ else _) G s
    rw [if_neg (by rw [hb]; decide)]
    have all:∀ i,0<=i->i<n->kk key p i=kk key p (n - 1):=fun i _ hi=>KeyOrd.kle_antisymm (hu i (n - 1) (by omega) (by omega)) (KeyOrd.kle_trans hb (hu 0 i (by omega) hi))
    refine YX hA (P.of (mirror_perm _ _ _ _)) (by omega) ?_ k
    have er:=Yo (key:=key) (p:=p) (i:=0) (j:=n) (by omega) all
    show Dn key (kas_rev p 0 n) (n+1)
    refine Dn.more (fun i j hij hj=>?_) n1 (by rw [er,er]; exact KeyOrd.kle_of_klt hlt)
    rw [er,er,all i (by omega) (by omega),all j (by omega) hj]
    exact KeyOrd.kle_refl _
  ·rw [if_neg hg]
   have e:n=1:=by omega
   subst e
   exact YX hA P (by omega) (Dn.more (fun i j hij hj=>by have:i=j:=(by omega); subst this; exact KeyOrd.kle_refl _) (by omega) (KeyOrd.kle_of_klt hlt)) k
theorem qA9 (hA:qEF key N cmp s) {p:Array Nat} (P:Pm N p) {k:Nat} (hk:k<N) {G:Nat->Shared->Prop}:∀(f l r:Nat),l<=r->r<=k->r - l<=f->(∀ i,i<l->O.kle (kk key p i) (kk key p k))->(∀ i,r<=i->i<k->O.kle (kk key p k) (kk key p i))->Up key p k->
  (∀ l,l<=k->(∀ i,i<l->O.kle (kk key p i) (kk key p k))->(∀ i,l<=i->i<k->O.kle (kk key p k) (kk key p i))->G l s)->(kas_place p k f l r).kasWp cmp G s
 | 0,l,r,h1,h2,h3,a,b,u,g=>g l (by omega) a fun i i1 i2=>b i (by omega) i2
 | f+1,l,r,h1,h2,h3,a,b,u,g=>by
  unfold kas_place
  by_cases hlr:l≥r
  ·rw [if_pos hlr]
   exact g l (by omega) a fun i i1 i2=>b i (by omega) i2
  ·rw [if_neg hlr]
   refine hA _ _ _ (P.lt hk) (P.lt (by omega)) ?_
   cases hb:O.blt (kk key p k) (kk key p ((l+r) / 2)) with
   | true=>
    show KasT.kasWp cmp (if O.blt (kk key p k) (kk key p ((l+r) / 2))=true then _ else _) G s
    rw [if_pos hb]
    refine qA9 hA P hk f l ((l+r) / 2) (by omega) (by omega) (by omega) a (fun i i1 i2=>?_) u g
    exact KeyOrd.kle_trans (KeyOrd.kle_of_klt hb) (u _ _ i1 i2)
   | false=>
    show KasT.kasWp cmp (if O.blt (kk key p k) (kk key p ((l+r) / 2))=true then _ else _) G s
    rw [if_neg (by rw [hb]; decide)]
    refine qA9 hA P hk f ((l+r) / 2+1) r (by omega) h2 (by omega) (fun i i1=>?_) b u g
    exact KeyOrd.kle_trans (u i ((l+r) / 2) (by omega) (by omega)) hb
theorem qIL (hA:qEF key N cmp s) {G:Array Nat->Shared->Prop} (g:∀ p,Pm N p->Up key p N->G p s):∀(f:Nat) (p:Array Nat) (k:Nat),Pm N p->1<=k->k+f=N->Up key p k->(kas_bin f p k).kasWp cmp G s
 | 0,p,k,P,h1,h2,u=>g p P (by rw [<- h2]; exact u)
 | f+1,p,k,P,h1,h2,u=>by
  unfold kas_bin
  rw [KasT.kasWp_bind]
  have hs:=P.size
  refine qA9 hA P (by omega) k 0 k (by omega) (wK _) (by omega) (fun i hi=>absurd hi (by omega)) (fun i i1 i2=>absurd i1 (by omega)) u fun l l1 l2 l3=>?_
  refine qIL hA g f _ (k+1) (P.of (bubble_perm _ _ _)) (by omega) (by omega) fun i j hij hj=>?_
  rw [qIG (by omega) l1,qIG (by omega) l1]
  by_cases i1:i=l
  ·rw [if_pos i1]
   by_cases j1:j=l
   ·rw [if_pos j1]; exact KeyOrd.kle_refl _
   ·rw [if_neg j1,if_pos ⟨by omega,by omega⟩]
    exact l3 _ (by omega) (by omega)
  ·rw [if_neg i1]
   by_cases j1:j=l
   ·rw [if_pos j1,if_neg (by omega)]
    exact l2 i (by omega)
   ·rw [if_neg j1]
    by_cases i2:l<i/\i<=k
    ·rw [if_pos i2,if_pos ⟨by omega,by omega⟩]
     exact u _ _ (by omega) (by omega)
    ·rw [if_neg i2]
     by_cases j2:l<j/\j<=k
     ·rw [if_pos j2]
      exact u _ _ (by omega) (by omega)
     ·rw [if_neg j2]
      exact u _ _ hij (by omega)
theorem qI9 (hA:qEF key N cmp s) (h1:1<=N) {G:Array Nat->Shared->Prop} (g:∀ p,Pm N p->Up key p N->G p s):(kas_sort N).kasWp cmp G s:=by
 unfold kas_sort
 rw [KasT.kasWp_bind]
 refine qGp hA ⟨VQ _⟩ h1 fun m p P m1 m2 u=>?_
 show KasT.kasWp cmp (if m<N then _ else _) G s
 by_cases hm:m<N
 ·rw [if_pos hm]
  rw [show max m 1=m by omega]
  exact qIL hA g _ p m P m1 (by omega) u
 ·rw [if_neg hm]
  exact g p P (by rw [show N=m by omega]; exact u)
end
section
variable {N:Nat} {cmp:Nat->Nat->(Bool->Shared->Prop)->Shared->Prop} {s:Shared}
noncomputable def qH3 (N:Nat) (cmp:Nat->Nat->(Bool->Shared->Prop)->Shared->Prop) (s:Shared):Prop:=∀ i j C,i<N->j<N->(∀ b:Bool,C b s)->cmp i j C s
theorem qEF.free {O:KeyOrd} {key:Nat->O.α} (hA:qEF key N cmp s):qH3 N cmp s:=fun i j C hi hj h=>hA i j C hi hj (h _)
theorem Pm.any {p:Array Nat} (h:Pm N p) (pos:0<N) (i:Nat):p.getD i 0<N:=by
 by_cases hi:i<N
 ·exact h.lt hi
 ·have e:p.getD i 0=0:=by
   have:=h.size
   simp [Array.getD,show ¬ i<p.size by rw [this]; exact hi]
  rw [e]
  exact pos
theorem qFp (hA:qH3 N cmp s) (pos:0<N) {p:Array Nat} (P:Pm N p) {G:Nat->Shared->Prop} (g:∀ m,G m s):∀ f a:Nat,(kas_asc p f a).kasWp cmp G s
 | 0,a=>g a
 | f+1,a=>hA _ _ _ (P.any pos _) (P.any pos _) fun b=>match b with
  | true=>g a
  | false=>qFp hA pos P g f (a+1)
theorem qAr (hA:qH3 N cmp s) (pos:0<N) {G:Array Nat×Nat×Nat->Shared->Prop} (g:∀ p m q,Pm N p->G (p,m,q) s):∀(f:Nat) (p:Array Nat) (n q:Nat),Pm N p->(kas_desc f p n q).kasWp cmp G s
 | 0,p,n,q,P=>g p n q P
 | f+1,p,n,q,P=>hA _ _ _ (P.any pos _) (P.any pos _) fun b=>match b with
  | true=>by
   show KasT.kasWp cmp (if q > 0 then kas_desc f (kas_rev p (n - (q+1)) n) (n+1) 0 else kas_desc f p (n+1) 0) G s
   split
   ·exact qAr hA pos g f _ (n+1) 0 (P.of (mirror_perm _ _ _ _))
   ·exact qAr hA pos g f p (n+1) 0 P
  | false=>hA _ _ _ (P.any pos _) (P.any pos _) fun d=>match d with
   | true=>g p n q P
   | false=>qAr hA pos g f p (n+1) (q+1) P
theorem qDg (hA:qH3 N cmp s) (pos:0<N) {p:Array Nat} (P:Pm N p) (n:Nat) {G:Nat×Array Nat->Shared->Prop} (g:∀ m q,Pm N q->G (m,q) s):(kas_tail3 n N p).kasWp cmp G s:=by
 unfold kas_tail3
 rw [KasT.kasWp_bind]
 have P':Pm N (kas_rev p 0 n):=P.of (mirror_perm _ _ _ _)
 exact qFp hA pos P' (fun m=>g m _ P') _ _
theorem YG (hA:qH3 N cmp s) (pos:0<N) {p:Array Nat} (P:Pm N p) (n:Nat) {G:Nat×Array Nat->Shared->Prop} (g:∀ m q,Pm N q->G (m,q) s):(kas_descPart n N p).kasWp cmp G s:=by
 unfold kas_descPart
 rw [KasT.kasWp_bind]
 refine qAr hA pos (fun q m k Q=>?_) _ p _ _ P
 show KasT.kasWp cmp (if k > 0 then kas_tail3 m N (kas_rev q (m - (k+1)) m) else kas_tail3 m N q) G s
 split
 ·exact qDg hA pos (Q.of (mirror_perm _ _ _ _)) m g
 ·exact qDg hA pos Q m g
theorem qHG (hA:qH3 N cmp s) (pos:0<N) {p:Array Nat} (P:Pm N p) {G:Nat×Array Nat->Shared->Prop} (g:∀ m q,Pm N q->G (m,q) s):(kas_count N p).kasWp cmp G s:=by
 unfold kas_count
 rw [KasT.kasWp_bind]
 refine qFp hA pos P (fun n=>?_) _ _
 split
 ·exact g n p P
 ·split
  ·exact hA _ _ _ (P.any pos _) (P.any pos _) fun b=>match b with
    | true=>g n p P
    | false=>YG hA pos (P.of (mirror_perm _ _ _ _)) n g
  ·exact YG hA pos P n g
theorem qAY (hA:qH3 N cmp s) (pos:0<N) {p:Array Nat} (P:Pm N p) (k:Nat) {G:Nat->Shared->Prop} (g:∀ m,G m s):∀ f l r:Nat,(kas_place p k f l r).kasWp cmp G s
 | 0,l,r=>g l
 | f+1,l,r=>by
  unfold kas_place
  split
  ·exact g l
  ·exact hA _ _ _ (P.any pos _) (P.any pos _) fun b=>match b with
    | true=>qAY hA pos P k g f _ _
    | false=>qAY hA pos P k g f _ _
theorem qIX (hA:qH3 N cmp s) (pos:0<N) {G:Array Nat->Shared->Prop} (g:∀ p,Pm N p->G p s):∀(f:Nat) (p:Array Nat) (k:Nat),Pm N p->(kas_bin f p k).kasWp cmp G s
 | 0,p,k,P=>g p P
 | f+1,p,k,P=>by
  unfold kas_bin
  rw [KasT.kasWp_bind]
  exact qAY hA pos P k (fun l=>qIX hA pos g f _ (k+1) (P.of (bubble_perm _ _ _))) _ _ _
theorem qGN (hA:qH3 N cmp s) (pos:0<N) {G:Array Nat->Shared->Prop} (g:∀ p,Pm N p->G p s):(kas_sort N).kasWp cmp G s:=by
 unfold kas_sort
 rw [KasT.kasWp_bind]
 refine qHG hA pos ⟨VQ _⟩ fun m p P=>?_
 show KasT.kasWp cmp (if m<N then _ else _) G s
 split
 ·exact qIX hA pos g _ p _ P
 ·exact g p P
end
section
variable {prog:Program} {w:World} {A:Around} {E:Value->Shared->Prop} {s:Shared} {O:KeyOrd} {key:Nat->O.α}
noncomputable def qy (h:Heap) (a:Addr) (vs:List Value):Heap:=((h.update a (hX fun _=>(#[]:Array Value))).push (seqObj "tuple" vs.toArray 0)).push (seqObj "list" #[] 0)
noncomputable def JH (vs:List Value) (p:Array Nat):Array Value:=(p.toList.map fun i=>vs.getD i xF).toArray
theorem qFH (vs:List Value):JH vs (gH (wO vs.length))=vs.toArray:=by
 unfold JH
 congr 1
 apply xV
 intro i
 rw [wI]
 by_cases h:i<vs.length
 ·rw [wC h]
  simp [h]
 ·rw [vP (by simpa using h)]
  simp [h]
theorem Ju {R:Array Nat->Prop} {a:Addr} {vs:List Value} {n:Nat} {κ:SortKind} {P:PySem.Fin->Shared->Prop} (ho:s.heap.get? a=some (seqObj "list" vs.toArray n)) (h64:vs.length<64)
  (hk:2<=vs.length->∀ Q:SortKind->Shared->Prop,Q κ { s with heap:=qy s.heap a vs }->wpAny (model prog w) A (keyKind' vs.toArray) Q E { s with heap:=qy s.heap a vs })
  (few:vs.length<2->R (gH (wO vs.length)))
  (many:2<=vs.length->∀ G:Array Nat->Shared->Prop,(∀ p,Pm vs.length p->R p->G p { s with heap:=qy s.heap a vs })->(kas_sort vs.length).kasWp (kas_cmp prog w A κ (pairsOf vs)) G { s with heap:=qy s.heap a vs })
  (h:∀ p,Pm vs.length p->R p->P (.done (.ret .none)) { s with heap:=sortedHeap s.heap a vs (JH vs p) }):wpAny (model prog w) A (Builtin.«list.sort» ⟨[.ref a],[]⟩) P E s:=by
 have fit:vs.length<=sizeLine:=zC (vQ h64) (by rw [vG]; decide)
 have fitA:vs.toArray.size<=sizeLine:=by simpa using fit
 obtain ⟨m,o1⟩:∃ m,(s.heap.update a (hX fun _=>(#[]:Array Value))).get? a=some (seqObj "list" #[] m):=⟨_,get?_update_seq ho _⟩
 have o2:(qy s.heap a vs).get? a=some (seqObj "list" #[] m):=wF _ (wF _ o1)
 have quiet:∀ k:Nat,(k != k)=false:=bne_self_eq_false
 rw [list_sort_plain]
 refine wB (listItems_at ho rfl (wB (listUpdate_at ho rfl (wB (seqEpoch_at o1 rfl (wB (wpAny_newTuple (wB (fT (yS ?_) (zP _))) fit)))) fitA (zP _))))
 show wpAny (model prog w) A _ P E { s with heap:=qy s.heap a vs }
 dsimp only
 rcases Nat.lt_or_ge vs.toArray.size 2 with one | more
 ·have hv:vs.length<2:=by simpa using one
  have snds:Array.map (fun x:Value×Value=>x.2) (vs.toArray.zip vs.toArray)=vs.toArray:=by
   apply Array.toList_inj.mp
   rw [fZ,Array.toList_zip]
   exact List.map_snd_zip (wK _)
  have g:=h _ ⟨VQ _⟩ (few hv)
  rw [qFH] at g
  rw [if_pos one,if_pos one]
  refine wB (wD ?_)
  rw [StateT.run_pure]
  refine wB (wD ?_)
  show wpAny (model prog w) A (seqEpoch a >>= _) P E _
  refine wB (seqEpoch_at o2 rfl (wB (listUpdate_at o2 rfl ?_ (zP _) (by show (Array.map (fun x:Value×Value=>x.2) (vs.toArray.zip vs.toArray)).size<=_; rw [snds]; omega))))
  rw [quiet,if_neg wU]
  refine wD ?_
  show P (.done (.ret .none)) { s with heap:=(qy s.heap a vs).update a (hX fun _=>Array.map (fun x:Value×Value=>x.2) (vs.toArray.zip vs.toArray)) }
  exact snds.symm ▸ g
 ·have hv:2<=vs.length:=by simpa using more
  have less:¬ vs.toArray.size<2:=UE.mpr more
  rw [if_neg less,if_neg less]
  refine wB (hk hv _ ?_)
  have est:SortSt.mk' κ (vs.toArray.zip vs.toArray) #[] 7 none=kas_st κ (pairsOf vs) (gH (wO vs.length)):=by
   show SortSt.mk' κ (pairsOf vs) #[] 7 none=SortSt.mk' κ ((gH (wO vs.length)).map (kas_item (pairsOf vs))) #[] 7 none
   rw [<- pairsOf_size vs,kas_range]
  have run:=kas_runs (E:=E) (Q:=fun _ st' s'=>∃ p:Array Nat,Pm vs.length p/\R p/\arrOf st'=p.map (kas_item (pairsOf vs))/\failedOf st'=none/\s' = { s with heap:=qy s.heap a vs })
   hv h64 (fun p' st' s' a1 a2 a3 a4=>⟨p',a4.1,a4.2.1,a2,a3,a4.2.2⟩) (many hv (fun p s'=>Pm vs.length p/\R p/\s' = { s with heap:=qy s.heap a vs }) fun p P1 P2=>⟨P1,P2,rfl⟩)
  rw [<- est] at run
  refine wB (xW run (fun ⟨_,st'⟩ s' ⟨p,P1,P2,har,hf,es⟩=>?_) fun _ _ z=>z)
  cases es
  have hout:(arrOf st').map (·.2)=JH vs p:=by
   rw [har]
   apply Array.toList_inj.mp
   show ((p.map (kas_item (pairsOf vs))).map (·.2)).toList=p.toList.map fun i=>vs.getD i xF
   simp only [fZ,zE]
   apply vV
   intro i _
   show (kas_item (pairsOf vs) i).2=vs.getD i xF
   rw [kas_item_eq]
  have hsz:(JH vs p).size=vs.length:=by
   unfold JH
   rw [wJ,wA,wH,P1.size]
  dsimp only
  rw [hout]
  refine wB (seqEpoch_at o2 rfl (wB (listUpdate_at o2 rfl ?_ (zP _) (by show (JH vs p).size<=_; omega))))
  rw [hf,quiet,if_neg wU]
  exact wD (h p P1 P2)
theorem qF1 {a:Addr} {vs:List Value} {n:Nat} {κ:SortKind} {P:PySem.Fin->Shared->Prop} (ho:s.heap.get? a=some (seqObj "list" vs.toArray n)) (h64:vs.length<64)
  (hk:2<=vs.length->∀ Q:SortKind->Shared->Prop,Q κ { s with heap:=qy s.heap a vs }->wpAny (model prog w) A (keyKind' vs.toArray) Q E { s with heap:=qy s.heap a vs })
  (hA:qEF key vs.length (kas_cmp prog w A κ (pairsOf vs)) { s with heap:=qy s.heap a vs })
  (h:∀ p,Pm vs.length p->Up key p vs.length->P (.done (.ret .none)) { s with heap:=sortedHeap s.heap a vs (JH vs p) }):wpAny (model prog w) A (Builtin.«list.sort» ⟨[.ref a],[]⟩) P E s:=
 Ju (R:=fun p=>Up key p vs.length) ho h64 hk (fun few i j hij hj=>by have:i=j:=(by omega); subst this; exact KeyOrd.kle_refl _) (fun many G g=>qI9 hA (by omega) g) h
theorem qEG {a:Addr} {vs:List Value} {n:Nat} {κ:SortKind} {P:PySem.Fin->Shared->Prop} (ho:s.heap.get? a=some (seqObj "list" vs.toArray n)) (h64:vs.length<64)
  (hk:2<=vs.length->∀ Q:SortKind->Shared->Prop,Q κ { s with heap:=qy s.heap a vs }->wpAny (model prog w) A (keyKind' vs.toArray) Q E { s with heap:=qy s.heap a vs })
  (hA:qEF key vs.length (kas_cmp prog w A κ (pairsOf vs)) { s with heap:=qy s.heap a vs })
  (h:∀ p,Pm vs.length p->P (.done (.ret .none)) { s with heap:=sortedHeap s.heap a vs (JH vs p) }):wpAny (model prog w) A (Builtin.«list.sort» ⟨[.ref a],[]⟩) P E s:=
 Ju (R:=fun _=>True) ho h64 hk (fun _=>trivial) (fun many G g=>qGN hA.free (zQ (by decide) many) fun p Q=>g p Q trivial) fun p Q _=>h p Q
theorem qG5 {a b:List Value} {ns ms:List Int} {fin:Bool} {Q:Bool->Shared->Prop} (hu:A.units<cLine):∀{a b:List Value} {ns ms:List Int} (i:Nat),IntsAre a ns->IntsAre b ms->(∀ ns' ms',ns'.length+ms.length=ms'.length+ns.length->(ns'=[]\/ms'=[])->HT.lexLt ns' ms'=fin)->Q (HT.lexLt ns ms) s->KatLex prog w A true fin Q (a.zip b) i s:=by
 intro a b ns ms i ha hb hf hq
 induction ha generalizing b ms i with
 | nil=>
  rw [List.zip_nil_left]
  refine kat_nil ?_
  rw [<- hf [] ms (by simp) (.inl rfl)]
  exact hq
 | @cons x t a ns ha ih=>
  cases hb with
  | nil=>
   rw [List.zip_nil_right]
   refine kat_nil ?_
   rw [<- hf (x::ns) [] (by simp) (.inr rfl)]
   exact hq
  | cons y u hb=>
   rw [List.zip_cons_cons]
   refine kat_cons ?_
   obtain ⟨e,he,hiff⟩:=HT.eqAt_int A s x t y u
   refine he prog w _ _ ?_
   rw [HT.lexLt_cons] at hq
   cases e with
   | true=>
    rw [if_pos (hiff.mp rfl)] at hq
    refine kat_yes (ih (i+1) hb (fun ns' ms' hl ho=>hf ns' ms' (by simp only [zS]; omega) ho) hq)
   | false=>
    rw [if_neg (fun q=>absurd (hiff.mpr q) wU)] at hq
    refine kat_no ?_
    by_cases hi:i=0
    ·subst hi
     exact oneLt_int hq
    ·have e:(true && i == 0)=false:=by simp [hi]
     rw [e]
     exact kat_one _ _ (HT.rcLt_int A s x t y u prog w _ _ hq)
theorem qIp {a b:List Int}:∀ ns' ms':List Int,ns'.length+b.length=ms'.length+a.length->(ns'=[]\/ms'=[])->HT.lexLt ns' ms'=decide (a.length<b.length)
 | [],[],h,_=>by
  rw [HT.lexLt_nil_nil]
  simp only [uL] at h
  exact (decide_eq_false (by omega)).symm
 | [],_::_,h,_=>by
  rw [HT.lexLt_nil_cons]
  simp only [uL,zS] at h
  exact (decide_eq_true (by omega)).symm
 | _::_,[],h,_=>by
  rw [HT.lexLt_cons_nil]
  simp only [uL,zS] at h
  exact (decide_eq_false (by omega)).symm
 | _::_,_::_,_,h=>by rcases h with h | h <;> cases h
noncomputable def Rows (h:Heap):List Value->List (List Int)->Prop
 | [],[]=>True
 | v::vs,ns::nss=>(∃ b its,v=.ref b/\IsTup h b its/\IntsAre its.toList ns/\ns≠[])/\Rows h vs nss
 | _,_=>False
theorem Rows.kept {h h':Heap} (k:∀ b o,h.get? b=some o->h'.get? b=some o):∀{vs:List Value} {nss:List (List Int)},Rows h vs nss->Rows h' vs nss
 | [],[],_=>trivial
 | [],_::_,r=>r.elim
 | _::_,[],r=>r.elim
 | _::vs,_::nss,⟨⟨b,its,e,p,q⟩,r⟩=>⟨⟨b,its,e,p.keeps k,q⟩,Rows.kept k r⟩
theorem Rows.at:∀{h:Heap} {vs:List Value} {nss:List (List Int)} {i:Nat},Rows h vs nss->i<vs.length->∃ b its,vs.getD i xF=.ref b/\IsTup h b its/\IntsAre its.toList (nss.getD i [])/\nss.getD i []≠[]
 | _,[],[],i,_,hi=>by cases hi
 | _,[],_::_,_,r,_=>r.elim
 | _,_::_,[],_,r,_=>r.elim
 | _,_::vs,_::nss,0,r,_=>r.1
 | _,_::vs,_::nss,i+1,r,hi=>Rows.at (i:=i) r.2 (by simpa using hi)
theorem Rows.firsts:∀{h:Heap} {vs:List Value} {nss:List (List Int)},Rows h vs nss->∃ fs,KatTups h vs fs/\fs.length=vs.length/\∀ v∈fs,∃ n t,v=kD n t
 | _,[],[],_=>⟨[],KatTups.nil,rfl,fun _ h=>by cases h⟩
 | _,[],_::_,r=>r.elim
 | _,_::_,[],r=>r.elim
 | _,_::vs,ns::nss,⟨⟨b,its,e,⟨o,ho,hc,n,hd⟩,q,hne⟩,r⟩=>by
  obtain ⟨fs,f1,f2,f3⟩:=Rows.firsts r
  cases hi:its.toList with
  | nil=>
   rw [hi] at q
   cases q
   exact absurd rfl hne
  | cons v rest=>
   rw [hi] at q
   cases q with
   | cons x t q=>
    have h0:its[0]? = some (kD x t):=by
     rw [<- zX,hi]
     rfl
    subst e
    refine ⟨kD x t::fs,KatTups.cons ho hc hd h0 f1,by rw [zS,zS,f2],fun v hv=>?_⟩
    rcases wZ.mp hv with z | z
    ·exact ⟨x,t,z⟩
    ·exact f3 v z
theorem Yd {vs:List Value} {nss:List (List Int)} (hu:A.units<cLine) (r:Rows s.heap vs nss):qEF (O:=qLT) (fun i=>nss.getD i []) vs.length (kas_cmp prog w A (tuples' true) (pairsOf vs)) s:=by
 intro i j C hi hj hc
 obtain ⟨b1,its1,e1,⟨o1,g1,c1,n1,d1⟩,q1,_⟩:=r.at hi
 obtain ⟨b2,its2,e2,⟨o2,g2,c2,n2,d2⟩,q2,_⟩:=r.at hj
 unfold kas_cmp
 rw [kas_item_eq,kas_item_eq,e1,e2]
 refine kat_lt g1 d1 g2 d2 ?_
 have z1:its1.size=(nss.getD i []).length:=by rw [<- q1.length]; simp
 have z2:its2.size=(nss.getD j []).length:=by rw [<- q2.length]; simp
 refine qG5 (a:=[]) (b:=[]) (ns:=[]) (ms:=[]) hu 0 q1 q2 (fun ns' ms' hl ho=>?_) hc
 rw [z1,z2]
 exact qIp ns' ms' hl ho
theorem qAW {h:Heap} {a:Addr} {vs:List Value} {b:Addr} {o:Obj} (hb:b≠a) (e:h.get? b=some o):(qy h a vs).get? b=some o:=by
 unfold qy
 refine wF _ (wF _ ?_)
 rw [Heap.get?_update_ne _ _ _ _ hb]
 exact e
theorem Q3 {h:Heap} {a:Addr} {vs:List Value} {out:Array Value} {b:Addr} {o:Obj} (hb:b≠a) (e:h.get? b=some o):(sortedHeap h a vs out).get? b=some o:=
 (Heap.get?_update_ne _ _ _ _ hb).trans (qAW (vs:=vs) hb e)
theorem Q0 {h:Heap} {a:Addr} {vs:List Value} {out:Array Value} {n:Nat} (ho:h.get? a=some (seqObj "list" vs.toArray n)):∃ m,(sortedHeap h a vs out).get? a=some (seqObj "list" out m):=
 ⟨_,get?_update_seq (wF _ (wF _ (get?_update_seq ho _))) _⟩
end
end LSo
namespace L2
open PySem PySem.Spec PyProof.Rows
noncomputable abbrev Qa (ns:List Int):D:=.tup (ns.map D.int)
section
variable {X:Cx} {pins:List (Addr×Obj)} {σ:St} {H:Hp} {s:Shared}
theorem qIj (I:Inv X pins σ H s):∀{nss:List (List Int)} {xs:List V} {its:List Value},qZ H (nss.map Qa) xs->qt xs its->(∀ ns∈nss,ns≠[])->LSo.Rows s.heap its nss:=by
 intro nss
 induction nss with
 | nil=>
  intro xs its h r _
  cases (show xs=[] from h)
  cases r
  trivial
 | cons ns nss ih=>
  intro xs its h r hn
  obtain ⟨x,xr,rfl,h1,h2⟩:=h
  cases r with
  | cons r1 r2=>
   refine ⟨?_,ih h2 r2 fun m hm=>hn m (wQ _ hm)⟩
   obtain ⟨a,ys,rfl,e1,e2⟩:=h1
   cases r1
   obtain ⟨js,q1,q2,_⟩:=I.tuple (SqT.of (K:=X.K) e1)
   have e3:=e2.ints_eq
   subst e3
   exact ⟨a,_,rfl,q2,intsAre_of q1,hn ns (wN ..)⟩
theorem Jd {xs:List V} {its:List Value} (r:qt xs its):∀(is:List Nat),(∀ i∈is,i<xs.length)->qt (is.map fun i=>xs.getD i V.non) (is.map fun i=>its.getD i xF)
 | [],_=>.nil
 | i::is,h=>by
  have hi:=h i (wN ..)
  obtain ⟨u,g1,g2⟩:=r.get (wC hi)
  refine .cons ?_ (Jd r is fun j hj=>h j (wQ _ hj))
  show RelV (xs.getD i V.non) (its.getD i xF)
  rw [zA,zA,wC hi,g1]
  exact g2
theorem Yy {nss:List (List Int)} {xs:List V} (h:qZ H (nss.map Qa) xs):∀(is:List Nat),(∀ i∈is,i<xs.length)->qZ H ((is.map fun i=>nss.getD i []).map Qa) (is.map fun i=>xs.getD i V.non)
 | [],_=>rfl
 | i::is,g=>by
  have hi:=g i (wN ..)
  obtain ⟨d,g1,g2⟩:=h.get (wC hi)
  refine ⟨_,_,rfl,?_,Yy h is fun j hj=>g j (wQ _ hj)⟩
  rw [wI] at g1
  show Den H (Qa (nss.getD i [])) (xs.getD i V.non)
  rw [zA,zA,wC hi]
  cases e:nss[i]? with
  | none=>rw [e] at g1; cases g1
  | some ns=>
   rw [e] at g1
   cases g1
   exact g2
end
end L2
namespace LSo
open PySem PySem.W PyProof.Rows
end LSo
namespace L2
open PySem PySem.Spec PyProof.Rows
end L2
namespace LSo
open PySem PySem.W PyProof.Rows
section
variable {prog:Program} {w:World} {A:Around} {E:Value->Shared->Prop} {s:Shared}
theorem qCp {l:Addr} {vs:List Value} {nss:List (List Int)} {Q:Value->Shared->Prop} (hu:A.units+8<cLine) (hl:s.heap.IsList l vs.toArray\/IsTup s.heap l vs.toArray) (r:2<=vs.length->Rows s.heap vs nss) (h64:vs.length<64)
  (h:∀(p:Array Nat) (h1 h2:Heap) (m:Nat),Pm vs.length p->(∀ b o,s.heap.get? b=some o->h1.get? b=some o)->(∀ b o,h1.get? b=some o->h2.get? b=some o)->h2.get? h1.objs.size=some (seqObj "list" (JH vs p) m)->Q (.ref h1.objs.size) { s with heap:=h2 }):wpAny (model prog w) A (call (.builtin "sorted") [.ref l]) Q E s:=by
 have fit:vs.length<=sizeLine:=zC (vQ h64) (by rw [vG]; decide)
 obtain ⟨T,o,n,hT,ho,hc,hd⟩:∃ T o n,(T = "list"\/T = "tuple")/\s.heap.get? l=some o/\o.cls=.type T/\o.data=.seq vs.toArray n:=by
  rcases hl with ⟨o,y,c,n,d⟩ | ⟨o,y,c,n,d⟩
  ·exact ⟨_,o,n,.inl rfl,y,c,d⟩
  ·exact ⟨_,o,n,.inr rfl,y,c,d⟩
 refine kT kind_sorted plain_sorted entry_sorted (args_sorted1 _) (wB (m:=checkCount "sorted" 1 1 _) (wD (wB (wpAny_collect_seq l hT ho hc hd (fun h1 k1=>wB (fT ?_ fit)) (by simpa using fit)))))
 have oL:(h1.push (seqObj "list" vs.toArray 0)).get? h1.objs.size=some (seqObj "list" vs.toArray 0):=wR h1 rfl
 have apart:∀ b u,h1.get? b=some u->b≠h1.objs.size:=fun b u y=>zH (wY y)
 have r2:2<=vs.length->Rows (qy (h1.push (seqObj "list" vs.toArray 0)) h1.objs.size vs) vs nss:=fun hv=>(r hv).kept fun b u y=>qAW (apart b u (k1 b u y)) (wF _ (k1 b u y))
 refine wB (yS (zW slot_list_sort (s:={ s with heap:=h1.push (seqObj "list" vs.toArray 0) }) ⟨_,oL,rfl⟩ entry_list_sort (Ju (R:=fun _=>True) (κ:=tuples' true) oL h64 (fun hv Q hq=>?_) (fun _=>trivial) (fun hv G g=>qGN (Yd ?_ (r2 hv)).free (zQ (by decide) hv) fun p P=>g p P trivial) fun p P1 _=>?_) (args_list_sort _)))
 ·obtain ⟨fs,f1,f2,f3⟩:=(r2 hv).firsts
  refine kat_kind (T:=.type "int") f1 (by omega) (fun v hv=>?_) (by decide) hq
  obtain ⟨n,t,rfl⟩:=f3 v hv
  exact fun A Q E s' _ hq=>xZ (ZG s' n t) hq
 ·show A.units+1+1<cLine
  omega
 ·obtain ⟨m,om⟩:=Q0 (out:=JH vs p) oL
  exact ⟨_,rfl,wD ⟨_,rfl,h p h1 _ m P1 k1 (fun b u y=>Q3 (apart b u y) (wF _ y)) om⟩⟩
end
end LSo
namespace L2
open PySem PySem.Spec PyProof.Rows
noncomputable def qGZ:List V->Hp->VK->Prop:=fun vs H Q=>∃(a:Addr) (xs:List V) (nss:List (List Int)),vs=[.ref a]/\(H a=some (.tup xs)\/H a=some (.lst xs))/\qZ H (nss.map Qa) xs/\(2<=nss.length->∀ ns∈nss,ns≠[])/\nss.length<64/\
 ∀(is:List Nat) (l:Addr),is.Perm (wO nss.length)->H l=none->Q (.ref l) (upd H l (.lst (is.map fun i=>xs.getD i V.non)))
section
variable {X:Cx} {pins:List (Addr×Obj)} {σ:St} {H:Hp} {s:Shared}
theorem QD (hu:X.A.units+64<cLine):QB X (.builtin "sorted") qGZ:=by
 intro pins s σ H xs us Q I r h
 obtain ⟨a,ys,nss,rfl,hx,hd,hn,h64,q⟩:=h
 obtain ⟨u,rfl,rx⟩:=vals1 r
 have main:∀(its:List Value),u=.ref a->qt ys its->(s.heap.IsList a its.toArray\/IsTup s.heap a its.toArray)->wpAny (model X.prog X.w) X.A (call (.builtin "sorted") [u]) (EP X pins σ Q) X.xe s:=by
  intro its eu rv hl
  subst eu
  have ly:ys.length=nss.length:=by rw [hd.length,wA]
  have li:its.length=ys.length:=rv.length.symm
  refine LSo.qCp (by omega) hl (fun hv=>qIj I hd rv (hn (by omega))) (by omega) fun p h1 h2 e P1 k1 k2 he=>?_
  have I1:Inv X pins σ H { s with heap:=h1 }:=I.kept (t':=s.toks) k1
  have pin:∀ i∈p.toList,i<ys.length:=fun i hi=>by
   have:i∈(gH (wO its.length)):=P1.pm.mem_iff.mp (vU.mp hi)
   have:i<its.length:=by simpa using this
   omega
  have pl:p.toList.Perm (wO its.length):=by
   have:=P1.pm
   rw [fE] at this
   exact this
  have hl:p.toList.length<=sizeLine:=by
   rw [pl.length_eq,zR,vG]
   omega
  refine ⟨.ref h1.objs.size,upd H h1.objs.size (.lst (p.toList.map fun i=>ys.getD i V.non)),I1.laid (t':=s.toks) k2 (wK _) ?_,rfl,
   q p.toList _ ?_ (I1.hok.fresh (wK _))⟩
  ·refine ⟨by rw [wA]; exact hl,(p.toList.map fun i=>its.getD i xF),e,Jd rv _ pin,?_⟩
   rw [he]
   rfl
  ·rw [li,ly] at pl
   exact pl
 rcases hx with h1 | h1
 ·cases rx
  obtain ⟨its,rv,p,_⟩:=I.tuple (SqT.of (K:=X.K) h1)
  exact main its rfl rv (.inr p)
 ·cases rx
  obtain ⟨its,rv,p,_⟩:=I.list (SqL.of (K:=X.K) h1)
  exact main its rfl rv (.inl p.isList)
end
end L2
namespace LSo
open PySem PySem.W PyProof.Rows
end LSo
namespace L2
open PySem PySem.Spec PyProof.Rows
end L2
namespace LTu
open PySem PyProof.Rows HT
section
variable {s:Shared} {prog:Program} {w:World} {A:Around} {E:Value->Shared->Prop}
theorem get_whole {t sl:Addr} {items:Array Value} {vl vu:Value} {lo hi:Option Int} {Q:Value->Shared->Prop} (ht:IsTup s.heap t items) (hs:s.heap.IsSliceOf sl vl vu .none) (pl:IsPart vl lo) (pu:IsPart vu hi)
  (hw:sIx items.size 0 lo=0/\sIx items.size items.size hi=items.size) (h:Q (.ref t) s):wpAny (model prog w) A (getItem (.ref t) (.ref sl)) Q E s:=by
 obtain ⟨os,hos,hcs,hds⟩:=id hs
 have hTs:s.TypeIs (.ref sl) "slice":=⟨os,hos,hcs⟩
 unfold getItem
 try with_reducible refine yS ?_
 first | refine wB (wD ?_) | skip
 refine wB (fL ht.typeIs (by decide) ?_)
 refine wB (yL (name:=xB "__getitem__") ht.typeIs zL (zW zL ht.typeIs entry_tuple_getitem ?_ (args_tuple_getitem _ _)))
 show wpAny _ _ (kL (.ref t) >>= _) _ _ s
 refine wB (tupleItemsOf_ ht ?_)
 refine wB (xZ hTs ?_)
 rw [if_pos (by decide)]
 refine wB (Qb hs pl pu ?_)
 have hy:(((sIx items.size 0 lo:Nat):Int) == 0 && (1:Int) == 1 && (sIx items.size items.size hi - sIx items.size 0 lo) == items.size)=true:=by
  rw [hw.1,hw.2]
  simp
 show wpAny _ _ (if (((sIx items.size 0 lo:Nat):Int) == 0 && (1:Int) == 1 && (sIx items.size items.size hi - sIx items.size 0 lo) == items.size)=true then _ else _) _ _ s
 rw [if_pos hy]
 unfold Builtin.Tuple.tupleIsExact
 refine wB (wB (xZ ht.typeIs (wD ?_)))
 rw [if_pos (by decide)]
 exact wB (gO (wD ⟨_,rfl,wD h⟩))
theorem qJR (n:Nat):yN none none (-1) (n:Int)=((n:Int) - 1,-1):=by
 unfold yN
 simp
theorem qEX (n:Nat):zT ((n:Int) - 1) (-1) (-1)=n:=by
 unfold zT
 rw [if_neg (by decide)]
 rcases Int.lt_or_le (-1) ((n:Int) - 1) with h | h
 ·rw [if_pos h]
  have e1:(-(-1:Int))=1:=rfl
  rw [e1,Int.ediv_one]
  omega
 ·rw [if_neg (WI.mpr h)]
  omega
theorem qCl {α β:Type} {f:α->Option β} {g:α->β}:∀(l:List α),(∀ m∈l,f m=some (g m))->l.filterMap f=l.map g
 | [],_=>rfl
 | x::l,h=>by
  rw [uU,h x (wN ..)]
  show g x::l.filterMap f=_
  rw [qCl l fun m hm=>h m (wQ _ hm)]
  rfl
theorem qG6 (xs:Array Value):((wO xs.size).filterMap fun (m:Nat)=>xs[((xs.size:Int) - 1+(m:Int) * -1).toNat]?).toArray=xs.toList.reverse.toArray:=by
 congr 1
 have e:∀ m∈wO xs.size,xs[((xs.size:Int) - 1+(m:Int) * -1).toNat]? = some (xs.toList.reverse.getD m xF):=fun m hm=>by
  rw [zM] at hm
  have e1:((xs.size:Int) - 1+(m:Int) * -1).toNat=xs.size - 1 - m:=by omega
  rw [e1,zA,List.getElem?_reverse (by simpa using hm)]
  simp
  have:xs.size - 1 - m<xs.size:=by omega
  rw [wV this]
  rfl
 rw [qCl _ e]
 have:=L2.jg xs.toList.reverse xF
 rw [xX,wH] at this
 exact this
theorem qCk {sl:Addr} {n:Nat} {u:Tok} {Q:Int×Int×Nat->Shared->Prop} (hs:s.heap.IsSliceOf sl .none .none (.int (-1) u)) (h:Q ((n:Int) - 1,-1,n) s):wpAny (model prog w) A (xJ (.ref sl) (pure (n:Int))) Q E s:=by
 obtain ⟨os,hos,hcs,hds⟩:=id hs
 unfold xJ fI
 refine wB (wB (uD hos hds (x:=.none) rfl (wB (uD hos hds (x:=.none) rfl (wB (uD hos hds (x:=.int (-1) u) rfl (wD ?_)))))))
 (refine wB (slicePart_int ?_))
 show wpAny _ _ (if ((-1:Int) == 0)=true then _ else _) _ _ s
 rw [if_neg (by decide)]
 refine wB (slicePart_none (wB (slicePart_none (wB (wD ?_)))))
 show wpAny _ _ (match yN none none (-1) (n:Int) with | (lo,hi)=>pure (lo,(-1:Int),zT lo hi (-1))) _ _ s
 rw [qJR n]
 show wpAny _ _ (pure ((n:Int) - 1,(-1:Int),zT ((n:Int) - 1) (-1) (-1))) _ _ s
 rw [qEX]
 exact wD h
theorem get_rev {t sl:Addr} {items:Array Value} {u:Tok} {Q:Value->Shared->Prop} (ht:IsTup s.heap t items) (hs:s.heap.IsSliceOf sl .none .none (.int (-1) u)) (hsz:items.size<=sizeLine)
  (h:Q (.ref s.heap.objs.size) { s with heap:=s.heap.push { cls:=.type "tuple",data:=.seq items.toList.reverse.toArray } }):wpAny (model prog w) A (getItem (.ref t) (.ref sl)) Q E s:=by
 obtain ⟨os,hos,hcs,hds⟩:=id hs
 have hTs:s.TypeIs (.ref sl) "slice":=⟨os,hos,hcs⟩
 have htake:sizeOk (.seq items.toList.reverse.toArray):=by
  show items.toList.reverse.toArray.size<=sizeLine
  rw [wJ,xX,wH]
  exact hsz
 unfold getItem
 try with_reducible refine yS ?_
 first | refine wB (wD ?_) | skip
 refine wB (fL ht.typeIs (by decide) ?_)
 refine wB (yL (name:=xB "__getitem__") ht.typeIs zL (zW zL ht.typeIs entry_tuple_getitem ?_ (args_tuple_getitem _ _)))
 show wpAny _ _ (kL (.ref t) >>= _) _ _ s
 refine wB (tupleItemsOf_ ht ?_)
 refine wB (xZ hTs ?_)
 rw [if_pos (by decide)]
 (refine wB (qCk hs ?_))
 show wpAny _ _ (if (((items.size:Int) - 1 == 0 && (-1:Int) == 1 && items.size == items.size)=true) then _ else _) _ _ s
 rw [if_neg (by simp),qG6]
 first
  | exact wB (m:=yU _) (yD (wD ⟨_,rfl,wD h⟩) htake)
  | exact wB (m:=yU _) (yD (wB (wD (wD ⟨_,rfl,wD h⟩))) htake)
  | exact wB (wB (m:=yU _) (yD (wD (wD ⟨_,rfl,wD h⟩)) htake))
  | exact wB (wB (m:=yU _) (yD (wD ⟨_,rfl,wD h⟩) htake))
end
section
variable {s:Shared} {prog:Program} {w:World} {A:Around} {E:Value->Shared->Prop}
section
open PySem.SeqAt
open PySem.AutoSeq1 (wpAny_loadPart')
open PySem.MeetsSeq PySem.MeetsSeq2 PySem.MeetsSeq3
end
theorem cat_nil {t b:Addr} {ws:List Value} {Q:Value->Shared->Prop} (ht:IsTup s.heap t ([]:List Value).toArray) (hb:IsTup s.heap b ws.toArray) (h:Q (.ref b) s):wpAny (model prog w) A (binaryOp .Add (.ref t) (.ref b)) Q E s:=by
 obtain ⟨⟨cls,dd,data,sl⟩,ho,hc,n,hd⟩:=id ht
 obtain ⟨⟨cls2,dd2,data2,sl2⟩,ho2,hc2,n2,hd2⟩:=id hb
 simp only at hc hd hc2 hd2
 subst hc hd hc2 hd2
 exact WO ⟨_,ho,rfl⟩ ⟨_,ho2,rfl⟩ WZ UM ZE fW (fR _ _) (tuple_addW0 t b _ ws.toArray n n2 dd dd2 sl sl2 (by simp)) ⟨ho,ho2,h⟩
end
end LTu
namespace L2
open PySem PySem.Spec PyProof.Rows
section
variable {X:Cx} {K:wG} {e st:Expr} {te ts:TE} {pos p2:Pos}
theorem swL {es:List Expr} {p:Pos} {t:Option Expr} {l:Nat} {env:Env}:swapsWith (.List es p) t l env=pure false:=rfl
noncomputable def qIz (K:wG):R2:=fun x y H Q=>∃ a b xs ys,x=.ref a/\y=.ref b/\SqT K H a xs/\SqT K H b ys/\xs.length+ys.length<=sizeLine/\(xs=[]->Q (.ref b) H)/\(xs≠[]->ys=[]->Q (.ref a) H)/\(xs≠[]->ys≠[]->∀ p,H p=none->Q (.ref p) (upd H p (.tup (xs++ys))))
theorem qJk:OpR X (binaryOp .Add) (qIz X.K):=by
 intro pins s σ H x y v u Q I rx ry h
 obtain ⟨a,b,xs,ys,rfl,rfl,ha,hb,hz,q0,q1,q2⟩:=h
 by_cases hx:xs=[]
 ·subst hx
  cases rx
  cases ry
  obtain ⟨its,r1,p1,_⟩:=I.tuple ha
  obtain ⟨its2,r2,p2,_⟩:=I.tuple hb
  cases r1
  exact LTu.cat_nil p1 p2 ⟨.ref b,H,I,rfl,q0 rfl⟩
 ·exact qIw pins s σ H (.ref a) (.ref b) v u Q I rx ry ⟨a,b,xs,ys,rfl,rfl,ha,hb,hx,hz,q1 hx,q2 hx⟩
theorem j4 (h:X.K=K):OpR X (binaryOp .Add) (fun x y H Q=>(rI0 fun i j=>.int (i+j)) x y H Q\/(qJP K x y H Q\/qIz K x y H Q)):=by subst h; exact qKb.or (qJe.or qJk)
noncomputable def qMQ (K:wG):V->Option Int->Option Int->Hp->VK->Prop:=fun x lo hi H Q=>∃ a xs,x=.ref a/\SqT K H a xs/\
 ((HT.sIx xs.length 0 lo=0/\HT.sIx xs.length xs.length hi=xs.length)->Q (.ref a) H)/\(¬ (HT.sIx xs.length 0 lo=0/\HT.sIx xs.length xs.length hi=xs.length)->∀ p,H p=none->Q (.ref p) (upd H p (.tup (qGx xs lo hi))))
theorem qLe:SlR X (qMQ X.K):=by
 intro pins s σ H x v vl vu lo hi sl Q I rx hs pl pu h
 obtain ⟨a,xs,rfl,hx,q1,q2⟩:=h
 by_cases hw:HT.sIx xs.length 0 lo=0/\HT.sIx xs.length xs.length hi=xs.length
 ·cases rx
  obtain ⟨its,r,ht,hz⟩:=I.tuple hx
  have hlen:its.toArray.size=xs.length:=by rw [wJ]; exact r.length.symm
  refine ⟨"tuple",_,zL.lookup,ht.typeIs,?_⟩
  exact LTu.get_whole ht hs pl pu (by rw [hlen]; exact hw) ⟨.ref a,H,I,rfl,q1 hw⟩
 ·exact qLW pins s σ H (.ref a) v vl vu lo hi sl Q I rx hs pl pu ⟨a,xs,rfl,hx,hw,q2 hw⟩
theorem qCW (h:X.K=K):SlR X (fun x lo hi H Q=>qLw K x lo hi H Q\/qMQ K x lo hi H Q):=by
 subst h
 exact qJK.or qLe
noncomputable def qKj (K:wG) (te ts:TE):TE:=fun σ H Q=>te σ H fun x H1=>ts σ H1 fun y H2=>y=.int (-1)/\∃ a xs,x=.ref a/\SqT K H2 a xs/\∀ p,H2 p=none->Q (.ref p) (upd H2 p (.tup xs.reverse))
theorem qDn {xs:List V} {its:List Value} (r:qt xs its):qt xs.reverse its.reverse:=by
 induction r with
 | nil=>exact .nil
 | cons h1 h2 ih=>
  simpa only [List.reverse_cons] using qt.append ih (.cons h1 .nil)
theorem qJQ (hK:X.K=K) (he:PE X e te) (hs:PE X st ts):PE X (.Subscript e (.Slice none none (some st) p2) pos) (qKj K te ts):=by
 subst hK
 intro pins s σ H Q I h
 refine Subscript_ (thn (he pins s σ H _ I h) fun v s1 ⟨x,H1,I1,r1,q1⟩=>?_)
 refine wpAny_Slice ?_
 rw [ZX]
 iterate 2 apply wD
 rw [ZY]
 refine thn (hs pins s1 σ H1 _ I1 q1) fun u s3 ⟨y,H3,I3,r3,q3⟩=>?_
 obtain ⟨rfl,a,xs,rfl,hx,q⟩:=q3
 obtain ⟨tk,rfl⟩:=r3
 cases r1
 have I4:Inv X pins σ H3 { s3 with heap:=s3.heap.push { cls:=.type "slice",data:=.fields #[.none,.none,.int (-1) tk] } }:=I3.kept (t':=s3.toks) fun b ob q=>wF _ q
 obtain ⟨its,r,ht,hz⟩:=I4.tuple hx
 have hsl:=WC s3.heap .none .none (.int (-1) tk)
 have hlen:its.toArray.size=xs.length:=by rw [wJ]; exact r.length.symm
 show wpAny (model X.prog X.w) X.A (subscriptTail e (.Slice none none (some st) p2) (.ref a) (.ref s3.heap.objs.size)) (EP X pins σ Q) X.xe { s3 with heap:=s3.heap.push { cls:=.type "slice",data:=.fields #[.none,.none,.int (-1) tk] } }
 refine tail_any (ops:=[.ref a,.ref s3.heap.objs.size]) ht.typeIs zL.lookup ?_ (by with_unfolding_all rfl)
 refine LTu.get_rev ht hsl (by rw [hlen]; exact hz) ?_
 refine ⟨.ref _,_,I4.laid (t':=s3.toks) (o:=.tup xs.reverse) (fun b ob q=>wF _ q) (wK _) ?_,rfl,q _ (I4.hok.fresh (wK _))⟩
 exact ⟨by rw [xX]; exact hz,its.reverse,qDn r,IsTup.new _ _,NoD.new rfl⟩
end
section
variable {X:Cx} {a b c d:Expr} {ta tb tc td:TE} {pos:Pos}
theorem qGO {op op' op'':CmpOp} {r r' r'':R2} (ho:OpR X (compareOp op) r) (ho':OpR X (compareOp op') r') (ho'':OpR X (compareOp op'') r'') (ha:PE X a ta) (hb:PE X b tb) (hc:PE X c tc) (hd:PE X d td)
  (hm:lastMarks [op,op',op''] [b,c,d]=false:=by with_unfolding_all rfl):PT X (.Compare a [op,op',op''] [b,c,d] pos) (qJW (qCf r r' r'' ta tb tc td)):=by
 intro pins s σ H Q I h
 refine isTrue_chain (thn (ha pins s σ H _ I h) fun v s1 ⟨x,H1,I1,r1,q1⟩=>test_link (thn (hb pins s1 σ H1 _ I1 q1) fun u s2 ⟨y,H2,I2,r2,q2⟩=>
  thn (ho pins s2 σ H2 x y v u _ I2 r1 r2 q2) fun e s3 ⟨z,H3,I3,r3,k,ez,q3⟩=>?_)) hm
 subst ez
 cases r3
 refine vA ?_
 cases k with
 | false=>
  obtain ⟨k',e',q'⟩:=q3
  cases e'
  exact (ite_ff ⟨H3,I3,q'⟩)
 | true=>
  refine ite_tt (test_link (thn (hc pins s3 σ H3 _ I3 q3) fun w' s4 ⟨z',H4,I4,r4,q4⟩=>thn (ho' pins s4 σ H4 y z' u w' _ I4 r2 r4 q4) fun e' s5 ⟨z2,H5,I5,r5,k',ez',q5⟩=>?_))
  subst ez'
  cases r5
  refine vA ?_
  cases k' with
  | false=>
   obtain ⟨k2,e2,q2'⟩:=q5
   cases e2
   exact (ite_ff ⟨H5,I5,q2'⟩)
  | true=>
   refine ite_tt (test_last (thn (hd pins s5 σ H5 _ I5 q5) fun w2 s6 ⟨z3,H6,I6,r6,q6⟩=>thn (ho'' pins s6 σ H6 z' z3 w' w2 _ I6 r4 r6 q6) fun e3 s7 ⟨z4,H7,I7,r7,k3,e3',q7⟩=>?_))
   subst e3'
   cases r7
   exact vA ⟨H7,I7,q7⟩
end
end L2
namespace LTu
open PySem PyProof.Rows HT
end LTu
namespace L2
open PySem PyProof.Rows HT
end L2
namespace LTu
open PySem PyProof.Rows HT
section
variable {s:Shared} {prog:Program} {w:World} {A:Around} {E:Value->Shared->Prop}
theorem qHc (n k:Nat):yN none (some (k:Int)) (-1) (n:Int)=((n:Int) - 1,min (k:Int) ((n:Int) - 1)):=by
 unfold yN
 simp
 omega
theorem qCs (n k:Nat):zT ((n:Int) - 1) (min (k:Int) ((n:Int) - 1)) (-1)=n - (k+1):=by
 unfold zT
 rw [if_neg (by decide)]
 have e1:(-(-1:Int))=1:=rfl
 rw [e1,Int.ediv_one]
 split <;> omega
theorem qEq (k:Nat) (xs:Array Value):((wO (xs.size - (k+1))).filterMap fun (m:Nat)=>xs[((xs.size:Int) - 1+(m:Int) * -1).toNat]?).toArray=(xs.toList.drop (k+1)).reverse.toArray:=by
 congr 1
 have e:∀ m∈wO (xs.size - (k+1)),xs[((xs.size:Int) - 1+(m:Int) * -1).toNat]? = some ((xs.toList.drop (k+1)).reverse.getD m xF):=fun m hm=>by
  rw [zM] at hm
  have e1:((xs.size:Int) - 1+(m:Int) * -1).toNat=xs.size - 1 - m:=by omega
  have e2:k+1+(xs.size - (k+1) - 1 - m)=xs.size - 1 - m:=by omega
  have e3:xs.size - 1 - m<xs.size:=by omega
  rw [e1,zA,List.getElem?_reverse (by rw [yI,wH]; exact hm),yI,wH,WJ,e2,zX,wV e3]
  rfl
 rw [qCl _ e]
 have:=L2.jg (xs.toList.drop (k+1)).reverse xF
 rw [xX,yI,wH] at this
 exact this
theorem qCN {sl:Addr} {n k:Nat} {t u:Tok} {Q:Int×Int×Nat->Shared->Prop} (hs:s.heap.IsSliceOf sl .none (.int (k:Int) t) (.int (-1) u)) (h:Q ((n:Int) - 1,-1,n - (k+1)) s):wpAny (model prog w) A (xJ (.ref sl) (pure (n:Int))) Q E s:=by
 obtain ⟨os,hos,hcs,hds⟩:=id hs
 unfold xJ fI
 have f0:(#[.none,.int (k:Int) t,.int (-1) u]:Array Value)[0]? = some .none:=rfl
 have f1:(#[.none,.int (k:Int) t,.int (-1) u]:Array Value)[1]? = some (.int (k:Int) t):=rfl
 have f2:(#[.none,.int (k:Int) t,.int (-1) u]:Array Value)[2]? = some (.int (-1) u):=rfl
 refine wB (wB (uD hos hds f0 (wB (uD hos hds f1 (wB (uD hos hds f2 (wD (wB (slicePart_int ?_)))))))))
 refine vF (fun q=>absurd q (by decide)) fun _=>wB (slicePart_none (wB (slicePart_int (wB (wD ?_)))))
 have e:(match yN none (some (k:Int)) (-1) (n:Int) with | (lo,hi)=>(lo,(-1:Int),zT lo hi (-1)))=((n:Int) - 1,(-1:Int),n - (k+1)):=by
  rw [qHc n k]
  show ((n:Int) - 1,(-1:Int),zT ((n:Int) - 1) (min (k:Int) ((n:Int) - 1)) (-1))=_
  rw [qCs]
 exact wD (show Q (match yN none (some (k:Int)) (-1) (n:Int) with | (lo,hi)=>(lo,(-1:Int),zT lo hi (-1))) s from e ▸ h)
theorem get_revK {k:Nat} {t sl:Addr} {items:Array Value} {v u:Tok} {Q:Value->Shared->Prop} (ht:IsTup s.heap t items) (hs:s.heap.IsSliceOf sl .none (.int (k:Int) v) (.int (-1) u)) (hsz:items.size<=sizeLine)
  (h:Q (.ref s.heap.objs.size) { s with heap:=s.heap.push { cls:=.type "tuple",data:=.seq (items.toList.drop (k+1)).reverse.toArray } }):wpAny (model prog w) A (getItem (.ref t) (.ref sl)) Q E s:=by
 obtain ⟨os,hos,hcs,hds⟩:=id hs
 have fits:sizeOk (.seq (items.toList.drop (k+1)).reverse.toArray):=by
  show (items.toList.drop (k+1)).reverse.toArray.size<=sizeLine
  rw [wJ,xX,yI,wH]
  exact zC (Nat.sub_le _ _) hsz
 unfold getItem
 refine yS (wB (fL ht.typeIs (by decide) (wB (yL (name:=xB "__getitem__") ht.typeIs zL (zW zL ht.typeIs entry_tuple_getitem ?_ (args_tuple_getitem _ _))))))
 refine wB (m:=kL (.ref t)) (tupleItemsOf_ ht (wB (xZ ⟨os,hos,hcs⟩ ?_)))
 refine vF (fun _=>wB (qCN hs ?_)) fun q=>absurd rfl q
 refine vF (fun q=>absurd q (by simp)) fun _=>?_
 rw [qEq]
 exact wB (m:=yU _) (yD (wD ⟨_,rfl,wD h⟩) fits)
end
end LTu
namespace L2
open PySem PyProof.Rows HT
section
variable {X:Cx} {K:wG} {e up st:Expr} {te tu ts:TE} {p2 pos:Pos}
noncomputable def qKR (K:wG) (te tu ts:TE):TE:=fun σ H Q=>te σ H fun x H1=>tu σ H1 fun o H2=>ts σ H2 fun y H3=>∃ k:Nat,o=.int (k:Int)/\y=.int (-1)/\∃ a xs,x=.ref a/\SqT K H3 a xs/\∀ p,H3 p=none->Q (.ref p) (upd H3 p (.tup (xs.drop (k+1)).reverse))
theorem qAS:∀(k:Nat) {xs:List V} {its:List Value},qt xs its->qt (xs.drop k) (its.drop k)
 | 0,_,_,r=>r
 | _+1,_,_,.nil=>.nil
 | k+1,_,_,.cons _ h=>qAS k h
theorem qI2 (hK:X.K=K) (he:PE X e te) (hu:PE X up tu) (hs:PE X st ts):PE X (.Subscript e (.Slice none (some up) (some st) p2) pos) (qKR K te tu ts):=by
 subst hK
 intro pins s σ H Q I h
 refine Subscript_ (thn (he pins s σ H _ I h) fun v s1 ⟨x,H1,I1,r1,q1⟩=>wpAny_Slice ?_)
 rw [ZX]
 refine wD ?_
 rw [ZY]
 refine thn (hu pins s1 σ H1 _ I1 q1) fun b s2 ⟨o,H2,I2,r2,q2⟩=>?_
 rw [ZY]
 refine thn (hs pins s2 σ H2 _ I2 q2) fun u s3 ⟨y,H3,I3,r3,q3⟩=>?_
 obtain ⟨k,rfl,rfl,a,xs,rfl,hx,q⟩:=q3
 obtain ⟨tk,rfl⟩:=r3
 obtain ⟨tu',rfl⟩:=r2
 cases r1
 generalize ho:({ cls:=.type "slice",data:=.fields #[.none,.int (k:Int) tu',.int (-1) tk] }:Obj)=sl
 have I4:Inv X pins σ H3 { s3 with heap:=s3.heap.push sl }:=I3.kept (t':=s3.toks) fun _ _=>wF _
 obtain ⟨its,r,ht,hz⟩:=I4.tuple hx
 have hsl:({ s3 with heap:=s3.heap.push sl }:Shared).heap.IsSliceOf s3.heap.objs.size .none (.int (k:Int) tu') (.int (-1) tk):=ho ▸ WC s3.heap .none (.int (k:Int) tu') (.int (-1) tk)
 have step:wpAny (model X.prog X.w) X.A (getItem (.ref a) (.ref s3.heap.objs.size)) (EP X pins σ Q) X.xe { s3 with heap:=s3.heap.push sl }:=by
  refine LTu.get_revK ht hsl (by rw [wJ,<- r.length]; exact hz) ?_
  refine ⟨.ref _,_,I4.laid (t':=s3.toks) (o:=.tup (xs.drop (k+1)).reverse) (fun _ _=>wF _) (wK _) ?_,rfl,q _ (I4.hok.fresh (wK _))⟩
  exact ⟨by rw [xX,yI]; omega,(its.drop (k+1)).reverse,qDn (qAS (k+1) r),IsTup.new _ _,NoD.new rfl⟩
 subst ho
 exact tail_any (value:=e) (slice:=.Slice none (some up) (some st) p2) (ops:=[.ref a,.ref s3.heap.objs.size]) ht.typeIs zL.lookup step (by with_unfolding_all rfl)
end
end L2
namespace LTu
open PySem PyProof.Rows HT
end LTu
namespace L2
open PySem PyProof.Rows HT
end L2
namespace L2
open PySem PySem.Spec PyProof.Rows
section
variable {w:World} {prog:Program} {s:Shared} {A:Around} {E:Value->Shared->Prop}
noncomputable abbrev qCU (led:Bool):Obj:={ cls:=.type "set",dict:=none,data:=.set #[] 0 (.fresh 0 0 led) }
end
section
variable {X:Cx}
theorem qFE {its:List Value}:∀{ns:List Int},qt (ns.map V.int) its->IntsAre its ns:=by
 induction its with
 | nil=>intro ns h; cases ns with
  | nil=>exact .nil
  | cons n ns=>cases h
 | cons u us ih=>intro ns h; cases ns with
  | nil=>cases h
  | cons n ns=>
   cases h with
   | cons r t=>
    obtain ⟨tk,rfl⟩:=r
    exact .cons n tk (ih t)
end
end L2
namespace L2
open PySem PyProof.Rows
noncomputable def Own (f0 f1:Value):Prop:=(f0=.none\/∃ b:Nat,f0=rawInt b)/\(f1=.bool true\/f1=.bool false)
noncomputable def En (h:Heap) (e it:Addr) (i:Nat):Prop:=∃ f0 f1 old,Own f0 f1/\Fo h "enumerate" e #[f0,f1,.ref it,rawInt i,.none,old]
noncomputable abbrev qAl (x y:Value):Obj:=⟨.type "tuple",none,.seq #[x,y] 0,#[]⟩
theorem En.ty {s:Shared} {e it:Addr} {i:Nat} (x:En s.heap e it i):s.TypeIs (.ref e) "enumerate":=let ⟨_,_,_,_,o⟩:=x; ⟨_,o,rfl⟩
theorem En.lt {h:Heap} {e it:Addr} {i:Nat} (x:En h e it i):e<h.objs.size:=let ⟨_,_,_,_,o⟩:=x; wY o
theorem En.at {h h':Heap} {e it:Addr} {i:Nat} (x:En h e it i) (k:∀ o,h.get? e=some o->h'.get? e=some o):En h' e it i:=let ⟨f0,f1,u,w,o⟩:=x; ⟨f0,f1,u,w,k _ o⟩
section
variable {prog:Program} {w:World} {A:Around} {E:Value->Shared->Prop} {s:Shared} {e it:Addr} {fp:List Addr} {n:Nat} {P:Nat->Value->Prop} {S:Nat->Heap->Prop}
theorem owned? {c:String} {f0 f1 p q r u:Value} {Q:Bool->Shared->Prop} (own:Own f0 f1) (o:Fo s.heap c e #[f0,f1,p,q,r,u]) (yes:Q true s)
  (no:∀ h' g0,Own g0 (.bool true)->Fo h' c e #[g0,.bool true,p,q,r,u]->Q7 e s.heap h'->Q false { s with heap:=h' }):wpAny (model prog w) A (Builtin.SmallTypes.ownedTupleIsFree (.ref e)) Q E s:=by
 refine ask (k:=0) o rfl ?_
 obtain ⟨rfl | ⟨b,rfl⟩,h1⟩:=own
 ·exact wD yes
 refine alive (b:=b) ?_
 cases s.heap.get? b with
 | none=>exact wD yes
 | some _=>
  rcases h1 with rfl | rfl
  ·refine ask (k:=1) (x:=.bool true) o rfl (vF (fun z=>absurd z (by decide)) fun _=>wD ?_)
   exact no s.heap (rawInt b) ⟨.inr ⟨b,rfl⟩,.inl rfl⟩ o (Q7.refl _ _)
  ·refine ask (k:=1) (x:=.bool false) o rfl (vF (fun _=>?_) fun z=>absurd (by decide) z)
   exact put o (show 1<6 by decide) fun h' o' k' _=>wD (no h' (rawInt b) ⟨.inr ⟨b,rfl⟩,.inl rfl⟩ o' k')
theorem qJB {i:Nat} {Q:Value->Shared->Prop} (D:Draws prog w A it fp n P S) (en:En s.heap e it i) (st:S i s.heap) (lt:i<n) (ne:e≠it) (nf:e∉fp)
  (K:∀ x h1 h' t t',P i x->En h' e it (i+1)->S (i+1) h'->h'.get? s.heap.objs.size=some (qAl (.int i t) x)->Q7 it s.heap h1->Q7 e h1 h'->Q (.ref s.heap.objs.size) { s with heap:=h',toks:=t' }) :
  wpAny (model prog w) A (Builtin.«enumerate.__next__» ⟨[.ref e],[]⟩) (fun r s'=>∃ v,r=.done (.ret v)/\Q v s') E s:=by
 have el:=en.lt
 obtain ⟨f0,f1,old,own,o0⟩:=en
 refine ask (k:=2) o0 rfl ?_
 refine wB (D.item i _ _ _ lt st fun x h1 t px st1 same=>?_)
 have o1:Fo h1 "enumerate" e _:=(same.2 e ne).trans o0
 have z1:h1.objs.size=s.heap.objs.size:=same.1
 refine ask (s:={ s with heap:=h1,toks:=t }) (k:=3) o1 rfl (ask (k:=4) o1 rfl (wB (wpAny_mkInt ?_)))
 refine put (s:={ s with heap:=h1,toks:=t+1 }) (k:=3) o1 (show 3<6 by decide) fun h2 o2 k2 z2=>put (k:=4) o2 (show 4<6 by decide) fun h3 o3 k3 z3=>wB (wpAny_newTuple ?_)
 have z:h3.objs.size=s.heap.objs.size:=by
  replace z3:h3.objs.size=h2.objs.size:=z3
  replace z2:h2.objs.size=h1.objs.size:=z2
  omega
 have nE:s.heap.objs.size≠e:=gY el
 have k4:Q7 e h1 (h3.push (qAl (.int i t) x)):=((Q7.then k2 k3).new _)
 have o4:Fo (h3.push (qAl (.int i t) x)) "enumerate" e #[f0,f1,.ref it,rawInt ((i+1:Nat):Int),.none,old]:=wF _ o3
 have p4:(h3.push (qAl (.int i t) x)).get? s.heap.objs.size=some (qAl (.int i t) x):=z ▸ wR h3 (o:=qAl (.int i t) x) rfl
 have told:∀ h' t',En h' e it (i+1)->Q7 e (h3.push (qAl (.int i t) x)) h'->Q (.ref h3.objs.size) { s with heap:=h',toks:=t' }:=fun h' t' en' k'=>by
  rw [z]
  exact K x h1 h' t t' px en' (D.frame _ _ _ st1 fun c hc u y=>(k4.then k') c u (fun q=>nf (q ▸ hc)) y) (k' _ _ nE p4) (.of same) (k4.then k')
 refine wB (owned? (s:={ s with heap:=h3.push (qAl (.int i t) x),toks:=t+1 }) own o4 ?_ fun h' g0 own' o' k'=>wD ⟨_,rfl,told h' _ ⟨_,_,_,own',o'⟩ k'⟩)
 refine wB (gO (ask (k:=5) o4 rfl (put (k:=5) o4 (show 5<6 by decide) fun h5 o5 k5 _=>?_)))
 refine wB (put (k:=0) o5 (show 0<6 by decide) fun h6 o6 k6 _=>qMI (k:=1) o6 (show 1<6 by decide) fun h7 o7 k7 _=>?_)
 exact wB (ZS (wD ⟨_,rfl,told h7 _ ⟨_,_,_,⟨.inr ⟨h3.objs.size,rfl⟩,.inr rfl⟩,o7⟩ ((Q7.then k5 k6).then k7)⟩))
theorem qIg {i:Nat} {Q:Option Value->Shared->Prop} (D:Draws prog w A.in1 it fp n P S) (en:En s.heap e it i) (st:S i s.heap) (lt:i<n) (ne:e≠it) (nf:e∉fp)
  (K:∀ x h1 h' t t',P i x->En h' e it (i+1)->S (i+1) h'->h'.get? s.heap.objs.size=some (qAl (.int i t) x)->Q7 it s.heap h1->Q7 e h1 h'->Q (some (.ref s.heap.objs.size)) { s with heap:=h',toks:=t' }) :
  wpAny (model prog w) A (pyNext (.ref e)) Q E s:=
 wB (gQ (yL (name:=xB "__next__") en.ty kF (zW kF en.ty F.entry_enumerate_next
  (qJB D en st lt ne nf fun x h1 h' t t' a b c d k q=>wD (K x h1 h' t t' a b c d k q)) (UY _))))
theorem qIx {i:Nat} {Q:Option Value->Shared->Prop} (D:Draws prog w A.in1 it fp n P S) (en:En s.heap e it i) (st:S n s.heap) (K:∀ h',Q7 it s.heap h'->Q none { s with heap:=h' }):wpAny (model prog w) A (pyNext (.ref e)) Q E s:=by
 refine wB (gQ (yL (name:=xB "__next__") en.ty kF (zW kF en.ty F.entry_enumerate_next ?_ (UY _))))
 obtain ⟨_,_,_,_,o⟩:=en
 refine ask (k:=2) o rfl (wB (D.done _ _ _ st fun h' x k ⟨u,hu,cu⟩=>?_))
 exact wB (ZA (T:="StopIteration") (b:=true) ⟨u,hu,cu⟩ UF (wD (K h' k)))
end
noncomputable abbrev itO (l:Addr):Obj:=⟨.type "tuple_iterator",none,.fields #[.ref l,.int 0 0],#[]⟩
noncomputable abbrev enO (it:Addr):Obj:=⟨.type "enumerate",none,.fields #[.none,.bool false,.ref it,rawInt 0,.none,.none],#[]⟩
theorem qIn (l:Addr) (xs:Array Value) (m:Nat) (dd:Option Addr) (sl:Array (Option Value)) :
  Meets (Builtin.«enumerate.__new__» ⟨[.type "enumerate",.ref l],[]⟩) fun _ R s=>s.heap.get? l=some ⟨.type "tuple",dd,.seq xs m,sl⟩/\R (.ok (.ret (.ref (s.heap.push (itO l)).objs.size))) { s with heap:=(s.heap.push (itO l)).push (enO s.heap.objs.size) }:=
 .of_wp fun prog w A R ⟨h,g,d,t,os⟩ ⟨hl,k⟩=>by
  have sub:=sub_enumerate
  have tup:Heap.IsTuple (Shared.heap ⟨h,g,d,t,os⟩) l xs:=⟨_,hl,rfl,m,rfl⟩
  (wp_walk using UN hl); refine wpAny_stack_any fun _=>wD ?_
  split <;> (try (rename_i c _ _ _ _ _; cases c == VV "enumerate")) <;> (wp_walk using UN hl,WH tup; exact ⟨_,rfl,k⟩)
section
variable {prog:Program} {w:World} {A:Around} {E:Value->Shared->Prop} {s:Shared} {e it l:Addr} {xs:Array Value}
theorem qEA {Q:Value->Shared->Prop} (tup:s.heap.IsTuple l xs)
  (K:∀ h',Fo h' "enumerate" (s.heap.objs.size+1) (#[.none,.bool false,.ref s.heap.objs.size,rawInt 0,.none,.none])->h'.IsTupleIter s.heap.objs.size l 0->h'.objs.size=s.heap.objs.size+2->(∀ b o,s.heap.get? b=some o->h'.get? b=some o)->Q (.ref (s.heap.objs.size+1)) { s with heap:=h' }):wpAny (model prog w) A (call (.type "enumerate") [.ref l]) Q E s:=by
 obtain ⟨⟨c,dd,u,sl⟩,hl,hc,m,hd⟩:=tup
 cases (hc:c=.type "tuple")
 cases (hd:u=.seq xs m)
 refine callType_new F.called_enumerate (by decide) (F.typeCall_enumerate_1 _) (F.newCall_enumerate_1 _) (fun o=>F.args_object_init_2 o _) F.entry_enumerate_new (qIn l xs m dd sl) ⟨hl,?_⟩
 have z:(s.heap.push (itO l)).objs.size=s.heap.objs.size+1:=gF ..
 have o:Fo ((s.heap.push (itO l)).push (enO s.heap.objs.size)) "enumerate" (s.heap.objs.size+1) _:=z ▸ wR (s.heap.push (itO l)) (o:=enO s.heap.objs.size) rfl
 have fin:=K _ o ⟨itO l,wF _ (wR s.heap (o:=itO l) rfl),rfl,rfl⟩ (by rw [gF,z]) fun b o y=>wF _ (wF _ y)
 exact z.symm ▸ ⟨⟨_,o,rfl⟩,fin⟩
end
end L2
namespace L2
open PySem Spec
open PyProof.Rows
end L2
namespace L2
open PySem PySem.Spec PyProof.Rows
section
variable {prog:Program} {w:World} {A:Around} {E:Value->Shared->Prop} {s:Shared} {e it T:Addr} {i:Nat}
theorem qK8 {es:List Expr} {kx:Nat} {tp:Pos} {Q:Unit->Shared->Prop} (x:En s.heap e it i) (K:∀ h',En h' e it i->Q7 e s.heap h'->Q () { s with heap:=h' }):wpAny (model prog w) A (letOwnedTupleGo (.Tuple es kx tp) (.ref e) (.ref T)) Q E s:=by
 obtain ⟨f0,f1,old,own,o⟩:=id x
 delta letOwnedTupleGo
 refine wB (wpAny_load o ?_)
 refine vF (fun _=>?_) fun _=>wD (K s.heap x (Q7.refl _ _))
 refine wB (gO ?_)
 exact qMI (k:=0) o (show 0<6 by decide) fun h' o' k' _=>K h' ⟨.none,f1,old,⟨.inl rfl,own.2⟩,o'⟩ k'
end
noncomputable def Ite (l:Addr):It:=
 ⟨fun i H=>∃ xs x,H l=some (.tup xs)/\xs[i]? = some x,
  fun i H v H'=>∃ T,v=.ref T/\H T=none/\∀ xs x,H l=some (.tup xs)->xs[i]? = some x->H'=upd H T (.tup [.int i,x]),
  fun i H=>∃ xs,H l=some (.tup xs)/\xs.length=i⟩
noncomputable def qLl (e it l:Addr) (i:Nat) (h:Heap):Prop:=En h e it i/\h.IsTupleIter it l i
theorem qLl.obj {e it l:Addr} {i:Nat} {h:Heap} (st:qLl e it l i h):∀ b∈[e,it],∃ o,h.get? b=some o/\∀ v,o.data≠.cell v:=by
 obtain ⟨⟨f0,f1,old,_,o⟩,o2,e2,c2,d2⟩:=st
 intro b hb
 rcases wZ.mp hb with z | z
 ·rw [z]
  exact ⟨_,o,fun v q=>by cases (show Data.fields _=Data.cell v from q)⟩
 ·rw [zB.mp z]
  exact ⟨_,e2,fun v q=>by rw [d2] at q; cases q⟩
theorem qHV {P:Program} {w:World} {K:wG} {es:List Expr} {kx:Nat} {tp:Pos} {e it:Addr} (l:Addr) (ne:e≠it) :
  Turn P w K (.Tuple es kx tp) (Ite l) [e,it] e (qLl e it l) where
 mem:=by simp
 obj:=fun i h st=>st.obj
 keep:=fun i h h' st kk=>⟨st.1.at fun o y=>kk e (by simp) o y,st.2.at fun o y=>kk it (by simp) o y⟩
 item:=by
  intro X hP hw hK hc i pins s σ H E I hf st hg
  subst hP hw hK
  obtain ⟨xs,x,h1,hx⟩:=hg
  obtain ⟨its,rv,p1,_⟩:=I.tuple (SqT.of (K:=X.K) h1)
  obtain ⟨u,hu,ru⟩:=rv.get hx
  have hn:∀ b∈[e,it],H b=none:=fun b hb=>(hf b hb).1
  have nl:l≠it:=fun q=>by subst q; rw [hn l (by simp)] at h1; cases h1
  have el:e∉[it,l]:=fun q=>by
   rcases wZ.mp q with z | z
   ·exact ne z
   ·rw [<- zB.mp z,hn e (by simp)] at h1
    cases h1
  have a1:i<its.toArray.size:=by simpa using (wL.mp hu).1
  have hh:X.A.in1.handled=none:=I.ok.hd hc
  refine qIg (qIT hh it l nl its.toArray) st.1 ⟨st.2,p1⟩ a1 ne el fun x' ha h' t t' q1 q2 q3 q4 k1 k2=>?_
  have ex:x'=u:=by
   have q1':its.toArray[i]? = some x':=q1
   rw [ZP,hu] at q1'
   exact (zF q1').symm
  subst ex
  have hfr:H s.heap.objs.size=none:=I.hok.fresh (wK _)
  have nch:∀ b o,s.heap.get? b=some o->b≠s.heap.objs.size:=fun b o y=>zH (wY y)
  have kk:∀ b o,b∉[e,it]->s.heap.get? b=some o->h'.get? b=some o:=fun b o hb y=>k2 b o (fun q=>hb (by simp [q])) (k1 b o (fun q=>hb (by simp [q])) y)
  have ntr:∀ b u,H b=some u->b∉[e,it]:=fun b u y hb=>by rw [hn b hb] at y; cases y
  have I1:Inv X pins σ (upd H s.heap.objs.size (.tup [.int i,x])) { s with heap:=h',toks:=t' }:=by
   refine I.step (g':=s.gens) (d':=s.drawn) (ch:=[e,it]) (fun b hb=>?_) (fun b o _ _ hb y _=>kk b o hb y) (fun b o _ _ hb y _=>⟨o.slots,kk b o hb y⟩) (fun b o _ y n=>by rw [qN (nch b o y)]; exact n)
    (fun b o hb y=>⟨o,kk b o hb y⟩) (fun b xs y=>qV.new hfr _ _ y) (fun b o u y=>qV.new hfr _ _ y) (fun b ps y=>⟨#[],by rw [qV.new hfr _ _ y]; simp⟩) (fun m hm=>?_) (fun b u y=>?_) I.bare
   ·obtain ⟨_,f1,_,f3,f4,f5⟩:=hf b hb
    exact ⟨f3,f1,f4,f5⟩
   ·obtain ⟨o,es',ep,ho,r⟩:=hm
    exact ⟨o,es',ep,kk _ o (fun hb=>(hf _ hb).2.1 rfl) ho,r⟩
   ·by_cases hb:b=s.heap.objs.size
    ·subst hb
     rw [qJ] at y
     cases y
     exact ⟨by show 2<=sizeLine; decide,[.int i t,x'],.cons ⟨_,rfl⟩ (.cons ru .nil),⟨_,q4,rfl,_,rfl⟩,fun o' y'=>by rw [q4] at y'; cases y'; rfl⟩
    ·rw [qN hb] at y
     refine (I.hok b u y).stay (fun c' v hc' q=>kk c' v ?_ q) (fun c' q=>qV.new hfr _ _ q) fun c' xs' q=>qV.new hfr _ _ q
     rcases hc' with q0 | q0
     ·rw [q0]; exact ntr b u y
     ·exact ntr c' _ q0
  refine ⟨.ref s.heap.objs.size,rfl,qK8 (s:={ s with heap:=h',toks:=t' }) q2 fun h'' en'' past=>?_⟩
  have el2:e≠s.heap.objs.size:=zH st.1.lt
  obtain ⟨_,f1,_,f3,f4,f5⟩:=hf e (by simp)
  refine ⟨.ref s.heap.objs.size,upd H s.heap.objs.size (.tup [.int i,x]),I1.turned (it:=e) (t':=t') (fun b o hb y=>past b o hb y) (by rw [qN el2]; exact hn e (by simp)) f1 f3 f4 f5,rfl,
   ⟨_,rfl,hfr,fun xs' x'' e1 e2=>?_⟩,⟨en'',q3.1.at fun o y=>past it o ne.symm y⟩,fun b hb=>?_⟩
  ·rw [h1] at e1
   cases e1
   rw [hx] at e2
   cases e2
   rfl
  ·obtain ⟨o,y,_⟩:=st.obj b hb
   rw [qN (nch b o y)]
   exact hn b hb
 done:=by
  intro X hP hw hK hc i pins s σ H E I hf st hg
  subst hP hw hK
  obtain ⟨xs,h1,hl⟩:=hg
  obtain ⟨its,rv,p1,_⟩:=I.tuple (SqT.of (K:=X.K) h1)
  have hn:∀ b∈[e,it],H b=none:=fun b hb=>(hf b hb).1
  have nl:l≠it:=fun q=>by subst q; rw [hn l (by simp)] at h1; cases h1
  have hh:X.A.in1.handled=none:=I.ok.hd hc
  have ll:i=its.toArray.size:=by
   have n1:=rv.length
   simp only [wJ]
   omega
  refine qIx (qIT hh it l nl its.toArray) st.1 ⟨by rw [<- ll]; exact st.2,p1⟩ fun h' past=>⟨rfl,?_⟩
  obtain ⟨z,f1,_,f3,f4,f5⟩:=hf it (by simp)
  exact I.turned (it:=it) (t':=s.toks) (fun b o hb y=>past b o hb y) z f1 f3 f4 f5
 self:=fun _ _ s _ _ st h=>by
  have ty:=st.1.ty
  refine fO ty F.slot_enumerate_iter (zW F.slot_enumerate_iter ty F.entry_enumerate_iter ?_ (F.args_enumerate_iter_1 _))
  exact wD ⟨_,rfl,"enumerate",_,ty,kF.lookup,h⟩
section
variable {X:Cx}
noncomputable def qMm (ta:TA):TI:=fun σ H R=>ta σ H fun vs H1=>∃ l,vs=[.ref l]/\(∃ xs,H1 l=some (.tup xs))/\R (Ite l) H1
theorem qKa {es:List Expr} {kx:Nat} {tp:Pos} {a:Expr} {ta:TA} {p pos:Pos} (hg:Gl X "enumerate") (hm:X.mg "enumerate" = none) (ha:PA X [a] ta) (hs:starEach [a] X.env=[(false,eval a X.env)]:=by rfl) (hs2:starEach [] X.env=[]:=by rfl) :
  PI X (.Tuple es kx tp) (.Call (.Name "enumerate" p) [a] [] pos) (qMm ta):=by
 intro pins s σ H R I h
 refine Call_ (JT I hg hm boot_enumerate (xY (thn (ha pos pins s σ H _ I h) fun us s1 ⟨vs,H1,I1,r1,q1⟩=>?_) (by rw [hs,hs2]) (by rw [hs2]; rfl)))
 obtain ⟨l,rfl,⟨xs,h1⟩,q⟩:=q1
 obtain ⟨u,rfl,r2⟩:=vals1 r1
 cases r2
 obtain ⟨its,_,p1,_⟩:=I1.tuple (SqT.of (K:=X.K) h1)
 refine qEA p1 fun h' o it z kk=>?_
 have st:qLl (s1.heap.objs.size+1) s1.heap.objs.size l 0 h':=⟨⟨_,_,_,⟨.inl rfl,.inr rfl⟩,o⟩,it⟩
 have new:∀ b∈[s1.heap.objs.size+1,s1.heap.objs.size],s1.heap.objs.size<=b:=fun b hb=>by
  rcases wZ.mp hb with y | y
  ·rw [y]; exact uN _
  ·rw [zB.mp y]; exact wK _
 have T:=qHV (P:=X.prog) (w:=X.w) (K:=X.K) (es:=es) (kx:=kx) (tp:=tp) l (Nat.succ_ne_self s1.heap.objs.size)
 refine T.self _ 0 { s1 with heap:=h' } _ _ st ⟨_,[s1.heap.objs.size+1,s1.heap.objs.size],_,Ite l,H1,rfl,I1.kept (t':=s1.toks) kk,T,st,fun b hb=>I1.fpOk (new b hb) (I1.hok.fresh (new b hb)),q⟩
end
end L2
namespace L2
open PySem PySem.Spec PyProof.Rows PySem.W
noncomputable def Raw (h:Heap) (d:Addr) (es:Array DictEntry) (ep:Nat):Prop:=∃ o,h.get? d=some o/\o.ExactDict/\o.data=.dict es ep
theorem Raw.at {h h':Heap} {d:Addr} {es:Array DictEntry} {ep:Nat} (x:Raw h d es ep) (k:∀ o,h.get? d=some o->h'.get? d=some o):Raw h' d es ep:=let ⟨o,y,z⟩:=x; ⟨o,k o y,z⟩
theorem Raw.low {h:Heap} {d:Addr} {es:Array DictEntry} {ep:Nat} (x:Raw h d es ep):d<h.objs.size:=let ⟨_,y,_⟩:=x; wY y
theorem Raw.ty {s:Shared} {d:Addr} {es:Array DictEntry} {ep:Nat} (x:Raw s.heap d es ep):s.TypeIs (.ref d) "dict":=let ⟨o,y,z,_⟩:=x; ⟨o,y,z.1⟩
noncomputable abbrev kit (d:Addr) (i n ep:Nat):Obj:=⟨.type "dict_keyiterator",none,.fields #[.ref d,.int i 0,.int n 0,.int ep 0],#[]⟩
section
variable {prog:Program} {w:World} {A:Around} {E:Value->Shared->Prop} {s:Shared} {d v it:Addr} {es:Array DictEntry} {ep:Nat}
theorem qGr {i:Nat} {Q:Option Value->Shared->Prop} (hi:s.heap.get? it=some (kit d i es.size ep)) (x:Raw s.heap d es ep) (l:i<es.size) (K:∀ h',h'.get? it=some (kit d (i+1) es.size ep)->Q7 it s.heap h'->Q (some es[i].key) { s with heap:=h' }):wpAny (model prog w) A (pyNext (.ref it)) Q E s:=by
 obtain ⟨⟨oc,od,odt,osl⟩,y,z1,z2⟩:=id x
 obtain ⟨c1,c2⟩:=id z1
 cases (show oc=.type "dict" from c1)
 cases (show odt=.dict es ep from z2)
 have ty:s.TypeIs (.ref it) "dict_keyiterator":=⟨_,hi,rfl⟩
 delta pyNext
 refine wB (gQ (yL (name:=xB "__next__") ty xG (zW xG ty ZZ ?_ (ZW _))))
 repeat' first | assumption | wp_step
 rw [if_neg (by omega),yG,wV l]
 repeat' first | assumption | wp_step
 rw [if_neg (c:=Builtin.Dict_items.ownsTuple ((Manifest.find? "dict_keyiterator").elim "dict_keyiterator" fun x=>x.tpName)=true) (by decide +kernel),if_neg (by decide +kernel)]
 exact ⟨_,rfl,wD (K _ (vO _ hi rfl) (.of (yO ..)))⟩
theorem qEz {i:Nat} {Q:Option Value->Shared->Prop} (hh:A.handled=none) (hi:s.heap.get? it=some (kit d i es.size ep)) (x:Raw s.heap d es ep) (l:es.size<=i) (K:∀ h' tk,Q7 it s.heap h'->Q none { s with heap:=h',toks:=tk }):wpAny (model prog w) A (pyNext (.ref it)) Q E s:=by
 obtain ⟨⟨oc,od,odt,osl⟩,y,z1,z2⟩:=id x
 obtain ⟨c1,c2⟩:=id z1
 cases (show oc=.type "dict" from c1)
 cases (show odt=.dict es ep from z2)
 have ty:s.TypeIs (.ref it) "dict_keyiterator":=⟨_,hi,rfl⟩
 delta pyNext
 refine wB (gQ (yL (name:=xB "__next__") ty xG (zW xG ty ZZ ?_ (ZW _))))
 repeat' first | assumption | wp_step
 rw [if_neg (by omega),yG,xM l]
 repeat' first | assumption | wp_step
 exact ZV hh (wB (ZA (T:="StopIteration") (b:=true) ⟨_,wR _ rfl,rfl⟩ UF (wD (K _ _ (((Q7.of (yO ..)).new _).new _)))))
noncomputable def qKm (es:Array DictEntry) (i:Nat) (v:Value):Prop:=∃ e,es[i]? = some e/\v=e.key
theorem qFU (calm:A.handled=none) (apart:d≠it):Walks prog w A it [it,d] [it] es.size (qKm es) (fun i h=>h.get? it=some (kit d i es.size ep)/\Raw h d es ep) where
 sub:=fun b hb=>by rw [zB.mp hb]; exact wN
 frame:=fun i h h' st k=>⟨k it wN _ st.1,st.2.at fun o e=>k d (wQ _ wN) o e⟩
 item:=fun i s Q E hi st hQ=>qGr st.1 st.2 hi fun h' y past=>hQ _ h' s.toks ⟨_,wV hi,rfl⟩ ⟨y,st.2.at fun o e=>past d o apart e⟩ fun b o hb e=>past b o (fun z=>hb (by rw [z]; exact wN)) e
 done:=fun s Q E st hQ=>qEz calm st.1 st.2 (wK _) fun h' tk past=>hQ h' tk fun b o hb e=>past b o (fun z=>hb (by rw [z]; exact wN)) e
 self:=fun i s Q E st hQ=>wpAny_pyIter_keyiter ⟨_,st.1,rfl,rfl⟩ hQ
end
end L2
namespace LSo
open PySem PySem.W PyProof.Rows
section
variable {prog:Program} {w:World} {A:Around} {E:Value->Shared->Prop} {s:Shared}
theorem qEN {T:String} {r d:Addr} {n:Nat} {P:Nat->Value->Prop} {OK:Heap->Prop} {vs:List Value} {nss:List (List Int)} {Q:Value->Shared->Prop} (hu:A.units+8<cLine) (calm:A.handled=none) (K:KdlSrc prog w T r d n P OK) (ok:OK s.heap)
  (all:∀ acc:Array Value,ItemsOf P acc n->acc.toList=vs) (hn:n=vs.length) (rw':Rows s.heap vs nss) (h64:vs.length<64)
  (h:∀(p:Array Nat) (h1 h2:Heap) (m tk:Nat),Pm vs.length p->(∀ b o,s.heap.get? b=some o->h1.get? b=some o)->(∀ b o,h1.get? b=some o->h2.get? b=some o)->h2.get? h1.objs.size=some (seqObj "list" (JH vs p) m)->Q (.ref h1.objs.size) { s with heap:=h2,toks:=tk }):wpAny (model prog w) A (call (.builtin "sorted") [.ref r]) Q E s:=by
 have fit:vs.length<=sizeLine:=zC (vQ h64) (by rw [vG]; decide)
 refine kT kind_sorted plain_sorted entry_sorted (args_sorted1 _) (wB (m:=checkCount "sorted" 1 1 _) (wD (wB (kdu_collect (A:=A.in1) K calm ok (by rw [hn]; exact fit) fun h1 tk acc k1 it=>?_))))
 rw [all acc it]
 refine wB (fT ?_ fit)
 have oL:(h1.push (seqObj "list" vs.toArray 0)).get? h1.objs.size=some (seqObj "list" vs.toArray 0):=wR h1 rfl
 have apart:∀ b u,h1.get? b=some u->b≠h1.objs.size:=fun b u y=>zH (wY y)
 have r2:Rows (qy (h1.push (seqObj "list" vs.toArray 0)) h1.objs.size vs) vs nss:=rw'.kept fun b u y=>qAW (apart b u (k1 b u y)) (wF _ (k1 b u y))
 obtain ⟨fs,f1,f2,f3⟩:=r2.firsts
 refine wB (yS (zW slot_list_sort (s:={ s with heap:=h1.push (seqObj "list" vs.toArray 0),toks:=tk }) ⟨_,oL,rfl⟩ entry_list_sort (qEG (κ:=tuples' true) (key:=fun i=>nss.getD i []) (O:=qLT) oL h64 (fun hv Q hq=>kat_kind (T:=.type "int") f1 (by omega) (fun v hv=>?_) (by decide) hq) (Yd ?_ r2) fun p P1=>?_) (args_list_sort _)))
 ·obtain ⟨n,t,rfl⟩:=f3 v hv
  exact fun A Q E s' _ hq=>xZ (ZG s' n t) hq
 ·show A.units+1+1<cLine
  omega
 ·obtain ⟨m,om⟩:=Q0 (out:=JH vs p) oL
  exact ⟨_,rfl,wD ⟨_,rfl,h p h1 _ m tk P1 k1 (fun b u y=>Q3 (apart b u y) (wF _ y)) om⟩⟩
end
end LSo
namespace L2
open PySem PySem.Spec PyProof.Rows PySem.W
noncomputable def qBz (td:TE):TE:=fun σ H Q=>td σ H fun x H1=>∃(a:Addr) (kvs:List (List Key×V)) (nss:List (List Int)),x=.ref a/\H1 a=some (.dT kvs)/\kvs.map (·.1)=nss.map (fun ns=>ns.map xT)/\(∀ ns∈nss,ns≠[])/\nss.length<64/\
 ∀(bs:List Addr) (is:List Nat) (l:Addr),bs.length=nss.length->(∀ i b,bs[i]? = some b->H1 b=some (.tup ((nss.getD i []).map V.int)))->is.Perm (wO nss.length)->H1 l=none->Q (.ref l) (upd H1 l (.lst (is.map fun i=>(bs.map V.ref).getD i V.non)))
section
variable {X:Cx} {pins:List (Addr×Obj)} {σ:St} {H:Hp} {s:Shared}
theorem qJN (I:Inv X pins σ H s):∀{kvs:List (List Key×V)} {xs:List (List Key×Addr×Value)} {nss:List (List Int)},KT H kvs xs->kvs.map (·.1)=nss.map (fun ns=>ns.map xT)->(∀ ns∈nss,ns≠[])->
  LSo.Rows s.heap (xs.map fun x=>yF x.2.1) nss/\∀ i b,(xs.map fun x=>x.2.1)[i]? = some b->H b=some (.tup ((nss.getD i []).map V.int)):=by
 intro kvs xs nss r
 induction r generalizing nss with
 | nil=>
  intro e hn
  cases nss with
  | nil=>exact ⟨trivial,fun i b z=>by simp at z⟩
  | cons a l=>cases e
 | @cons p q ps qs hq t ih=>
  intro e hn
  cases nss with
  | nil=>cases e
  | cons ns nss=>
   obtain ⟨e1,e2⟩:=hE e
   obtain ⟨r1,r2⟩:=ih e2 fun m hm=>hn m (wQ _ hm)
   have hb:H q.2.1=some (.tup (ns.map V.int)):=by
    have:=hq.2.1
    rw [show p.1=ns.map xT from e1,zE] at this
    exact this
   obtain ⟨js,q1,q2,_⟩:=I.tuple (SqT.of (K:=X.K) hb)
   refine ⟨⟨⟨q.2.1,_,rfl,q2,intsAre_of q1,hn ns wN⟩,r1⟩,fun i b z=>?_⟩
   cases i with
   | zero=>
    cases z
    exact hb
   | succ i=>exact r2 i b z
theorem qCJ:∀ xs:List (List Key×Addr×Value),qt ((xs.map fun x=>x.2.1).map V.ref) (xs.map fun x=>yF x.2.1)
 | []=>.nil
 | _::xs=>.cons rfl (qCJ xs)
end
theorem qHP {prog:Program} {w:World} {A:Around} {E:Value->Shared->Prop} {s:Shared} {d:Addr} {es:Array DictEntry} {ep:Nat} {Q:Value->Shared->Prop} (x:Raw s.heap d es ep) (hd:(d == sysModules)=false) (K:Q (.ref s.heap.objs.size) { s with heap:=s.heap.push (kit d 0 es.size ep) }):wpAny (model prog w) A (pyIter (.ref d)) Q E s:=by
 have ty:=x.ty
 obtain ⟨⟨oc,od,odt,osl⟩,y,z1,z2⟩:=id x
 obtain ⟨c1,c2⟩:=id z1
 cases (show oc=.type "dict" from c1)
 cases (show odt=.dict es ep from z2)
 refine fO ty PySem.F.slot_dict_iter (zW PySem.F.slot_dict_iter ty PySem.F.entry_dict_iter ?_ (PySem.F.args_dict_iter_1 _))
 delta Builtin.«dict.__iter__»
 wp_walk using ZL y
 exact ⟨_,rfl,"dict_keyiterator",_,⟨_,wR _ rfl,rfl⟩,xG.lookup,K⟩
noncomputable abbrev atKey (ob:Obj) (n:Nat) (a it:Addr) (i:Nat) (h:Heap):Prop:=∃ es ep,ob.data=.dict es ep/\es.size=n/\h.get? it=some (kit a i n ep)
theorem qHR {prog:Program} {w:World} {d:Addr} {es:Array DictEntry} {ep:Nat} (hd:(d == sysModules)=false):KdlSrc prog w "dict" d d es.size (qKm es) (fun h=>Raw h d es ep) where
 type:=fun s x=>x.ty
 there:=fun h x=>⟨x.low,x.low⟩
 keep:=fun h h' x k=>x.at fun o e=>k d (.inl rfl) o e
 notList:=by decide
 notTuple:=by decide
 hint:=fun A E s Q x q=>kdl_hint_dict x.ty q
 iter:=fun A s calm x=>⟨_,_,fun E Q q=>qHP x hd q,qFU calm (zH x.low),⟨wR _ rfl,x.at fun o e=>wF _ e⟩⟩
section
variable {X:Cx}
noncomputable def qBv:List V->Hp->VK->Prop:=fun us H Q=>∃(a:Addr) (kvs:List (List Key×V)) (nss:List (List Int)),us=[.ref a]/\H a=some (.dT kvs)/\kvs.map (·.1)=nss.map (fun ns=>ns.map xT)/\(∀ ns∈nss,ns≠[])/\nss.length<64/\
 ∀(bs:List Addr) (is:List Nat) (l:Addr),bs.length=nss.length->(∀ i b,bs[i]? = some b->H b=some (.tup ((nss.getD i []).map V.int)))->is.Perm (wO nss.length)->H l=none->Q (.ref l) (upd H l (.lst (is.map fun i=>(bs.map V.ref).getD i V.non)))
theorem qAe (hc:X.calm=true) (hu:X.A.units+64<cLine):QB X (.builtin "sorted") qBv:=by
 intro pins s1 σ H1 xs us Q I1 rv h
 obtain ⟨a,kvs,nss,ex,ea,ek,en,e64,q⟩:=h
 subst ex
 obtain ⟨u,rfl,rx⟩:=vals1 rv
 obtain rfl:u=yF a:=rx
 obtain ⟨z,hd,xs,rel,ob,es,ep,g1,g2,g3,g4,g5,g6⟩:=qLf I1.hok ea
 have raw:Raw s1.heap a es ep:=⟨ob,g1,g2,g3⟩
 have I2:=I1
 obtain ⟨rows,at_⟩:=qJN I2 rel ek en
 have lx:xs.length=nss.length:=by
  have h1:=fQ rel
  have h2:=congrArg fJ ek
  rw [wA,wA] at h2
  omega
 have ls:es.size=xs.length:=by
  rw [<- wH,g4,wA]
 refine LSo.qEN (by omega) (I1.ok.hd hc) (qHR (es:=es) (ep:=ep) hd) raw (vs:=xs.map fun x=>yF x.2.1) (fun acc it=>?_) (by rw [wA]; exact ls) rows (by rw [wA,lx]; exact e64) fun p h1 h2 m tk P1 k2 k3 new=>?_
 ·obtain ⟨i1,i2⟩:=it
  apply xV
  intro j
  rw [zX,wI]
  by_cases hj:j<es.size
  ·have hj':j<xs.length:=by omega
   obtain ⟨e,y1,y2⟩:=i2 j (acc[j]'(by omega)) (wV (by omega))
   rw [wV (by omega),y2,wC hj']
   have y3:es.toList[j]? = some e:=by rw [zX]; exact y1
   rw [g4,wI,wC hj'] at y3
   rw [<- zF y3]
   rfl
  ·rw [xM (by omega),vP (by omega)]
   rfl
 have I3:Inv X pins σ H1 { s1 with heap:=h1,toks:=tk }:=I2.kept (t':=tk) k2
 have rv:=qCJ xs
 have ly:((xs.map fun x=>x.2.1).map V.ref).length=xs.length:=by rw [wA,wA]
 have pl:p.toList.Perm (wO xs.length):=by
  have y:=P1.pm
  rw [fE,wA] at y
  exact y
 have pin:∀ i∈p.toList,i<((xs.map fun x=>x.2.1).map V.ref).length:=fun i hi=>by
  have:=zM.mp (pl.mem_iff.mp hi)
  omega
 have hl:p.toList.length<=sizeLine:=by
  rw [pl.length_eq,zR,vG]
  omega
 refine ⟨.ref h1.objs.size,upd H1 h1.objs.size (.lst (p.toList.map fun i=>((xs.map fun x=>x.2.1).map V.ref).getD i V.non)),I3.laid (t':=tk) k3 (wK _) ?_,rfl,q (xs.map fun x=>x.2.1) p.toList _ (by rw [wA]; exact lx) at_ (by rw [<- lx]; exact pl) (I3.hok.fresh (wK _))⟩
 refine ⟨by rw [wA]; exact hl,(p.toList.map fun i=>(xs.map fun x=>yF x.2.1).getD i xF),m,Jd rv _ pin,?_⟩
 rw [new]
 rfl
end
end L2
namespace L2
open PySem
noncomputable abbrev ST:=SetTable
noncomputable def qJ0 (xs:Array Nat):Prop:=∀ a b (ha:a<b) (hb:b<xs.size),xs[a]<xs[b]
theorem qJ0.le {xs:Array Nat} (R:qJ0 xs) {a b:Nat} (h:a<=b) (hb:b<xs.size):xs[a]<=xs[b]:=by
 rcases fF h with z | z
 ·exact vQ (R a b z hb)
 ·subst z
  exact wK _
theorem qCb {xs:Array Nat} {k:Nat} (h:k<xs.size) (d:Nat):xs.getD k d=xs[k]:=by
 rw [vS,wV h]
 rfl
structure Cut (xs:Array Nat) (j r:Nat):Prop where
 le:r<=xs.size
 lt:∀ k (h:k<r) (hk:k<xs.size),xs[k]<j
 ge:∀ k (h:r<=k) (hk:k<xs.size),j<=xs[k]
theorem qFw {xs:Array Nat} (R:qJ0 xs) (j:Nat):∀(fuel lo hi:Nat),lo<=hi->hi<=xs.size->hi - lo<=fuel->(∀ k (h:k<lo) (hk:k<xs.size),xs[k]<j)->(∀ k (h:hi<=k) (hk:k<xs.size),j<=xs[k])->Cut xs j (SetTable.below.go xs j fuel lo hi)
 | 0,lo,hi,h1,h2,h3,h4,h5=>by
  have e:lo=hi:=by omega
  subst e
  exact ⟨h2,h4,h5⟩
 | fuel+1,lo,hi,h1,h2,h3,h4,h5=>by
  unfold SetTable.below.go
  by_cases z:lo<hi
  ·rw [if_pos z]
   have m1:(lo+hi) / 2<xs.size:=by omega
   dsimp only
   rw [qCb m1]
   by_cases y:xs[(lo+hi) / 2]<j
   ·rw [if_pos y]
    refine qFw R j fuel _ hi (by omega) h2 (by omega) (fun k hk hs=>?_) h5
    exact yE (R.le (show k<=(lo+hi) / 2 by omega) m1) y
   ·rw [if_neg y]
    refine qFw R j fuel lo _ (by omega) (by omega) (by omega) h4 fun k hk hs=>?_
    exact zC (vL y) (R.le hk hs)
  ·rw [if_neg z]
   have e:lo=hi:=by omega
   subst e
   exact ⟨h2,h4,h5⟩
theorem Qo {xs:Array Nat} (R:qJ0 xs) (j:Nat):Cut xs j (vB xs j):=qFw R j xs.size 0 xs.size (zP _) (wK _) (by omega) (fun k h=>absurd h (kC _)) fun k h hk=>absurd hk (UE.mpr h)
structure Tab (t:ST) (n:Nat):Prop where
 rise:qJ0 t.place
 size:t.place.size=n
 bare:t.dummies = #[]
 mask:∀ k (h:k<t.place.size),t.place[k]<=t.mask
theorem YE {t:ST} {n:Nat} (T:Tab t n) {j i:Nat} (h:t.place[i]? = some j):t.slot j=.live i:=by
 obtain ⟨hi,e⟩:=uH.mp h
 have c:=Qo T.rise j
 have eb:vB t.place j=i:=by
  refine VR (vL fun z=>?_) (vL fun z=>?_)
  ·have:=c.lt i z hi
   omega
  ·have:=c.ge _ (wK _) (Nat.lt_trans z hi)
   have:=T.rise _ _ z hi
   omega
 unfold SetTable.slot
 dsimp only
 rw [eb,h]
 simp
theorem qEW {t:ST} {n:Nat} (T:Tab t n) {j:Nat} (h:∀ i:Nat,t.place[i]?≠some j):t.slot j=.empty:=by
 unfold SetTable.slot
 dsimp only
 have e1:(t.place[vB t.place j]? == some j)=false:=beq_eq_false_iff_ne.mpr (h _)
 have e2:SetTable.has t.dummies j=false:=by
  rw [T.bare]
  rfl
 rw [e1,e2]
 rfl
theorem qCu {t:ST} {n:Nat} (T:Tab t n) (j:Nat):t.slot j=.empty\/∃ i:Nat,t.slot j=.live i/\t.place[i]? = some j:=by
 by_cases h:∃ i:Nat,t.place[i]? = some j
 ·obtain ⟨i,hi⟩:=h
  exact .inr ⟨i,YE T hi,hi⟩
 ·exact .inl (qEW T fun i z=>h ⟨i,z⟩)
noncomputable def qE (t:ST) (h:Int):Nat->SetTable.Probe
 | 0=>t.probeStart h
 | n+1=>t.advance (qE t h n)
noncomputable def ql (mask:Nat) (b:Nat):Nat->Nat×Nat
 | 0=>(b % (mask+1),b)
 | k+1=>xS mask (ql mask b k).1 (ql mask b k).2
theorem JP (mask b:Nat):∀ k,(ql mask b k).2=b / 32 ^ k
 | 0=>by
  show b=b / 1
  rw [Nat.div_one]
 | k+1=>by
  show (ql mask b k).2 / 32=_
  rw [JP mask b k,Nat.div_div_eq_div_mul,Nat.pow_succ]
theorem qB8 (mask b:Nat):∀ k,(ql mask b k).1<=mask
 | 0=>vT (WK _ (ZI _))
 | _+1=>vT (WK _ (ZI _))
structure qFl (t:ST) (h:Int) (k n:Nat):Prop where
 few:n<=10*k
 j:(qE t h n).j=(ql t.mask (wW h) k).1
 i:(qE t h n).i=(ql t.mask (wW h) k).1
 p:(qE t h n).perturb=(ql t.mask (wW h) k).2
 more:(qE t h n).more=xD t.mask (ql t.mask (wW h) k).1 - (ql t.mask (wW h) k).1
theorem qAD (t:ST) (h:Int) {n:Nat}:∀ r,r<=(qE t h n).more->(qE t h (n+r)).j=(qE t h n).j+r/\(qE t h (n+r)).i=(qE t h n).i/\(qE t h (n+r)).perturb=(qE t h n).perturb/\(qE t h (n+r)).more=(qE t h n).more - r
 | 0,_=>⟨rfl,rfl,rfl,rfl⟩
 | r+1,hr=>by
  obtain ⟨h1,h2,h3,h4⟩:=qAD t h r (Nat.le_of_succ_le hr)
  have e:qE t h (n+(r+1)) = { qE t h (n+r) with j:=(qE t h (n+r)).j+1,more:=(qE t h (n+r)).more - 1 }:=by
   show t.advance (qE t h (n+r))=_
   unfold kP
   rw [if_pos (by omega)]
  rw [e]
  dsimp only
  exact ⟨by omega,h2,h3,by omega⟩
theorem qD7 (t:ST) (h:Int):∀ k,∃ n,qFl t h k n
 | 0=>⟨0,wK _,rfl,rfl,rfl,rfl⟩
 | k+1=>by
  obtain ⟨n,b⟩:=qD7 t h k
  obtain ⟨h1,h2,h3,h4⟩:=qAD t h (n:=n) (qE t h n).more (wK _)
  have m9:(qE t h n).more<=9:=by
   rw [b.more]
   unfold xD
   split <;> omega
  have e:qE t h (n+(qE t h n).more+1) = { qE t h (n+(qE t h n).more) with j:=(xS t.mask (ql t.mask (wW h) k).1 (ql t.mask (wW h) k).2).1,more:=xD t.mask (xS t.mask (ql t.mask (wW h) k).1 (ql t.mask (wW h) k).2).1 - (xS t.mask (ql t.mask (wW h) k).1 (ql t.mask (wW h) k).2).1,i:=(xS t.mask (ql t.mask (wW h) k).1 (ql t.mask (wW h) k).2).1,perturb:=(xS t.mask (ql t.mask (wW h) k).1 (ql t.mask (wW h) k).2).2 }:=by
   show t.advance (qE t h (n+(qE t h n).more))=_
   unfold kP
   rw [if_neg (by omega),h2,h3,b.i,b.p]
  refine ⟨n+(qE t h n).more+1,?_,?_,?_,?_,?_⟩
  ·have:=b.few
   omega
  ·rw [e]; rfl
  ·rw [e]; rfl
  ·rw [e]; rfl
  ·rw [e]; rfl
noncomputable def qHe (m i:Nat):Nat:=(i*5+1) % m
noncomputable def qAu (m:Nat):Nat->Nat->Nat
 | 0,i=>i
 | q+1,i=>qHe m (qAu m q i)
theorem Jf (m a:Nat) (i:Nat):∀ b,qAu m (a+b) i=qAu m b (qAu m a i)
 | 0=>rfl
 | b+1=>congrArg (qHe m) (Jf m a i b)
noncomputable def qJL (m:Nat):Nat->Nat->List Nat
 | 0,_=>[]
 | k+1,i=>i::qJL m k (qHe m i)
noncomputable def qJn (m:Nat):Bool:=(wO m).all (fun e=>(qJL m m 0).contains e) && qAu m m 0 == 0
theorem Yx {m:Nat}:∀{k i e:Nat},e∈qJL m k i->∃ q,q<k/\qAu m q i=e
 | 0,i,e,h=>absurd h yM
 | k+1,i,e,h=>by
  rcases wZ.mp h with z | z
  ·exact ⟨0,ZI _,z.symm⟩
  ·obtain ⟨q,hq,e1⟩:=Yx z
   refine ⟨q+1,Nat.succ_lt_succ hq,?_⟩
   rw [Nat.add_comm,Jf]
   exact e1
theorem qDd {m:Nat} (h:qJn m=true) {i e:Nat} (hi:i<m) (he:e<m):∃ q,q<m/\qAu m q i=e:=by
 unfold qJn at h
 rw [zY,uF,beq_iff_eq] at h
 obtain ⟨h1,h2⟩:=h
 obtain ⟨a,ha,ea⟩:=Yx (List.contains_iff_mem.mp (h1 i (zM.mpr hi)))
 obtain ⟨b,hb,eb⟩:=Yx (List.contains_iff_mem.mp (h1 e (zM.mpr he)))
 by_cases z:a<=b
 ·refine ⟨b - a,by omega,?_⟩
  rw [<- ea,<- Jf,Nat.add_sub_cancel' z]
  exact eb
 ·refine ⟨m - a+b,by omega,?_⟩
  rw [<- ea,<- Jf,show a+(m - a+b)=m+b by omega,Jf,h2]
  exact eb
noncomputable def Fits (mask:Nat):Prop:=mask=7\/mask=31\/mask=127\/mask=511
theorem qBN {mask:Nat} (h:Fits mask):qJn (mask+1)=true:=by
 rcases h with rfl | rfl | rfl | rfl <;> decide +kernel
theorem qGt (h:Int):wW h / 32 ^ 13=0:=by
 refine Nat.div_eq_of_lt ?_
 unfold wW
 have h1:=uZ h (show (0:Int)<2 ^ 64 by decide)
 have h2:=hV h (show (2 ^ 64:Int)≠0 by decide)
 have e:(32:Nat) ^ 13=36893488147419103232:=by decide
 have e2:(2:Int) ^ 64=18446744073709551616:=by decide
 rw [e]
 rw [e2] at *
 omega
theorem Jn (mask:Nat) (h:Int):∀ q,(ql mask (wW h) (13+q)).1=qAu (mask+1) q (ql mask (wW h) 13).1
 | 0=>rfl
 | q+1=>by
  have e0:(ql mask (wW h) (13+q)).2=0:=by
   rw [JP,Nat.pow_add,<- Nat.div_div_eq_div_mul,qGt,Nat.zero_div]
  show ((ql mask (wW h) (13+q)).1*5+1+(ql mask (wW h) (13+q)).2 / 32) % (mask+1)=qHe (mask+1) (qAu (mask+1) q (ql mask (wW h) 13).1)
  rw [e0,Nat.zero_div,Nat.add_zero,Jn mask h q]
  rfl
theorem asked {t:ST} (F:Fits t.mask) (h:Int) {e:Nat} (he:e<=t.mask):∃ n,n<10*xN t.mask/\(qE t h n).j=e:=by
 obtain ⟨q,hq,eq⟩:=qDd (qBN F) (kH (qB8 t.mask (wW h) 13)) (kH he)
 obtain ⟨n,b⟩:=qD7 t h (13+q)
 refine ⟨n,?_,?_⟩
 ·have:=b.few
  unfold xN
  omega
 ·rw [b.j,Jn]
  exact eq
theorem qAE (t:ST) (h:Int):∀ n,(qE t h n).dummy=none
 | 0=>rfl
 | n+1=>by
  have ih:=qAE t h n
  show (t.advance (qE t h n)).dummy=none
  unfold kP
  split
  ·exact ih
  ·exact ih
structure qFk (t:ST) (hs:Nat->Int) (h:Int) (a c:Nat):Prop where
 le:a<=c
 past:∀ q,a<=q->q<c->∃ i,t.slot (qE t h q).j=.live i/\hs i≠h
theorem qID {t:ST} {n:Nat} (T:Tab t n) (hs:Nat->Int) (h:Int):∀(fuel a b:Nat),a<=b->b<a+fuel->t.slot (qE t h b).j=.empty->
  ∃ c,c<=b/\qFk t hs h a c/\((t.slot (qE t h c).j=.empty/\uP t hs h fuel (qE t h a)=some (.empty (qE t h c).j none))\/∃ i,t.slot (qE t h c).j=.live i/\hs i=h/\uP t hs h fuel (qE t h a)=some (.candidate (qE t h c).j i (qE t h (c+1))))
 | 0,a,b,h1,h2,_=>absurd h2 (by omega)
 | fuel+1,a,b,h1,h2,h3=>by
  have nil:qFk t hs h a a:=⟨wK _,fun q z y=>absurd y (UE.mpr z)⟩
  rcases qCu T (qE t h a).j with e | ⟨i,e,_⟩
  ·refine ⟨a,h1,nil,.inl ⟨e,?_⟩⟩
   unfold uP
   rw [e]
   dsimp only
   rw [qAE]
  ·by_cases z:hs i=h
   ·refine ⟨a,h1,nil,.inr ⟨i,e,z,?_⟩⟩
    unfold uP
    rw [e]
    dsimp only
    rw [if_pos (beq_iff_eq.mpr z)]
    rfl
   ·have ne:a≠b:=fun y=>by
     rw [y,h3] at e
     cases e
    have eg:uP t hs h (fuel+1) (qE t h a)=uP t hs h fuel (qE t h (a+1)):=by
     conv=>lhs; unfold uP
     rw [e]
     dsimp only
     rw [if_neg (fun y=>z (beq_iff_eq.mp y))]
     rfl
    obtain ⟨c,c1,m,r⟩:=qID T hs h fuel (a+1) b (by omega) (by omega) h3
    rw [<- eg] at r
    refine ⟨c,c1,⟨Nat.le_of_succ_le m.le,fun q q1 q2=>?_⟩,r⟩
    by_cases y:q=a
    ·rw [y]
     exact ⟨i,e,z⟩
    ·exact m.past q (by omega) q2
theorem qAB {m j:Nat} (h:j<=m):j+(xD m j - j)<=m:=by
 unfold xD
 split <;> omega
theorem Qn (t:ST) (h:Int):∀ n,(qE t h n).j+(qE t h n).more<=t.mask
 | 0=>qAB (vT (WK (wW h) (ZI t.mask)))
 | n+1=>by
  have ih:=Qn t h n
  show (t.advance (qE t h n)).j+(t.advance (qE t h n)).more<=t.mask
  unfold kP
  by_cases z:(qE t h n).more > 0
  ·rw [if_pos z]
   dsimp only
   omega
  ·rw [if_neg z]
   exact qAB (vT (WK _ (ZI t.mask)))
theorem Jq {t u:ST} (e:t.mask=u.mask) (h:Int):∀ n,qE t h n=qE u h n
 | 0=>by
  show t.probeStart h=u.probeStart h
  unfold SetTable.probeStart
  rw [e]
 | n+1=>by
  show t.advance (qE t h n)=u.advance (qE u h n)
  rw [Jq e h n]
  unfold kP
  rw [e]
theorem Yl {xs:Array Nat}:qJ0 xs↔xs.toList.Pairwise (· < ·):=by
 refine Iff.trans ?_ kU.symm
 constructor
 ·intro R i j hi hj hij
  rw [uQ,uQ]
  exact R i j hij (by simpa using hj)
 ·intro P a b ha hb
  have:=P a b (by simp; omega) (by simpa using hb) ha
  rwa [uQ,uQ] at this
structure jr (t:ST) (hs:List Int):Prop where
 tab:Tab t hs.length
 fits:Fits t.mask
 room:hs.length<=t.mask
 meet:∀(i:Nat) (h:Int),hs[i]? = some h->∃ c,t.place[i]? = some (qE t h c).j/\∀ q,q<c->t.slot (qE t h q).j≠.empty
theorem Je {t:ST} {n:Nat} (T:Tab t n) (j:Nat):t.slot j≠.empty↔j∈t.place.toList:=by
 constructor
 ·intro h
  rcases qCu T j with z | ⟨i,_,z⟩
  ·exact absurd z h
  ·exact vU.mpr (Array.mem_of_getElem? z)
 ·intro h z
  obtain ⟨i,hi,e⟩:=gL.mp (vU.mp h)
  have:=YE T (uH.mpr ⟨hi,e⟩)
  rw [this] at z
  cases z
theorem qCL {t:ST} {hs:List Int} (k:jr t hs):∃ e,e<=t.mask/\t.slot e=.empty:=by
 refine UK fun no=>?_
 have all:∀ e∈wO (t.mask+1),e∈t.place.toList:=fun e he=>(Je k.tab e).mp fun z=>no ⟨e,vT (zM.mp he),z⟩
 have:=uW kQ all
 rw [zR,wH,k.tab.size] at this
 have:=k.room
 omega
theorem qBP {t:ST} {hs:List Int} (k:jr t hs) (g:Nat->Int) (h:Int) (a:Nat) (ha:∀ b,t.slot (qE t h b).j=.empty->b<10*xN t.mask->a<=b) :
  ∃ c,qFk t g h a c/\((t.slot (qE t h c).j=.empty/\t.probe g h (qE t h a)=some (.empty (qE t h c).j none))\/∃ i,t.slot (qE t h c).j=.live i/\g i=h/\t.probe g h (qE t h a)=some (.candidate (qE t h c).j i (qE t h (c+1)))):=by
 obtain ⟨e,he,se⟩:=qCL k
 obtain ⟨b,hb,eb⟩:=asked k.fits h he
 have sb:t.slot (qE t h b).j=.empty:=by rw [eb]; exact se
 obtain ⟨c,_,m,r⟩:=qID k.tab g h (10*xN t.mask) a b (ha b sb hb) (by omega) sb
 exact ⟨c,m,r⟩
noncomputable def qEY {α:Type} (xs:List α) (p:Nat) (x:α):List α:=xs.take p++x::xs.drop p
theorem qDR {α:Type} {xs:List α} {p:Nat} (x:α) (hp:p<=xs.length) (i:Nat):(qEY xs p x)[i]? = if i<p then xs[i]? else if i=p then some x else xs[i - 1]?:=by
 unfold qEY
 have l:(xs.take p).length=p:=by rw [yW]; omega
 by_cases z:i<p
 ·rw [if_pos z,vH (by omega),List.getElem?_take,if_pos z]
 ·rw [if_neg z,yC (by omega),l]
  by_cases y:i=p
  ·subst y
   rw [if_pos rfl,Nat.sub_self]
   rfl
  ·rw [if_neg y]
   have e:i - p=(i - 1 - p)+1:=by omega
   rw [e,fY,WJ]
   congr 1
   omega
theorem qAo {α:Type} {xs:List α} {p:Nat} (x:α):(qEY xs p x).length=xs.length+1:=by
 unfold qEY
 rw [wM,yW,zS,yI]
 omega
theorem qDt {α:Type} {xs:List α} {p:Nat} {x y:α}:y∈qEY xs p x↔y=x\/y∈xs:=by
 unfold qEY
 have e:y∈xs↔y∈xs.take p\/y∈xs.drop p:=by
  rw [<- zK,gM]
 rw [zK,wZ,e]
 constructor
 ·rintro (h | h | h)
  ·exact .inr (.inl h)
  ·exact .inl h
  ·exact .inr (.inr h)
 ·rintro (h | h | h)
  ·exact .inr (.inl h)
  ·exact .inl h
  ·exact .inr (.inr h)
theorem has_none (j:Nat):SetTable.has #[] j=false:=rfl
theorem Qv {t:ST} {n:Nat} (T:Tab t n) (j:Nat):(t.put j).1.place.toList=qEY t.place.toList (vB t.place j) j:=hG _ _ _
theorem qHL {t:ST} {n:Nat} (T:Tab t n) (j:Nat):(t.put j).1.dummies = #[]:=by
 show (if SetTable.has t.dummies j then _ else t.dummies)=_
 rw [T.bare,has_none]
 rfl
theorem qJd {t:ST} {n:Nat} (T:Tab t n) {j:Nat} (hj:j<=t.mask) (s:t.slot j=.empty):Tab (t.put j).1 (n+1):=by
 have c:=Qo T.rise j
 have no:j∉t.place.toList:=fun h=>(Je T j).mpr h s
 have pw:=Yl.mp T.rise
 have lo:∀ a∈t.place.toList.take (vB t.place j),a<j:=by
  intro a ha
  obtain ⟨k,hk,e⟩:=List.mem_iff_getElem.mp ha
  rw [yW] at hk
  rw [WT,uQ] at e
  rw [<- e]
  exact c.lt k (by omega) (by rw [<- wH]; omega)
 have hi:∀ a∈t.place.toList.drop (vB t.place j),j<a:=by
  intro a ha
  have ne:a≠j:=fun e=>no (e ▸ List.mem_of_mem_drop ha)
  obtain ⟨k,hk,e⟩:=List.mem_iff_getElem.mp ha
  rw [yI] at hk
  rw [List.getElem_drop,uQ] at e
  have:=c.ge (vB t.place j+k) (by omega) (by rw [<- wH]; omega)
  rw [e] at this
  omega
 refine ⟨Yl.mpr ?_,?_,qHL T j,?_⟩
 ·rw [Qv T]
  unfold qEY
  rw [List.pairwise_append,fG]
  refine ⟨pw.sublist (fK _ _),⟨hi,pw.sublist (List.drop_sublist _ _)⟩,fun a ha b hb=>?_⟩
  rcases wZ.mp hb with z | z
  ·rw [z]
   exact lo a ha
  ·exact Nat.lt_trans (lo a ha) (hi b z)
 ·rw [<- wH,Qv T,qAo,wH,T.size]
 ·intro k hk
  have:(t.put j).1.place[k]∈(t.put j).1.place.toList:=vU.mpr (WS hk)
  rw [Qv T,qDt] at this
  show _<=t.mask
  rcases this with z | z
  ·rw [z]
   exact hj
  ·obtain ⟨q,hq,e⟩:=gL.mp (vU.mp z)
   rw [<- e]
   exact T.mask q hq
theorem qHD {t:ST} {hs:List Int} (k:jr t hs) (room:hs.length+1<=t.mask) {h:Int} {c:Nat} (s:t.slot (qE t h c).j=.empty) (all:∀ q,q<c->t.slot (qE t h q).j≠.empty) :
  jr (t.put (qE t h c).j).1 (qEY hs (vB t.place (qE t h c).j) h):=by
 have hj:(qE t h c).j<=t.mask:=zC (yZ _ _) (Qn t h c)
 have T:=qJd k.tab hj s
 have cu:=Qo k.tab.rise (qE t h c).j
 have sz:=k.tab.size
 have same:∀(h':Int) (n:Nat),qE (t.put (qE t h c).j).1 h' n=qE t h' n:=fun h' n=>Jq (t:=(t.put (qE t h c).j).1) (u:=t) rfl h' n
 have more:∀ j':Nat,t.slot j'≠.empty->(t.put (qE t h c).j).1.slot j'≠.empty:=by
  intro j' n
  refine (Je T j').mpr ?_
  rw [Qv k.tab,qDt]
  exact .inr ((Je k.tab j').mp n)
 refine ⟨by rw [qAo]; exact T,k.fits,by rw [qAo]; exact room,fun i h' hi=>?_⟩
 rw [qDR _ (by have:=cu.le; omega)] at hi
 have hp:(t.put (qE t h c).j).1.place[i]? = if i<vB t.place (qE t h c).j then t.place[i]? else if i=vB t.place (qE t h c).j then some (qE t h c).j else t.place[i - 1]?:=by
  rw [<- zX,Qv k.tab,qDR _ (by rw [wH]; exact cu.le),zX,zX]
 rw [hp]
 have old:∀ i:Nat,hs[i]? = some h'->∃ c',t.place[i]? = some (qE (t.put (qE t h c).j).1 h' c').j/\∀ q,q<c'->(t.put (qE t h c).j).1.slot (qE (t.put (qE t h c).j).1 h' q).j≠.empty:=by
  intro i hi
  obtain ⟨c',e,al⟩:=k.meet i h' hi
  refine ⟨c',by rw [same]; exact e,fun q hq=>?_⟩
  rw [same]
  exact more _ (al q hq)
 by_cases z:i<vB t.place (qE t h c).j
 ·rw [if_pos z] at hi ⊢
  exact old i hi
 ·rw [if_neg z] at hi ⊢
  by_cases y:i=vB t.place (qE t h c).j
  ·rw [if_pos y] at hi ⊢
   cases hi
   refine ⟨c,by rw [same],fun q hq=>?_⟩
   rw [same]
   exact more _ (all q hq)
  ·rw [if_neg y] at hi ⊢
   exact old (i - 1) hi
theorem qEf (finger moves:Nat) (led:Bool):jr (SetTable.fresh finger moves led) []:=by
 refine ⟨⟨fun a b _ hb=>absurd hb (kC _),rfl,rfl,fun k h=>absurd h (kC _)⟩,.inl rfl,zP _,fun i h hi=>?_⟩
 cases hi
theorem qEd {t:ST} {h:Int} {k n:Nat} (b:qFl t h k n):qFl t h (k+1) (n+(qE t h n).more+1):=by
 obtain ⟨h1,h2,h3,h4⟩:=qAD t h (n:=n) (qE t h n).more (wK _)
 have m9:(qE t h n).more<=9:=by
  rw [b.more]
  unfold xD
  split <;> omega
 have e:qE t h (n+(qE t h n).more+1) = { qE t h (n+(qE t h n).more) with j:=(xS t.mask (ql t.mask (wW h) k).1 (ql t.mask (wW h) k).2).1,more:=xD t.mask (xS t.mask (ql t.mask (wW h) k).1 (ql t.mask (wW h) k).2).1 - (xS t.mask (ql t.mask (wW h) k).1 (ql t.mask (wW h) k).2).1,i:=(xS t.mask (ql t.mask (wW h) k).1 (ql t.mask (wW h) k).2).1,perturb:=(xS t.mask (ql t.mask (wW h) k).1 (ql t.mask (wW h) k).2).2 }:=by
  show t.advance (qE t h (n+(qE t h n).more))=_
  unfold kP
  rw [if_neg (by omega),h2,h3,b.i,b.p]
 refine ⟨?_,?_,?_,?_,?_⟩
 ·have:=b.few
  omega
 ·rw [e]; rfl
 ·rw [e]; rfl
 ·rw [e]; rfl
 ·rw [e]; rfl
noncomputable abbrev qB7 (o:Array (Option Nat)) (j:Nat):Prop:=(o.getD j (some 0)).isNone=true
theorem qGo {t:ST} {h:Int} {k n r:Nat} (b:qFl t h k n) (hr:r∈wO (xD t.mask (ql t.mask (wW h) k).1+1 - (ql t.mask (wW h) k).1)):r<=(qE t h n).more/\(qE t h (n+r)).j=(ql t.mask (wW h) k).1+r:=by
 have l:=zM.mp hr
 have m:=b.more
 have le:r<=(qE t h n).more:=by omega
 refine ⟨le,?_⟩
 rw [(qAD t h r le).1,b.j]
theorem qDY {t:ST} (o:Array (Option Nat)) (h:Int):∀(fuel k n:Nat),qFl t h k n->(∀ q,q<n->¬ qB7 o (qE t h q).j)->(∃ k',k<=k'/\k'<k+fuel/\qB7 o (ql t.mask (wW h) k').1)->
  ∃ c,gI t.mask o fuel (ql t.mask (wW h) k).1 (ql t.mask (wW h) k).2=some (qE t h c).j/\qB7 o (qE t h c).j/\∀ q,q<c->¬ qB7 o (qE t h q).j
 | 0,k,n,b,al,⟨k',h1,h2,_⟩=>absurd h2 (by omega)
 | fuel+1,k,n,b,al,⟨k',h1,h2,h3⟩=>by
  unfold gI
  cases f:(wO (xD t.mask (ql t.mask (wW h) k).1+1 - (ql t.mask (wW h) k).1)).find? (fun r=>(o.getD ((ql t.mask (wW h) k).1+r) (some 0)).isNone) with
  | some r=>
   obtain ⟨p,mem,lo⟩:=List.find?_range_eq_some.mp f
   obtain ⟨le,e⟩:=qGo b mem
   refine ⟨n+r,by rw [e],by rw [e]; exact p,fun q hq=>?_⟩
   by_cases z:q<n
   ·exact al q z
   ·have q':q=n+(q - n):=by omega
    rw [q',(qAD t h (q - n) (by omega)).1,b.j]
    have:=lo (q - n) (by omega)
    intro w
    rw [w] at this
    cases this
  | none=>
   have no:=List.find?_eq_none.mp f
   have here:∀ r,r<=(qE t h n).more->¬ qB7 o ((ql t.mask (wW h) k).1+r):=fun r hr=>no r (zM.mpr (by
    have m:=b.more
    have:(ql t.mask (wW h) k).1<=xD t.mask (ql t.mask (wW h) k).1:=by
     unfold xD
     split <;> omega
    omega))
   refine qDY o h fuel (k+1) _ (qEd b) (fun q hq=>?_) ⟨k',?_,by omega,h3⟩
   ·by_cases z:q<n
    ·exact al q z
    ·have q':q=n+(q - n):=by omega
     rw [q',(qAD t h (q - n) (by omega)).1,b.j]
     exact here (q - n) (by omega)
   ·rcases fF h1 with z | z
    ·exact z
    ·subst z
     exact absurd h3 (here 0 (zP _))
theorem qJf {t:ST} (F:Fits t.mask) (o:Array (Option Nat)) (h:Int) {e:Nat} (he:e<=t.mask) (be:qB7 o e) :
  ∃ c,gI t.mask o (xN t.mask) (wW h % (t.mask+1)) (wW h)=some (qE t h c).j/\qB7 o (qE t h c).j/\∀ q,q<c->¬ qB7 o (qE t h q).j:=by
 obtain ⟨q,hq,eq⟩:=qDd (qBN F) (kH (qB8 t.mask (wW h) 13)) (kH he)
 refine qDY o h (xN t.mask) 0 0 ⟨wK _,rfl,rfl,rfl,rfl⟩ (fun q hq=>absurd hq (kC _)) ⟨13+q,zP _,?_,?_⟩
 ·unfold xN
  omega
 ·rw [Jn,eq]
  exact be
structure qHZ (t:ST) (o:Array (Option Nat)) (hs:List Int):Prop where
 size:o.size=t.mask+1
 low:∀(j k:Nat),o[j]? = some (some k)->k<hs.length
 once:∀(j j' k:Nat),o[j]? = some (some k)->o[j']? = some (some k)->j=j'
 meet:∀(i:Nat) (h:Int),hs[i]? = some h->∃ c,o[(qE t h c).j]? = some (some i)/\∀ q,q<c->¬ qB7 o (qE t h q).j
theorem JY {o:Array (Option Nat)} {j:Nat} (hj:j<o.size):qB7 o j↔o[j]? = some none:=by
 unfold qB7
 rw [vS,wV hj,Option.getD_some]
 cases o[j] with
 | none=>exact ⟨fun _=>rfl,fun _=>rfl⟩
 | some k=>exact ⟨fun h=>(by cases h),fun h=>(by cases h)⟩
theorem qIh {t:ST} {o:Array (Option Nat)} {hs:List Int} (O:qHZ t o hs) {h:Int} {c:Nat} (b:qB7 o (qE t h c).j) (al:∀ q,q<c->¬ qB7 o (qE t h q).j):qHZ t (o.setIfInBounds (qE t h c).j (some hs.length)) (hs++[h]):=by
 have hj:(qE t h c).j<o.size:=by
  rw [O.size]
  exact kH (zC (yZ _ _) (Qn t h c))
 have at0:=(JY hj).mp b
 have get:∀ j:Nat,(o.setIfInBounds (qE t h c).j (some hs.length))[j]? = if (qE t h c).j=j then some (some hs.length) else o[j]?:=by
  intro j
  refine Eq.trans Array.getElem?_setIfInBounds ?_
  by_cases z:(qE t h c).j=j
  ·rw [if_pos z,if_pos z,if_pos hj]
  ·rw [if_neg z,if_neg z]
 have keep:∀ j:Nat,j<=t.mask->¬ qB7 o j->¬ qB7 (o.setIfInBounds (qE t h c).j (some hs.length)) j:=by
  intro j hm nb w
  have w':=(JY (by rw [UO,O.size]; omega)).mp w
  rw [get] at w'
  by_cases z:(qE t h c).j=j
  ·rw [if_pos z] at w'
   cases w'
  ·rw [if_neg z] at w'
   exact nb ((JY (by rw [O.size]; omega)).mpr w')
 have lowj:∀(h':Int) (q:Nat),(qE t h' q).j<=t.mask:=fun h' q=>zC (yZ _ _) (Qn t h' q)
 refine ⟨by rw [UO]; exact O.size,fun j k e=>?_,fun j j' k e e'=>?_,fun i h' hi=>?_⟩
 ·rw [get] at e
  rw [wM]
  by_cases z:(qE t h c).j=j
  ·rw [if_pos z] at e
   cases e
   exact VC _
  ·rw [if_neg z] at e
   exact gG (O.low j k e)
 ·rw [get] at e e'
  by_cases z:(qE t h c).j=j
  ·by_cases z':(qE t h c).j=j'
   ·exact z.symm.trans z'
   ·rw [if_pos z] at e
    rw [if_neg z'] at e'
    cases e
    exact absurd (O.low j' _ e') (xR _)
  ·by_cases z':(qE t h c).j=j'
   ·rw [if_neg z] at e
    rw [if_pos z'] at e'
    cases e'
    exact absurd (O.low j _ e) (xR _)
   ·rw [if_neg z] at e
    rw [if_neg z'] at e'
    exact O.once j j' k e e'
 ·by_cases z:i<hs.length
  ·rw [vH z] at hi
   obtain ⟨c',e,al'⟩:=O.meet i h' hi
   refine ⟨c',?_,fun q hq=>keep _ (lowj h' q) (al' q hq)⟩
   rw [get,if_neg,e]
   intro w
   rw [<- w,at0] at e
   cases e
  ·rw [yC (vL z)] at hi
   have i0:i=hs.length:=by
    refine VR (vL fun y=>?_) (vL z)
    rw [show i - hs.length=(i - hs.length - 1)+1 by omega] at hi
    cases hi
   subst i0
   rw [Nat.sub_self] at hi
   cases hi
   refine ⟨c,by rw [get,if_pos rfl],fun q hq=>keep _ (lowj h q) (al q hq)⟩
theorem qG0 {t:ST} {o:Array (Option Nat)} {hs:List Int} (O:qHZ t o hs) (room:hs.length<=t.mask):∃ e,e<=t.mask/\qB7 o e:=by
 refine UK fun no=>?_
 have all:∀ e:Nat,e<=t.mask->∃ k,o[e]? = some (some k):=by
  intro e he
  have hl:e<o.size:=by rw [O.size]; omega
  have nb:¬ qB7 o e:=fun b=>no ⟨e,he,b⟩
  cases z:o[e] with
  | none=>exact absurd ((JY hl).mpr (by rw [wV hl,z])) nb
  | some k=>exact ⟨k,by rw [wV hl,z]⟩
 have val:∀(e k:Nat),o[e]? = some (some k)->(o.getD e none).getD 0=k:=by
  intro e k h
  rw [vS,h]
  rfl
 have nd:((wO (t.mask+1)).map fun e=>(o.getD e none).getD 0).Nodup:=by
  unfold List.Nodup
  rw [vW]
  refine (kQ (n:=t.mask+1)).imp_of_mem fun {a b} ha hb ne w=>ne ?_
  obtain ⟨k,hk⟩:=all a (vT (zM.mp ha))
  obtain ⟨k',hk'⟩:=all b (vT (zM.mp hb))
  rw [val a k hk,val b k' hk'] at w
  subst w
  exact O.once a b k hk hk'
 have sub:∀ k∈(wO (t.mask+1)).map fun e=>(o.getD e none).getD 0,k∈wO hs.length:=by
  intro k hk
  obtain ⟨e,he,ek⟩:=zJ.mp hk
  obtain ⟨k',hk'⟩:=all e (vT (zM.mp he))
  rw [val e k' hk'] at ek
  subst ek
  exact zM.mpr (O.low e _ hk')
 have:=uW nd sub
 rw [wA,zR,zR] at this
 omega
noncomputable def qAg (mask:Nat) (acc:Option (Array (Option Nat)×Nat)) (h:Int):Option (Array (Option Nat)×Nat):=
 acc.bind fun x=>(gI mask x.1 (xN mask) (wW h % (mask+1)) (wW h)).bind fun j=>some (x.1.setIfInBounds j (some x.2),x.2+1)
theorem qHO (mask:Nat) (hs:Array Int):WU mask hs=(hs.toList.foldl (qAg mask) (some (Array.replicate (mask+1) none,0))).map (·.1):=by
 unfold WU
 rw [<- Array.foldl_toList]
 rfl
theorem qIK {t:ST} (F:Fits t.mask):∀(rest done:List Int) (o:Array (Option Nat)),qHZ t o done->done.length+rest.length<=t.mask->
  ∃ o',rest.foldl (qAg t.mask) (some (o,done.length))=some (o',done.length+rest.length)/\qHZ t o' (done++rest)
 | [],done,o,O,_=>⟨o,rfl,by rw [zZ]; exact O⟩
 | h::rest,done,o,O,room=>by
  rw [zS] at room
  obtain ⟨e,he,be⟩:=qG0 O (by omega)
  obtain ⟨c,fr,b,al⟩:=qJf F o h he be
  obtain ⟨o',r,O'⟩:=qIK F rest (done++[h]) _ (qIh O b al) (by rw [wM,List.length_singleton]; omega)
  refine ⟨o',?_,by rw [vR] at O'; exact O'⟩
  rw [ZM]
  have st:qAg t.mask (some (o,done.length)) h=some (o.setIfInBounds (qE t h c).j (some done.length),(done++[h]).length):=by
   unfold qAg
   rw [Option.bind_some,fr,Option.bind_some,wM]
   rfl
  rw [st,r]
  simp only [wM,zS,uL]
  congr 2
  omega
theorem qGl (t:ST):qHZ t (Array.replicate (t.mask+1) none) []:=by
 refine ⟨Array.size_replicate,fun j k e=>?_,fun j j' k e _=>?_,fun i h hi=>by cases hi⟩
 ·rw [UP] at e
  split at e <;> cases e
 ·rw [UP] at e
  split at e <;> cases e
theorem qJs {t:ST} (F:Fits t.mask) (hs:Array Int) (room:hs.size<=t.mask):∃ o,WU t.mask hs=some o/\qHZ t o hs.toList:=by
 obtain ⟨o,r,O⟩:=qIK F hs.toList [] _ (qGl t) (by rw [uL,ZH,wH]; exact room)
 refine ⟨o,?_,O⟩
 rw [qHO]
 rw [uL] at r
 rw [r]
 rfl
noncomputable def jL (mask:Nat) (o:Array (Option Nat)):List (Nat×Nat):=(wO (mask+1)).filterMap fun j=>(o.getD j none).map (j,·)
theorem QU {t:ST} {o:Array (Option Nat)} {hs:List Int} (O:qHZ t o hs) {j k:Nat}:(j,k)∈jL t.mask o↔o[j]? = some (some k):=by
 unfold jL
 rw [WA]
 constructor
 ·rintro ⟨a,ha,e⟩
  have hl:a<o.size:=by rw [O.size]; exact zM.mp ha
  rw [vS,wV hl,Option.getD_some] at e
  cases z:o[a] with
  | none=>rw [z] at e; cases e
  | some b=>
   rw [z] at e
   cases e
   rw [wV hl,z]
 ·intro e
  have hl:j<o.size:=(uH.mp e).1
  refine ⟨j,zM.mpr (by rw [<- O.size]; exact hl),?_⟩
  rw [vS,e]
  rfl
theorem qCP (mask:Nat) (o:Array (Option Nat)):((jL mask o).map (·.1)).Pairwise (· < ·):=by
 rw [vW]
 unfold jL
 rw [List.pairwise_filterMap]
 refine (List.pairwise_lt_range (n:=mask+1)).imp fun {a b} ab x hx y hy=>?_
 cases za:o.getD a none with
 | none=>rw [za] at hx; cases hx
 | some k=>
  cases zb:o.getD b none with
  | none=>rw [zb] at hy; cases hy
  | some k'=>
   rw [za] at hx
   rw [zb] at hy
   cases hx
   cases hy
   exact ab
theorem qFF {t:ST} {o:Array (Option Nat)} {hs:List Int} (O:qHZ t o hs):vM ((jL t.mask o).map (·.2)) (wO hs.length):=by
 refine (List.perm_ext_iff_of_nodup ?_ kQ).mpr fun k=>?_
 ·unfold List.Nodup
  rw [vW]
  have r:=qCP t.mask o
  rw [vW] at r
  refine r.imp_of_mem fun {a b} ha hb lt w=>?_
  obtain ⟨a1,a2⟩:=a
  obtain ⟨b1,b2⟩:=b
  have w':a2=b2:=w
  subst w'
  have:=O.once a1 b1 a2 ((QU O).mp ha) ((QU O).mp hb)
  have lt':a1<b1:=lt
  omega
 ·rw [zJ,zM]
  constructor
  ·rintro ⟨⟨j,k'⟩,m,e⟩
   cases e
   exact O.low j _ ((QU O).mp m)
  ·intro hk
   obtain ⟨c,e,_⟩:=O.meet k hs[k] (wC hk)
   exact ⟨(_,k),(QU O).mpr e,rfl⟩
theorem qDh {α:Type} (xs:List α):∀(l:List Nat),(∀ k∈l,k<xs.length)->∀ i:Nat,(l.filterMap (xs[·]?))[i]? = (l[i]?).bind (xs[·]?)
 | [],_,i=>rfl
 | k::l,h,i=>by
  have hk:=h k wN
  rw [uU,wC hk]
  cases i with
  | zero=>
   show some _=xs[k]?
   rw [wC hk]
  | succ i=>exact qDh xs l (fun a ha=>h a (wQ _ ha)) i
theorem qE6 {t:ST} (F:Fits t.mask) (hs:Array Int) (room:hs.size<=t.mask) (finger moves:Nat) (led plain:Bool) :
  ∃(u:ST) (order:Array Nat),SetTable.laid t.mask finger moves led plain hs=some (u,order)/\vM order.toList (wO hs.size)/\jr u (order.toList.filterMap (hs.toList[·]?))/\u.mask=t.mask/\u.led=led/\u.plain=plain:=by
 obtain ⟨o,lo,O⟩:=qJs F hs room
 have pm:=qFF O
 rw [wH] at pm
 have low:∀ k∈(jL t.mask o).map (·.2),k<hs.toList.length:=fun k hk=>by
  rw [wH]
  exact zM.mp (pm.mem_iff.mp hk)
 have len:(((jL t.mask o).map (·.2)).filterMap (hs.toList[·]?)).length=(jL t.mask o).length:=by
  have:∀(l:List Nat),(∀ k∈l,k<hs.toList.length)->(l.filterMap (hs.toList[·]?)).length=l.length:=by
   intro l
   induction l with
   | nil=>intro _; rfl
   | cons k l ih=>
    intro h
    rw [uU,wC (h k wN)]
    exact congrArg (· + 1) (ih fun a ha=>h a (wQ _ ha))
  rw [this _ low,wA]
 have full:(jL t.mask o).length=hs.size:=by
  have:=pm.length_eq
  rwa [wA,zR] at this
 refine ⟨{ mask:=t.mask,place:=((jL t.mask o).map (·.1)).toArray,dummies:=#[],finger,led,moves,plain },((jL t.mask o).map (·.2)).toArray,?_,pm,?_,rfl,rfl,rfl⟩
 ·unfold SetTable.laid
  rw [lo]
  rfl
 ·have T:Tab { mask:=t.mask,place:=((jL t.mask o).map (·.1)).toArray,dummies:=#[],finger,led,moves,plain } (((jL t.mask o).map (·.2)).filterMap (hs.toList[·]?)).length:=by
   refine ⟨Yl.mpr (qCP t.mask o),?_,rfl,fun k hk=>?_⟩
   ·rw [len]
    exact (wJ).trans (wA _)
   ·have m:((jL t.mask o).map (·.1)).toArray[k]∈(jL t.mask o).map (·.1):=List.mem_toArray.mp (WS hk)
    obtain ⟨⟨j,k'⟩,mm,e⟩:=zJ.mp m
    show ((jL t.mask o).map (·.1)).toArray[k]<=t.mask
    rw [<- e]
    have:=(uH.mp ((QU O).mp mm)).1
    rw [O.size] at this
    exact vT this
  refine ⟨T,F,by show _<=t.mask; rw [len,full]; exact room,fun i h hi=>?_⟩
  rw [qDh _ _ low,wI] at hi
  cases z:(jL t.mask o)[i]? with
  | none=>rw [z] at hi; cases hi
  | some p=>
   rw [z] at hi
   obtain ⟨j,k⟩:=p
   have hk:hs.toList[k]? = some h:=hi
   have own:=(QU O).mp (yT z)
   obtain ⟨c,e,al⟩:=O.meet k h hk
   have ej:=O.once _ _ _ e own
   have same:∀ q,qE { mask:=t.mask,place:=((jL t.mask o).map (·.1)).toArray,dummies:=#[],finger,led,moves,plain } h q=qE t h q:=fun q=>Jq (t:={ mask:=t.mask,place:=((jL t.mask o).map (·.1)).toArray,dummies:=#[],finger,led,moves,plain }) (u:=t) rfl h q
   refine ⟨c,?_,fun q hq=>?_⟩
   ·rw [same,ej]
    show ((jL t.mask o).map (·.1)).toArray[i]? = some j
    rw [ZP,wI,z]
    rfl
   ·rw [same]
    refine (Je T _).mpr ?_
    show (qE t h q).j∈(jL t.mask o).map (·.1)
    have hl:(qE t h q).j<o.size:=by
     rw [O.size]
     exact kH (zC (yZ _ _) (Qn t h q))
    cases y:o[(qE t h q).j] with
    | none=>exact absurd ((JY hl).mpr (by rw [wV hl,y])) (al q hq)
    | some k'=>exact zJ.mpr ⟨(_,k'),(QU O).mpr (by rw [wV hl,y]),rfl⟩
theorem qED {t:ST} {hs:List Int} (k:jr t hs) {h:Int} {c i:Nat} (s:t.slot (qE t h c).j=.empty) (hi:hs[i]? = some h):∃ c',c'<c/\t.slot (qE t h c').j=.live i:=by
 obtain ⟨c',e,al⟩:=k.meet i h hi
 have lv:=YE k.tab e
 refine ⟨c',Nat.lt_of_le_of_ne (vL fun z=>al c z s) fun z=>?_,lv⟩
 rw [<- z,lv] at s
 cases s
structure Qi (t:ST) (hs:List Int):Prop where
 kept:jr t hs
 few:hs.length*5<t.mask*3
theorem Qi.fill {t:ST} {hs:List Int} (k:jr t hs):t.fill=hs.length:=by
 unfold SetTable.fill
 rw [k.tab.size,k.tab.bare]
 rfl
theorem YI (finger moves:Nat) (led:Bool):Qi (SetTable.fresh finger moves led) []:=⟨qEf finger moves led,by show 0<7*3; decide⟩
theorem qB5 {mask n:Nat} (F:Fits mask) (few:n*5<mask*3) (full:(n+1)*5≥mask*3) (hn:n+1<307) :
  Fits (kA (uI (n+1)) - 1)/\(n+1)*5<(kA (uI (n+1)) - 1)*3/\kA (uI (n+1))<=512:=by
 rcases F with z | z | z | z
 ·subst z
  have e:n=4:=by omega
  subst e
  exact ⟨.inr (.inl (by decide)),by decide,by decide⟩
 ·subst z
  have e:n=18:=by omega
  subst e
  exact ⟨.inr (.inr (.inl (by decide))),by decide,by decide⟩
 ·subst z
  have e:n=76:=by omega
  subst e
  exact ⟨.inr (.inr (.inr (by decide))),by decide,by decide⟩
 ·omega
theorem YQ {t:ST} {hs:List Int} (k:jr t hs) {n:Nat} (hn:hs.length=n+1) (few:n*5<t.mask*3) (full:t.tooFull=true) (lim:n+1<307) (ha:Array Int) (eh:ha.toList=hs) :
  ∃(u:ST) (order:Array Nat),t.relaid ha (uI (n+1))=some (u,order)/\vM order.toList (wO hs.length)/\Qi u (order.toList.filterMap (hs[·]?))/\u.led=t.led/\u.plain=t.plain:=by
 have f:=of_decide_eq_true full
 rw [Qi.fill k,hn] at f
 obtain ⟨F,fw,_⟩:=qB5 k.fits few f lim
 have sz:ha.size=n+1:=by rw [<- wH,eh,hn]
 obtain ⟨u,order,e,pm,kp,em,el,ep⟩:=qE6 (t:={ t with mask:=kA (uI (n+1)) - 1 }) F ha (by rw [sz]; show n+1<=kA (uI (n+1)) - 1; omega) t.finger (t.movedTo (kA (uI (n+1)) - 1)) t.led t.plain
 rw [eh] at kp
 rw [sz,<- hn] at pm
 refine ⟨u,order,e,pm,⟨kp,?_⟩,el,ep⟩
 have len:(order.toList.filterMap (hs[·]?)).length=n+1:=by
  have:=pm.filterMap (hs[·]?)
  have:=this.length_eq
  rw [this]
  have q:=congrArg fJ (PySem.List.filterMap_getElem?_range_length hs)
  rw [<- hn]
  exact q
 rw [len,em]
 exact fw
theorem qCF {t:ST} {hs:List Int} (R:Qi t hs) {h:Int} {c:Nat} (s:t.slot (qE t h c).j=.empty) (all:∀ q,q<c->t.slot (qE t h q).j≠.empty) :
  jr (t.put (qE t h c).j).1 (qEY hs (vB t.place (qE t h c).j) h)/\((t.put (qE t h c).j).1.tooFull=false->Qi (t.put (qE t h c).j).1 (qEY hs (vB t.place (qE t h c).j) h)):=by
 have lo:7<=t.mask:=by
  rcases R.kept.fits with z | z | z | z <;> omega
 have few:=R.few
 have kp:=qHD R.kept (by omega) s all
 refine ⟨kp,fun nf=>⟨kp,?_⟩⟩
 have:=of_decide_eq_false nf
 rw [Qi.fill kp] at this
 omega
section
variable {w:World} {prog:Program} {A:Around} {E:Value->Shared->Prop} {s:Shared}
theorem ifF {α:Type} {x y:Sem α} {Q:α->Shared->Prop} (h:wpAny (model prog w) A y Q E s):wpAny (model prog w) A (if false=true then x else y) Q E s:=h
theorem told {α β:Type} {m:Sem α} {a:α} {g:α->Sem β} {Q:β->Shared->Prop} (e:m=pure a) (h:wpAny (model prog w) A (g a) Q E s):wpAny (model prog w) A (m >>= g) Q E s:=by
 subst e
 exact wB (wD h)
theorem Ja {α β:Type} {P:α->Prop} {f:α->β->Sem (ForInStep β)} {b:β} {Q:β->Shared->Prop} (go:∀(x:α) (R:ForInStep β->Shared->Prop),P x->R (.yield b) s->wpAny (model prog w) A (f x b) R E s) (q:Q b s):∀ l:List α,(∀ x∈l,P x)->wpAny (model prog w) A (forIn l b f) Q E s
 | [],_=>wD q
 | x::l,h=>by
  rw [VN]
  exact wB (go x _ (h x wN) (Ja go q l fun y hy=>h y (wQ _ hy)))
noncomputable def isI (v:Value):Prop:=∃ k t,v=.int k t
theorem all_ints {ks:List Int} {vs:List Value} (h:ItemsAre (intKind prog w) ks vs):∀ v∈vs,isI v:=by
 induction h with
 | nil=>exact fun v z=>nomatch z
 | cons one _ rest=>
  exact fun v z=>(wZ.mp z).elim (fun e=>let ⟨t,y⟩:=Value.isInt_shape one; ⟨_,t,e.trans y⟩) (rest v)
theorem qC4 (n:Nat) {v:Value} (h:isI v):ofAClassStatement n v=pure false:=by
 obtain ⟨k,t,rfl⟩:=h
 cases n <;> rfl
theorem qCz (n:Nat) {v:Value} (h:isI v):hashByValue n v=pure true:=by
 obtain ⟨k,t,rfl⟩:=h
 cases n <;> rfl
theorem Yn {ks:List Int} {a:Addr} {Q:Bool->Shared->Prop} (hk:IsTupleKey (intKind prog w) s.heap ks a) (h:Q false s):wpAny (model prog w) A (ofAClassStatement 8 (.ref a)) Q E s:=by
 obtain ⟨o,xs,n,at_,cl,dt,its⟩:=hk
 unfold ofAClassStatement
 refine wB (xZ (T:="tuple") ⟨o,at_,cl⟩ (wB (wD ?_)))
 refine ifF (wB (fC at_ dt (wB ?_)))
 rw [<- Array.forIn_toList]
 refine Ja (P:=isI) ?_ ?_ _ (all_ints its)
 ·exact fun x R hx r=>told (qC4 _ hx) (ifF (wD r))
 ·exact wD h
noncomputable def qGD (prog:Program) (w:World) (h:Heap) (vs:List Value):Prop:=∀ v∈vs,∃(b:Addr) (ks:List Int),v=yF b/\IsTupleKey (intKind prog w) h ks b
theorem qGs {ks:List Int} {a:Addr} {ys:List Value} {Q:Bool->Shared->Prop} (hk:IsTupleKey (intKind prog w) s.heap ks a) (hy:qGD prog w s.heap ys) (h:Q false s):wpAny (model prog w) A (searchCouldBeSeen (.ref a) ys) Q E s:=by
 unfold searchCouldBeSeen
 refine wB ?_
 refine Ja (P:=fun v=>∃(b:Addr) (ks:List Int),v=yF b/\IsTupleKey (intKind prog w) s.heap ks b) (fun x R hx r=>?_) ?_ ys hy
 rotate_left
 ·exact wD h
 obtain ⟨b,kb,rfl,hb⟩:=hx
 dsimp only
 split
 ·exact wD r
 ·refine wB (wpAny_eqIsQuiet_tuple hk (ifF (wB (wpAny_eqIsQuiet_tuple hb (ifF ?_)))))
  exact wB (Yn hk (ifF (wB (Yn hb (ifF (wD r))))))
theorem qEg {ks:List Int} {a:Addr} {Q:Bool->Shared->Prop} (hk:IsTupleKey (intKind prog w) s.heap ks a) (h:Q true s):wpAny (model prog w) A (hashByValue 8 (.ref a)) Q E s:=by
 have ty:=hk.typeIs
 obtain ⟨o,xs,n,at_,cl,dt,its⟩:=hk
 unfold hashByValue
 refine wB (VM ty F.slot_tuple_hash.lookup (wB (fC at_ dt (wB ?_))))
 show wpAny _ _ (forIn xs _ _) _ _ _
 rw [<- Array.forIn_toList]
 refine Ja (P:=isI) ?_ ?_ _ (all_ints its)
 ·exact fun x R hx r=>told (qCz _ hx) (ifF (wD r))
 ·exact wD h
end
section
variable {prog:Program} {w:World} {A:Around} {E:Value->Shared->Prop} {s:Shared}
theorem j5 {t:ST} {hs:List Int} (k:jr t hs) {n:Nat} (hn:hs.length=n):t.fits n=true:=by
 unfold SetTable.fits
 rw [Qi.fill k,k.tab.size,hn]
 have:=k.room
 rw [hn] at this
 simp [this]
theorem asks {β:Type} {prog:Program} {w:World} {A:Around} {E:Value->Shared->Prop} {s:Shared} {a:Addr} {o:Obj} {es:Array (Int×Value)} {ep:Nat} {t:ST} {g:Array (Int×Value)×Nat×ST->Sem β} {Q:β->Shared->Prop} (ho:s.heap.get? a=some o) (hd:o.data=.set es ep t) (k:jr t (es.toList.map (·.1))) (h:wpAny (model prog w) A (g (es,ep,t)) Q E s):wpAny (model prog w) A (setState a >>= g) Q E s:=
 wB (wpAny_setState_of ho hd (j5 k (by rw [wA,wH])) h)
theorem qHU {t:ST} {hs:List Int} (k:jr t hs):t.gaveWay=false:=by
 unfold SetTable.gaveWay
 rcases k.fits with z | z | z | z <;> rw [z] <;> rfl
theorem Ym {a ax:Addr} {kx:List Int} {h:Int} {o:Obj} {es:Array (Int×Value)} {ep:Nat} {t:ST} {Q:SetFound->Shared->Prop}
  (ho:s.heap.get? a=some o) (hd:o.data=.set es ep t) (k:jr t (es.toList.map (·.1))) (hu:A.units<cLine) (hx:IsTupleKey (intKind prog w) s.heap kx ax)
  (hes:∀(i:Nat) (h':Int) (v:Value),es[i]? = some (h',v)->∃(b:Addr) (kv:List Int),v=.ref b/\IsTupleKey (intKind prog w) s.heap kv b)
  (yes:∀(i:Nat) (h':Int) (b:Addr),es[i]? = some (h',.ref b)->IsTupleKey (intKind prog w) s.heap kx b->Q (.there none) s)
  (no:∀ c,t.slot (qE t h c).j=.empty->(∀ q,q<c->t.slot (qE t h q).j≠.empty)->(∀(i:Nat) (b:Addr),es[i]? = some (h,.ref b)->¬ IsTupleKey (intKind prog w) s.heap kx b)->Q (.free (qE t h c).j false) s) :
  ∀(f c:Nat) (st:Option SetTable.Probe),st.getD (t.probeStart h)=qE t h c->(∀ q,q<c->t.slot (qE t h q).j≠.empty)->
   (∀(q i:Nat) (b:Addr),q<c->t.slot (qE t h q).j=.live i->es[i]? = some (h,.ref b)->¬ IsTupleKey (intKind prog w) s.heap kx b)->10*xN t.mask<f+c->
   wpAny (model prog w) A (setSearchFrom a (.ref ax) h true f st) Q E s
 | 0,c,st,hst,ne,un,fu=>by
  obtain ⟨e,he,se⟩:=qCL k
  obtain ⟨b,hb,eb⟩:=asked k.fits h he
  exact absurd (by rw [eb]; exact se) (ne b (by omega))
 | f+1,c,st,hst,ne,un,fu=>by
  have hf:t.fits es.size=true:=j5 k (by rw [wA,wH])
  obtain ⟨c',m,r⟩:=qBP k (fun i=>(es[i]?.map (·.1)).getD 0) h c (fun b sb _=>vL fun z=>ne b z sb)
  unfold setSearchFrom
  refine asks ho hd k ?_
  dsimp only
  rw [qHU k,hst]
  refine ifF ?_
  have gh:∀(i:Nat) (v:Value),es[i]? = some (h,v)->(Option.map (fun x:Int×Value=>x.fst) es[i]?).getD 0=h:=fun i v e=>by rw [e]; rfl
  have low:∀ q,q<c'->t.slot (qE t h q).j≠.empty:=by
   intro q hq
   by_cases z:q<c
   ·exact ne q z
   ·obtain ⟨i,e,_⟩:=m.past q (vL z) hq
    rw [e]
    exact fun w=>by cases w
  have unl:∀(q i:Nat) (b:Addr),q<c'->t.slot (qE t h q).j=.live i->es[i]? = some (h,.ref b)->¬ IsTupleKey (intKind prog w) s.heap kx b:=by
   intro q i b hq e ei
   by_cases z:q<c
   ·exact un q i b z e ei
   ·obtain ⟨i',e',g⟩:=m.past q (vL z) hq
    rw [e] at e'
    cases e'
    exact absurd (gh i _ ei) g
  rcases r with ⟨e,pe⟩ | ⟨i,sl,gi,pe⟩
  ·split
   ·rename_i met hm
    have em:=hm.symm.trans pe
    cases em
    refine wD (no c' e low fun i b ei=>?_)
    obtain ⟨q,hq,lv⟩:=qED k (i:=i) e (by rw [wI,zX,ei]; rfl)
    exact unl q i b hq lv ei
   ·rename_i hm
    exact (hm _ pe).elim
  ·split
   ·rename_i met hm
    have em:=hm.symm.trans pe
    cases em
    have il:i<es.size:=by
     rcases qCu k.tab (qE t h c').j with z | ⟨i',z,pl⟩
     ·rw [z] at sl
      cases sl
     ·rw [z] at sl
      cases sl
      have:=(uH.mp pl).1
      rw [k.tab.size,wA,wH] at this
      exact this
    obtain ⟨h',v,hi⟩:∃ h' v,es[i]? = some (h',v):=⟨es[i].1,es[i].2,wV il⟩
    have eh:h'=h:=by rw [hi] at gi; exact gi
    subst eh
    obtain ⟨b,kv,rfl,hb⟩:=hes i _ v hi
    have tu:qGD prog w s.heap (WV (fun x=>x.snd) (Array.filter (fun x=>x.fst == h') es).toList):=by
     intro v hv
     obtain ⟨x,hx',rfl⟩:=zJ.mp hv
     have mem:=(Array.mem_filter.mp (vU.mp hx')).1
     obtain ⟨q,hq,eq⟩:=gL.mp mem
     exact hes q x.1 x.2 (by rw [wV hq,eq])
    dsimp only
    by_cases hl:(!t.led)=true
    case' pos=>
     rw [if_pos hl]
     refine wB (qGs hx tu ?_)
     refine ifF ?_
    case' neg=>
     rw [if_neg hl]
    all_goals
     rw [hi]
     dsimp only
     refine wB (yS (wpAny_eqBool_tuple hu hb hx ?_))
     refine asks ho hd k ?_
     dsimp only
     by_cases kk:kv=kx
     ·subst kk
      simp only [decide_true,UQ,if_true]
      exact wD (yes i _ b hi hb)
     ·have sm:t.sameMemory t.moves t.mask=some true:=by
       unfold SetTable.sameMemory
       rw [if_pos (by exact beq_self_eq_true _)]
      rw [decide_eq_false kk,sm]
      simp only [fB,xP,if_false,if_true]
      rw [sl]
      dsimp only
      rw [hi]
      dsimp only
      refine wB (wpAny_isSame_ref_self ?_)
      simp only [if_true]
      refine wB (wD ?_)
      dsimp only
      refine Ym ho hd k hu hx hes yes no f (c'+1) (some _) rfl (fun q hq=>?_) (fun q j b' hq lv ej=>?_) (by have:=m.le; omega)
      ·rcases fF (vT hq) with z | z
       ·exact low q z
       ·rw [z,sl]
        exact fun w=>by cases w
      ·rcases fF (vT hq) with z | z
       ·exact unl q j b' z lv ej
       ·rw [z,sl] at lv
        cases lv
        rw [hi] at ej
        cases ej
        exact fun w=>kk (hb.inj w)
   ·rename_i hm
    exact (hm _ pe).elim
end
section
variable {prog:Program} {w:World} {A:Around} {E:Value->Shared->Prop} {s:Shared}
theorem ins_map (es:Array (Int×Value)) (p:Nat) (x:Int×Value):(uR es p x).toList.map (·.1)=qEY (es.toList.map (·.1)) p x.1:=by
 rw [hG]
 unfold qEY
 rw [zI,yV,fU,UR]
theorem qFI {t:ST} {hs:List Int} (k:jr t hs):10*xN t.mask<100000+0:=by
 unfold xN
 rcases k.fits with z | z | z | z <;> omega
theorem qEM {a ax:Addr} {kx:List Int} {h:Int} {o:Obj} {es:Array (Int×Value)} {ep:Nat} {t:ST} {Q:SetFound->Shared->Prop}
  (ho:s.heap.get? a=some o) (hd:o.data=.set es ep t) (k:jr t (es.toList.map (·.1))) (hu:A.units<cLine) (hx:IsTupleKey (intKind prog w) s.heap kx ax)
  (hes:∀(i:Nat) (h':Int) (v:Value),es[i]? = some (h',v)->∃(b:Addr) (kv:List Int),v=.ref b/\IsTupleKey (intKind prog w) s.heap kv b)
  (yes:∀(i:Nat) (h':Int) (b:Addr),es[i]? = some (h',.ref b)->IsTupleKey (intKind prog w) s.heap kx b->Q (.there none) s)
  (no:∀ c,t.slot (qE t h c).j=.empty->(∀ q,q<c->t.slot (qE t h q).j≠.empty)->(∀(i:Nat) (b:Addr),es[i]? = some (h,.ref b)->¬ IsTupleKey (intKind prog w) s.heap kx b)->Q (.free (qE t h c).j false) s) :
  wpAny (model prog w) A (setSearch a (.ref ax) h true) Q E s:=
 Ym ho hd k hu hx hes yes no 100000 0 none rfl (fun q hq=>absurd hq (kC _)) (fun q _ _ hq=>absurd hq (kC _)) (qFI k)
theorem qFy {a:Addr} {o:Obj} {es:Array (Int×Value)} {ep n:Nat} {t:ST} {Q:Unit->Shared->Prop}
  (ho:s.heap.get? a=some o) (hd:o.data=.set es ep t) (k:jr t (es.toList.map (·.1))) (hn:es.size=n+1) (few:n*5<t.mask*3) (full:t.tooFull=true) (lim:n+1<307)
  (q:∀(es':Array (Int×Value)) (t':ST),vM es'.toList es.toList->Qi t' (es'.toList.map (·.1))->t'.led=t.led->t'.plain=t.plain->Q () { s with heap:=s.heap.update a (ZJ es' t') }) :
  wpAny (model prog w) A (setRelay a (uI (n+1))) Q E s:=by
 have hl:(es.toList.map (·.1)).length=n+1:=by rw [wA,wH,hn]
 obtain ⟨u,order,e,pm,R,el,epl⟩:=YQ k hl few full lim (es.map (·.1)) (by rw [fZ])
 have f:=of_decide_eq_true full
 rw [Qi.fill k,hl] at f
 have sz:=(qB5 k.fits few f lim).2.2
 rw [hl,<- hn,<- wH] at pm
 have p2:vM (order.filterMap (es[·]?)).toList es.toList:=by
  rw [gJ]
  refine (pm.filterMap (es[·]?)).trans ?_
  rw [wH,US]
 have m2:(order.filterMap (es[·]?)).toList.map (·.1)=order.toList.filterMap ((es.toList.map (·.1))[·]?):=by
  rw [gJ,List.map_filterMap]
  congr 1
  funext i
  rw [wI,zX]
 have s2:(order.filterMap (es[·]?)).size=es.size:=by
  have:=p2.length_eq
  rwa [wH,wH] at this
 unfold setRelay
 refine asks ho hd k ?_
 dsimp only
 rw [if_neg (by rw [vG]; omega),e]
 refine wB (show wpAny (model prog w) A (if ((order.filterMap (es[·]?)).size != es.size)=true then (do unsupported "internal:set-table-lost-an-element"; pure (order.filterMap (es[·]?),u)) else pure (order.filterMap (es[·]?),u)) _ E s from ?_)
 rw [if_neg (by rw [s2]; simp)]
 refine wD (fP ho hd (q _ _ p2 ?_ el epl) ?_)
 ·rw [m2]
  exact R
 ·rw [s2,hn,vG]
  omega
theorem qJD {a ax:Addr} {kx:List Int} {h:Int} {o:Obj} {es:Array (Int×Value)} {ep:Nat} {t:ST} {Q:Bool->Shared->Prop}
  (ho:s.heap.get? a=some o) (hd:o.data=.set es ep t) (R:Qi t (es.toList.map (·.1))) (hu:A.units<cLine) (hx:IsTupleKey (intKind prog w) s.heap kx ax) (lim:es.size+1<307)
  (hes:∀(i:Nat) (h':Int) (v:Value),es[i]? = some (h',v)->∃(b:Addr) (kv:List Int),v=.ref b/\IsTupleKey (intKind prog w) s.heap kv b)
  (yes:∀(i:Nat) (h':Int) (b:Addr),es[i]? = some (h',.ref b)->IsTupleKey (intKind prog w) s.heap kx b->Q false s)
  (no:(∀(i:Nat) (b:Addr),es[i]? = some (h,.ref b)->¬ IsTupleKey (intKind prog w) s.heap kx b)->∀(es':Array (Int×Value)) (t':ST) (ep':Nat) (hp:Heap),vM es'.toList ((h,.ref ax)::es.toList)->Qi t' (es'.toList.map (·.1))->t'.led=t.led->t'.plain=t.plain->hp.get? a=some { o with data:=.set es' ep' t' }->kN a s.heap hp->Q true { s with heap:=hp }) (f:Nat) :
  wpAny (model prog w) A (setAddHashedIn a (.ref ax) h (f+1)) Q E s:=by
 have k:=R.kept
 have hf:t.fits es.size=true:=j5 k (by rw [wA,wH])
 unfold setAddHashedIn
 refine asks ho hd k ?_
 dsimp only
 have bs:byScan (.ref ax) es=false:=rfl
 rw [bs]
 refine ifF ?_
 refine wB (qEM ho hd k hu hx hes (fun i h' b e1 e2=>wD (yes i h' b e1 e2)) fun c se al un=>?_)
 dsimp only
 refine asks ho hd k ?_
 dsimp only
 have p1:vM (uR es (xE t (qE t h c).j).snd (h,yF ax)).toList ((h,yF ax)::es.toList):=by
  rw [hG]
  refine List.perm_middle.trans ?_
  rw [gM]
 obtain ⟨kp,rm⟩:=qCF R se al
 have em:=ins_map es (xE t (qE t h c).j).snd (h,yF ax)
 have kp':jr (xE t (qE t h c).j).fst ((uR es (xE t (qE t h c).j).snd (h,yF ax)).toList.map (·.1)):=by
  rw [em]
  exact kp
 have sz:(uR es (xE t (qE t h c).j).snd (h,yF ax)).size=es.size+1:=by
  have:=p1.length_eq
  rwa [wH,zS,wH] at this
 have few:es.size*5<t.mask*3:=by
  have:=R.few
  rwa [wA,wH] at this
 have get:∀(hp:Heap) (o:Obj) (e1:Array (Int×Value)) (n1:Nat) (t1:ST) (es':Array (Int×Value)) (t':ST),hp.get? a=some o->o.data=.set e1 n1 t1->(hp.update a (ZJ es' t')).get? a=some { o with data:=.set es' (n1+1) t' }:=by
  intro hp o e1 n1 t1 es' t' g d
  have:=vO (ZJ es' t') g (by rw [UZ es' t' d]; rfl)
  rw [UZ es' t' d] at this
  exact this
 by_cases pl:(xE t (qE t h c).j).fst.plain=true
 case' pos=>
  rw [if_pos pl]
  refine wB (qEg hx ?_)
 case' neg=>
  rw [if_neg pl]
  refine wB (wD ?_)
 all_goals
  simp only [if_true,UG,yB]
  refine wB (fP ho hd ?_ (by rw [sz,vG]; omega))
  have g1:=get s.heap o es ep t (uR es (xE t (qE t h c).j).snd (h,yF ax)) (xE t (qE t h c).j).fst ho hd
  by_cases full:(xE t (qE t h c).j).fst.tooFull=true
  ·rw [if_pos full]
   refine wB (qFy g1 rfl kp' sz few full lim fun es'' t'' p R' l1 l2=>wD ?_)
   have g2:=get _ _ _ _ _ es'' t'' g1 rfl
   exact no un es'' t'' _ _ (p.trans p1) R' l1 l2 g2 ((yO ..).trans (yO ..))
  ·rw [if_neg full]
   refine wD (no un _ (xE t (qE t h c).j).fst _ _ p1 ?_ rfl rfl g1 (yO ..))
   rw [em]
   exact rm (by rw [<- VD]; exact full)
end
theorem qAC {α:Type}:∀{l:List α} {i:Nat} {x:α},l[i]? = some x->vM (x::l.eraseIdx i) l
 | [],i,x,h=>by cases h
 | y::l,0,x,h=>by
  cases h
  exact .refl _
 | y::l,i+1,x,h=>by
  have:=qAC (l:=l) (i:=i) (x:=x) h
  exact (List.Perm.swap _ _ _).trans (.cons y this)
theorem qGR {α:Type} (next:Nat->Nat):∀(fuel k:Nat) (left:List α) (out:Array α),left.length=fuel->vM (pickOrder.go next fuel k left out).toList (out.toList++left)
 | 0,k,left,out,h=>by
  cases VI h
  rw [zZ]
  exact .refl _
 | fuel+1,k,left,out,h=>by
  have hl:next k % left.length<left.length:=WK _ (by omega)
  have e:=wC hl
  unfold pickOrder.go
  rw [e]
  dsimp only
  refine (qGR next fuel (k+1) (left.eraseIdx (next k % left.length)) _ (by rw [List.length_eraseIdx_of_lt hl,h]; rfl)).trans ?_
  rw [Array.toList_push,vR]
  exact List.Perm.append_left _ (qAC e)
theorem qGQ {α:Type} (next:Nat->Nat) (xs:Array α):vM (pickOrder next xs).toList xs.toList:=qGR next xs.size 0 xs.toList #[] (wH)
end L2
namespace L2
open PySem PySem.Spec PyProof.Rows PySem.W
theorem Jt:Slot "set_iterator" "__next__" "set_iterator.__next__":=by
 refine Slot.of (n:="__next__") (owner:="set_iterator") ?_ ?_ ?_ ?_ (.inl ?_) ?_
 ·rw [typeLookup_type,builtinLookup_eq_fast]
  kernel_rfl
 ·decide +kernel
 ·decide +kernel
 ·decide +kernel
 ·decide +kernel
 ·rw [UH]
  kernel_rfl
theorem qDZ:entryFor table "set_iterator.__next__" = some Builtin.«set_iterator.__next__»:=entryFor_of_tree (by kernel_rfl)
theorem qD5 (a:Value):argsOk "set_iterator.__next__" ⟨[a],[]⟩:=by
 unfold argsOk
 kernel_rfl
theorem qF3:Slot "set_iterator" "__iter__" "set_iterator.__iter__":=by
 refine Slot.of (n:="__iter__") (owner:="set_iterator") ?_ ?_ ?_ ?_ (.inl ?_) ?_
 ·rw [typeLookup_type,builtinLookup_eq_fast]
  kernel_rfl
 ·decide +kernel
 ·decide +kernel
 ·decide +kernel
 ·decide +kernel
 ·rw [UH]
  kernel_rfl
theorem qF8:entryFor table "set.__iter__" = some Builtin.«frozenset.__iter__»:=entryFor_alias (id':="frozenset.__iter__") (by kernel_rfl) rfl (by decide +kernel) (by kernel_rfl)
theorem qHi:entryFor table "set_iterator.__iter__" = some Builtin.«dict_keyiterator.__iter__»:=entryFor_alias (id':="dict_keyiterator.__iter__") (by kernel_rfl) rfl (by decide +kernel) (by kernel_rfl)
theorem qHz (a:Value):argsOk "set_iterator.__iter__" ⟨[a],[]⟩:=by
 unfold argsOk
 kernel_rfl
noncomputable abbrev sit (a:Addr) (n ep first i:Nat):Obj:=⟨.type "set_iterator",none,.fields #[.int first 0,.int i 0,.ref a,.int n 0,.int ep 0],#[]⟩
noncomputable abbrev jA (w:World):Bool:=w.params.followText "set-order"
noncomputable def jy (w:World) (t:ST) (i:Nat):Nat:=if jA w=true then 0 else match i with
 | 0=>0
 | k+1=>t.place.getD k 0+1
noncomputable def inOrder (w:World) (a:Addr) (ep:Nat) (es:Array (Int×Value)):Array (Int×Value):=if jA w=true then pickOrder (w.params.setOrder a ep) es else es
theorem Jo (w:World) (a:Addr) (ep:Nat) (es:Array (Int×Value)):vM (inOrder w a ep es).toList es.toList:=by
 unfold inOrder
 split
 ·exact qGQ _ _
 ·exact .refl _
theorem qAH (w:World) (a:Addr) (ep:Nat) (es:Array (Int×Value)):(inOrder w a ep es).size=es.size:=by
 have:=(Jo w a ep es).length_eq
 rwa [wH,wH] at this
structure ji (w:World) (h:Heap) (a:Addr) (es:Array (Int×Value)) (ep:Nat) (t:ST):Prop where
 at_:∃ o,h.get? a=some o/\o.ExactSet/\o.data=.set es ep t
 kept:jr t (es.toList.map (·.1))
 led:jA w=true\/t.led=true
 plain:t.plain=true
theorem ji.ext {w:World} {h h':Heap} {a:Addr} {es:Array (Int×Value)} {ep:Nat} {t:ST} (S:ji w h a es ep t) (k:∀ o,h.get? a=some o->h'.get? a=some o):ji w h' a es ep t:=
 let ⟨⟨o,x,y⟩,c,d,e⟩:=S; ⟨⟨o,k o x,y⟩,c,d,e⟩
theorem ji.low {w:World} {h:Heap} {a:Addr} {es:Array (Int×Value)} {ep:Nat} {t:ST} (S:ji w h a es ep t):a<h.objs.size:=let ⟨_,x,_⟩:=S.at_; wY x
section
variable {prog:Program} {w:World} {A:Around} {E:Value->Shared->Prop} {s:Shared} {a it:Addr} {es:Array (Int×Value)} {ep:Nat} {t:ST}
theorem ji.ty (S:ji w s.heap a es ep t):s.TypeIs (.ref a) "set":=let ⟨o,x,y,_⟩:=S.at_; ⟨o,x,y.1⟩
theorem ji.state {Q:Array (Int×Value)×Nat×ST->Shared->Prop} (S:ji w s.heap a es ep t) (q:Q (es,ep,t) s):wpAny (model prog w) A (setState a) Q E s:=by
 obtain ⟨o,ho,_,hd⟩:=S.at_
 exact wpAny_setState_of ho hd (j5 S.kept (by rw [wA,wH])) q
theorem je {Q:Bool->Shared->Prop} (q:Q (jA w) s):wpAny (model prog w) A setsByText Q E s:=by
 unfold setsByText
 exact wB (fX (wD q))
theorem qBZ {d:Bool} (p:t.plain=true) (z:(!t.plain && d)=true):False:=by
 rw [p] at z
 cases z
theorem qH1 {Q:Value->Shared->Prop} (S:ji w s.heap a es ep t) (K:Q (.ref s.heap.objs.size) { s with heap:=s.heap.push (sit a es.size ep 0 0) }):wpAny (model prog w) A (pyIter (.ref a)) Q E s:=by
 refine fO S.ty F.slot_set_iter (zW F.slot_set_iter S.ty qF8 ?_ (F.args_set_iter_1 _))
 delta Builtin.«frozenset.__iter__» Builtin.Frozenset.slot0 UT Builtin.Frozenset.sizeOf setDrawn setEpoch setEntries
 repeat' first | assumption | (refine S.state ?_) | (refine je ?_) | wp_step
 refine vF (fun z=>(qBZ S.plain (show (!t.plain && decide (es.size > 1))=true from (Bool.and_eq_true_iff.mp z).2)).elim) fun _=>?_
 repeat' first | assumption | (refine S.state ?_) | (refine je ?_) | wp_step
 exact ⟨_,rfl,"set_iterator",_,⟨_,wR _ rfl,rfl⟩,Jt.lookup,K⟩
theorem qEH (k:jr t (es.toList.map (·.1))) (nt:jA w=false) {i:Nat} (hi:i<=es.size):vB t.place (jy w t i)=i:=by
 have sz:t.place.size=es.size:=by rw [k.tab.size,wA,wH]
 unfold jy
 rw [nt,if_neg (by decide)]
 cases i with
 | zero=>
  have c:=Qo k.tab.rise 0
  refine Nat.eq_zero_of_not_pos fun z=>?_
  have:=c.lt 0 z (zQ z c.le)
  omega
 | succ i=>
  have hi':i<t.place.size:=by omega
  dsimp only
  rw [qCb hi' 0]
  have c:=Qo k.tab.rise (t.place[i]+1)
  have h1:¬ vB t.place (t.place[i]+1)<=i:=fun z=>by
   have:=c.ge i z hi'
   omega
  refine VR ?_ (by omega)
  refine vL fun z=>?_
  have hs:i+1<t.place.size:=zQ z c.le
  have h2:=c.lt (i+1) z hs
  have h3:=k.tab.rise i (i+1) (by omega) hs
  omega
theorem qE1 (S:ji w s.heap a es ep t) {i:Nat} {Q:Option (Value×Nat)->Shared->Prop} (hi:i<=es.size) (q:Q (((inOrder w a ep es)[i]?).map fun e=>(e.2,jy w t (i+1))) s):wpAny (model prog w) A (setNext a (jy w t i) i ep) Q E s:=by
 have sz:t.place.size=es.size:=by rw [S.kept.tab.size,wA,wH]
 delta setNext
 refine wB (S.state ?_)
 refine wB (je ?_)
 refine vF (fun z=>?_) fun z=>?_
 ·refine vF (fun y=>absurd rfl (bne_iff_ne.mp y)) fun _=>?_
  have e1:∀ k,jy w t k=0:=fun k=>by unfold jy; rw [if_pos z]
  have e2:inOrder w a ep es=pickOrder (w.params.setOrder a ep) es:=by unfold inOrder; rw [if_pos z]
  rw [e1,e2] at q
  rw [e1]
  delta setWalk
  refine wB (wB (S.state (wB (je (vF (fun _=>?_) fun y=>absurd z y)))))
  exact wB (fX (wD (wD q)))
 ·have nt:jA w=false:=gE.mpr z
  have ld:t.led=true:=S.led.resolve_left z
  refine vF (fun y=>(qBZ S.plain (show (!t.plain && decide (es.size > 1))=true from y)).elim) fun _=>?_
  have led:(!t.led && !es.isEmpty)=false:=by rw [ld]; rfl
  refine wB (show wpAny _ _ (if (!t.led && !es.isEmpty)=true then unsupported "set:maker-not-led" else pure ()) _ _ _ from ?_)
  rw [if_neg (by rw [led]; exact wU)]
  refine wD ?_
  have e2:inOrder w a ep es=es:=by unfold inOrder; rw [if_neg z]
  rw [e2] at q
  refine wD ?_
  rw [qEH S.kept nt hi]
  by_cases l:i<es.size
  ·have l':i<t.place.size:=by omega
   rw [wV l] at q
   rw [wV l,wV l']
   have e3:jy w t (i+1)=t.place[i]+1:=by
    unfold jy
    rw [if_neg z]
    exact congrArg (· + 1) (qCb l' 0)
   rw [e3] at q
   exact q
  ·rw [xM (by omega)] at q
   rw [xM (by omega)]
   exact q
theorem qEC {i:Nat} {Q:Option Value->Shared->Prop} (hi:s.heap.get? it=some (sit a es.size ep (jy w t i) i)) (S:ji w s.heap a es ep t) (l:i<es.size) (K:∀ h' v,h'.get? it=some (sit a es.size ep (jy w t (i+1)) (i+1))->Q7 it s.heap h'->(∃ hh,(inOrder w a ep es)[i]? = some (hh,v))->Q (some v) { s with heap:=h' }):wpAny (model prog w) A (pyNext (.ref it)) Q E s:=by
 have ty:s.TypeIs (.ref it) "set_iterator":=⟨_,hi,rfl⟩
 have l':i<(inOrder w a ep es).size:=by rw [qAH]; exact l
 delta pyNext
 refine wB (gQ (yL (name:=xB "__next__") ty Jt (zW Jt ty qDZ ?_ (qD5 _))))
 delta Builtin.«set_iterator.__next__» setEntries
 repeat' first | assumption | (refine S.state ?_) | (refine je ?_) | (refine qE1 S (vQ l) ?_) | wp_step
 rw [wV l']
 repeat' first | assumption | wp_step
 have g1:=vO (Obj.mapFields fun x=>x.setIfInBounds 0 (rawInt (jy w t (i+1)))) hi rfl
 exact ⟨_,rfl,wD (K _ _ (vO _ g1 rfl) ((Q7.of (yO ..)).then (.of (yO ..))) ⟨_,wV l'⟩)⟩
theorem qE7 {Q:Option Value->Shared->Prop} (hh:A.handled=none) (hi:s.heap.get? it=some (sit a es.size ep (jy w t es.size) es.size)) (S:ji w s.heap a es ep t) (K:∀ h' tk,Q7 it s.heap h'->Q none { s with heap:=h',toks:=tk }):wpAny (model prog w) A (pyNext (.ref it)) Q E s:=by
 have ty:s.TypeIs (.ref it) "set_iterator":=⟨_,hi,rfl⟩
 delta pyNext
 refine wB (gQ (yL (name:=xB "__next__") ty Jt (zW Jt ty qDZ ?_ (qD5 _))))
 delta Builtin.«set_iterator.__next__» setEntries
 repeat' first | assumption | (refine S.state ?_) | (refine je ?_) | (refine qE1 S (wK _) ?_) | wp_step
 rw [xM (by rw [qAH]; exact wK _)]
 repeat' first | assumption | wp_step
 exact ZV hh (wB (ZA (T:="StopIteration") (b:=true) ⟨_,wR _ rfl,rfl⟩ UF (wD (K _ _ (((Q7.of (yO ..)).new _).new _)))))
noncomputable def qFs (w:World) (a:Addr) (ep:Nat) (es:Array (Int×Value)) (i:Nat) (v:Value):Prop:=∃ hh,(inOrder w a ep es)[i]? = some (hh,v)
theorem qDI (calm:A.handled=none) (apart:a≠it):Walks prog w A it [it,a] [it] es.size (qFs w a ep es) (fun i h=>h.get? it=some (sit a es.size ep (jy w t i) i)/\ji w h a es ep t) where
 sub:=fun b hb=>by rw [zB.mp hb]; exact wN
 frame:=fun i h h' st k=>⟨k it wN _ st.1,st.2.ext fun o e=>k a (wQ _ wN) o e⟩
 item:=fun i s Q E hi st hQ=>qEC st.1 st.2 hi fun h' v y past th=>hQ v h' s.toks th ⟨y,st.2.ext fun o e=>past a o apart e⟩ fun b o hb e=>past b o (fun z=>hb (by rw [z]; exact wN)) e
 done:=fun s Q E st hQ=>qE7 calm st.1 st.2 fun h' tk past=>hQ h' tk fun b o hb e=>past b o (fun z=>hb (by rw [z]; exact wN)) e
 self:=fun i s Q E st hQ=>by
  have ty:s.TypeIs (.ref it) "set_iterator":=⟨_,st.1,rfl⟩
  refine fO ty qF3 (zW qF3 ty qHi ?_ (qHz _))
  exact wD ⟨_,rfl,"set_iterator",_,ty,Jt.lookup,hQ⟩
theorem qHr {Q:Bool->Shared->Prop} (ty:s.TypeIs (.ref a) "set") (q:Q false s):wpAny (model prog w) A (VU (.ref a)) Q E s:=by
 delta VU
 refine wB (VM ty F.slot_set_len.lookup ?_)
 generalize hid:("set.__len__" : String)=id0
 wp_delta
 have sp:splitId id0=some ("set","__len__"):=by subst hid; decide +kernel
 rw [sp]
 subst hid
 refine wB (ZA (T:="set") (b:=true) ty (by rw [UH]; kernel_rfl) ?_)
 refine vF (fun y=>absurd y (by decide)) fun _=>vF (fun _=>?_) fun y=>absurd (by decide +kernel) y
 exact wB (xZ ty (wD q))
theorem qFm:KdlSrc prog w "set" a a es.size (qFs w a ep es) (fun h=>ji w h a es ep t) where
 type:=fun s x=>x.ty
 there:=fun h x=>⟨x.low,x.low⟩
 keep:=fun h h' x k=>x.ext fun o e=>k a (.inl rfl) o e
 notList:=by decide
 notTuple:=by decide
 hint:=fun A E s Q x q=>qHr x.ty q
 iter:=fun A s calm x=>⟨_,_,fun E Q q=>qH1 x q,qDI calm (zH x.low),⟨by
  have z:jy w t 0=0:=by unfold jy; split <;> rfl
  rw [z]
  exact wR _ rfl,x.ext fun o e=>wF _ e⟩⟩
end
theorem j3 {α β:Type} {f:α->β} {l l':List β} (p:vM l l'):∀{m:List α},l'=m.map f->∃ m',vM m' m/\l=m'.map f:=by
 induction p with
 | nil=>exact fun {m} _=>⟨m,.refl _,by assumption⟩
 | cons x _ ih=>
  intro m e
  cases m with
  | nil=>cases e
  | cons y m=>
   obtain ⟨e1,e2⟩:=hE e
   obtain ⟨m',q,g⟩:=ih e2
   exact ⟨y::m',.cons _ q,by rw [g,e1]; rfl⟩
 | swap x y l=>
  intro m e
  match m,e with
  | [],e=>cases e
  | [_],e=>cases (hE e).2
  | a::b::m,e=>
   obtain ⟨e1,e2⟩:=hE e
   obtain ⟨e3,e4⟩:=hE e2
   exact ⟨b::a::m,.swap _ _ _,by rw [e1,e3,e4]; rfl⟩
 | trans _ _ ih1 ih2=>
  intro m e
  obtain ⟨m',q,g⟩:=ih2 e
  obtain ⟨m'',q',g'⟩:=ih1 g
  exact ⟨m'',q'.trans q,g'⟩
noncomputable abbrev TRw:=Addr×List Int
noncomputable def qIb (prog:Program) (w:World) (r:TRw):Int×Value:=(tupleKeyHash (intKind prog w) r.2,yF r.1)
noncomputable def QW (prog:Program) (w:World) (hp:Heap) (a:Addr) (R:List TRw):Prop:=∃(o:Obj) (es:Array (Int×Value)) (ep:Nat) (t:ST),hp.get? a=some o/\o.ExactSet/\o.data=.set es ep t/\Qi t (es.toList.map (·.1))/\es.toList=R.map (qIb prog w)/\(R.map (·.2)).Nodup/\(jA w=true\/t.led=true)/\t.plain=true
section
variable {prog:Program} {w:World} {A:Around} {E:Value->Shared->Prop} {s:Shared} {a:Addr} {R:List TRw}
theorem QW.at {hp hp':Heap} (S:QW prog w hp a R) (k:∀ o,hp.get? a=some o->hp'.get? a=some o):QW prog w hp' a R:=
 let ⟨o,es,ep,t,ho,r⟩:=S; ⟨o,es,ep,t,k o ho,r⟩
theorem QW.obj {hp:Heap} (S:QW prog w hp a R):∃ o,hp.get? a=some o/\∀ v,o.data≠.cell v:=
 let ⟨o,es,ep,t,ho,_,hd,_⟩:=S; ⟨o,ho,fun v z=>by rw [hd] at z; cases z⟩
theorem QW.ty (S:QW prog w s.heap a R):s.TypeIs (.ref a) "set":=let ⟨o,_,_,_,ho,hx,_⟩:=S; ⟨o,ho,hx.1⟩
theorem qGc {Q:Value->Shared->Prop} (q:QW prog w (s.heap.push (qCU (!jA w))) s.heap.objs.size []->Q (.ref s.heap.objs.size) { s with heap:=s.heap.push (qCU (!jA w)) }):wpAny (model prog w) A (newSet (.type "set")) Q E s:=by
 delta newSet
 refine wB (je ?_)
 refine yD ?_
 refine q ⟨_,#[],0,_,wR _ rfl,⟨rfl,rfl,rfl⟩,rfl,YI 0 0 _,rfl,xK,?_,rfl⟩
 cases jA w
 ·exact .inr rfl
 ·exact .inl rfl
theorem qGY {es:Array (Int×Value)} (e:es.toList=R.map (qIb prog w)) {i:Nat} {x:Int×Value} (h:es[i]? = some x):∃ r,r∈R/\x=qIb prog w r:=by
 have:x∈R.map (qIb prog w):=e ▸ vU.mpr (Array.mem_of_getElem? h)
 obtain ⟨r,hr,e⟩:=zJ.mp this
 exact ⟨r,hr,e.symm⟩
noncomputable def qJx (R:List TRw) (r:TRw) (R':List TRw):Prop:=(r.2∈R.map (·.2)/\R'=R)\/(r.2∉R.map (·.2)/\vM R' (r::R))
theorem qIe {ax:Addr} {kx:List Int} {Q:Value->Shared->Prop} (S:QW prog w s.heap a R) (hu:A.units+8<cLine) (hx:IsTupleKey (intKind prog w) s.heap kx ax) (all:∀ r∈R,IsTupleKey (intKind prog w) s.heap r.2 r.1) (lim:R.length+1<307)
  (q:∀(hp:Heap) (R':List TRw) (tk:Nat),kN a s.heap hp->QW prog w hp a R'->qJx R (ax,kx) R'->Q .none { s with heap:=hp,toks:=tk }):wpAny (model prog w) A (call (.builtin "set.add") [.ref a,.ref ax]) Q E s:=by
 have ty:=S.ty
 obtain ⟨o,es,ep,t,ho,hex,hd,Rm,er,nd,l1,l2⟩:=S
 have sz:es.size=R.length:=by rw [<- wH,er,wA]
 refine zW F.slot_set_add ty F.entry_set_add ?_ (F.args_set_add_2 _ _)
 delta Builtin.«set.add» Builtin.Frozenset.oneOther UT setAdd setAddHashed
 have hu':A.in1.units<cLine:=by
  show A.units+1<cLine
  omega
 have lim':es.size+1<307:=by omega
 have e1:∀(i:Nat) (h':Int) (v:Value),es[i]? = some (h',v)->∃(b:Addr) (kv:List Int),v=.ref b/\IsTupleKey (intKind prog w) s.heap kv b:=fun i h' v z=>by
  obtain ⟨r,hr,y⟩:=qGY er z
  cases y
  exact ⟨r.1,r.2,rfl,all r hr⟩
 have e2:∀(i:Nat) (h':Int) (b:Addr),es[i]? = some (h',.ref b)->IsTupleKey (intKind prog w) s.heap kx b->kx∈R.map (·.2):=fun i h' b z k=>by
  obtain ⟨r,hr,y⟩:=qGY er z
  cases y
  rw [k.inj (all r hr)]
  exact kX hr
 have e3:(∀(i:Nat) (b:Addr),es[i]? = some (tupleKeyHash (intKind prog w) kx,.ref b)->¬ IsTupleKey (intKind prog w) s.heap kx b)->kx∉R.map (·.2):=fun un m=>by
  obtain ⟨r,hr,y⟩:=zJ.mp m
  have m2:qIb prog w r∈es.toList:=er ▸ kX hr
  obtain ⟨i,hi,ei⟩:=gL.mp (vU.mp m2)
  refine un i r.1 ?_ (y ▸ all r hr)
  rw [wV hi,ei,<- y]
  rfl
 repeat' first | assumption | (refine wpAny_pyHash_tuple hu' hx ?_) | (refine qJD (s:={ s with toks:=s.toks+(kx.length+1) }) ho hd Rm hu' hx lim' e1 (fun i h' b z k=>?_) (fun un es' t' ep' hp p R' m1 m2 g sb=>?_) 99999) | wp_step
 ·exact ⟨_,rfl,q s.heap R _ (Heap.SameBut.refl ..) ⟨o,es,ep,t,ho,hex,hd,Rm,er,nd,l1,l2⟩ (.inl ⟨e2 i h' b z k,rfl⟩)⟩
 ·have nin:=e3 un
  obtain ⟨R2,p2,g2⟩:=j3 (f:=qIb prog w) p (m:=(ax,kx)::R) (by rw [er]; rfl)
  refine ⟨_,rfl,q hp R2 _ sb ⟨_,es',ep',t',g,hex,rfl,R',g2,?_,m1 ▸ l1,m2.trans l2⟩ (.inr ⟨nin,p2⟩)⟩
  exact (p2.map (·.2)).nodup_iff.mpr (vE.mpr ⟨nin,nd⟩)
noncomputable abbrev jv (elt tg iter:Expr) (ifs:List Expr) (scope:Scope) (pos:Pos):Expr:=.SetComp elt [⟨tg,iter,ifs,0⟩] scope pos
theorem qHq {elt tg iter:Expr} {ifs:List Expr} {scope:Scope} {pos:Pos} {it acc:Value} {env:Env} {RR:Result->Shared->Prop} (J:Nat->Shared->Prop)
  (turn:∀ n s,J n s->wpAny (model prog w) A (pyNext it) (fun r s1=>match r with
   | none=>RR (.ok .next) s1
   | some v=>wpAny (model prog w) A (letOwnedTupleGo tg it v) (fun _ s2=>wpAny (model prog w) A (assign tg env v) (fun _ s3=>wpAny (model prog w) A (qCv ifs env) (fun ok s4=>
     if ok=true then wpAny (model prog w) A (eval elt env) (fun x s5=>wpAny (model prog w) A (call (.builtin "set.add") [acc,x]) (fun _ s6=>∃ m,m<n/\J m s6) noR s5) noR s4
     else ∃ m,m<n/\J m s4) noR s3) noR s2) noR s1) noR s)
  (n:Nat) (h:J n s):codeAny (model prog w) A (.compLoop (jv elt tg iter ifs scope pos) 0 it acc env) RR s:=by
 refine WQ rfl J (fun n s hI=>?_) n h
 refine VH (env:=env) (m:=compTurn (jv elt tg iter ifs scope pos) 0 it acc env) ?_
 refine wB (uC (wB (th0 (turn n s hI) fun r s1 h1=>?_)))
 cases r with
 | none=>exact wD h1
 | some v=>
  refine wB (th0 h1 fun _ s2 h2=>wB (th0 h2 fun _ s3 h3=>wB (th0 h3 fun ok s4 h4=>?_)))
  cases ok with
  | false=>exact wD ⟨rfl,h4⟩
  | true=>exact wB (wB (th0 h4 fun x s5 h5=>wB (uC (wB (th0 h5 fun _ s6 h6=>wD (wD ⟨rfl,h6⟩))))))
theorem qEx {elt tg iter:Expr} {ifs:List Expr} {scope:Scope} {pos:Pos} {it acc:Value} {env:Env} {RR:Result->Shared->Prop}
  (h0:codeAny (model prog w) A (.compLoop (jv elt tg iter ifs scope pos) 0 it acc env) RR s)
  (h:wpAny (model prog w) A (pyIter it) (fun i s'=>codeAny (model prog w) A (.compLoop (jv elt tg iter ifs scope pos) 0 i acc env) RR s') noR s) :
  codeAny (model prog w) A (.compStart (jv elt tg iter ifs scope pos) 0 it acc env) RR s:=by
 refine gR (wpAny_notedAt (env:=env) (m:=compStart (jv elt tg iter ifs scope pos) 0 it acc env) (wB (fX (wpAny_ite ?_))))
 split
 ·exact wD ⟨rfl,h0⟩
 ·exact wB (gO (wB (uC (wB (th0 h fun _ _ z=>wD ⟨rfl,z⟩)))))
end
noncomputable def qFv (J:It) (g:TG) (tt:TT) (te:TE) (σ0:St) (H1:Hp) (Q:List TRw->Hp->Prop):Prop:=
 ∃ W:Nat->Nat->List TRw->St->Hp->Prop,(∃ m,W 0 m [] σ0 H1)/\∀ i m R σ H,W i m R σ H->(∀ r∈R,H r.1=some (.tup (r.2.map V.int)))/\R.length<60/\
  ((J.stop i H/\Q R H)\/(J.go i H/\∃ N:List TRw->St->Hp->Prop,(∀ R' σ' H',N R' σ' H'->∃ m',m'<m/\W (i+1) m' R' σ' H')/\
   ∀ x H',J.yld i H x H'->g x σ H' fun σ2 H2=>tt σ2 H2 fun b H3=>if b=true then te σ2 H3 fun y H4=>∃(p:Addr) (ks:List Int),y=.ref p/\H4 p=some (.tup (ks.map V.int))/\(∀ r∈R,H4 r.1=some (.tup (r.2.map V.int)))/\∀ R',qJx R (p,ks) R'->N R' σ2 H4 else N R σ2 H3))
section
variable {X:Cx} {pins:List (Addr×Obj)} {σ:St} {H:Hp} {s:Shared}
theorem qGv {its:List Value}:∀{ns:List Int},IntsAre its ns->ItemsAre (intKind X.prog X.w) ns its:=by
 intro ns h
 induction h with
 | nil=>exact .nil
 | cons n t _ ih=>exact .cons (by show Value.isInt n (.int n t)=true; exact decide_eq_true rfl) ih
theorem qFh (I:Inv X pins σ H s) {p:Addr} {ks:List Int} (h:H p=some (.tup (ks.map V.int))):IsTupleKey (intKind X.prog X.w) s.heap ks p:=by
 obtain ⟨its,rv,⟨o,ho,hc,n,hd⟩,_⟩:=I.tuple (SqT.of (K:=X.K) h)
 exact ⟨o,_,n,ho,hc,hd,qGv (X:=X) (qFE rv)⟩
theorem qJM {own:List Str} {fr:List (Str×Nat)} {scope:Scope} {cl:List (Str×Addr)} {elt tg iter:Expr} {ifs:List Expr} {pos:Pos} {g:TG} {tt:TT} {te:TE} {Q:List TRw->Hp->Prop} {RR:Value->Addr->Result->Shared->Prop} {E:Value->Shared->Prop}
  {it:Addr} {fp:List Addr} {tn:Nat->Heap->Prop} {J:It}
  (hc:X.calm=true) (hu:X.A.units+64<cLine) (S:jC X own fr scope) (I:Inv X pins σ H s) (hcl:∀ x c,cl.lookup x=some c->X.env.cells.lookup x=some c) (hcs:∀ x∈scope.names,x.2=.free->(cl.lookup x.1).isSome=true)
  (T:Turn X.prog X.w X.K tg J fp it tn) (st:tn 0 s.heap) (hf:∀ b∈fp,Y4 X pins H b)
  (hB:∀(cl:List (Str×Addr)) (C:Addr) (s0:Shared) (H0:Hp) (fp:List Addr),PG (qd X (own++fr.map (·.1)) scope cl C s0 H0 fp) tg g/\PF (qd X (own++fr.map (·.1)) scope cl C s0 H0 fp) ifs tt/\PE (qd X (own++fr.map (·.1)) scope cl C s0 H0 fp) elt te)
  (body:qFv J g tt te (qj own fr σ) H Q)
  (hR:∀ D C R s' H',Inv X pins σ H' s'->QW X.prog X.w s'.heap D R->(∀ r∈R,H' r.1=some (.tup (r.2.map V.int)))->R.length<60->Q R H'->D≠C->C≠X.env.locals->(∃ m,s'.heap.Ns C m)->Y4 X pins H' C->RR (.ref D) C (.ok .next) s') :
  wpAny (model X.prog X.w) X.A (newSet (.type "set")) (fun acc s3=>wpAny (model X.prog X.w) X.A (newFunctionEnv scope X.env.globals cl [] X.env.qual none .none (some X.env)) (fun cenv s4=>
   codeAny (model X.prog X.w) X.A (.compStart (jv elt tg iter ifs scope pos) 0 (.ref it) acc { cenv with scope:=relabel scope X.env }) (RR acc cenv.locals) s4) E s3) E s:=by
 refine qGc fun A3=>?_
 have nD:H s.heap.objs.size=none:=I.hok.fresh (wK _)
 have fpD:Y4 X pins H s.heap.objs.size:=I.fpOk (wK _) nD
 have I3:Inv X pins σ H { s with heap:=s.heap.push (qCU (!jA X.w)),toks:=s.toks }:=I.kept (t':=s.toks) fun b u e=>wF _ e
 generalize hs3:({ s with heap:=s.heap.push (qCU (!jA X.w)),toks:=s.toks }:Shared)=s3 at I3
 have A3':QW X.prog X.w s3.heap s.heap.objs.size []:=by subst hs3; exact A3
 generalize hD:s.heap.objs.size=D at nD fpD A3'
 have st3:tn 0 s3.heap:=by
  subst hs3
  exact T.keep _ _ _ st fun b _ o e=>wF _ e
 have fD:∀ b∈fp,b≠D:=fun b hb z=>by
  obtain ⟨o,ho,_⟩:=T.obj _ _ st b hb
  exact absurd (wY ho) (by rw [hD,z]; exact xR _)
 have hf3:∀ b∈D::fp,Y4 X pins H b:=fun b hb=>(wZ.mp hb).elim (fun z=>z ▸ fpD) (hf b)
 have ob3:∀ b∈D::fp,∃ o,s3.heap.get? b=some o:=fun b hb=>(wZ.mp hb).elim (fun z=>let ⟨o,e,_⟩:=A3'.obj; ⟨o,z ▸ e⟩) fun z=>let ⟨o,e,_⟩:=T.obj _ _ st3 b z; ⟨o,e⟩
 obtain ⟨W,⟨m0,w0⟩,turn⟩:=body
 refine YH fun h4 B4=>?_
 have keep4:=B4.keep
 have far:∀ b∈D::fp,∀ x c,(qW s3.heap.objs.size scope++cl).lookup x=some c->c≠b:=fun b hb x c e=>by
  obtain ⟨o,ho⟩:=ob3 b hb
  exact YB B4 ho e fun z=>(hf3 b hb).2.2.2.2.1 x c (hcl x c z)
 generalize hs4:({ s3 with heap:=h4,toks:=s3.toks }:Shared)=s4
 have I4:Inv (qd X (own++fr.map (·.1)) scope (qW s3.heap.objs.size scope++cl) s3.heap.objs.size s3 H (D::fp)) [] (qj own fr σ) H s4:=by
  subst hs4
  exact qA8 S I3 hcl hcs hf3 ob3 B4
 have st4:tn 0 s4.heap:=by
  subst hs4
  exact T.keep _ _ _ st3 fun b _ o e=>keep4 b o e
 have A4:QW X.prog X.w s4.heap D []:=by
  subst hs4
  exact A3'.at fun o e=>keep4 D o e
 have Cne:s3.heap.objs.size≠X.env.locals:=gY I3.lt
 have DC:D≠s3.heap.objs.size:=by
  obtain ⟨o,e,_⟩:=A3'.obj
  exact zH (wY e)
 generalize hcl2:qW s3.heap.objs.size scope++cl=cl2 at I4 far
 generalize hC:s3.heap.objs.size=C at I4 Cne DC
 obtain ⟨pG,pF,pE⟩:=hB cl2 C s3 H (D::fp)
 generalize hY:qd X (own++fr.map (·.1)) scope cl2 C s3 H (D::fp)=Y at I4 pG pF pE
 have yP:Y.prog=X.prog:=by rw [<- hY]; rfl
 have yw:Y.w=X.w:=by rw [<- hY]; rfl
 have yK:Y.K=X.K:=by rw [<- hY]; rfl
 have yA:Y.A=X.A:=by rw [<- hY]; rfl
 have yc:Y.calm=true:=by rw [<- hY]; exact hc
 have yx:Y.xe=fun _ _=>False:=by rw [<- hY]; rfl
 have yfs:Y.fs=frs X.stack:=by rw [<- hY]; rfl
 have yex:Y.ex=D::fp:=by rw [<- hY]; rfl
 have yH:Y.H₀=H:=by rw [<- hY]; rfl
 have ys:Y.s₀=s3:=by rw [<- hY]; rfl
 have yl:Y.env.locals=C:=by rw [<- hY]; rfl
 have ypn:Y.pn=[]:=by rw [<- hY]; rfl
 have ycl:Y.env.cells=cl2:=by rw [<- hY]; rfl
 have yenv:Y.env=compEnvC scope cl2 C X.env:=by rw [<- hY]; rfl
 have e5:{ (newEnv scope C X.env.globals cl2 X.env.qual none .none (some X.env) builtinsNs:Env) with scope:=relabel scope X.env } = Y.env:=by rw [yenv]; rfl
 have hCe:(newEnv scope C X.env.globals cl2 X.env.qual none .none (some X.env) builtinsNs:Env).locals=C:=rfl
 have fpY:∀{H':Hp} {b:Addr},b∈D::fp->H' b=none->∀ pl:List (Addr×Obj),(∀ p∈pl,p.1≠b)->Y4 Y pl H' b:=fun {H' b} hb hn pl hp=>by
  obtain ⟨o,ho⟩:=ob3 b hb
  have hlt:=wY ho
  refine ⟨hn,?_,?_,.inl (by rw [yex]; exact hb),fun x c e=>?_,fun p hp'=>?_⟩
  ·rw [yl,<- hC]; exact zH hlt
  ·rw [yfs]
   intro z
   obtain ⟨_,f1,f2,_⟩:=hf3 b hb
   rcases wZ.mp (I.stkSub b z) with e | e
   ·exact f1 e
   ·exact f2 e
  ·rw [ycl] at e
   exact far b hb x c e
  ·rw [ypn,uK] at hp'
   exact hp p hp'
 have main:codeAny (model X.prog X.w) X.A (.compLoop (jv elt tg iter ifs scope pos) 0 (.ref it) (.ref D) Y.env) (RR (.ref D) C) s4:=by
  refine qHq (fun n s'=>∃ i R σ' H',Inv Y [] σ' H' s'/\tn i s'.heap/\(∀ b∈D::fp,H' b=none)/\QW X.prog X.w s'.heap D R/\W i n R σ' H') ?_ m0 ⟨0,[],_,_,I4,st4,fun b hb=>(hf3 b hb).1,A4,w0⟩
  rintro n s5 ⟨i,R5,σ5,H5,I5,st5,fr5,A5,w5⟩
  obtain ⟨hT5,hl5,hw⟩:=turn i n R5 σ5 H5 w5
  have ID:=I5.pinned (fp:=[D]) (fun b hb=>by rw [zB.mp hb]; exact fpY wN (fr5 D wN) [] fun p hp=>absurd hp yM) fun b hb=>by rw [zB.mp hb]; exact A5.obj
  have pD:∀{h:Heap},∀ p∈[]++QZ [D] h,∀ b∈fp,p.1≠b:=fun p hp b hb=>by
   rw [uK] at hp
   rw [zB.mp (qCB hp).1]
   exact (fD b hb).symm
  have same:∀{pl:List (Addr×Obj)} {h:Heap} {σ':St} {H':Hp} {s':Shared},QW X.prog X.w h D R5->Inv Y (([]++QZ [D] h)++pl) σ' H' s'->QW X.prog X.w s'.heap D R5/\H' D=none:=fun {pl h σ' H' s'} A I'=>by
   obtain ⟨o,e,_⟩:=A.obj
   have m:(D,o)∈Y.pn++(([]++QZ [D] h)++pl):=zD _ (kJ _ (zD _ (jE wN e)))
   obtain ⟨p1,p2,_⟩:=I'.pin (D,o) m
   refine ⟨A.at fun o' e'=>?_,p2⟩
   rw [e] at e'
   cases e'
   exact p1
  rcases hw with ⟨stop,q⟩ | ⟨go,N,hN,step⟩
  ·have:=T.done Y yP yw yK yc i _ s5 σ5 H5 (fun _ _=>False) ID (fun b hb=>fpY (wQ _ hb) (fr5 b (wQ _ hb)) _ fun p hp=>pD p hp b hb) st5 stop
   rw [yA] at this
   refine thn this fun r s6 ⟨hr,I6⟩=>?_
   subst hr
   obtain ⟨A6,n6⟩:=same (pl:=[]) A5 (by rw [zZ]; exact I6)
   have I7:Inv X pins σ H5 s6:=by
    refine I3.call' (ch:=D::fp) (H':=H5) ?_ ?_ ?_ I6.bare fun b hb=>?_
    ·rw [<- ys]; exact I6.os
    ·have:=I6.base
     rw [yfs,yex,yH,ys] at this
     exact this
    ·have:=I6.hok
     rw [yP,yw] at this
     exact this
    ·obtain ⟨_,f1,_,f3,f4,f5⟩:=hf3 b hb
     exact ⟨f3,f1,f4,f5⟩
   obtain ⟨mC,hnC,_⟩:=I6.loc
   rw [yl] at hnC
   refine hR D C R5 s6 H5 I7 A6 hT5 hl5 q DC Cne ⟨mC,hnC⟩ ?_
   refine I3.fpOk (by rw [hC]; exact wK _) ?_
   have:=I6.free
   rw [yl] at this
   exact this
  ·have h5:=T.item Y yP yw yK yc i _ s5 σ5 H5 (fun _ _=>False) ID (fun b hb=>fpY (wQ _ hb) (fr5 b (wQ _ hb)) _ fun p hp=>pD p hp b hb) st5 go
   rw [yA] at h5
   refine thn h5 fun r s6 ⟨u,hr,h6⟩=>?_
   subst hr
   refine thn h6 fun _ s7 ⟨x,H7,I7,r7,y7,st7,fr7⟩=>?_
   have I7':=I7.pinned (fp:=fp) (fun b hb=>fpY (wQ _ hb) (fr7 b hb) _ fun p hp=>pD p hp b hb) (T.obj _ _ st7)
   have h8:=pG _ s7 σ5 H7 x u _ I7' r7 (step x H7 y7)
   rw [yP,yw,yA,yx] at h8
   refine thn h8 fun _ s8 ⟨σ8,H8,I8,q8⟩=>?_
   have h9:=pF _ s8 σ8 H8 _ I8 q8
   rw [yP,yw,yA,yx] at h9
   refine thn h9 fun b s9 ⟨H9,I9,q9⟩=>?_
   have pinF:∀{σ':St} {H':Hp} {s':Shared},Inv Y (([]++QZ [D] s5.heap)++QZ fp s7.heap) σ' H' s'->(∀ b∈fp,∀ o,s7.heap.get? b=some o->s'.heap.get? b=some o)/\∀ b∈fp,H' b=none:=fun {σ' H' s'} I'=>by
    refine ⟨fun b hb o e=>(I'.pin (b,o) (zD _ (zD _ (jE hb e)))).1,fun b hb=>?_⟩
    obtain ⟨o,e,d⟩:=T.obj _ _ st7 b hb
    exact (I'.pin (b,o) (zD _ (zD _ (jE hb e)))).2.1
   have again:∀{R':List TRw} {σ':St} {H':Hp} {s':Shared},Inv Y [] σ' H' s'->(∀ b∈fp,∀ o,s7.heap.get? b=some o->s'.heap.get? b=some o)->(∀ b∈fp,H' b=none)->H' D=none->QW X.prog X.w s'.heap D R'->N R' σ' H'->∃ m,m<n/\∃ i R σ' H',Inv Y [] σ' H' s'/\tn i s'.heap/\(∀ b∈D::fp,H' b=none)/\QW X.prog X.w s'.heap D R/\W i m R σ' H':=fun {R' σ' H' s'} I' kp fr dn A' n'=>by
    obtain ⟨m',hm,w'⟩:=hN R' σ' H' n'
    exact ⟨m',hm,i+1,R',σ',H',I',T.keep _ _ _ st7 kp,fun b hb=>(wZ.mp hb).elim (fun z=>z ▸ dn) (fr b),A',w'⟩
   cases b with
   | false=>
    simp only [xP,if_false] at q9 ⊢
    obtain ⟨A9,n9⟩:=same A5 I9
    obtain ⟨k9,f9⟩:=pinF I9
    exact again I9.unpinned.unpinned k9 f9 n9 A9 q9
   | true=>
    simp only [if_true] at q9 ⊢
    have h10:=pE _ s9 σ8 H9 _ I9 q9
    rw [yP,yw,yA,yx] at h10
    refine thn h10 fun y s10 ⟨z,H10,I10,r10,p,ks,ez,hp,all,n10⟩=>?_
    subst ez
    obtain rfl:y=yF p:=r10
    obtain ⟨A10,d10⟩:=same A5 I10
    obtain ⟨k10,f10⟩:=pinF I10
    have key:∀{p:Addr} {ks:List Int},H10 p=some (.tup (ks.map V.int))->IsTupleKey (intKind X.prog X.w) s10.heap ks p:=fun {p ks} e=>by
     have:=qFh I10 e
     rw [yP,yw] at this
     exact this
    refine qIe A10 (by omega) (key hp) (fun r hr=>key (all r hr)) (by omega) fun h11 R11 tk sb A11 mo=>?_
    have I11:Inv Y [] σ8 H10 { s10 with heap:=h11,toks:=tk }:=by
     obtain ⟨g0,g1,g2,g3,g4,g5⟩:=fpY (H':=H10) (b:=D) wN d10 [] fun p hp=>absurd hp yM
     exact I10.unpinned.unpinned.turned (it:=D) (t':=tk) (fun b o hb e=>sb.extBut b o hb e) g0 g1 g3 g4 g5
    exact again I11 (fun b hb o e=>sb.extBut b o (fD b hb) (k10 b hb o e)) f10 d10 A11 (n10 R11 mo)
 have start:codeAny (model X.prog X.w) X.A (.compStart (jv elt tg iter ifs scope pos) 0 (.ref it) (.ref D) Y.env) (RR (.ref D) C) s4:=qEx main (T.self X.A 0 s4 _ _ st4 main)
 have goal:codeAny (model X.prog X.w) X.A (.compStart (jv elt tg iter ifs scope pos) 0 (.ref it) (.ref D) { (newEnv scope C X.env.globals cl2 X.env.qual none .none (some X.env) builtinsNs:Env) with scope:=relabel scope X.env }) (RR (.ref D) (newEnv scope C X.env.globals cl2 X.env.qual none .none (some X.env) builtinsNs:Env).locals) s4:=by
  rw [e5,hCe]; exact start
 subst hC hD hs3
 exact goal
end
end L2
namespace LSo
open PySem PySem.W PyProof.Rows
section
variable {prog:Program} {w:World} {A:Around} {E:Value->Shared->Prop} {s:Shared}
theorem qFi {T:String} {r d:Addr} {n:Nat} {P:Nat->Value->Prop} {OK:Heap->Prop} {vs:List Value} {nss:List (List Int)} {Q:Value->Shared->Prop} (hu:A.units+8<cLine) (calm:A.handled=none) (K:KdlSrc prog w T r d n P OK) (ok:OK s.heap)
  (all:∀ acc:Array Value,ItemsOf P acc n->acc.toList=vs) (hn:n=vs.length) (rw':Rows s.heap vs nss) (h64:vs.length<64)
  (h:∀(p:Array Nat) (h1 h2:Heap) (m tk:Nat),Pm vs.length p->Up (O:=qLT) (fun i=>nss.getD i []) p vs.length->(∀ b o,s.heap.get? b=some o->h1.get? b=some o)->(∀ b o,h1.get? b=some o->h2.get? b=some o)->h2.get? h1.objs.size=some (seqObj "list" (JH vs p) m)->Q (.ref h1.objs.size) { s with heap:=h2,toks:=tk }):wpAny (model prog w) A (call (.builtin "sorted") [.ref r]) Q E s:=by
 have fit:vs.length<=sizeLine:=zC (vQ h64) (by rw [vG]; decide)
 refine kT kind_sorted plain_sorted entry_sorted (args_sorted1 _) (wB (m:=checkCount "sorted" 1 1 _) (wD (wB (kdu_collect (A:=A.in1) K calm ok (by rw [hn]; exact fit) fun h1 tk acc k1 it=>?_))))
 rw [all acc it]
 refine wB (fT ?_ fit)
 have oL:(h1.push (seqObj "list" vs.toArray 0)).get? h1.objs.size=some (seqObj "list" vs.toArray 0):=wR h1 rfl
 have apart:∀ b u,h1.get? b=some u->b≠h1.objs.size:=fun b u y=>zH (wY y)
 have r2:Rows (qy (h1.push (seqObj "list" vs.toArray 0)) h1.objs.size vs) vs nss:=rw'.kept fun b u y=>qAW (apart b u (k1 b u y)) (wF _ (k1 b u y))
 obtain ⟨fs,f1,f2,f3⟩:=r2.firsts
 refine wB (yS (zW slot_list_sort (s:={ s with heap:=h1.push (seqObj "list" vs.toArray 0),toks:=tk }) ⟨_,oL,rfl⟩ entry_list_sort (qF1 (κ:=tuples' true) (key:=fun i=>nss.getD i []) (O:=qLT) oL h64 (fun hv Q hq=>kat_kind (T:=.type "int") f1 (by omega) (fun v hv=>?_) (by decide) hq) (Yd ?_ r2) fun p P1 P2=>?_) (args_list_sort _)))
 ·obtain ⟨n,t,rfl⟩:=f3 v hv
  exact fun A Q E s' _ hq=>xZ (ZG s' n t) hq
 ·show A.units+1+1<cLine
  omega
 ·obtain ⟨m,om⟩:=Q0 (out:=JH vs p) oL
  exact ⟨_,rfl,wD ⟨_,rfl,h p h1 _ m tk P1 P2 k1 (fun b u y=>Q3 (apart b u y) (wF _ y)) om⟩⟩
end
end LSo
namespace L2
open PySem PySem.Spec PyProof.Rows PySem.W
noncomputable def qDQ (own:List Str) (fr:List (Str×Nat)) (wi:TI) (g:TG) (tt:TT) (te:TE):TE:=fun σ H Q=>wi σ H fun J H1=>qFv J g tt te (qj own fr σ) H1 fun R H2=>(∀ r∈R,r.2≠[])/\∀(R':List TRw) (l:Addr),vM R' R->(R'.map (·.2)).Pairwise (fun a b=>HT.lexLt b a=false)->H2 l=none->Q (.ref l) (upd H2 l (.lst (R'.map fun r=>V.ref r.1)))
section
variable {X:Cx} {pins:List (Addr×Obj)} {σ:St} {H:Hp} {s:Shared}
theorem qDc (I:Inv X pins σ H s):∀{R:List TRw},(∀ r∈R,H r.1=some (.tup (r.2.map V.int)))->(∀ r∈R,r.2≠[])->LSo.Rows s.heap (R.map fun r=>yF r.1) (R.map (·.2))
 | [],_,_=>trivial
 | r::R,h,n=>by
  obtain ⟨js,q1,q2,_⟩:=I.tuple (SqT.of (K:=X.K) (h r wN))
  exact ⟨⟨r.1,_,rfl,q2,intsAre_of q1,n r wN⟩,qDc I (fun z hz=>h z (wQ _ hz)) fun z hz=>n z (wQ _ hz)⟩
theorem qBc:∀ R:List TRw,qt (R.map fun r=>V.ref r.1) (R.map fun r=>yF r.1)
 | []=>.nil
 | _::R=>.cons rfl (qBc R)
theorem qD0 {α β:Type} {f:α->β} {d:α} {e:β}:∀{l:List α} {is:List Nat},(∀ i∈is,i<l.length)->(is.map fun i=>(l.map f).getD i e)=(is.map fun i=>l.getD i d).map f:=fun {l is} h=>by
 rw [zE]
 refine vV fun i hi=>?_
 have:=h i hi
 show (l.map f).getD i e=f (l.getD i d)
 rw [zA,zA,wI,wC this]
 rfl
theorem qHF {α:Type} {d:α} {l:List α} {is:List Nat} (p:vM is (wO l.length)):vM (is.map fun i=>l.getD i d) l:=by
 refine (p.map _).trans ?_
 have:(wO l.length).map (fun i=>l.getD i d)=l:=by
  apply List.ext_getElem
  ·rw [wA,zR]
  ·intro i h1 h2
   rw [VF,List.getElem_range,zA,wC h2]
   rfl
 rw [this]
theorem qHS {D:Addr} {R:List TRw} {Q:VK} (hu:X.A.units+64<cLine) (hc:X.calm=true) (I:Inv X pins σ H s) (S:QW X.prog X.w s.heap D R) (all:∀ r∈R,H r.1=some (.tup (r.2.map V.int))) (ne:∀ r∈R,r.2≠[]) (few:R.length<60)
  (q:∀(R':List TRw) (l:Addr),vM R' R->(R'.map (·.2)).Pairwise (fun a b=>HT.lexLt b a=false)->H l=none->Q (.ref l) (upd H l (.lst (R'.map fun r=>V.ref r.1)))):wpAny (model X.prog X.w) X.A (call (.builtin "sorted") [.ref D]) (EP X pins σ Q) X.xe s:=by
 obtain ⟨o,es,ep,t,ho,hex,hd,Rm,er,nd,l1,l2⟩:=S
 have Wk:ji X.w s.heap D es ep t:=⟨⟨o,ho,hex,hd⟩,Rm.kept,l1,l2⟩
 obtain ⟨R1,p1,g1⟩:=j3 (f:=qIb X.prog X.w) (Jo X.w D ep es) (m:=R) er
 have lR:R1.length=R.length:=p1.length_eq
 have sz:es.size=R.length:=by rw [<- wH,er,wA]
 refine LSo.qFi (by omega) (I.ok.hd hc) (qFm (es:=es) (ep:=ep) (t:=t)) Wk (vs:=R1.map fun r=>yF r.1) (fun acc it=>?_) (by rw [wA,lR]; exact sz) (qDc I (fun r hr=>all r (p1.mem_iff.mp hr)) fun r hr=>ne r (p1.mem_iff.mp hr)) (by rw [wA]; omega) fun p h1 h2 m tk P1 P2 k1 k2 new=>?_
 ·obtain ⟨i1,i2⟩:=it
  apply xV
  intro j
  rw [zX,wI]
  by_cases hj:j<es.size
  ·have hj':j<R1.length:=by omega
   obtain ⟨hh,y⟩:=i2 j (acc[j]'(by omega)) (wV (by omega))
   rw [wV (by omega),wC hj']
   rw [<- zX,g1,wI,wC hj'] at y
   have y2:=congrArg (fun z=>z.map (·.2)) y
   exact y2.symm
  ·rw [xM (by omega),vP (by omega)]
   rfl
 have pl:p.toList.Perm (wO R1.length):=by
  have:=P1.pm
  rw [fE,wA] at this
  exact this
 have pin:∀ i∈p.toList,i<R1.length:=fun i hi=>zM.mp (pl.mem_iff.mp hi)
 have I1:Inv X pins σ H { s with heap:=h1,toks:=tk }:=I.kept (t':=tk) k1
 have pv:(p.toList.map fun i=>(R1.map fun r=>V.ref r.1).getD i V.non)=(p.toList.map fun i=>R1.getD i (0,[])).map fun r=>V.ref r.1:=qD0 pin
 have hl:p.toList.length<=sizeLine:=by
  rw [pl.length_eq,zR,vG]
  omega
 refine ⟨.ref h1.objs.size,upd H h1.objs.size (.lst ((p.toList.map fun i=>R1.getD i (0,[])).map fun r=>V.ref r.1)),I1.laid (t':=tk) k2 (wK _) ?_,rfl,q _ _ ((qHF pl).trans p1) ?_ (I1.hok.fresh (wK _))⟩
 ·refine ⟨by rw [wA,wA]; exact hl,(p.toList.map fun i=>(R1.map fun r=>yF r.1).getD i xF),m,?_,?_⟩
  ·rw [<- pv]
   exact Jd (qBc R1) _ fun i hi=>by rw [wA]; exact pin i hi
  ·rw [new]
   rfl
 ·rw [<- qD0 (e:=[]) pin]
  generalize R1.map (·.2)=nss at P2 ⊢
  apply kU.mpr
  intro i j hi hj hij
  rw [wA] at hi hj
  have hs:=P1.size
  have:=P2 i j (by omega) (by rw [wH] at hj; omega)
  rw [VF,VF]
  have g:∀ k (hk:k<p.toList.length),LSo.kk (O:=LSo.qLT) (fun i=>nss.getD i []) p k=nss.getD p.toList[k] []:=fun k hk=>by
   unfold LSo.kk
   congr 1
   have hk':k<p.size:=by simpa using hk
   simp [Array.getD,hk']
  rw [g i hi,g j hj] at this
  exact this
theorem qEI {own:List Str} {fr:List (Str×Nat)} {scope:Scope} {elt tg iter:Expr} {ifs:List Expr} {p cpos pos:Pos} {wi:TI} {g:TG} {tt:TT} {te:TE} (hc:X.calm=true) (hu:X.A.units+64<cLine) (hg:Gl X "sorted") (hm:X.mg "sorted" = none) (S:jC X own fr scope) (hi:PI X tg iter wi)
  (hB:∀(cl:List (Str×Addr)) (C:Addr) (s0:Shared) (H0:Hp) (fp:List Addr),PG (qd X (own++fr.map (·.1)) scope cl C s0 H0 fp) tg g/\PF (qd X (own++fr.map (·.1)) scope cl C s0 H0 fp) ifs tt/\PE (qd X (own++fr.map (·.1)) scope cl C s0 H0 fp) elt te)
  (hs:∀ x,foldedSetIterable iter X.env x=pure x:=by intro _; rfl)
  (he:starEach [jv elt tg iter ifs scope cpos] X.env=(false,eval (jv elt tg iter ifs scope cpos) X.env)::starEach [] X.env:=by rfl) (hpl:(backTo pos (starEach [] X.env)).any (·.1)=false:=by rfl):PE X (.Call (.Name "sorted" p) [jv elt tg iter ifs scope cpos] [] pos) (qDQ own fr wi g tt te):=by
 intro pins s σ H Q I h
 obtain ⟨cl,e1,e2,e3⟩:=Q1 (S.has I.ok)
 refine uX (JT I hg hm boot_sorted ?_)
 refine gN ?_ he hpl
 refine WB ?_
 rw [show eval (jv elt tg iter ifs scope cpos) X.env=comprehension (jv elt tg iter ifs scope cpos) scope X.env (firstIterPos [⟨tg,iter,ifs,0⟩] cpos) (newSet (.type "set")) (firstAsync [⟨tg,iter,ifs,0⟩]) (firstIter [⟨tg,iter,ifs,0⟩] X.env) from rfl]
 refine kZ (e:=jv elt tg iter ifs scope cpos) (scope:=scope) (first:=eval iter X.env) (newAcc:=newSet (.type "set")) (use:=none) (g:=⟨tg,iter,ifs,0⟩) (gs:=[]) rfl hs e1 S.kind S.names (thn (hi pins s σ H _ I h) fun v s1 h1=>thn h1 fun itv s2 h2=>?_)
 obtain ⟨it,fp,tn,J,H2,e,I2,T,st2,f2,body⟩:=h2
 subst e
 refine qJM (RR:=fun acc C=>compPost (model X.prog X.w) X.A X.xe none _ acc C) hc hu S I2 e2 e3 T st2 f2 hB body ?_
 intro D C R s' H' I' A' all few q DC hne ⟨m,hn⟩ ⟨f0,f1,f2',f3,f4,f5⟩
 refine ⟨m,hn,fun h'' hs''=>WN ?_⟩
 exact qHS hu hc (I'.turned (it:=C) (t':=s'.toks) (fun b o hb e=>hs''.extBut b o hb e) f0 f1 f3 f4 f5) (A'.at fun o e=>hs''.extBut D o DC e) all q.1 few q.2
end
noncomputable abbrev IRw:=Int×Nat
noncomputable def qHT (prog:Program) (w:World) (r:IRw):Int×Value:=((intKind prog w).hash r.1,.int r.1 r.2)
noncomputable def qAy (prog:Program) (w:World) (hp:Heap) (a:Addr) (R:List IRw):Prop:=∃(o:Obj) (es:Array (Int×Value)) (ep:Nat) (t:ST),hp.get? a=some o/\o.ExactSet/\o.data=.set es ep t/\Qi t (es.toList.map (·.1))/\es.toList=R.map (qHT prog w)/\(R.map (·.1)).Nodup/\(jA w=true\/t.led=true)/\t.plain=true
noncomputable def qKE (R:List IRw) (r:IRw) (R':List IRw):Prop:=(r.1∈R.map (·.1)/\R'=R)\/(r.1∉R.map (·.1)/\vM R' (r::R))
theorem qI5 {t:ST} {hs:List Int} (k:jr t hs) (h:Int):∃ c,t.freeSlot h=some ((qE t h c).j,false)/\t.slot (qE t h c).j=.empty/\∀ q,q<c->t.slot (qE t h q).j≠.empty:=by
 obtain ⟨c,m,z⟩:=qBP k (fun _=>h+1) h 0 fun b _ _=>zP _
 rcases z with ⟨se,e⟩ | ⟨i,_,g,_⟩
 ·refine ⟨c,?_,se,fun q hq=>?_⟩
  ·unfold SetTable.freeSlot
   rw [show t.probeStart h=qE t h 0 from rfl,e]
   rfl
  ·obtain ⟨i,y,_⟩:=m.past q (zP _) hq
   exact fun v=>by rw [y] at v; cases v
 ·exact absurd g (by show ¬ h+1=h; omega)
section
variable {prog:Program} {w:World} {A:Around} {E:Value->Shared->Prop} {s:Shared} {a:Addr} {R:List IRw}
theorem qHt {es:Array (Int×Value)} (e:es.toList=R.map (qHT prog w)):ElemsOf (intKind prog w) es.toList:=fun x hx=>by
 rw [e] at hx
 obtain ⟨r,_,rfl⟩:=zJ.mp hx
 exact ⟨⟨r.1,decide_eq_true rfl,rfl⟩,rfl⟩
theorem qJq {es:Array (Int×Value)} {t:ST} {h:Int} {x:Value} (Rm:Qi t (es.toList.map (·.1))):∃(es':Array (Int×Value)) (t':ST),layNew t es h x=(es',t',false,false)/\vM es'.toList ((h,x)::es.toList)/\jr t' (es'.toList.map (·.1))/\(t'.tooFull=false->Qi t' (es'.toList.map (·.1)))/\t'.led=t.led/\t'.plain=t.plain/\t'.mask=t.mask:=by
 obtain ⟨c,fs,se,al⟩:=qI5 Rm.kept h
 obtain ⟨kp,rm⟩:=qCF Rm se al
 have em:=ins_map es (xE t (qE t h c).j).snd (h,x)
 have kp':jr (xE t (qE t h c).j).fst ((uR es (xE t (qE t h c).j).snd (h,x)).toList.map (·.1)):=by
  rw [em]
  exact kp
 have hf:=j5 kp' (n:=(uR es (xE t (qE t h c).j).snd (h,x)).size) (by rw [wA,wH])
 refine ⟨_,_,?_,?_,kp',fun nf=>?_,rfl,rfl,rfl⟩
 ·unfold layNew
  rw [fs]
  dsimp only
  unfold SetTable.orStandIn
  rw [hf]
  rfl
 ·rw [hG]
  refine List.perm_middle.trans ?_
  rw [gM]
 ·rw [em]
  exact rm nf
theorem qFx {es:Array (Int×Value)} {t:ST} {n:Nat} (k:jr t (es.toList.map (·.1))) (hn:es.size=n+1) (few:n*5<t.mask*3) (full:t.tooFull=true) (lim:n+1<307):∃(es':Array (Int×Value)) (t':ST),relayAll t es (uI es.size)=(es',t',false)/\vM es'.toList es.toList/\Qi t' (es'.toList.map (·.1))/\t'.led=t.led/\t'.plain=t.plain:=by
 have hl:(es.toList.map (·.1)).length=n+1:=by rw [wA,wH,hn]
 obtain ⟨u,order,e,pm,Rm,el,epl⟩:=YQ k hl few full lim (es.map (·.1)) (by rw [fZ])
 rw [hl,<- hn,<- wH] at pm
 have p2:vM (order.filterMap (es[·]?)).toList es.toList:=by
  rw [gJ]
  refine (pm.filterMap (es[·]?)).trans ?_
  rw [wH,US]
 have m2:(order.filterMap (es[·]?)).toList.map (·.1)=order.toList.filterMap ((es.toList.map (·.1))[·]?):=by
  rw [gJ,List.map_filterMap]
  congr 1
  funext i
  rw [wI,zX]
 rw [<- m2] at Rm
 refine ⟨_,u,?_,p2,Rm,el,epl⟩
 unfold relayAll
 rw [hn,e]
 dsimp only
 have c1:coversAll order es.size=true:=by
  unfold coversAll
  rw [wH] at pm
  exact List.isPerm_iff.mpr pm
 have c2:=j5 Rm.kept (n:=(order.filterMap (es[·]?)).size) (by rw [wA,wH])
 rw [<- hn,c1,c2]
 rfl
theorem qJJ {k:Int} {tok:Nat} {Q:Bool->Shared->Prop} (S:qAy prog w s.heap a R) (lim:R.length+1<307)
  (q:∀(b:Bool) (hp:Heap) (R':List IRw) (tk:Nat),kN a s.heap hp->qAy prog w hp a R'->qKE R (k,tok) R'->Q b { s with heap:=hp,toks:=tk }):wpAny (model prog w) A (setAdd a (.int k tok)) Q E s:=by
 obtain ⟨o,es,ep,t,ho,hex,hd,Rm,er,nd,l1,l2⟩:=S
 have sz:es.size=R.length:=by rw [<- wH,er,wA]
 have hel:=qHt er
 have hf:t.fits es.size=true:=j5 Rm.kept (by rw [wA,wH])
 have bs:byScan (.int k tok) es=true:=byScan_of rfl (by unfold scanBound; omega) hel
 delta setAdd setAddHashed
 refine yS (wB (wpAny_pyHash_int (yS ?_)))
 unfold setAddHashedIn
 refine asks ho hd Rm.kept ?_
 dsimp only
 rw [if_pos bs]
 delta setAddByScan
 refine wB (wB (gO (wB (wpAny_setScan_of (knd:=intKind prog w) (k:=k) (decide_eq_true rfl) ho hd hf hel ?_))))
 have get:∀(hp:Heap) (o:Obj) (e1:Array (Int×Value)) (n1:Nat) (t1:ST) (es':Array (Int×Value)) (t':ST),hp.get? a=some o->o.data=.set e1 n1 t1->(hp.update a (ZJ es' t')).get? a=some { o with data:=.set es' (n1+1) t' }:=by
  intro hp o e1 n1 t1 es' t' g d
  have:=vO (ZJ es' t') g (by rw [UZ es' t' d]; rfl)
  rw [UZ es' t' d] at this
  exact this
 cases hr:es.toList.findIdx? (fun e=>(intKind prog w).is k e.2) with
 | some j=>
  obtain ⟨hj,hp,_⟩:=List.findIdx?_eq_some_iff_getElem.mp hr
  have m:es.toList[j]∈R.map (qHT prog w):=er ▸ uG hj
  obtain ⟨r,hr',er'⟩:=zJ.mp m
  rw [<- er'] at hp
  have e1:r.1=k:=(intKind prog w).inj (qHT prog w r).2 r.1 k (decide_eq_true rfl) hp
  refine wD (wD (q _ s.heap R _ (Heap.SameBut.refl ..) ⟨o,es,ep,t,ho,hex,hd,Rm,er,nd,l1,l2⟩ (.inl ⟨?_,rfl⟩)))
  rw [show (k,tok).1=r.1 from e1.symm]
  exact kX hr'
 | none=>
  have nin:k∉R.map (·.1):=fun z=>by
   obtain ⟨r,hr',e⟩:=zJ.mp z
   have:=List.findIdx?_eq_none_iff.mp hr (qHT prog w r) (er ▸ kX hr')
   have y:(intKind prog w).is k (qHT prog w r).2=true:=by rw [<- e]; exact decide_eq_true rfl
   rw [y] at this
   cases this
  obtain ⟨es1,t1,el,pm,kp,rm,d1,d2,d3⟩:=qJq (h:=hashInt k) (x:=.int k tok) Rm
  obtain ⟨R1,p1,g1⟩:=j3 (f:=qHT prog w) pm (m:=(k,tok)::R) (by rw [er]; rfl)
  have nd1:(R1.map (·.1)).Nodup:=(p1.map (·.1)).nodup_iff.mpr (vE.mpr ⟨nin,nd⟩)
  have sz1:es1.size=es.size+1:=by
   have:=pm.length_eq
   rwa [wH,zS,wH] at this
  dsimp only
  rw [el]
  dsimp only
  refine wB (wD ?_)
  rw [if_pos (d2.trans l2)]
  refine wB (wD ?_)
  rw [if_pos rfl]
  refine wB (fP (s:={ s with toks:=s.toks+1 }) ho hd ?_ (by rw [sz1,vG]; omega))
  have h1:=get s.heap o es ep t es1 t1 ho hd
  by_cases full:t1.tooFull=true
  ·rw [full]
   obtain ⟨es2,t2,el2,pm2,rm2,f1,f2⟩:=qFx kp sz1 (by have:=Rm.few; rw [wA,wH] at this; rw [d3]; exact this) full (by omega)
   obtain ⟨R2,p2,g2⟩:=j3 (f:=qHT prog w) pm2 (m:=R1) g1
   rw [if_pos (show (!false && true)=true from rfl),el2]
   dsimp only
   refine wB (wD (wB (fP (s:={ s with heap:=s.heap.update a (ZJ es1 t1),toks:=s.toks+1 }) h1 rfl ?_ ?_)))
   ·refine wD (wD (q _ _ R2 _ ((yO ..).trans (yO ..)) ⟨_,es2,_,t2,get _ _ _ _ _ es2 t2 h1 rfl,hex,rfl,rm2,g2,(p2.map (·.1)).nodup_iff.mpr nd1,?_,f2.trans (d2.trans l2)⟩ (.inr ⟨nin,p2.trans p1⟩)))
    rw [f1,d1]
    exact l1
   ·have:=pm2.length_eq
    rw [wH,wH] at this
    rw [this,sz1,vG]
    omega
  ·have nf:t1.tooFull=false:=gE.mpr full
   rw [nf]
   refine wD (wD (q _ _ R1 _ (yO ..) ⟨_,es1,_,t1,h1,hex,rfl,rm nf,g1,nd1,?_,d2.trans l2⟩ (.inr ⟨nin,p1⟩)))
   rw [d1]
   exact l1
end
section
variable {prog:Program} {w:World} {A:Around} {E:Value->Shared->Prop} {s:Shared} {a:Addr} {R:List IRw}
theorem qAy.at {hp hp':Heap} (S:qAy prog w hp a R) (k:∀ o,hp.get? a=some o->hp'.get? a=some o):qAy prog w hp' a R:=
 let ⟨o,es,ep,t,ho,r⟩:=S; ⟨o,es,ep,t,k o ho,r⟩
noncomputable def Holds (R:List IRw) (ns:List Int):Prop:=(R.map (·.1)).Nodup/\(∀ k,k∈R.map (·.1)↔k∈ns)/\R.length<=ns.length
theorem Holds.next {R R':List IRw} {ns:List Int} {r:IRw} (h:Holds R ns) (m:qKE R r R'):Holds R' (ns++[r.1]):=by
 obtain ⟨h1,h2,h3⟩:=h
 have e:∀ k,k∈ns++[r.1]↔k∈R.map (·.1)\/k=r.1:=fun k=>by rw [zK,zB,h2]
 have l:(ns++[r.1]).length=ns.length+1:=by rw [wM]; rfl
 rcases m with ⟨z,rfl⟩ | ⟨z,p⟩
 ·exact ⟨h1,fun k=>(Iff.intro .inl fun y=>y.elim id fun e=>e ▸ z).trans (e k).symm,by omega⟩
 ·refine ⟨(p.map (·.1)).nodup_iff.mpr (vE.mpr ⟨z,h1⟩),fun k=>?_,?_⟩
  ·rw [(p.map (·.1)).mem_iff,e k]
   show k∈r.1::R.map (·.1)↔_
   rw [wZ]
   exact Or.comm
  ·rw [p.length_eq,zS,l]
   omega
theorem qFJ {I:Addr} {RR:Result->Shared->Prop} (h:wpAny (model prog w) A.in1 (Builtin.«set.update.loop» ⟨[.ref a,.ref I],[]⟩) (fun fin s'=>match fin with
  | .done f=>RR (.ok f) s'
  | .again c=>c.quiet=true/\codeAny (model prog w) A c RR s') (fun e s'=>RR (.error e) s') s):codeAny (model prog w) A (.builtin "set.update.loop" ⟨[.ref a,.ref I],[]⟩) RR s:=
 ZO F.entry_set_update_loop (by rw [show A.under (.builtin "set.update.loop" ⟨[.ref a,.ref I],[]⟩)=A.in1 from ZR F.plain_set_update_loop _]; exact h)
theorem qFg {I:Addr} {fp wr:List Addr} {n:Nat} {P:Nat->Value->Prop} {St:Nat->Heap->Prop} {ns:List Int} {RR:Result->Shared->Prop} (W:Walks prog w A.in1 I fp wr n P St) (far:a∉fp) (hn:n=ns.length) (few:n<300) (val:∀ i v,P i v->∃ k t,ns[i]? = some k/\v=.int k t) :
  ∀(k i:Nat) (s:Shared) (R:List IRw),n - i=k->i<=n->St i s.heap->qAy prog w s.heap a R->Holds R (ns.take i)->
   (∀(h':Heap) (tk:Nat) (R':List IRw),qAy prog w h' a R'->Holds R' ns->(∀ b o,b∉a::wr->s.heap.get? b=some o->h'.get? b=some o)->RR (.ok (.ret .none)) { s with heap:=h',toks:=tk })->codeAny (model prog w) A (.builtin "set.update.loop" ⟨[.ref a,.ref I],[]⟩) RR s:=by
 have farw:a∉wr:=fun z=>far (W.sub _ z)
 intro k
 induction k with
 | zero=>
  intro i s R hk hi st S h q
  have e:i=n:=by omega
  refine qFJ ?_
  refine wB (m:=pyNext (.ref I)) (W.done s _ _ (e ▸ st) fun h' tk kp=>?_)
  refine wD (q h' tk R (S.at fun o y=>kp a o farw y) ?_ fun b o nb y=>kp b o (fun z=>nb (wQ _ z)) y)
  rw [e,hn,xQ] at h
  exact h
 | succ k ih=>
  intro i s R hk hi st S h q
  have lt:i<n:=by omega
  refine qFJ ?_
  refine wB (m:=pyNext (.ref I)) (W.item i s _ _ lt st fun v h' tk hp st' kp=>?_)
  obtain ⟨x,t,ex,rfl⟩:=val i v hp
  refine wB (m:=holding [kD x t] (setAdd a (.int x t))) (yS (qJJ (s:={ s with heap:=h',toks:=tk }) (S.at fun o y=>kp a o farw y) ?_ fun b hp' R' tk' sb S' mo=>?_))
  ·have:=h.2.2
   rw [yW] at this
   omega
  ·refine wD ⟨uS F.plain_set_update_loop _,ih (i+1) _ R' (by omega) lt (W.frame _ _ _ st' fun c hc o y=>?_) S' ?_ fun h'' tk'' R'' S'' hh kp'=>q h'' tk'' R'' S'' hh fun c o nc y=>kp' c o nc ?_⟩
   ·rw [sb.2 c fun z=>far (z ▸ hc)]
    exact y
   ·have:=h.next mo
    rw [uO,ex]
    exact this
   ·show hp'.get? c=some o
    rw [sb.2 c fun z=>nc (z ▸ wN)]
    exact kp c o (fun z=>nc (wQ _ z)) y
theorem qGy {x:Value} {Q:Value->Shared->Prop} (q:Q (.ref s.heap.objs.size) { s with heap:=s.heap.push (qCU (!jA w)) }):codeAny (model prog w) A (.call (.builtin "set.__new__") ⟨[.type "set",x],[]⟩) (wants Q E) s:=by
 refine gR (wB (m:=checkBuiltinCall "set.__new__" ⟨[.type "set",x],[]⟩) (fN (F.newCall_set_1 x) (wD ⟨uS F.plain_set_new _,ZO F.entry_set_new ?_⟩)))
 rw [show A.under (.builtin "set.__new__" ⟨[.type "set",x],[]⟩)=A.in1 from ZR F.plain_set_new _]
 delta Builtin.«set.__new__» Builtin.Frozenset.newClass
 have sb:=sub_set_self
 repeat' first | assumption | (refine qGc fun _=>?_) | wp_step
theorem qCc {x:Value} {Q:Value->Shared->Prop} (K:codeAny (model prog w) A.in1 (.call (.builtin "set.__init__") ⟨[.ref s.heap.objs.size,x],[]⟩) (wants (fun r s2=>r=.none/\Q (.ref s.heap.objs.size) s2) E) { s with heap:=s.heap.push (qCU (!jA w)) }):wpAny (model prog w) A (call (.type "set") [x]) Q E s:=by
 obtain ⟨m0,ms,mro⟩:=kR.mro
 obtain ⟨b1,b2,b3,b4⟩:=VG kR.made (VG kR.sub (VG kR.notType kR.canCreate))
 have ck:=F.typeCall_set_1 x
 refine wpAny_call (gR (show wpAny _ _ (callAny (.type "set") _) _ _ _ from wD ⟨Code.quiet_builtin _ (by decide +kernel),ZO F.entry_type_call ?_⟩))
 rw [Around.under_plain (weight_type_call_type "set" [x] []) rfl]
 repeat' first | assumption | wp_step
 refine gC (qGy (x:=x) (E:=E) (Q:=fun r s1=>r=.ref s.heap.objs.size/\s1 = { s with heap:=s.heap.push (qCU (!jA w)) }) ⟨rfl,rfl⟩) fun r s1 hr=>?_
 rcases r with _ | fl
 ·exact hr
 cases fl with
 | ret v=>
  obtain ⟨rfl,rfl⟩:=hr
  have ty:Shared.TypeIs { s with heap:=s.heap.push (qCU (!jA w)) } (.ref s.heap.objs.size) "set":=⟨qCU (!jA w),wR s.heap (o:=qCU (!jA w)) rfl,rfl⟩
  obtain ⟨i1,i2⟩:=VG kR.init.lookup (kR.init.bind (.ref s.heap.objs.size))
  repeat' first | assumption | wp_step
  refine gC K fun r2 s2 hr2=>?_
  rcases r2 with _ | fl2
  ·exact hr2
  cases fl2 with
  | ret v2=>
   obtain ⟨rfl,q⟩:=hr2
   repeat (any_goals (first | exact q | assumption | wp_step))
  | _=>exact hr2.elim
 | _=>exact hr.elim
theorem qCy {T:String} {r d:Addr} {n:Nat} {P:Nat->Value->Prop} {OK:Heap->Prop} {vs:List Value} {ns:List Int} {Q:Value->Shared->Prop} (calm:A.handled=none) (K:KdlSrc prog w T r d n P OK) (ok:OK s.heap)
  (all:∀ acc:Array Value,ItemsOf P acc n->acc.toList=vs) (hn:n=vs.length) (hI:IntsAre vs ns) (h64:vs.length<64)
  (h:∀(h1 h2:Heap) (m tk:Nat) (out:Array Value) (ns':List Int),IntsAre out.toList ns'->ns'.Perm ns->ns'.Pairwise (·<=·)->(∀ b o,s.heap.get? b=some o->h1.get? b=some o)->(∀ b o,h1.get? b=some o->h2.get? b=some o)->h2.get? h1.objs.size=some (seqObj "list" out m)->Q (.ref h1.objs.size) { s with heap:=h2,toks:=tk }):wpAny (model prog w) A (call (.builtin "sorted") [.ref r]) Q E s:=by
 have fit:vs.length<=sizeLine:=zC (vQ h64) (by rw [vG]; decide)
 refine kT kind_sorted plain_sorted entry_sorted (args_sorted1 _) (wB (m:=checkCount "sorted" 1 1 _) (wD (wB (kdu_collect (A:=A.in1) K calm ok (by rw [hn]; exact fit) fun h1 tk acc k1 it=>?_))))
 rw [all acc it]
 refine wB (fT ?_ fit)
 have oL:(h1.push (seqObj "list" vs.toArray 0)).get? h1.objs.size=some (seqObj "list" vs.toArray 0):=wR h1 rfl
 have apart:∀ b u,h1.get? b=some u->b≠h1.objs.size:=fun b u y=>zH (wY y)
 refine wB (yS (zW slot_list_sort (s:={ s with heap:=h1.push (seqObj "list" vs.toArray 0),toks:=tk }) ⟨_,oL,rfl⟩ entry_list_sort (list_sort_tree oL hI h64 fun out ns' a1 a2 a3=>⟨_,rfl,?_⟩) (args_list_sort _)))
 obtain ⟨m,om⟩:=LSo.Q0 (out:=out) oL
 exact wD ⟨_,rfl,h h1 _ m tk out ns' a1 a2 a3 k1 (fun b u y=>LSo.Q3 (apart b u y) (wF _ y)) om⟩
theorem qBF:∀ R:List IRw,IntsAre (R.map fun r=>kD r.1 r.2) (R.map (·.1))
 | []=>.nil
 | r::R=>.cons r.1 r.2 (qBF R)
end
section
variable {X:Cx} {pins:List (Addr×Obj)} {σ:St} {H:Hp} {s:Shared}
theorem qCt {D:Addr} {R:List IRw} {ns:List Int} {Q:VK} (hc:X.calm=true) (I:Inv X pins σ H s) (S:qAy X.prog X.w s.heap D R) (hs:Holds R ns) (few:ns.length<60)
  (q:∀(ns':List Int) (l:Addr),ns'.Nodup->(∀ k,k∈ns'↔k∈ns)->ns'.Pairwise (·<=·)->H l=none->Q (.ref l) (upd H l (.lst (ns'.map V.int)))):wpAny (model X.prog X.w) X.A (call (.builtin "sorted") [.ref D]) (EP X pins σ Q) X.xe s:=by
 obtain ⟨o,es,ep,t,ho,hex,hd,Rm,er,nd,l1,l2⟩:=S
 have Wk:ji X.w s.heap D es ep t:=⟨⟨o,ho,hex,hd⟩,Rm.kept,l1,l2⟩
 obtain ⟨R1,p1,g1⟩:=j3 (f:=qHT X.prog X.w) (Jo X.w D ep es) (m:=R) er
 obtain ⟨s1,s2,s3⟩:=hs
 have lR:R1.length=R.length:=p1.length_eq
 have sz:es.size=R.length:=by rw [<- wH,er,wA]
 refine qCy (I.ok.hd hc) (qFm (es:=es) (ep:=ep) (t:=t)) Wk (vs:=R1.map fun r=>kD r.1 r.2) (fun acc it=>?_) (by rw [wA,lR]; exact sz) (qBF R1) (by rw [wA]; omega) fun h1 h2 m tk out ns' a1 a2 a3 k1 k2 new=>?_
 ·obtain ⟨i1,i2⟩:=it
  apply xV
  intro j
  rw [zX,wI]
  by_cases hj:j<es.size
  ·have hj':j<R1.length:=by omega
   obtain ⟨hh,y⟩:=i2 j (acc[j]'(by omega)) (wV (by omega))
   rw [wV (by omega),wC hj']
   rw [<- zX,g1,wI,wC hj'] at y
   have y2:=congrArg (fun z=>z.map (·.2)) y
   exact y2.symm
  ·rw [xM (by omega),vP (by omega)]
   rfl
 have pm:vM ns' (R.map (·.1)):=a2.trans (p1.map (·.1))
 have I1:Inv X pins σ H { s with heap:=h1,toks:=tk }:=I.kept (t':=tk) k1
 refine ⟨.ref h1.objs.size,upd H h1.objs.size (.lst (ns'.map V.int)),I1.laid (t':=tk) k2 (wK _) ?_,rfl,q ns' _ (pm.nodup_iff.mpr s1) (fun k=>pm.mem_iff.trans (s2 k)) a3 (I1.hok.fresh (wK _))⟩
 refine ⟨?_,out.toList,m,Yb a1,?_⟩
 ·rw [wA,pm.length_eq,wA,vG]
  omega
 ·rw [new]
end
section
variable {w:World} {prog:Program} {s:Shared} {A:Around} {E:Value->Shared->Prop}
theorem qHk {l:Addr} {its:List Value} {ns:List Int} {Q:Value->Shared->Prop} (hh:A.handled=none) (ht:s.heap.IsList l its.toArray) (hi:IntsAre its ns) (hb:its.length<300)
  (k:∀(h':Heap) (tk:Nat) (R:List IRw),qAy prog w h' s.heap.objs.size R->Holds R ns->(∀ b o,s.heap.get? b=some o->h'.get? b=some o)->Q (.ref s.heap.objs.size) { s with heap:=h',toks:=tk }):wpAny (model prog w) A (call (.type "set") [.ref l]) Q E s:=by
 have hlen:its.length=ns.length:=IntsAre.length hi
 refine qCc ?_
 have oS:(s.heap.push (qCU (!jA w))).get? s.heap.objs.size=some (qCU (!jA w)):=wR s.heap rfl
 have ty:Shared.TypeIs { s with heap:=s.heap.push (qCU (!jA w)) } (.ref s.heap.objs.size) "set":=⟨_,oS,rfl⟩
 have tup:(s.heap.push (qCU (!jA w))).IsList l its.toArray:=ht.push _
 have z:(s.heap.push (qCU (!jA w))).objs.size=s.heap.objs.size+1:=gF _ _
 obtain ⟨⟨c,dd,u,sl⟩,hol,hc,m,hd⟩:=ht
 cases (hc:c=.type "list")
 cases (hd:u=.seq its.toArray m)
 have ll:l<s.heap.objs.size:=wY hol
 have ol:(s.heap.push (qCU (!jA w))).get? l=some ⟨.type "list",dd,.seq its.toArray m,sl⟩:=wF _ hol
 refine codeAny_call_builtin kR.init.plain F.entry_set_init (check_set_init_1 ty ?_)
 have q1:=F.sub_list_set
 have q2:=F.sub_list_frozenset
 have q3:(VV "list" == VV "dict")=false:=by decide
 unfold Builtin.«set.__init__»; unfold noKeywords; unfold Builtin.Frozenset.updateFrom
 generalize walks:pyIter=PI; wp_walk; subst walks
 refine kG tup (wB (wpAny_runValue (qFg (a:=s.heap.objs.size) (ns:=ns) (WG (A:=A.in1.in1.in1) (by simp [hh]) _ l ?_ its.toArray) ?_ (by simpa using hlen) (by simpa using hb) (fun i v hv=>?_) (its.toArray.size - 0) 0 _ [] (by omega) (zP _) ⟨⟨_,wR _ rfl,rfl,rfl⟩,tup.push _⟩ ?_ ⟨xK,fun k=>by simp,zP _⟩ ?_)))
 ·rw [z]
  exact zH (gG ll)
 ·rw [z]
  simp only [wZ,yM,or_false,not_or]
  exact ⟨zH (VC _),gY ll⟩
 ·have hv':its[i]? = some v:=by simpa using hv
  obtain ⟨t,e⟩:=IntsAre.int_at hi i v hv'
  have li:i<ns.length:=by rw [<- hlen]; exact (wL.mp hv').1
  refine ⟨ns[i],t,wC li,?_⟩
  rw [e,zA,wC li]
  rfl
 ·refine ⟨_,#[],0,_,wF _ oS,⟨rfl,rfl,rfl⟩,rfl,YI 0 0 _,rfl,xK,?_,rfl⟩
  cases jA w
  ·exact .inr rfl
  ·exact .inl rfl
 ·intro h' tk R S hh kp
  refine wD (wD ⟨rfl,k h' tk R S hh fun b o e=>kp b o ?_ (wF _ (wF _ e))⟩)
  have lb:=wY e
  simp only [wZ,yM,or_false,not_or]
  exact ⟨zH lb,z ▸ zH (gG lb)⟩
end
noncomputable def qAG (ta:TA):TE:=fun σ H Q=>ta σ H fun xs H1=>∃(p:Addr) (ns:List Int),xs=[.ref p]/\H1 p=some (.lst (ns.map V.int))/\ns.length<60/\∀(ns':List Int) (l:Addr),ns'.Nodup->(∀ k,k∈ns'↔k∈ns)->ns'.Pairwise (·<=·)->H1 l=none->Q (.ref l) (upd H1 l (.lst (ns'.map V.int)))
section
variable {X:Cx}
theorem qBR {e:Expr} {ta:TA} {p p2 cpos pos:Pos} (hc:X.calm=true) (hg:Gl X "sorted") (hm:X.mg "sorted" = none) (hg2:Gl X "set") (hm2:X.mg "set" = none) (ha:PA X [e] ta)
  (h1:starEach [.Call (.Name "set" p2) [e] [] cpos] X.env=(false,eval (.Call (.Name "set" p2) [e] [] cpos) X.env)::starEach [] X.env:=by rfl) (h2:starEach [e] X.env=(false,eval e X.env)::starEach [] X.env:=by rfl)
  (hp1:(backTo pos (starEach [] X.env)).any (·.1)=false:=by rfl) (hp2:(backTo cpos (starEach [] X.env)).any (·.1)=false:=by rfl):PE X (.Call (.Name "sorted" p) [.Call (.Name "set" p2) [e] [] cpos] [] pos) (qAG ta):=by
 intro pins s σ H Q I h
 refine uX (JT I hg hm boot_sorted ?_)
 refine gN ?_ h1 hp1
 refine WB ?_
 refine uX (JT I hg2 hm2 PyProof.Rows.boot_set ?_)
 refine xY (thn (ha cpos pins s σ H _ I h) fun us s1 ⟨vs,H1,I1,r1,a,ns,ev,ea,few,q⟩=>?_) h2 hp2
 subst ev
 obtain ⟨u,rfl,rx⟩:=vals1 r1
 obtain rfl:u=yF a:=rx
 obtain ⟨its,rv,pt,_⟩:=I1.list (SqL.of (K:=X.K) ea)
 have hi:=qFE rv
 have hl:=IntsAre.length hi
 refine qHk (I1.ok.hd hc) pt.isList hi (by omega) fun h' tk R S hs k=>WN ?_
 exact qCt hc (I1.kept (t':=tk) k) S hs few q
end
end L2
namespace L4
open PySem L2
inductive Pl where
 | li (xs:List D) | di (ks:List (Key×D)) | dt (ks:List (List Key×D)) | ex (φ:Hp->Addr->HO->Prop)
inductive Sl where
 | u | d (x:D) | o (p:Pl) | f (K:wG) (xs:List D)
inductive Rs where
 | d (x:D) | o (p:Pl) | b (i:Nat) | raw (v:V)
noncomputable abbrev Sl.l (xs:List D):Sl:=.o (.li xs)
noncomputable abbrev Rs.l (xs:List D):Rs:=.o (.li xs)
noncomputable def Q9 {κ:Type} (G:Hp):List (κ×D)->List (κ×V)->Prop
 | [],vs=>vs=[]
 | x::xs,vs=>∃ v r,vs=(x.1,v)::r/\Den G x.2 v/\Q9 G xs r
theorem Q9.mono {κ:Type} {G G':Hp} (g:qV G G'):∀{xs:List (κ×D)} {vs:List (κ×V)},Q9 G xs vs->Q9 G' xs vs
 | [],_,h=>h
 | _::_,_,⟨v,r,e,h1,h2⟩=>⟨v,r,e,Den.mono g _ _ h1,Q9.mono g h2⟩
noncomputable def qGk (G:Hp):Pl->Addr->HO->Prop
 | .li xs,_,o=>∃ vs,o=.lst vs/\qZ G xs vs
 | .di ks,_,o=>∃ vs,o=.dK vs/\Q9 G ks vs
 | .dt ks,_,o=>∃ vs,o=.dT vs/\Q9 G ks vs
 | .ex φ,a,o=>(∀ xs,o≠.tup xs)/\∀ G',qV G G'->φ G' a o
theorem qGk.ntup {G:Hp} {p:Pl} {a:Addr} {o:HO} (h:qGk G p a o) (xs:List V):o≠.tup xs:=by
 cases p with
 | ex φ=>exact h.1 xs
 | _=>obtain ⟨_,rfl,_⟩:=h; exact fun z=>by cases z
theorem qGk.mono {G G':Hp} (g:qV G G') {p:Pl} {a:Addr} {o:HO} (h:qGk G p a o):qGk G' p a o:=by
 cases p with
 | li xs=>obtain ⟨vs,e,h⟩:=h; exact ⟨vs,e,qZ.mono g _ _ h⟩
 | di ks=>obtain ⟨vs,e,h⟩:=h; exact ⟨vs,e,h.mono g⟩
 | dt ks=>obtain ⟨vs,e,h⟩:=h; exact ⟨vs,e,h.mono g⟩
 | ex φ=>exact ⟨h.1,fun G2 g2=>h.2 G2 (g.trans g2)⟩
noncomputable def qKX (G H:Hp):Sl->Option V->Prop
 | .u,_=>True
 | .d x,o=>∃ v,o=some v/\Den G x v
 | .o p,o=>∃ a vs,o=some (.ref a)/\H a=some vs/\qGk G p a vs
 | .f K xs,o=>∃ a vs,o=some (.ref a)/\SqL K G a vs/\qZ G xs vs
noncomputable def qLd (ρ:List Sl) (σ:St) (a:Addr):Prop:=∃(i:Nat) (xs:Pl),ρ[i]? = some (Sl.o xs)/\σ[i]? = some (some (V.ref a))
structure SI (G F:Hp) (ρ:List Sl) (σ:St) (H:Hp):Prop where
 ok:∀(i:Nat) (s:Sl),ρ[i]? = some s->∃ o,σ[i]? = some o/\qKX G H s o
 g:qV G H
 f:qV F H
 gf:∀ a o,F a=some o->G a=none
 nd:∀(i j:Nat) (a:Addr) (xs ys:Pl),ρ[i]? = some (Sl.o xs)->ρ[j]? = some (Sl.o ys)->σ[i]? = some (some (V.ref a))->σ[j]? = some (some (V.ref a))->i=j
 out:∀ a,qLd ρ σ a->G a=none/\F a=none
 ft:∀ a xs,F a≠some (.tup xs)
noncomputable def jb (G F:Hp) (ρ:List Sl) (σ:St) (H:Hp):Rs->V->Prop
 | .d x,v=>Den G x v
 | .o xs,v=>∃ a vs,v=.ref a/\H a=some vs/\qGk G xs a vs/\G a=none/\F a=none/\¬ qLd ρ σ a
 | .b i,v=>σ[i]? = some (some v)
 | .raw w,v=>v=w
noncomputable def hold (r:Rs) (v:V) (H F:Hp):Hp:=match r,v with
 | .o _,.ref a=>fun b=>if b=a then H a else F b
 | _,_=>F
noncomputable def jw (G F:Hp) (ρ:List Sl) (σ:St) (H:Hp):List Rs->List V->Prop
 | [],vs=>vs=[]
 | r::rs,vs=>∃ v vt,vs=v::vt/\jb G F ρ σ H r v/\jw G (hold r v H F) ρ σ H rs vt
section
variable {G F H:Hp} {ρ:List Sl} {σ:St}
theorem qKX.up {G' H':Hp} {s:Sl} {o:Option V} (h:qKX G H s o) (g:qV G G') (e:∀ xs a vs,s=.o xs->o=some (.ref a)->H a=some vs->H' a=some vs):qKX G' H' s o:=by
 cases s with
 | u=>trivial
 | d x=>obtain ⟨v,h1,h2⟩:=h; exact ⟨v,h1,Den.mono g _ _ h2⟩
 | o xs=>obtain ⟨a,vs,h1,h2,h3⟩:=h; exact ⟨a,vs,h1,e xs a vs rfl h1 h2,h3.mono g⟩
 | f K xs=>
  obtain ⟨a,vs,h1,h2,h3⟩:=h
  exact ⟨a,vs,h1,g.seq h2,qZ.mono g _ _ h3⟩
theorem YJ (r:Rs) (v:V) (h:jb G F ρ σ H r v):qV F (hold r v H F):=by
 cases r with
 | o xs=>
  obtain ⟨a,vs,rfl,h1,h2,h3,h4,h5⟩:=h
  intro b o e
  show (if b=a then H a else F b)=some o
  rw [if_neg]
  ·exact e
  ·intro z; subst z; rw [h4] at e; cases e
 | _=>exact qV.refl _
theorem SI.held (I:SI G F ρ σ H) {r:Rs} {v:V} (h:jb G F ρ σ H r v):SI G (hold r v H F) ρ σ H:=by
 cases r with
 | o xs=>
  obtain ⟨a,vs,rfl,h1,h2,h3,h4,h5⟩:=h
  refine ⟨I.ok,I.g,fun b o e=>?_,fun b o e=>?_,I.nd,fun b hb=>?_,fun b xs e=>?_⟩
  ·by_cases z:b=a
   ·subst z
    have e':(if b=b then H b else F b)=some o:=e
    rw [if_pos rfl] at e'
    exact e'
   ·have e':(if b=a then H a else F b)=some o:=e
    rw [if_neg z] at e'
    exact I.f _ _ e'
  ·by_cases z:b=a
   ·subst z; exact h3
   ·have e':(if b=a then H a else F b)=some o:=e
    rw [if_neg z] at e'
    exact I.gf _ _ e'
  ·have nb:b≠a:=fun z=>h5 (z ▸ hb)
   refine ⟨(I.out b hb).1,?_⟩
   show (if b=a then H a else F b)=none
   rw [if_neg nb]
   exact (I.out b hb).2
  ·have e':(if b=a then H a else F b)=some (.tup xs):=e
   by_cases z:b=a
   ·rw [if_pos z,h1] at e'
    exact h2.ntup xs (zF e')
   ·rw [if_neg z] at e'
    exact I.ft b xs e'
 | _=>exact I
theorem SI.freed {G' H':Hp} {ρ':List Sl} {r:Rs} {v:V} (h:jb G F ρ σ H r v) (g:qV G G') (I':SI G' (hold r v H F) ρ' σ H'):SI G' F ρ' σ H'/\jb G' F ρ' σ H' r v:=by
 cases r with
 | o xs=>
  obtain ⟨a,vs,rfl,h1,h2,h3,h4,h5⟩:=h
  have fa:hold (.o xs) (.ref a) H F a=some vs:=by
   show (if a=a then H a else F a)=_
   rw [if_pos rfl]; exact h1
  have fs:qV F (hold (.o xs) (.ref a) H F):=YJ (ρ:=ρ) (σ:=σ) (G:=G) (.o xs) (.ref a) ⟨a,vs,rfl,h1,h2,h3,h4,h5⟩
  refine ⟨⟨I'.ok,I'.g,fun b o e=>I'.f _ _ (fs _ _ e),fun b o e=>I'.gf _ _ (fs _ _ e),I'.nd,fun b hb=>⟨(I'.out b hb).1,fs.free (I'.out b hb).2⟩,fun b xs e=>I'.ft b xs (fs _ _ e)⟩,a,vs,rfl,I'.f _ _ fa,h2.mono g,I'.gf _ _ fa,h4,fun q=>?_⟩
  rw [(I'.out a q).2] at fa
  cases fa
 | d x=>exact ⟨I',Den.mono g _ _ h⟩
 | b i=>exact ⟨I',h⟩
 | raw w=>exact ⟨I',h⟩
theorem jb.weak {F':Hp} (e:qV F' F) {r:Rs} {v:V} (h:jb G F ρ σ H r v):jb G F' ρ σ H r v:=by
 cases r with
 | o xs=>
  obtain ⟨a,vs,rfl,h1,h2,h3,h4,h5⟩:=h
  exact ⟨a,vs,rfl,h1,h2,h3,e.free h4,h5⟩
 | d x=>exact h
 | b i=>exact h
 | raw w=>exact h
end
noncomputable def Fin (G F:Hp) (σ:St) (Φ:Rs->List Sl->Prop) (Q:VK):Prop:=∀ G' H' v r ρ',Φ r ρ'->qV G G'->SI G' F ρ' σ H'->jb G' F ρ' σ H' r v->Q v H'
noncomputable def wpV (te:TE) (ρ:List Sl) (Φ:Rs->List Sl->Prop):Prop:=∀ G F σ H,SI G F ρ σ H->∀ Q:VK,Fin G F σ Φ Q->te σ H Q
noncomputable def wpT (tt:TT) (ρ:List Sl) (Φ:Bool->List Sl->Prop):Prop:=∀ G F σ H,SI G F ρ σ H->∀ Q:Bool->Hp->Prop,(∀ G' H' b ρ',Φ b ρ'->qV G G'->SI G' F ρ' σ H'->Q b H')->tt σ H Q
noncomputable def wpA (ta:TA) (ρ:List Sl) (Φ:List Rs->List Sl->Prop):Prop:=∀ G F σ H,SI G F ρ σ H->∀ Q:List V->Hp->Prop,(∀ G' H' vs rs ρ',Φ rs ρ'->qV G G'->SI G' F ρ' σ H'->jw G' F ρ' σ H' rs vs->Q vs H')->ta σ H Q
noncomputable def OpV (r2:R2) (x y:Rs) (ρ:List Sl) (Φ:Rs->List Sl->Prop):Prop:=∀ G F σ H vx vy,SI G F ρ σ H->jb G F ρ σ H x vx->jb G (hold x vx H F) ρ σ H y vy->∀ Q:VK,Fin G F σ Φ Q->r2 vx vy H Q
noncomputable def QC (r:List V->Hp->VK->Prop) (rs:List Rs) (ρ:List Sl) (Φ:Rs->List Sl->Prop):Prop:=∀ G F σ H vs,SI G F ρ σ H->jw G F ρ σ H rs vs->∀ Q:VK,Fin G F σ Φ Q->r vs H Q
theorem Fin.at {G F:Hp} {σ:St} {Φ Ψ:Rs->List Sl->Prop} {Q:VK} (h:Fin G F σ Φ Q) {G':Hp} (g:qV G G') (e:∀ r ρ,Ψ r ρ->Φ r ρ):Fin G' F σ Ψ Q:=fun G2 H2 v r ρ2 p g2 I ok=>h G2 H2 v r ρ2 (e _ _ p) (g.trans g2) I ok
section
variable {ρ:List Sl} {Φ:Rs->List Sl->Prop}
theorem wpV.mono {te:TE} {Ψ:Rs->List Sl->Prop} (h:wpV te ρ Φ) (e:∀ r ρ',Φ r ρ'->Ψ r ρ'):wpV te ρ Ψ:=fun G F σ H I Q q=>h G F σ H I Q (q.at (qV.refl _) e)
theorem qNH {r2:R2} {ta tb:TE} (h:wpV ta ρ fun x ρ1=>wpV tb ρ1 fun y ρ2=>OpV r2 x y ρ2 Φ):wpV (tOp r2 ta tb) ρ Φ:=by
 intro G F σ H I Q q
 refine h G F σ H I _ fun G1 H1 vx x ρ1 h1 g1 I1 ok1=>?_
 refine h1 G1 (hold x vx H1 F) σ H1 (I1.held ok1) _ fun G2 H2 vy y ρ2 h2 g2 I2 ok2=>?_
 obtain ⟨I3,ok3⟩:=SI.freed ok1 g2 I2
 have eh:hold x vx H2 F=hold x vx H1 F:=by
  cases x with
  | o xs=>
   obtain ⟨a,vs,rfl,z1,z2,z3,z4,z5⟩:=ok1
   obtain ⟨a',vs',z,y1,y2,y3,y4,y5⟩:=ok3
   cases z
   funext b
   show (if b=a then H2 a else F b)=(if b=a then H1 a else F b)
   by_cases e:b=a
   ·rw [if_pos e,if_pos e,z1]
    have:hold (.o xs) (.ref a) H1 F a=some vs:=by
     show (if a=a then H1 a else F a)=_
     rw [if_pos rfl]; exact z1
    exact I2.f _ _ this
   ·rw [if_neg e,if_neg e]
  | _=>rfl
 exact h2 G2 F σ H2 vx vy I3 ok3 (by rw [eh]; exact ok2) Q (q.at (g1.trans g2) fun _ _ p=>p)
theorem qM6 {r:V->Hp->VK->Prop} {ta:TE} (h:wpV ta ρ fun x ρ1=>QC (fun vs H Q=>∃ v,vs=[v]/\r v H Q) [x] ρ1 Φ):wpV (tUn r ta) ρ Φ:=by
 intro G F σ H I Q q
 refine h G F σ H I _ fun G1 H1 vx x ρ1 h1 g1 I1 ok1=>?_
 obtain ⟨v,e,z⟩:=h1 G1 F σ H1 [vx] I1 ⟨vx,[],rfl,ok1,rfl⟩ Q (q.at g1 fun _ _ p=>p)
 cases e
 exact z
theorem qMV {Φ:List Rs->List Sl->Prop} (h:Φ [] ρ):wpA qLm ρ Φ:=fun G F σ H I Q q=>q G H [] [] ρ h (qV.refl _) I rfl
theorem jw.cons {F:Hp} {σ:St} {H1 G1 G2 H2:Hp} {ρ1 ρ2:List Sl} {x:Rs} {vx:V} {rs:List Rs} {vs:List V} (ok1:jb G1 F ρ1 σ H1 x vx) (g2:qV G1 G2) (I2:SI G2 (hold x vx H1 F) ρ2 σ H2) (oks:jw G2 (hold x vx H1 F) ρ2 σ H2 rs vs) :
  SI G2 F ρ2 σ H2/\jw G2 F ρ2 σ H2 (x::rs) (vx::vs):=by
 obtain ⟨I3,ok3⟩:=SI.freed ok1 g2 I2
 have eh:hold x vx H2 F=hold x vx H1 F:=by
  cases x with
  | o xs=>
   obtain ⟨a,vs,rfl,z1,z2,z3,z4,z5⟩:=ok1
   funext b
   show (if b=a then H2 a else F b)=(if b=a then H1 a else F b)
   by_cases e:b=a
   ·rw [if_pos e,if_pos e,z1]
    have:hold (.o xs) (.ref a) H1 F a=some vs:=by
     show (if a=a then H1 a else F a)=_
     rw [if_pos rfl]; exact z1
    exact I2.f _ _ this
   ·rw [if_neg e,if_neg e]
  | _=>rfl
 exact ⟨I3,vx,vs,rfl,ok3,by rw [eh]; exact oks⟩
theorem qLC {Φ:List Rs->List Sl->Prop} {te:TE} {ta:TA} (h:wpV te ρ fun x ρ1=>wpA ta ρ1 fun rs ρ2=>Φ (x::rs) ρ2):wpA (qHl te ta) ρ Φ:=by
 intro G F σ H I Q q
 refine h G F σ H I _ fun G1 H1 vx x ρ1 h1 g1 I1 ok1=>?_
 refine h1 G1 (hold x vx H1 F) σ H1 (I1.held ok1) _ fun G2 H2 vs rs ρ2 h2 g2 I2 oks=>?_
 obtain ⟨I3,ok3⟩:=jw.cons ok1 g2 I2 oks
 exact q G2 H2 (vx::vs) (x::rs) ρ2 h2 (g1.trans g2) I3 ok3
theorem qNT {r:List V->Hp->VK->Prop} {t:TA} (h:wpA t ρ fun rs ρ1=>QC r rs ρ1 Φ):wpV (tCB r t) ρ Φ:=by
 intro G F σ H I Q q
 refine h G F σ H I _ fun G1 H1 vs rs ρ1 h1 g1 I1 oks=>?_
 exact h1 G1 F σ H1 vs I1 oks Q (q.at g1 fun _ _ p=>p)
theorem qAf {i:Nat} {x:D} (hi:ρ[i]? = some (.d x)) (h:Φ (.d x) ρ):wpV (qHn i) ρ Φ:=fun G F σ H I Q q=>by
 obtain ⟨o,e,v,rfl,hv⟩:=I.ok i _ hi
 exact ⟨v,e,q G H v _ ρ h (qV.refl _) I hv⟩
theorem qJj {i:Nat} {xs:List D} (hi:ρ[i]? = some (.l xs)) (h:Φ (.b i) ρ):wpV (qHn i) ρ Φ:=fun G F σ H I Q q=>by
 obtain ⟨o,e,a,vs,rfl,hv⟩:=I.ok i _ hi
 exact ⟨_,e,q G H (.ref a) _ ρ h (qV.refl _) I e⟩
theorem qJC {i:Nat} {K:wG} {xs:List D} (hi:ρ[i]? = some (.f K xs)) (h:Φ (.b i) ρ):wpV (qHn i) ρ Φ:=fun G F σ H I Q q=>by
 obtain ⟨o,e,a,vs,rfl,hv⟩:=I.ok i _ hi
 exact ⟨_,e,q G H (.ref a) _ ρ h (qV.refl _) I e⟩
theorem qME {i:Int} (h:Φ (.d (.int i)) ρ):wpV (tC (.int i)) ρ Φ:=fun G F σ H I Q q=>q G H _ _ ρ h (qV.refl _) I (show Den G (.int i) (.int i) from rfl)
theorem qM8 {b:Bool} (h:Φ (.d (.bl b)) ρ):wpV (tC (.bl b)) ρ Φ:=fun G F σ H I Q q=>q G H _ _ ρ h (qV.refl _) I (show Den G (.bl b) (.bl b) from rfl)
theorem qLs {x:Str} (h:Φ (.d (.str x)) ρ):wpV (tC (.str x)) ρ Φ:=fun G F σ H I Q q=>q G H _ _ ρ h (qV.refl _) I (show Den G (.str x) (.str x) from rfl)
theorem qMc {w:V} (h:Φ (.raw w) ρ):wpV (tC w) ρ Φ:=fun G F σ H I Q q=>q G H _ _ ρ h (qV.refl _) I (show w=w from rfl)
end
noncomputable def rd (ρ:List Sl):Rs->Option D
 | .d x=>some x
 | .o (.li xs)=>some (.lst xs)
 | .b i=>match ρ[i]? with
  | some (.o (.li xs))=>some (.lst xs)
  | some (.d x)=>some x
  | _=>none
 | _=>none
noncomputable def rdE (ρ:List Sl):Rs->Option D
 | .d x=>some x
 | .o (.li xs)=>some (.lst xs)
 | .b i=>match ρ[i]? with
  | some (.o (.li xs))=>some (.lst xs)
  | some (.d x)=>some x
  | _=>none
 | _=>none
section
variable {G F H:Hp} {ρ:List Sl} {σ:St} {r:Rs} {v:V} {K:wG}
theorem Q6 (I:SI G F ρ σ H) (h:jb G F ρ σ H r v) {x:D} (e:rdE ρ r=some x):Den H x v/\((∀ ys,x≠.lst ys)->Den G x v)/\∀ ys,x=.lst ys->∃ a vs,v=.ref a/\H a=some (.lst vs)/\qZ G ys vs:=by
 cases r with
 | d y=>
  have e':y=x:=zF e
  subst e'
  refine ⟨Den.mono I.g _ _ h,fun _=>h,fun ys z=>?_⟩
  subst z
  obtain ⟨a,vs,h1,h2,h3⟩:=h
  exact ⟨a,vs,h1,I.g _ _ h2,h3⟩
 | o p=>
  cases p with
  | di _=>cases e
  | dt _=>cases e
  | ex _=>cases e
  | li xs=>
   have e':D.lst xs=x:=zF e
   subst e'
   obtain ⟨a,_,rfl,h1,⟨vs,rfl,h2⟩,h3,h4,h5⟩:=h
   refine ⟨⟨a,vs,rfl,h1,qZ.mono I.g _ _ h2⟩,fun z=>absurd rfl (z xs),fun ys z=>?_⟩
   cases z
   exact ⟨a,vs,rfl,h1,h2⟩
 | b i=>
  have h':σ[i]? = some (some v):=h
  unfold rdE at e
  cases hi:ρ[i]? with
  | none=>simp only [hi] at e; cases e
  | some s=>
   obtain ⟨o,e1,e2⟩:=I.ok i s hi
   rw [h'] at e1
   cases e1
   cases s with
   | u=>simp only [hi] at e; cases e
   | f _ xs=>simp only [hi] at e; cases e
   | d y=>
    simp only [hi] at e
    have e':y=x:=zF e
    subst e'
    obtain ⟨w,z,h⟩:=e2
    cases z
    refine ⟨Den.mono I.g _ _ h,fun _=>h,fun ys z=>?_⟩
    subst z
    obtain ⟨a,vs,h1,h2,h3⟩:=h
    exact ⟨a,vs,h1,I.g _ _ h2,h3⟩
   | o p=>
    cases p with
    | di _=>simp only [hi] at e; cases e
    | dt _=>simp only [hi] at e; cases e
    | ex _=>simp only [hi] at e; cases e
    | li xs=>
     simp only [hi] at e
     have e':D.lst xs=x:=zF e
     subst e'
     obtain ⟨a,_,z,h1,vs,rfl,h2⟩:=e2
     cases z
     refine ⟨⟨a,vs,rfl,h1,qZ.mono I.g _ _ h2⟩,fun z=>absurd rfl (z xs),fun ys z=>?_⟩
     cases z
     exact ⟨a,vs,rfl,h1,h2⟩
 | raw w=>cases e
theorem qBW {x:D} (e:rd ρ r=some x):rdE ρ r=some x:=by
 cases r <;> exact e
theorem jh (I:SI G F ρ σ H) (h:jb G F ρ σ H r v) {xs:List D} (e:rd ρ r=some (.lst xs)):∃ a vs,v=.ref a/\SqL K H a vs/\qZ G xs vs:=by
 obtain ⟨a,vs,h1,h2,h3⟩:=(Q6 I h (qBW e)).2.2 xs rfl
 exact ⟨a,vs,h1,SqL.of h2,h3⟩
theorem J3 (I:SI G F ρ σ H) (h:jb G F ρ σ H r v) {x:D} (e:rd ρ r=some x) (n:∀ ys,x≠.lst ys):Den G x v:=(Q6 I h (qBW e)).2.1 n
theorem jJ (I:SI G F ρ σ H) (h:jb G F ρ σ H r v) {xs:List D} (e:rd ρ r=some (.tup xs)):∃ a vs,v=.ref a/\G a=some (.tup vs)/\qZ G xs vs:=J3 I h e (fun ys z=>by cases z)
theorem qT (I:SI G F ρ σ H) (h:jb G F ρ σ H r v) {i:Int} (e:rd ρ r=some (.int i)):v=.int i:=J3 I h e (fun ys z=>by cases z)
theorem Js (I:SI G F ρ σ H) (h:jb G F ρ σ H r v) {i:Bool} (e:rd ρ r=some (.bl i)):v=.bl i:=J3 I h e (fun ys z=>by cases z)
theorem qHy (I:SI G F ρ σ H) (h:jb G F ρ σ H r v) (e:rd ρ r=some .non):v=.non:=J3 I h e (fun ys z=>by cases z)
theorem SI.new {p:Addr} {o:HO} (I:SI G F ρ σ H) (hp:H p=none):SI G F ρ σ (upd H p o):=
 ⟨fun i s e=>let ⟨o',e1,e2⟩:=I.ok i s e; ⟨o',e1,e2.up (qV.refl _) fun xs a vs _ _ z=>qV.new hp _ _ z⟩,I.g.trans (qV.new hp),I.f.trans (qV.new hp),I.gf,I.nd,I.out,I.ft⟩
theorem SI.newG {p:Addr} {o:HO} (I:SI G F ρ σ H) (hp:H p=none):SI (upd G p o) F ρ σ (upd H p o)/\qV G (upd G p o):=by
 have gp:G p=none:=I.g.free hp
 have fp:F p=none:=I.f.free hp
 refine ⟨⟨fun i s e=>let ⟨o',e1,e2⟩:=I.ok i s e; ⟨o',e1,e2.up (qV.new gp) fun xs a vs _ _ z=>qV.new hp _ _ z⟩,fun b u e=>?_,I.f.trans (qV.new hp),fun b u e=>?_,I.nd,fun b hb=>⟨?_,(I.out b hb).2⟩,I.ft⟩,qV.new gp⟩
 ·by_cases z:b=p
  ·subst z; rw [qJ] at e ⊢; exact e
  ·rw [qN z] at e ⊢; exact I.g _ _ e
 ·have z:b≠p:=fun z=>by subst z; rw [fp] at e; cases e
  rw [qN z]; exact I.gf _ _ e
 ·obtain ⟨i,xs,h1,h2⟩:=hb
  obtain ⟨o',e1,a,vs,z,h3,_⟩:=I.ok i _ h1
  rw [h2] at e1
  cases e1
  cases z
  rw [qN (jd h3 hp)]
  exact (I.out b ⟨i,xs,h1,h2⟩).1
theorem qBj {Φ:Rs->List Sl->Prop} {Q:VK} (q:Fin G F σ Φ Q) (I:SI G F ρ σ H) {x:D} (hv:Den G x v) (h:Φ (.d x) ρ):Q v H:=q G H v (.d x) ρ h (qV.refl _) I hv
theorem j7 {Φ:Rs->List Sl->Prop} {Q:VK} (q:Fin G F σ Φ Q) (I:SI G F ρ σ H) {i:Int} (h:Φ (.d (.int i)) ρ):Q (.int i) H:=qBj q I (x:=.int i) rfl h
theorem qa {Φ:Rs->List Sl->Prop} {Q:VK} (q:Fin G F σ Φ Q) (I:SI G F ρ σ H) {i:Bool} (h:Φ (.d (.bl i)) ρ):Q (.bl i) H:=qBj q I (x:=.bl i) rfl h
theorem Jl {Φ:Rs->List Sl->Prop} {Q:VK} (q:Fin G F σ Φ Q) (I:SI G F ρ σ H) {xs:List D} {vs:List V} (hv:qZ G xs vs) (h:Φ (.d (.tup xs)) ρ) {p:Addr} (hp:H p=none):Q (.ref p) (upd H p (.tup vs)):=by
 obtain ⟨I2,g⟩:=I.newG (o:=.tup vs) hp
 exact q _ _ _ _ ρ h g I2 ⟨p,vs,rfl,qJ,qZ.mono g _ _ hv⟩
theorem QO {Φ:Rs->List Sl->Prop} {Q:VK} (q:Fin G F σ Φ Q) (I:SI G F ρ σ H) {xs:List D} {vs:List V} (hv:qZ G xs vs) (h:Φ (.l xs) ρ) {p:Addr} (hp:H p=none):Q (.ref p) (upd H p (.lst vs)):=by
 refine q G _ _ _ ρ h (qV.refl _) (I.new hp) ⟨p,_,rfl,qJ,⟨vs,rfl,hv⟩,I.g.free hp,I.f.free hp,?_⟩
 rintro ⟨i,ys,h1,h2⟩
 obtain ⟨o',e1,a,ws,z,h3,_⟩:=I.ok i _ h1
 rw [h2] at e1
 cases e1
 cases z
 rw [hp] at h3
 cases h3
theorem SI.putO {i:Nat} {xs ys:Pl} {a:Addr} {vs:HO} (I:SI G F ρ σ H) (hi:ρ[i]? = some (.o xs)) (ha:σ[i]? = some (some (.ref a))) (hv:qGk G ys a vs):SI G F (ρ.set i (.o ys)) σ (upd H a vs):=by
 have oa:=I.out a ⟨i,xs,hi,ha⟩
 have il:i<ρ.length:=(wL.mp hi).1
 refine ⟨fun j s e=>?_,fun b u e=>?_,fun b u e=>?_,I.gf,fun j k b us ws h1 h2 h3 h4=>?_,fun b hb=>?_,I.ft⟩
 ·rw [zV] at e
  by_cases z:i=j
  ·subst z
   rw [if_pos rfl,if_pos il] at e
   cases e
   exact ⟨_,ha,a,vs,rfl,qJ,hv⟩
  ·rw [if_neg z] at e
   obtain ⟨o',e1,e2⟩:=I.ok j s e
   refine ⟨o',e1,e2.up (qV.refl _) fun us b ws h1 h2 h3=>?_⟩
   subst h1 h2
   rw [qN]
   ·exact h3
   ·intro q; subst q
    exact z (I.nd i j b xs us hi e ha e1)
 ·rw [qN]
  ·exact I.g _ _ e
  ·intro q; subst q; rw [oa.1] at e; cases e
 ·rw [qN]
  ·exact I.f _ _ e
  ·intro q; subst q; rw [oa.2] at e; cases e
 ·have w:∀(n:Nat) (zs:Pl),(ρ.set i (.o ys))[n]? = some (.o zs)->∃ zs',ρ[n]? = some (.o zs'):=fun n zs h=>by
   rw [zV] at h
   by_cases z:i=n
   ·subst z; exact ⟨xs,hi⟩
   ·rw [if_neg z] at h; exact ⟨zs,h⟩
  obtain ⟨u1,w1⟩:=w j us h1
  obtain ⟨u2,w2⟩:=w k ws h2
  exact I.nd j k b u1 u2 w1 w2 h3 h4
 ·obtain ⟨n,zs,h1,h2⟩:=hb
  rw [zV] at h1
  by_cases z:i=n
  ·subst z; exact I.out b ⟨i,xs,hi,h2⟩
  ·rw [if_neg z] at h1; exact I.out b ⟨n,zs,h1,h2⟩
theorem SI.put {i:Nat} {xs ys:List D} {a:Addr} {vs:List V} (I:SI G F ρ σ H) (hi:ρ[i]? = some (.l xs)) (ha:σ[i]? = some (some (.ref a))) (hv:qZ G ys vs):SI G F (ρ.set i (.l ys)) σ (upd H a (.lst vs)):=I.putO hi ha ⟨vs,rfl,hv⟩
theorem SI.freeze {i:Nat} {xs:List D} (I:SI G F ρ σ H) (hi:ρ[i]? = some (.l xs)):∃ G',qV G G'/\SI G' F (ρ.set i (.d (.lst xs))) σ H:=by
 obtain ⟨o,ha,a,_,rfl,h1,vs,rfl,h2⟩:=I.ok i _ hi
 have oa:=I.out a ⟨i,.li xs,hi,ha⟩
 have il:i<ρ.length:=(wL.mp hi).1
 have sg:qV G (upd G a (.lst vs)):=qV.new oa.1
 refine ⟨upd G a (.lst vs),sg,fun j s e=>?_,fun b u e=>?_,I.f,fun b u e=>?_,fun j k b us ws e1 e2 h3 h4=>?_,fun b hb=>?_,I.ft⟩
 ·rw [zV] at e
  by_cases z:i=j
  ·subst z
   rw [if_pos rfl,if_pos il] at e
   cases e
   exact ⟨_,ha,_,rfl,a,vs,rfl,qJ,qZ.mono sg _ _ h2⟩
  ·rw [if_neg z] at e
   obtain ⟨o',e1,e2⟩:=I.ok j s e
   exact ⟨o',e1,e2.up sg fun _ _ _ _ _ z=>z⟩
 ·by_cases z:b=a
  ·subst z; rw [qJ] at e; cases e; exact h1
  ·rw [qN z] at e; exact I.g _ _ e
 ·have z:b≠a:=fun z=>by subst z; rw [oa.2] at e; cases e
  rw [qN z]; exact I.gf _ _ e
 ·have w:∀(n:Nat) (zs:Pl),(ρ.set i (.d (.lst xs)))[n]? = some (.o zs)->ρ[n]? = some (.o zs):=fun n zs h=>by
   rw [zV] at h
   by_cases z:i=n
   ·subst z; rw [if_pos rfl,if_pos il] at h; cases h
   ·rw [if_neg z] at h; exact h
  exact I.nd j k b us ws (w j us e1) (w k ws e2) h3 h4
 ·obtain ⟨n,zs,e1,e2⟩:=hb
  have z:i≠n:=fun z=>by subst z; rw [zV,if_pos rfl,if_pos il] at e1; cases e1
  rw [zV,if_neg z] at e1
  have nb:b≠a:=fun q=>by subst q; exact z (I.nd i n b (.li xs) zs hi e1 ha e2)
  rw [qN nb]
  exact I.out b ⟨n,zs,e1,e2⟩
theorem SI.lay {xs:List D} {v:V} (I:SI G F ρ σ H) (h:jb G F ρ σ H (.l xs) v):∃ G',qV G G'/\SI G' F ρ σ H/\Den G' (.lst xs) v:=by
 obtain ⟨a,_,rfl,h1,⟨vs,rfl,h2⟩,h3,h4,h5⟩:=h
 have sg:qV G (upd G a (.lst vs)):=qV.new h3
 refine ⟨upd G a (.lst vs),sg,⟨fun j s e=>let ⟨o',e1,e2⟩:=I.ok j s e; ⟨o',e1,e2.up sg fun _ _ _ _ _ z=>z⟩,fun b u e=>?_,I.f,fun b u e=>?_,I.nd,fun b hb=>?_,I.ft⟩,a,vs,rfl,qJ,qZ.mono sg _ _ h2⟩
 ·by_cases z:b=a
  ·subst z; rw [qJ] at e; cases e; exact h1
  ·rw [qN z] at e; exact I.g _ _ e
 ·have z:b≠a:=fun z=>by subst z; rw [h4] at e; cases e
  rw [qN z]; exact I.gf _ _ e
 ·have nb:b≠a:=fun q=>by subst q; exact h5 hb
  rw [qN nb]
  exact I.out b hb
noncomputable def Rs.sl:Rs->Sl
 | .d x=>.d x
 | .o p=>.o p
 | _=>.u
theorem SI.asg {i:Nat} {v:V} (I:SI G F ρ σ H) (h:jb G F ρ σ H r v):SI G F (ρ.set i r.sl) (σ.set i (some v)) H:=by
 have base:∀ j,j≠i->(σ.set i (some v))[j]? = σ[j]?:=fun j hj=>by rw [zV,if_neg hj.symm]
 have own:∀(n:Nat) (zs:Pl) (b:Addr),(ρ.set i r.sl)[n]? = some (.o zs)->(σ.set i (some v))[n]? = some (some (.ref b))->(n=i/\v=.ref b/\r=.o zs)\/(n≠i/\ρ[n]? = some (.o zs)/\σ[n]? = some (some (.ref b))):=fun n zs b h1 h2=>by
  by_cases z:i=n
  ·subst z
   rw [zV,if_pos rfl] at h1 h2
   by_cases q:i<ρ.length
   ·by_cases q2:i<σ.length
    ·rw [if_pos q] at h1
     rw [if_pos q2] at h2
     cases r with
     | o xs=>cases h1; cases h2; exact .inl ⟨rfl,rfl,rfl⟩
     | d x=>cases h1
     | b x=>cases h1
     | raw x=>cases h1
    ·rw [if_neg q2] at h2; cases h2
   ·rw [if_neg q] at h1; cases h1
  ·rw [zV,if_neg z] at h1
   rw [zV,if_neg z] at h2
   exact .inr ⟨fun e=>z e.symm,h1,h2⟩
 refine ⟨fun j s e=>?_,I.g,I.f,I.gf,fun j k b us ws h1 h2 h3 h4=>?_,fun b hb=>?_,I.ft⟩
 ·rw [zV] at e
  by_cases z:i=j
  ·subst z
   rw [if_pos rfl] at e
   by_cases q:i<ρ.length
   ·rw [if_pos q] at e
    cases e
    obtain ⟨o,ho,_⟩:=I.ok i ρ[i] (wC q)
    have q2:i<σ.length:=(wL.mp ho).1
    refine ⟨some v,by rw [zV,if_pos rfl,if_pos q2],?_⟩
    cases r with
    | d x=>exact ⟨v,rfl,h⟩
    | o xs=>
     obtain ⟨a,vs,rfl,h1,h2,_⟩:=h
     exact ⟨a,vs,rfl,h1,h2⟩
    | b x=>trivial
    | raw x=>trivial
   ·rw [if_neg q] at e; cases e
  ·rw [if_neg z] at e
   obtain ⟨o',e1,e2⟩:=I.ok j s e
   exact ⟨o',by rw [base j (fun q=>z q.symm)]; exact e1,e2⟩
 ·rcases own j us b h1 h3 with ⟨rfl,e1,e2⟩ | ⟨n1,e1,e2⟩
  ·rcases own k ws b h2 h4 with ⟨rfl,_,_⟩ | ⟨n2,e3,e4⟩
   ·rfl
   ·subst e2
    obtain ⟨a,vs,z,_,_,_,_,h5⟩:=h
    rw [e1] at z
    cases z
    exact absurd ⟨k,ws,e3,e4⟩ h5
  ·rcases own k ws b h2 h4 with ⟨rfl,e3,e4⟩ | ⟨n2,e3,e4⟩
   ·subst e4
    obtain ⟨a,vs,z,_,_,_,_,h5⟩:=h
    rw [e3] at z
    cases z
    exact absurd ⟨j,us,e1,e2⟩ h5
   ·exact I.nd j k b us ws e1 e3 e2 e4
 ·obtain ⟨n,zs,e1,e2⟩:=hb
  rcases own n zs b e1 e2 with ⟨rfl,e3,e4⟩ | ⟨_,e3,e4⟩
  ·subst e4
   obtain ⟨a,vs,z,_,_,h3,h4,_⟩:=h
   rw [e3] at z
   cases z
   exact ⟨h3,h4⟩
  ·exact I.out b ⟨n,zs,e3,e4⟩
end
section
variable {ρ:List Sl} {Φ:Rs->List Sl->Prop} {x y:Rs} {K:wG} {r2 r3:R2}
theorem OpV.l (h:OpV r2 x y ρ Φ):OpV (fun a b H Q=>r2 a b H Q\/r3 a b H Q) x y ρ Φ:=fun G F σ H vx vy I h1 h2 Q q=>.inl (h G F σ H vx vy I h1 h2 Q q)
theorem OpV.r (h:OpV r3 x y ρ Φ):OpV (fun a b H Q=>r2 a b H Q\/r3 a b H Q) x y ρ Φ:=fun G F σ H vx vy I h1 h2 Q q=>.inr (h G F σ H vx vy I h1 h2 Q q)
theorem ok2 {G F H:Hp} {σ:St} {vx vy:V} (h1:jb G F ρ σ H x vx) (h2:jb G (hold x vx H F) ρ σ H y vy):jb G F ρ σ H y vy:=h2.weak (YJ x vx h1)
theorem qMq {k:Int->Int->Int} {i j:Int} (hx:rd ρ x=some (.int i)) (hy:rd ρ y=some (.int j)) (h:Φ (.d (.int (k i j))) ρ):OpV (rI0 fun i j=>.int (k i j)) x y ρ Φ:=fun G F σ H vx vy I h1 h2 Q q=>
 ⟨i,j,qT I h1 hx,qT I (ok2 h1 h2) hy,j7 q I h⟩
theorem qM3 {k:Int->Int->Bool} {i j:Int} (hx:rd ρ x=some (.int i)) (hy:rd ρ y=some (.int j)) (h:Φ (.d (.bl (k i j))) ρ):OpV (rI0 fun i j=>.bl (k i j)) x y ρ Φ:=fun G F σ H vx vy I h1 h2 Q q=>
 ⟨i,j,qT I h1 hx,qT I (ok2 h1 h2) hy,qa q I h⟩
theorem Ye {C:Int->Int->Prop} {k:Int->Int->Int} {i j:Int} (hx:rd ρ x=some (.int i)) (hy:rd ρ y=some (.int j)) (hc:C i j) (h:Φ (.d (.int (k i j))) ρ):OpV (rI C fun i j=>.int (k i j)) x y ρ Φ:=fun G F σ H vx vy I h1 h2 Q q=>
 ⟨i,j,qT I h1 hx,qT I (ok2 h1 h2) hy,hc,j7 q I h⟩
theorem u_i {k:Int->Int} {i:Int} (hx:rd ρ x=some (.int i)) (h:Φ (.d (.int (k i))) ρ):QC (fun vs H Q=>∃ v,vs=[v]/\rU (fun i=>.int (k i)) v H Q) [x] ρ Φ:=fun G F σ H vs I h1 Q q=>by
 obtain ⟨v,vt,rfl,ok,e⟩:=h1
 have e':vt=[]:=e
 subst e'
 exact ⟨v,rfl,i,qT I ok hx,j7 q I h⟩
theorem Jz {xs ys:List D} (hx:rd ρ x=some (.lst xs)) (hy:rd ρ y=some (.lst ys)) (hz:xs.length+ys.length<=sizeLine) (h:Φ (.l (xs++ys)) ρ):OpV (qJP K) x y ρ Φ:=fun G F σ H vx vy I h1 h2 Q q=>by
 obtain ⟨a,vs,rfl,s1,d1⟩:=jh (K:=K) I h1 hx
 obtain ⟨b,ws,rfl,s2,d2⟩:=jh (K:=K) I (ok2 h1 h2) hy
 exact ⟨a,b,vs,ws,rfl,rfl,s1,s2,by rw [d1.length,d2.length]; exact hz,fun p hp=>QO q I (d1.append d2) h hp⟩
theorem qGK {H:Hp} {xs:List D} {vs:List V} (h:qZ H xs vs) {i:Int} {d:D} (e:atI xs i=some d):∃ v,atI vs i=some v/\Den H d v:=by
 unfold atI at e ⊢
 rw [h.length]
 cases z:ixN xs.length i with
 | none=>rw [z] at e; cases e
 | some j=>
  rw [z] at e
  have e':xs[j]? = some d:=e
  obtain ⟨v,e1,e2⟩:=h.get' e'
  exact ⟨v,e1,e2⟩
theorem YO {xs:List D} {i:Int} {d:D} (hx:rd ρ x=some (.lst xs)) (hy:rd ρ y=some (.int i)) (hi:atI xs i=some d) (h:Φ (.d d) ρ):OpV (rIx K) x y ρ Φ:=fun G F σ H vx vy I h1 h2 Q q=>by
 obtain ⟨a,vs,rfl,s1,d1⟩:=jh (K:=K) I h1 hx
 obtain ⟨v,e1,e2⟩:=qGK d1 hi
 exact .inl ⟨a,vs,i,v,rfl,qT I (ok2 h1 h2) hy,s1,e1,qBj q I e2 h⟩
theorem qKl {xs:List D} {i:Int} {d:D} (hx:rd ρ x=some (.tup xs)) (hy:rd ρ y=some (.int i)) (hi:atI xs i=some d) (h:Φ (.d d) ρ):OpV (rIx K) x y ρ Φ:=fun G F σ H vx vy I h1 h2 Q q=>by
 obtain ⟨a,vs,rfl,s1,d1⟩:=jJ I h1 hx
 obtain ⟨v,e1,e2⟩:=qGK d1 hi
 exact .inr (.inl ⟨a,vs,i,v,rfl,qT I (ok2 h1 h2) hy,SqT.of (I.g _ _ s1),e1,qBj q I e2 h⟩)
theorem qLu {b:Bool} {d:D} {l:List D} (hx:rdE ρ x=some d) (hy:rdE ρ y=some (.lst l)) (hd:qK l<=50) (h:Φ (.d (.bl (if b then !dIn d l else dIn d l))) ρ) (hd2:jQ d<=50:=by first | exact zG rfl | assumption):OpV (qH2 b) x y ρ Φ:=fun G F σ H vx vy I h1 h2 Q q=>
 ⟨d,l,(Q6 I h1 hx).1,.inr (Q6 I (ok2 h1 h2) hy).1,hd,hd2,qa q I h⟩
theorem qKO {b:Bool} {d:D} {l:List D} (hx:rdE ρ x=some d) (hy:rdE ρ y=some (.tup l)) (hd:qK l<=50) (h:Φ (.d (.bl (if b then !dIn d l else dIn d l))) ρ) (hd2:jQ d<=50:=by first | exact zG rfl | assumption):OpV (qH2 b) x y ρ Φ:=fun G F σ H vx vy I h1 h2 Q q=>
 ⟨d,l,(Q6 I h1 hx).1,.inl (Q6 I (ok2 h1 h2) hy).1,hd,hd2,qa q I h⟩
theorem qEr {b:Bool} {l m:List D} (hx:rdE ρ x=some (.lst l)) (hy:rdE ρ y=some (.lst m)) (hd:qK l<=50) (h:Φ (.d (.bl (if b then !Qc l m else Qc l m))) ρ) (hd2:qK m<=50:=by first | exact zG rfl | exact qAw _ | assumption):OpV (qJO b) x y ρ Φ:=fun G F σ H vx vy I h1 h2 Q q=>
 ⟨l,m,.inr ⟨(Q6 I h1 hx).1,(Q6 I (ok2 h1 h2) hy).1⟩,hd,hd2,qa q I h⟩
theorem qMP {b:Bool} {l m:List D} (hx:rdE ρ x=some (.tup l)) (hy:rdE ρ y=some (.tup m)) (hd:qK l<=50) (h:Φ (.d (.bl (if b then !Qc l m else Qc l m))) ρ) (hd2:qK m<=50:=by first | exact zG rfl | exact qAw _ | assumption):OpV (qJO b) x y ρ Φ:=fun G F σ H vx vy I h1 h2 Q q=>
 ⟨l,m,.inl ⟨(Q6 I h1 hx).1,(Q6 I (ok2 h1 h2) hy).1⟩,hd,hd2,qa q I h⟩
noncomputable def dV:D->Option V
 | .non=>some .non | .bl b=>some (.bl b) | .int i=>some (.int i) | .str s=>some (.str s) | _=>none
theorem qA2 {G F H:Hp} {σ:St} {v w:V} {d:D} (I:SI G F ρ σ H) (h:jb G F ρ σ H x v) (e:rd ρ x=some d) (hw:dV d=some w):v=w:=by
 have n:∀ ys,d≠.lst ys:=fun ys z=>by subst z; cases hw
 have g:=J3 I h e n
 cases d with
 | non=>cases hw; exact g
 | bl b=>cases hw; exact g
 | int i=>cases hw; exact g
 | str s=>cases hw; exact g
 | tup l=>cases hw
 | lst l=>cases hw
 | dic=>cases hw
theorem qBw {d e:D} {v w:V} (hx:rd ρ x=some d) (hy:rd ρ y=some e) (hv:dV d=some v) (hw:dV e=some w) (hs:qLp v w=true) (h:Φ (.d (.bl (decide (v=w)))) ρ):OpV rEq x y ρ Φ:=fun G F σ H vx vy I h1 h2 Q q=>by
 cases qA2 I h1 hx hv
 cases qA2 I (ok2 h1 h2) hy hw
 exact ⟨hs,qa q I h⟩
theorem qJA {d e:D} {v w:V} (hx:rd ρ x=some d) (hy:rd ρ y=some e) (hv:dV d=some v) (hw:dV e=some w) (hs:qLp v w=true) (h:Φ (.d (.bl (!decide (v=w)))) ρ):OpV rNe x y ρ Φ:=fun G F σ H vx vy I h1 h2 Q q=>by
 cases qA2 I h1 hx hv
 cases qA2 I (ok2 h1 h2) hy hw
 exact ⟨hs,qa q I h⟩
theorem qMN {i j:Int} (hx:rd ρ x=some (.int i)) (hy:rd ρ y=some (.int j)) (h:Φ (.d (.bl (decide (i=j)))) ρ):OpV rEq x y ρ Φ:=by
 refine qBw hx hy rfl rfl rfl ?_
 have e:decide (V.int i=V.int j)=decide (i=j):=decide_eq_decide.mpr ⟨fun z=>by cases z; rfl,fun z=>by rw [z]⟩
 rw [e]; exact h
theorem qMJ {i j:Int} (hx:rd ρ x=some (.int i)) (hy:rd ρ y=some (.int j)) (h:Φ (.d (.bl (!decide (i=j)))) ρ):OpV rNe x y ρ Φ:=by
 refine qJA hx hy rfl rfl rfl ?_
 have e:decide (V.int i=V.int j)=decide (i=j):=decide_eq_decide.mpr ⟨fun z=>by cases z; rfl,fun z=>by rw [z]⟩
 rw [e]; exact h
end
section
variable {ρ:List Sl} {Φ:Rs->List Sl->Prop} {x y:Rs} {K:wG}
theorem jT {G F H:Hp} {σ:St} {vs:List V} (h:jw G F ρ σ H [x] vs):∃ v,vs=[v]/\jb G F ρ σ H x v:=by
 obtain ⟨v,vt,rfl,ok,e⟩:=h
 have e':vt=[]:=e
 subst e'
 exact ⟨v,rfl,ok⟩
theorem qCR {G F H:Hp} {σ:St} {vs:List V} (h:jw G F ρ σ H [x,y] vs):∃ v w,vs=[v,w]/\jb G F ρ σ H x v/\jb G F ρ σ H y w:=by
 obtain ⟨v,vt,rfl,ok,h2⟩:=h
 obtain ⟨w,rfl,ok'⟩:=jT h2
 exact ⟨v,w,rfl,ok,ok2 ok ok'⟩
theorem qLb {xs:List D} (hx:rd ρ x=some (.lst xs)) (h:Φ (.d (.int xs.length)) ρ):QC (fun xs H Q=>∃ p ys,xs=[.ref p]/\(SqL K H p ys\/SqT K H p ys)/\Q (.int ys.length) H) [x] ρ Φ:=fun G F σ H vs I h1 Q q=>by
 obtain ⟨v,rfl,ok⟩:=jT h1
 obtain ⟨a,ws,rfl,s1,d1⟩:=jh (K:=K) I ok hx
 refine ⟨a,ws,rfl,.inl s1,?_⟩
 rw [d1.length]
 exact j7 q I h
theorem qJ6 {xs:List D} (hx:rd ρ x=some (.tup xs)) (h:Φ (.d (.int xs.length)) ρ):QC (fun xs H Q=>∃ p ys,xs=[.ref p]/\(SqL K H p ys\/SqT K H p ys)/\Q (.int ys.length) H) [x] ρ Φ:=fun G F σ H vs I h1 Q q=>by
 obtain ⟨v,rfl,ok⟩:=jT h1
 obtain ⟨a,ws,rfl,s1,d1⟩:=jJ I ok hx
 refine ⟨a,ws,rfl,.inr (SqT.of (I.g _ _ s1)),?_⟩
 rw [d1.length]
 exact j7 q I h
theorem qHb {xs:List D} (hx:rd ρ x=some (.lst xs)) (h:Φ (.d (.tup xs)) ρ):QC (fun xs H Q=>∃ p ys,xs=[.ref p]/\((SqL K H p ys/\∀ l,H l=none->Q (.ref l) (upd H l (.tup ys)))\/(SqT K H p ys/\Q (.ref p) H))) [x] ρ Φ:=fun G F σ H vs I h1 Q q=>by
 obtain ⟨v,rfl,ok⟩:=jT h1
 obtain ⟨a,ws,rfl,s1,d1⟩:=jh (K:=K) I ok hx
 exact ⟨a,ws,rfl,.inl ⟨s1,fun l hl=>Jl q I d1 h hl⟩⟩
theorem qIr {xs:List D} (hx:rd ρ x=some (.tup xs)) (h:Φ (.l xs) ρ):QC (fun xs H Q=>∃ p ys,xs=[.ref p]/\(SqL K H p ys\/SqT K H p ys)/\∀ l,H l=none->Q (.ref l) (upd H l (.lst ys))) [x] ρ Φ:=fun G F σ H vs I h1 Q q=>by
 obtain ⟨v,rfl,ok⟩:=jT h1
 obtain ⟨a,ws,rfl,s1,d1⟩:=jJ I ok hx
 exact ⟨a,ws,rfl,.inr (SqT.of (I.g _ _ s1)),fun l hl=>QO q I d1 h hl⟩
theorem qNE {k:Int->Int->Int} {i j:Int} (hx:rd ρ x=some (.int i)) (hy:rd ρ y=some (.int j)) (h:Φ (.d (.int (k i j))) ρ):QC (fun xs H Q=>∃ i j,xs=[.int i,.int j]/\Q (.int (k i j)) H) [x,y] ρ Φ:=fun G F σ H vs I h1 Q q=>by
 obtain ⟨v,w,rfl,o1,o2⟩:=qCR h1
 cases qT I o1 hx
 cases qT I o2 hy
 exact ⟨i,j,rfl,j7 q I h⟩
theorem qEp {H:Hp}:∀{bs:List Bool} {vs:List V},qZ H (bs.map D.bl) vs->vs=bs.map V.bl
 | [],vs,h=>h
 | b::bs,vs,h=>by
  obtain ⟨v,r,rfl,h1,h2⟩:=h
  have h1':v=.bl b:=h1
  subst h1'
  rw [qEp h2,yV]
theorem qCC {bs:List Bool} (hx:rdE ρ x=some (.lst (bs.map D.bl))) (h:Φ (.d (.bl (bs.all id))) ρ):QC (fun xs H Q=>∃(p:Addr) (bs:List Bool),xs=[.ref p]/\H p=some (.lst (bs.map V.bl))/\Q (.bl (bs.all id)) H) [x] ρ Φ:=fun G F σ H vs I h1 Q q=>by
 obtain ⟨v,rfl,ok⟩:=jT h1
 obtain ⟨a,ws,rfl,s1,d1⟩:=(Q6 I ok hx).2.2 _ rfl
 rw [qEp d1] at s1
 exact ⟨a,bs,rfl,s1,qa q I h⟩
noncomputable def tyD:D->String
 | .non=>"NoneType" | .bl _=>"bool" | .int _=>"int" | .str _=>"str" | .tup _=>"tuple" | .lst _=>"list" | .dic=>"dict"
theorem qNO {H:Hp} {d:D} {v:V} (h:Den H d v):qCV K H v (.type (tyD d)):=by
 cases d with
 | non=>cases (show v=_ from h); exact .non
 | bl b=>cases (show v=_ from h); exact .bl b
 | int b=>cases (show v=_ from h); exact .int b
 | str b=>cases (show v=_ from h); exact .str b
 | tup l=>obtain ⟨a,xs,rfl,h1,_⟩:=h; exact .tup h1
 | lst l=>obtain ⟨a,xs,rfl,h1,_⟩:=h; exact .lst h1
 | dic=>obtain ⟨a,xs,rfl,h1⟩:=h; exact .dK h1
theorem J9 {d:D} {T:String} {b:Bool} (hx:rdE ρ x=some d) (hb:xI K (.type (tyD d)) (.type T)=some b) (h:Φ (.d (.bl b)) ρ):QC (fun xs H Q=>∃ x t T b,xs=[x,.ty T]/\qCV K H x t/\xI K t (.type T)=some b/\Q (.bl b) H) [x,.raw (.ty T)] ρ Φ:=fun G F σ H vs I h1 Q q=>by
 obtain ⟨v,w,rfl,o1,o2⟩:=qCR h1
 cases (show w=V.ty T from o2)
 exact ⟨v,_,T,b,rfl,qNO (Q6 I o1 hx).1,hb,qa q I h⟩
theorem qI3 {k:Bool} (hx:rd ρ x=some (.bl k)) (h:Φ (.d (.int (if k then 1 else 0))) ρ):QC (fun xs H Q=>(∃ i,xs=[.int i]/\Q (.int i) H)\/∃ k,xs=[.bl k]/\Q (.int (if k then 1 else 0)) H) [x] ρ Φ:=fun G F σ H vs I h1 Q q=>by
 obtain ⟨v,rfl,ok⟩:=jT h1
 cases Js I ok hx
 exact .inr ⟨k,rfl,j7 q I h⟩
end
noncomputable def Rs.it:Rs->Option D
 | .d x=>some x
 | .o (.li xs)=>some (.lst xs)
 | _=>none
noncomputable def its:List Rs->Option (List D)
 | []=>some []
 | r::rs=>match r.it,its rs with | some d,some ds=>some (d::ds) | _,_=>none
theorem qGz {r:Rs} {rs:List Rs} {ds:List D} (h:its (r::rs)=some ds):∃ d dt,r.it=some d/\its rs=some dt/\ds=d::dt:=by
 unfold its at h
 cases e1:r.it with
 | none=>rw [e1] at h; cases h
 | some d=>
  cases e2:its rs with
  | none=>rw [e1,e2] at h; cases h
  | some dt=>rw [e1,e2] at h; cases h; exact ⟨d,dt,rfl,rfl,rfl⟩
theorem qGV {G F H:Hp} {ρ:List Sl} {σ:St} {r:Rs} {v:V} {d:D} (I:SI G F ρ σ H) (h:jb G F ρ σ H r v) (e:r.it=some d):∃ G',qV G G'/\SI G' F ρ σ H/\Den G' d v:=by
 cases r with
 | d x=>cases e; exact ⟨G,qV.refl _,I,h⟩
 | o p=>cases p with
  | li xs=>cases e; exact I.lay h
  | di _=>cases e
  | dt _=>cases e
  | ex _=>cases e
 | b i=>cases e
 | raw w=>cases e
theorem qL2:∀{rs:List Rs} {ds:List D} {G F H:Hp} {ρ:List Sl} {σ:St} {vs:List V},SI G F ρ σ H->jw G F ρ σ H rs vs->its rs=some ds->∃ G',qV G G'/\SI G' F ρ σ H/\qZ G' ds vs
 | [],ds,G,F,H,ρ,σ,vs,I,h,e=>by
  cases e
  exact ⟨G,qV.refl _,I,h⟩
 | r::rs,ds,G,F,H,ρ,σ,vs,I,h,e=>by
  obtain ⟨v,vt,rfl,ok,oks⟩:=h
  obtain ⟨d,dt,e1,e2,rfl⟩:=qGz e
  obtain ⟨G1,g1,I1,d1⟩:=qL2 (I.held ok) oks e2
  obtain ⟨I2,ok2⟩:=SI.freed ok g1 I1
  obtain ⟨G2,g2,I3,d2⟩:=qGV I2 ok2 e1
  exact ⟨G2,g1.trans g2,I3,v,vt,rfl,d2,qZ.mono g2 _ _ d1⟩
section
variable {ρ:List Sl} {Φ:Rs->List Sl->Prop} {t:TA}
theorem qMd (h:wpA t ρ fun rs ρ1=>∃ ds,its rs=some ds/\ds.length<=sizeLine/\Φ (.d (.tup ds)) ρ1):wpV (qMk t) ρ Φ:=by
 intro G F σ H I Q q
 refine h G F σ H I _ fun G1 H1 vs rs ρ1 ⟨ds,e,hl,h1⟩ g1 I1 oks=>?_
 obtain ⟨G2,g2,I2,dn⟩:=qL2 I1 oks e
 exact ⟨by rw [dn.length]; exact hl,fun p hp=>Jl (q.at (g1.trans g2) fun _ _ z=>z) I2 dn h1 hp⟩
theorem qMM (h:wpA t ρ fun rs ρ1=>∃ ds,its rs=some ds/\ds.length<=sizeLine/\Φ (.l ds) ρ1):wpV (qMj t) ρ Φ:=by
 intro G F σ H I Q q
 refine h G F σ H I _ fun G1 H1 vs rs ρ1 ⟨ds,e,hl,h1⟩ g1 I1 oks=>?_
 obtain ⟨G2,g2,I2,dn⟩:=qL2 I1 oks e
 exact ⟨by rw [dn.length]; exact hl,fun p hp=>QO (q.at (g1.trans g2) fun _ _ z=>z) I2 dn h1 hp⟩
end
noncomputable def qLq:D->Option Bool
 | .non=>some false | .bl b=>some b | .int i=>some (i != 0) | .tup l=>some !l.isEmpty | .lst l=>some !l.isEmpty | .str _=>none | .dic=>none
theorem qMz {G F H:Hp} {ρ:List Sl} {σ:St} {r:Rs} {v:V} {d:D} {k:Bool} {K:wG} (I:SI G F ρ σ H) (h:jb G F ρ σ H r v) (e:rd ρ r=some d) (t:qLq d=some k):qKe K v H k:=by
 cases d with
 | non=>cases qHy I h e; cases t; exact rfl
 | bl b=>cases Js I h e; cases t; exact rfl
 | int i=>cases qT I h e; cases t; exact rfl
 | str s=>cases t
 | dic=>cases t
 | tup l=>
  cases t
  obtain ⟨a,ws,rfl,s1,d1⟩:=jJ I h e
  refine .inr (.inl ⟨ws,SqT.of (I.g _ _ s1),?_⟩)
  have:=d1.length
  cases ws <;> cases l <;> first | rfl | cases this
 | lst l=>
  cases t
  obtain ⟨a,ws,rfl,s1,d1⟩:=jh (K:=K) I h e
  refine .inl ⟨ws,s1,?_⟩
  have:=d1.length
  cases ws <;> cases l <;> first | rfl | cases this
section
variable {ρ:List Sl} {Φ:Rs->List Sl->Prop} {Ψ:Bool->List Sl->Prop} {ta tb:TE} {t u:TT} {K:wG}
theorem qH8 (h:wpV ta ρ fun r ρ1=>∃ b,rd ρ1 r=some (.bl b)/\Ψ b ρ1):wpT (qJW ta) ρ Ψ:=by
 intro G F σ H I Q q
 refine h G F σ H I _ fun G1 H1 v r ρ1 ⟨b,e,h1⟩ g1 I1 ok1=>?_
 exact ⟨b,Js I1 ok1 e,q G1 H1 b ρ1 h1 g1 I1⟩
theorem t_B (h:wpV ta ρ fun r ρ1=>∃ b,rd ρ1 r=some (.bl b)/\Ψ b ρ1):wpT (tB ta) ρ Ψ:=by
 intro G F σ H I Q q
 refine h G F σ H I _ fun G1 H1 v r ρ1 ⟨b,e,h1⟩ g1 I1 ok1=>?_
 exact ⟨b,Js I1 ok1 e,q G1 H1 b ρ1 h1 g1 I1⟩
theorem qMU (h:wpV ta ρ fun r ρ1=>∃ d b,rd ρ1 r=some d/\qLq d=some b/\Ψ b ρ1):wpT (qMw K ta) ρ Ψ:=by
 intro G F σ H I Q q
 refine h G F σ H I _ fun G1 H1 v r ρ1 ⟨d,b,e,e2,h1⟩ g1 I1 ok1=>?_
 exact ⟨b,qMz I1 ok1 e e2,q G1 H1 b ρ1 h1 g1 I1⟩
theorem QG (h:Ψ true ρ):wpT qLN ρ Ψ:=fun G F σ H I Q q=>q G H true ρ h (qV.refl _) I
theorem qFY (h:wpT t ρ fun b ρ1=>if b=true then wpT u ρ1 Ψ else Ψ false ρ1):wpT (qMa t u) ρ Ψ:=by
 intro G F σ H I Q q
 refine h G F σ H I _ fun G1 H1 b ρ1 h1 g1 I1=>?_
 cases b with
 | true=>exact (by simpa using h1:wpT u ρ1 Ψ) G1 F σ H1 I1 Q fun G2 H2 b ρ2 h2 g2 I2=>q G2 H2 b ρ2 h2 (g1.trans g2) I2
 | false=>exact q G1 H1 false ρ1 (by simpa using h1) g1 I1
theorem qCm (h:wpT t ρ fun b ρ1=>if b=true then Ψ true ρ1 else wpT u ρ1 Ψ):wpT (tOr t u) ρ Ψ:=by
 intro G F σ H I Q q
 refine h G F σ H I _ fun G1 H1 b ρ1 h1 g1 I1=>?_
 cases b with
 | true=>exact q G1 H1 true ρ1 (by simpa using h1) g1 I1
 | false=>exact (by simpa using h1:wpT u ρ1 Ψ) G1 F σ H1 I1 Q fun G2 H2 b ρ2 h2 g2 I2=>q G2 H2 b ρ2 h2 (g1.trans g2) I2
theorem qLv (h:wpT t ρ fun b ρ1=>Ψ (!b) ρ1):wpT (qMi t) ρ Ψ:=by
 intro G F σ H I Q q
 exact h G F σ H I _ fun G1 H1 b ρ1 h1 g1 I1=>q G1 H1 (!b) ρ1 h1 g1 I1
theorem wpT.mono {Ψ':Bool->List Sl->Prop} (h:wpT t ρ Ψ) (e:∀ b ρ',Ψ b ρ'->Ψ' b ρ'):wpT t ρ Ψ':=fun G F σ H I Q q=>h G F σ H I Q fun G1 H1 b ρ1 h1 g1 I1=>q G1 H1 b ρ1 (e _ _ h1) g1 I1
theorem qJ9 {b c:Bool} (h1:wpT t ρ fun x ρ1=>x=b/\ρ1=ρ) (h2:b=true->wpT u ρ fun x ρ1=>x=c/\ρ1=ρ) (h:Ψ (b && c) ρ):wpT (qMa t u) ρ Ψ:=by
 refine qFY (h1.mono ?_)
 rintro x ρ1 ⟨rfl,rfl⟩
 cases x with
 | true=>rw [if_pos rfl]; exact (h2 rfl).mono fun x ρ1 ⟨e1,e2⟩=>by subst e1 e2; exact h
 | false=>exact h
theorem v_and (h:wpV ta ρ fun r ρ1=>∃ b,rd ρ1 r=some (.bl b)/\if b=true then wpV tb ρ1 Φ else Φ (.d (.bl false)) ρ1):wpV (qKw ta tb) ρ Φ:=by
 intro G F σ H I Q q
 refine h G F σ H I _ fun G1 H1 v r ρ1 ⟨b,e,h1⟩ g1 I1 ok1=>?_
 refine ⟨b,Js I1 ok1 e,?_⟩
 cases b with
 | true=>exact (by simpa using h1:wpV tb ρ1 Φ) G1 F σ H1 I1 Q (q.at g1 fun _ _ z=>z)
 | false=>exact q G1 H1 _ (.d (.bl false)) ρ1 (by simpa using h1) g1 I1 rfl
theorem v_or (h:wpV ta ρ fun r ρ1=>∃ b,rd ρ1 r=some (.bl b)/\if b=true then Φ (.d (.bl true)) ρ1 else wpV tb ρ1 Φ):wpV (qMt ta tb) ρ Φ:=by
 intro G F σ H I Q q
 refine h G F σ H I _ fun G1 H1 v r ρ1 ⟨b,e,h1⟩ g1 I1 ok1=>?_
 refine ⟨b,Js I1 ok1 e,?_⟩
 cases b with
 | true=>exact q G1 H1 _ (.d (.bl true)) ρ1 (by simpa using h1) g1 I1 rfl
 | false=>exact (by simpa using h1:wpV tb ρ1 Φ) G1 F σ H1 I1 Q (q.at g1 fun _ _ z=>z)
theorem v_not (h:wpV ta ρ fun r ρ1=>∃ d b,rd ρ1 r=some d/\qLq d=some b/\Φ (.d (.bl (!b))) ρ1):wpV (qJo ta K) ρ Φ:=by
 intro G F σ H I Q q
 refine h G F σ H I _ fun G1 H1 v r ρ1 ⟨d,b,e,e2,h1⟩ g1 I1 ok1=>?_
 exact ⟨b,qMz I1 ok1 e e2,q G1 H1 _ _ ρ1 h1 g1 I1 (show Den G1 (.bl (!b)) (.bl (!b)) from rfl)⟩
theorem qM9 (h:wpT t ρ fun b ρ1=>if b=true then wpV ta ρ1 Φ else wpV tb ρ1 Φ):wpV (tIf t ta tb) ρ Φ:=by
 intro G F σ H I Q q
 refine h G F σ H I _ fun G1 H1 b ρ1 h1 g1 I1=>?_
 cases b with
 | true=>exact (by simpa using h1:wpV ta ρ1 Φ) G1 F σ H1 I1 Q (q.at g1 fun _ _ z=>z)
 | false=>exact (by simpa using h1:wpV tb ρ1 Φ) G1 F σ H1 I1 Q (q.at g1 fun _ _ z=>z)
end
structure VE where
 nx:List Sl->Prop
 rt:Rs->List Sl->Prop
 bk:List Sl->Prop:=fun _=>False
 ct:List Sl->Prop:=fun _=>False
noncomputable def Kp (B:List Nat) (σ σ':St):Prop:=∀ i∈B,σ'[i]? = σ[i]?
theorem Kp.refl (B:List Nat) (σ:St):Kp B σ σ:=fun _ _=>rfl
theorem Kp.trans {B:List Nat} {σ σ1 σ2:St} (a:Kp B σ σ1) (b:Kp B σ1 σ2):Kp B σ σ2:=fun i hi=>(b i hi).trans (a i hi)
noncomputable def NX (B:List Nat) (G F:Hp) (σ:St) (Ψ:List Sl->Prop) (N:St->Hp->Prop):Prop:=∀ G' σ' H' ρ',Ψ ρ'->qV G G'->Kp B σ σ'->SI G' F ρ' σ' H'->N σ' H'
noncomputable def RT (B:List Nat) (G F:Hp) (σ:St) (Ψ:Rs->List Sl->Prop) (N:VK):Prop:=∀ G' σ' H' ρ' r v,Ψ r ρ'->qV G G'->Kp B σ σ'->SI G' F ρ' σ' H'->jb G' F ρ' σ' H' r v->N v H'
theorem NX.at {B:List Nat} {G F:Hp} {σ:St} {Ψ:List Sl->Prop} {N:St->Hp->Prop} (h:NX B G F σ Ψ N) {G':Hp} {σ':St} (g:qV G G') (k:Kp B σ σ'):NX B G' F σ' Ψ N:=fun G2 σ2 H2 ρ2 p g2 k2 I=>h G2 σ2 H2 ρ2 p (g.trans g2) (k.trans k2) I
theorem RT.at {B:List Nat} {G F:Hp} {σ:St} {Ψ:Rs->List Sl->Prop} {N:VK} (h:RT B G F σ Ψ N) {G':Hp} {σ':St} (g:qV G G') (k:Kp B σ σ'):RT B G' F σ' Ψ N:=fun G2 σ2 H2 ρ2 r v p g2 k2 I ok=>h G2 σ2 H2 ρ2 r v p (g.trans g2) (k.trans k2) I ok
noncomputable def wpS (B:List Nat) (ts:TS) (ρ:List Sl) (Ψ:VE):Prop:=∀ G F σ H,SI G F ρ σ H->∀ D:Ends,NX B G F σ Ψ.nx D.nx->RT B G F σ Ψ.rt D.rt->NX B G F σ Ψ.bk D.bk->NX B G F σ Ψ.ct D.ct->ts D σ H
noncomputable def wpG (B:List Nat) (g:TG) (r:Rs) (ρ:List Sl) (Φ:List Sl->Prop):Prop:=∀ G F σ H v,SI G F ρ σ H->jb G F ρ σ H r v->∀ N:St->Hp->Prop,NX B G F σ Φ N->g v σ H N
noncomputable def qLo (B:List Nat) (g:TGs) (ds:List D) (ρ:List Sl) (Φ:List Sl->Prop):Prop:=∀ G F σ H vs,SI G F ρ σ H->qZ G ds vs->∀ N:St->Hp->Prop,NX B G F σ Φ N->g vs σ H N
section
variable {B:List Nat} {ρ:List Sl} {Ψ:VE} {t u:TS} {te:TE} {c:TT}
theorem Yz (h:wpS B t ρ { Ψ with nx:=fun ρ1=>wpS B u ρ1 Ψ }):wpS B (Qm t u) ρ Ψ:=by
 intro G F σ H I D n r b ct
 refine h G F σ H I _ ?_ r b ct
 intro G1 σ1 H1 ρ1 h1 g1 k1 I1
 exact h1 G1 F σ1 H1 I1 D (n.at g1 k1) (r.at g1 k1) (b.at g1 k1) (ct.at g1 k1)
theorem qw (h:Ψ.nx ρ):wpS B qKs ρ Ψ:=fun G F σ H I D n r b ct=>n G σ H ρ h (qV.refl _) (Kp.refl _ _) I
theorem qKB (h:wpV te ρ fun _ ρ1=>Ψ.nx ρ1):wpS B (qJ8 te) ρ Ψ:=fun G F σ H I D n r b ct=>
 h G F σ H I _ fun G1 H1 v x ρ1 h1 g1 I1 _=>n G1 σ H1 ρ1 h1 g1 (Kp.refl _ _) I1
theorem Y7 (h:wpV te ρ fun r ρ1=>Ψ.rt r ρ1):wpS B (qM5 te) ρ Ψ:=fun G F σ H I D n r b ct=>
 h G F σ H I _ fun G1 H1 v x ρ1 h1 g1 I1 ok=>r G1 σ H1 ρ1 x v h1 g1 (Kp.refl _ _) I1 ok
theorem Yv (h:wpT c ρ fun b ρ1=>if b=true then wpS B t ρ1 Ψ else wpS B u ρ1 Ψ):wpS B (qMo c t u) ρ Ψ:=by
 intro G F σ H I D n r b ct
 refine h G F σ H I _ fun G1 H1 x ρ1 h1 g1 I1=>?_
 cases x with
 | true=>exact (by simpa using h1:wpS B t ρ1 Ψ) G1 F σ H1 I1 D (n.at g1 (Kp.refl _ _)) (r.at g1 (Kp.refl _ _)) (b.at g1 (Kp.refl _ _)) (ct.at g1 (Kp.refl _ _))
 | false=>exact (by simpa using h1:wpS B u ρ1 Ψ) G1 F σ H1 I1 D (n.at g1 (Kp.refl _ _)) (r.at g1 (Kp.refl _ _)) (b.at g1 (Kp.refl _ _)) (ct.at g1 (Kp.refl _ _))
theorem qA1 {g:TG} (h:wpV te ρ fun r ρ1=>wpG B g r ρ1 Ψ.nx):wpS B (qJz te g) ρ Ψ:=by
 intro G F σ H I D n r b ct
 refine h G F σ H I _ fun G1 H1 v x ρ1 h1 g1 I1 ok=>?_
 exact h1 G1 F σ H1 v I1 ok _ (n.at g1 (Kp.refl _ _))
theorem qm {i:Nat} {r:Rs} {Φ:List Sl->Prop} (hi:B.contains i=false) (h:Φ (ρ.set i r.sl)):wpG B (qDG i) r ρ Φ:=by
 intro G F σ H v I ok N n
 refine n G _ H _ h (qV.refl _) (fun j hj=>?_) (I.asg (i:=i) ok)
 rw [zV,if_neg]
 intro z; subst z
 rw [kM,decide_eq_false_iff_not] at hi
 exact hi hj
theorem qFS {Φ:List Sl->Prop} (h:Φ ρ):qLo B qMr [] ρ Φ:=fun G F σ H vs I d N n=>⟨d,n G σ H ρ h (qV.refl _) (Kp.refl _ _) I⟩
theorem Yp {g:TG} {gs:TGs} {x:D} {ds:List D} {Φ:List Sl->Prop} (h:wpG B g (.d x) ρ fun ρ1=>qLo B gs ds ρ1 Φ):qLo B (qKr g gs) (x::ds) ρ Φ:=by
 intro G F σ H vs I d N n
 obtain ⟨v,r,rfl,d1,d2⟩:=d
 refine ⟨v,r,rfl,h G F σ H v I d1 _ ?_⟩
 intro G1 σ1 H1 ρ1 h1 g1 k1 I1
 exact h1 G1 F σ1 H1 r I1 (qZ.mono g1 _ _ d2) N (n.at g1 k1)
theorem qB3 {K:wG} {k:Nat} {gs:TGs} {r:Rs} {ds:List D} {Φ:List Sl->Prop} (e:rd ρ r=some (.tup ds)) (hk:ds.length=k) (h:qLo B gs ds ρ Φ):wpG B (qMS K k gs) r ρ Φ:=by
 intro G F σ H v I ok N n
 obtain ⟨a,vs,rfl,h1,h2⟩:=jJ I ok e
 exact ⟨a,vs,rfl,SqT.of (I.g _ _ h1),by rw [h2.length]; exact hk,h G F σ H vs I h2 N n⟩
theorem qAX {H:Hp}:∀{xs:List D} {vs:List V} {d:D} {v:V} (j:Nat),qZ H xs vs->Den H d v->qZ H (xs.set j d) (vs.set j v)
 | [],vs,d,v,j,h,g=>by cases (show vs=[] from h); exact rfl
 | x::xs,vs,d,v,0,h,g=>by
  obtain ⟨w,r,rfl,h1,h2⟩:=h
  exact ⟨v,r,rfl,g,h2⟩
 | x::xs,vs,d,v,j+1,h,g=>by
  obtain ⟨w,r,rfl,h1,h2⟩:=h
  exact ⟨w,r.set j v,rfl,h1,qAX j h2 g⟩
theorem qMK {to ti:TE} (h:wpV te ρ fun r ρ1=>∃ d,r.it=some d/\wpV to ρ1 fun o ρ2=>∃ i,o=.b i/\wpV ti ρ2 fun ix ρ3=>∃ k j xs,rd ρ3 ix=some (.int k)/\ρ3[i]? = some (.l xs)/\ixN xs.length k=some j/\Ψ.nx (ρ3.set i (.l (xs.set j d)))):wpS B (qJz te (qMR to ti qJG)) ρ Ψ:=by
 intro G F σ H I D n rt b ct
 refine h G F σ H I _ fun G1 H1 v r ρ1 ⟨d,ed,h1⟩ g1 I1 ok1=>?_
 obtain ⟨G1',g1',I1',dn⟩:=qGV I1 ok1 ed
 refine h1 G1' F σ H1 I1' _ fun G2 H2 w o ρ2 ⟨i,eo,h2⟩ g2 I2 ok2=>?_
 subst eo
 refine h2 G2 F σ H2 I2 _ fun G3 H3 z ix ρ3 ⟨k,j,xs,e1,e2,e3,h3⟩ g3 I3 ok3=>?_
 obtain ⟨o',e4,a,_,e5,h4,vs,rfl,h5⟩:=I3.ok i _ e2
 have ok2':σ[i]? = some (some w):=ok2
 rw [ok2'] at e4
 cases e4
 cases e5
 refine ⟨a,vs,k,j,rfl,qT I3 ok3 e1,h4,by rw [h5.length]; exact e3,?_⟩
 exact n G3 σ _ _ h3 (((g1.trans g1').trans g2).trans g3) (Kp.refl _ _) (I3.put e2 ok2 (qAX j h5 (Den.mono (g2.trans g3) _ _ dn)))
theorem qL8 {i:Nat} {k:Int->Int->Int} {n:Int} (hB:B.contains i=false) (hi:ρ[i]? = some (.d (.int n))) (h:wpV te ρ fun r ρ1=>∃ m,rd ρ1 r=some (.int m)/\Ψ.nx (ρ1.set i (.d (.int (k n m))))):wpS B (qMv i te (rI0 fun i j=>.int (k i j))) ρ Ψ:=by
 intro G F σ H I D nx r b ct
 obtain ⟨o,e,v,rfl,dv⟩:=I.ok i _ hi
 refine ⟨v,e,h G F σ H I _ fun G1 H1 w x ρ1 ⟨m,e1,h1⟩ g1 I1 ok=>⟨n,m,dv,qT I1 ok e1,?_⟩⟩
 refine nx G1 _ H1 _ h1 g1 (fun j hj=>?_) (I1.asg (i:=i) (r:=.d (.int (k n m))) (show Den G1 (.int (k n m)) _ from rfl))
 rw [zV,if_neg]
 intro z; subst z
 rw [kM,decide_eq_false_iff_not] at hB
 exact hB hj
theorem qFu (Jv:Nat->List Sl->Prop) (m0:Nat) (h0:Jv m0 ρ) {tb:TS}
  (h:∀ m ρ,Jv m ρ->wpT c ρ fun b ρ1=>if b=true then wpS B tb ρ1 { nx:=fun ρ'=>∃ m',m'<m/\Jv m' ρ',ct:=fun ρ'=>∃ m',m'<m/\Jv m' ρ',bk:=Ψ.nx,rt:=Ψ.rt } else Ψ.nx ρ1):wpS B (qIU c tb) ρ Ψ:=by
 intro G F σ H I D n r b ct
 refine ⟨fun m σ' H'=>∃ G' ρ',Jv m ρ'/\qV G G'/\Kp B σ σ'/\SI G' F ρ' σ' H',⟨m0,G,ρ,h0,qV.refl _,Kp.refl _ _,I⟩,?_⟩
 rintro m σ1 H1 ⟨G1,ρ1,hI,g1,k1,I1⟩
 refine h m ρ1 hI G1 F σ1 H1 I1 _ fun G2 H2 x ρ2 h2 g2 I2=>?_
 cases x with
 | true=>
  refine ⟨fun σ' H'=>∃ m',m'<m/\∃ G' ρ',Jv m' ρ'/\qV G G'/\Kp B σ σ'/\SI G' F ρ' σ' H',fun σ' H' z=>z,?_⟩
  rw [if_pos rfl] at h2
  refine h2 G2 F σ1 H2 I2 _ ?_ (r.at (g1.trans g2) k1) ?_ ?_
  ·exact fun G3 σ3 H3 ρ3 ⟨m',l,p⟩ g3 k3 I3=>⟨m',l,G3,ρ3,p,(g1.trans g2).trans g3,k1.trans k3,I3⟩
  ·exact n.at (g1.trans g2) k1
  ·exact fun G3 σ3 H3 ρ3 ⟨m',l,p⟩ g3 k3 I3=>⟨m',l,G3,ρ3,p,(g1.trans g2).trans g3,k1.trans k3,I3⟩
 | false=>exact n.at (g1.trans g2) k1 G2 σ1 H2 ρ2 (by simpa using h2) (qV.refl _) (Kp.refl _ _) I2
noncomputable def sq:D->Option (List D)
 | .tup l=>some l
 | .lst l=>some l
 | _=>none
end
section
variable {ρ:List Sl} {Φ:Rs->List Sl->Prop} {K:wG} {t:TA} {i:Nat} {xs:List D}
theorem qNM {T:String} {r:V->List V->Hp->VK->Prop} {to:TE} (h:wpV to ρ fun o ρ1=>(T = "list"/\∃ xs,rd ρ1 o=some (.lst xs))/\wpA t ρ1 fun rs ρ2=>QC (fun vs H Q=>∃ v vt,vs=v::vt/\r v vt H Q) (o::rs) ρ2 Φ):wpV (tBM K T r to t) ρ Φ:=by
 intro G F σ H I Q q
 refine h G F σ H I _ fun G1 H1 v o ρ1 ⟨⟨eT,xs,hx⟩,h1⟩ g1 I1 ok1=>?_
 obtain ⟨a,ws,rfl,s1,d1⟩:=jh (K:=K) I1 ok1 hx
 refine ⟨.inl ⟨eT,ws,s1⟩,?_⟩
 refine h1 G1 (hold o (.ref a) H1 F) σ H1 (I1.held ok1) _ fun G2 H2 vs rs ρ2 h2 g2 I2 oks=>?_
 obtain ⟨I3,ok3⟩:=jw.cons ok1 g2 I2 oks
 obtain ⟨v,vt,e,z⟩:=h2 G2 F σ H2 (.ref a::vs) I3 ok3 Q (q.at (g1.trans g2) fun _ _ p=>p)
 cases e
 exact z
theorem qKd {G F H:Hp} {σ:St} {v:V} (I:SI G F ρ σ H) (hi:ρ[i]? = some (.l xs)) (ok:jb G F ρ σ H (.b i) v):∃ a vs,v=.ref a/\σ[i]? = some (some (.ref a))/\H a=some (.lst vs)/\qZ G xs vs:=by
 obtain ⟨o,e,a,_,z,h1,vs,rfl,h2⟩:=I.ok i _ hi
 have ok':σ[i]? = some (some v):=ok
 rw [ok'] at e
 cases e
 cases z
 exact ⟨a,vs,rfl,ok',h1,h2⟩
theorem qDW {r:Rs} {d:D} (hi:ρ[i]? = some (.l xs)) (hr:r.it=some d) (hz:xs.length<sizeLine) (h:Φ (.d .non) (ρ.set i (.l (xs++[d])))):QC (fun vs H Q=>∃ v vt,vs=v::vt/\qF9 v vt H Q) [.b i,r] ρ Φ:=by
 intro G F σ H vs I oks Q q
 obtain ⟨v,w,rfl,o1,o2⟩:=qCR oks
 obtain ⟨G1,g1,I1,dn⟩:=qGV I o2 hr
 obtain ⟨a,us,rfl,e1,h1,h2⟩:=qKd I1 hi o1
 refine ⟨_,_,rfl,a,us,w,rfl,rfl,h1,by rw [h2.length]; exact hz,?_⟩
 exact q G1 _ .non (.d .non) _ h g1 (I1.put hi e1 (h2.snoc dn)) rfl
theorem qAA {H:Hp}:∀{xs:List D} {vs:List V} (j:Nat),qZ H xs vs->qZ H (xs.eraseIdx j) (vs.eraseIdx j)
 | [],vs,j,h=>by cases (show vs=[] from h); exact rfl
 | x::xs,vs,0,h=>by
  obtain ⟨w,r,rfl,h1,h2⟩:=h
  exact h2
 | x::xs,vs,j+1,h=>by
  obtain ⟨w,r,rfl,h1,h2⟩:=h
  exact ⟨w,r.eraseIdx j,rfl,h1,qAA j h2⟩
theorem qEs {r:Rs} {k:Nat} {d:D} (hi:ρ[i]? = some (.l xs)) (hr:rd ρ r=some (.int k)) (hk:xs[k]? = some d) (hz:xs.length<2 ^ 62) (h:Φ (.d d) (ρ.set i (.l (xs.eraseIdx k)))):QC (fun vs H Q=>∃ v vt,vs=v::vt/\qIO v vt H Q) [.b i,r] ρ Φ:=by
 intro G F σ H vs I oks Q q
 obtain ⟨v,w,rfl,o1,o2⟩:=qCR oks
 obtain ⟨a,us,rfl,e1,h1,h2⟩:=qKd I hi o1
 cases qT I o2 hr
 obtain ⟨x,hx,dx⟩:=h2.get' hk
 have hkl:k<xs.length:=(wL.mp hk).1
 have hl:=h2.length
 refine ⟨_,_,rfl,a,us,k,k,x,rfl,rfl,h1,by omega,by omega,?_,hx,?_⟩
 ·have z:=(qCd (n:=us.length) (i:=(k:Int)) (j:=k) (by unfold ixN; rw [if_pos (by omega),if_pos (by omega)]; simp)).1
  exact z
 ·exact q G _ x (.d d) _ h (qV.refl _) (I.put hi e1 (qAA k h2)) dx
end
end L4
namespace L2
open PySem PySem.Spec PyProof.Rows
end L2
namespace L4
open PySem L2
variable {ρ:List Sl} {Φ:Rs->List Sl->Prop} {K:wG}
noncomputable def qHK (ρ:List Sl):Rs->Sl
 | .d x=>.d x
 | .o xs=>.o xs
 | .b i=>(ρ[i]?).getD .u
 | .raw _=>.u
noncomputable def isB:List Rs->List Nat
 | []=>[]
 | .b i::rs=>i::isB rs
 | _::rs=>isB rs
theorem JM {i:Nat}:∀{rs:List Rs},i∈isB rs↔Rs.b i∈rs
 | []=>by simp [isB]
 | .b j::rs=>by
  have ih:=JM (i:=i) (rs:=rs)
  simp only [isB,wZ,ih,Rs.b.injEq]
 | .d x::rs=>by
  have ih:=JM (i:=i) (rs:=rs)
  simp only [isB,wZ,ih]
  exact ⟨.inr,fun h=>h.resolve_left (fun z=>by cases z)⟩
 | .o x::rs=>by
  have ih:=JM (i:=i) (rs:=rs)
  simp only [isB,wZ,ih]
  exact ⟨.inr,fun h=>h.resolve_left (fun z=>by cases z)⟩
 | .raw x::rs=>by
  have ih:=JM (i:=i) (rs:=rs)
  simp only [isB,wZ,ih]
  exact ⟨.inr,fun h=>h.resolve_left (fun z=>by cases z)⟩
theorem qGM {i:Nat}:∀{rs:List Rs} {j k:Nat},(isB rs).Nodup->rs[j]? = some (.b i)->rs[k]? = some (.b i)->j=k
 | [],j,k,n,h1,h2=>by simp at h1
 | r::rs,j,k,n,h1,h2=>by
  have nt:(isB rs).Nodup:=by
   cases r with
   | b i=>exact (vE.mp n).2
   | d x=>exact n
   | o x=>exact n
   | raw x=>exact n
  cases j with
  | zero=>
   cases k with
   | zero=>rfl
   | succ k=>
    simp at h1 h2
    subst h1
    exact absurd (JM.mpr (yT h2)) (vE.mp n).1
  | succ j=>
   cases k with
   | zero=>
    simp at h1 h2
    subst h2
    exact absurd (JM.mpr (yT h1)) (vE.mp n).1
   | succ k=>exact congrArg (· + 1) (qGM nt (by simpa using h1:rs[j]? = some (.b i)) (by simpa using h2:rs[k]? = some (.b i)))
noncomputable def kept (ρ:List Sl) (σ:St) (rs:List Rs) (a:Addr):Prop:=∃(i:Nat) (xs:Pl),ρ[i]? = some (Sl.o xs)/\σ[i]? = some (some (V.ref a))/\Rs.b i∉rs
open Classical in
noncomputable def foc (H F:Hp) (ρ:List Sl) (σ:St) (rs:List Rs):Hp:=fun a=>if kept ρ σ rs a then H a else F a
noncomputable def wb (ρ:List Sl):List Rs->List Sl->List Sl
 | [],_=>ρ
 | .b i::rs,as=>match ρ[i]? with
  | some (.o _)=>wb (ρ.set i (as.headD .u)) rs as.tail
  | _=>wb ρ rs as.tail
 | _::rs,as=>wb ρ rs as.tail
theorem qD6 {i:Nat} {s:Sl}:∀{rs:List Rs} {ρ as:List Sl},(wb ρ rs as)[i]? = some s->(∃ j:Nat,rs[j]? = some (Rs.b i)/\(as[j]? = some s\/s=.u))\/(ρ[i]? = some s/\((∃ xs,s=.o xs)->Rs.b i∉rs))
 | [],ρ,as,h=>.inr ⟨h,fun _=>yM⟩
 | r::rs,ρ,as,h=>by
  have tl:∀ j:Nat,as.tail[j]? = as[j+1]?:=fun j=>by cases as <;> simp
  have go:∀ ρ':List Sl,(wb ρ' rs as.tail)[i]? = some s->(∃ j:Nat,(r::rs)[j]? = some (Rs.b i)/\(as[j]? = some s\/s=.u))\/(ρ'[i]? = some s/\((∃ xs,s=.o xs)->Rs.b i∉rs)):=fun ρ' h=>by
   rcases qD6 h with ⟨j,h1,h2⟩ | h1
   ·exact .inl ⟨j+1,by simpa using h1,by rw [<- tl]; exact h2⟩
   ·exact .inr h1
  cases r with
  | b k=>
   unfold wb at h
   cases e:ρ[k]? with
   | none=>
    simp only [e] at h
    rcases go ρ h with q | ⟨q1,q2⟩
    ·exact .inl q
    ·refine .inr ⟨q1,fun z m=>?_⟩
     rcases wZ.mp m with m | m
     ·cases m; rw [e] at q1; cases q1
     ·exact q2 z m
   | some s'=>
    cases s' with
    | o ys=>
     simp only [e] at h
     rcases go _ h with q | ⟨q1,q2⟩
     ·exact .inl q
     ·by_cases z:k=i
      ·subst z
       rw [zV,if_pos rfl,if_pos (wL.mp e).1] at q1
       cases as with
       | nil=>exact .inl ⟨0,rfl,.inr (zF q1).symm⟩
       | cons s0 as'=>exact .inl ⟨0,rfl,.inl q1⟩
      ·rw [zV,if_neg z] at q1
       refine .inr ⟨q1,fun z' m=>?_⟩
       rcases wZ.mp m with m | m
       ·cases m; exact z rfl
       ·exact q2 z' m
    | _=>
     simp only [e] at h
     rcases go ρ h with q | ⟨q1,q2⟩
     ·exact .inl q
     ·refine .inr ⟨q1,fun z m=>?_⟩
      rcases wZ.mp m with m | m
      ·cases m
       obtain ⟨xs,z⟩:=z
       rw [z,e] at q1
       cases q1
      ·exact q2 z m
  | d x=>
   rcases go ρ h with q | ⟨q1,q2⟩
   ·exact .inl q
   ·exact .inr ⟨q1,fun z m=>q2 z ((wZ.mp m).resolve_left fun z=>by cases z)⟩
  | o x=>
   rcases go ρ h with q | ⟨q1,q2⟩
   ·exact .inl q
   ·exact .inr ⟨q1,fun z m=>q2 z ((wZ.mp m).resolve_left fun z=>by cases z)⟩
  | raw x=>
   rcases go ρ h with q | ⟨q1,q2⟩
   ·exact .inl q
   ·exact .inr ⟨q1,fun z m=>q2 z ((wZ.mp m).resolve_left fun z=>by cases z)⟩
section
variable {G F H:Hp} {ρ:List Sl} {σ:St}
theorem jw.get:∀{rs:List Rs} {F:Hp} {vs:List V} {j:Nat} {v:V},jw G F ρ σ H rs vs->vs[j]? = some v->∃ r,rs[j]? = some r/\jb G F ρ σ H r v
 | [],F,vs,j,v,h,e=>by cases (show vs=[] from h); simp at e
 | r::rs,F,vs,j,v,h,e=>by
  obtain ⟨w,vt,rfl,ok,oks⟩:=h
  cases j with
  | zero=>simp at e; subst e; exact ⟨r,rfl,ok⟩
  | succ j=>
   obtain ⟨r',h1,h2⟩:=jw.get oks (by simpa using e:vt[j]? = some v)
   exact ⟨r',by simpa using h1,h2.weak (YJ r w ok)⟩
theorem jw.len:∀{rs:List Rs} {F:Hp} {vs:List V},jw G F ρ σ H rs vs->vs.length=rs.length
 | [],F,vs,h=>by cases (show vs=[] from h); rfl
 | r::rs,F,vs,h=>by
  obtain ⟨w,vt,rfl,ok,oks⟩:=h
  rw [zS,zS,oks.len]
theorem jw.apart:∀{rs:List Rs} {F:Hp} {vs:List V} {j k:Nat} {a:Addr} {xs ys:Pl},jw G F ρ σ H rs vs->rs[j]? = some (.o xs)->rs[k]? = some (.o ys)->vs[j]? = some (.ref a)->vs[k]? = some (.ref a)->j=k
 | [],F,vs,j,k,a,xs,ys,h,h1,_,_,_=>by simp at h1
 | r::rs,F,vs,j,k,a,xs,ys,h,h1,h2,h3,h4=>by
  obtain ⟨w,vt,rfl,ok,oks⟩:=h
  have no:∀(n:Nat) (zs us:Pl),r=.o us->w=.ref a->rs[n]? = some (.o zs)->vt[n]? = some (.ref a)->False:=fun n zs us e1 e2 e3 e4=>by
   subst e1 e2
   obtain ⟨r',q1,q2⟩:=jw.get oks e4
   rw [e3] at q1
   cases q1
   obtain ⟨b,ws,z,_,_,_,z5,_⟩:=q2
   cases z
   obtain ⟨b,ws',z,y1,_⟩:=ok
   cases z
   have:hold (.o us) (.ref a) H F a=some ws':=by
    show (if a=a then H a else F a)=_
    rw [if_pos rfl]; exact y1
   rw [this] at z5
   cases z5
  cases j with
  | zero=>
   cases k with
   | zero=>rfl
   | succ k=>simp at h1 h2 h3 h4; exact (no k ys xs h1 h3 h2 h4).elim
  | succ j=>
   cases k with
   | zero=>simp at h1 h2 h3 h4; exact (no j xs ys h2 h4 h1 h3).elim
   | succ k=>exact congrArg (· + 1) (jw.apart oks (by simpa using h1:rs[j]? = some (.o xs)) (by simpa using h2:rs[k]? = some (.o ys)) (by simpa using h3:vt[j]? = some (.ref a)) (by simpa using h4))
theorem JR {rs:List Rs} {a:Addr} (h:kept ρ σ rs a):foc H F ρ σ rs a=H a:=by unfold foc; rw [if_pos h]
theorem YT {rs:List Rs} {a:Addr} (h:¬ kept ρ σ rs a):foc H F ρ σ rs a=F a:=by unfold foc; rw [if_neg h]
theorem Jc {rs:List Rs} (I:SI G F ρ σ H):qV F (foc H F ρ σ rs):=fun b o e=>by
 rw [YT]
 ·exact e
 ·rintro ⟨i,xs,h1,h2,_⟩
  rw [(I.out b ⟨i,xs,h1,h2⟩).2] at e
  cases e
theorem SI.focus {rs:List Rs} {vs:List V} (I:SI G F ρ σ H) (oks:jw G F ρ σ H rs vs) (nb:(isB rs).Nodup):SI G (foc H F ρ σ rs) (rs.map (qHK ρ)) (vs.map some) H:=by
 have get:∀(j:Nat) (s:Sl),(rs.map (qHK ρ))[j]? = some s->∃ r v,rs[j]? = some r/\s=qHK ρ r/\vs[j]? = some v/\jb G F ρ σ H r v:=fun j s e=>by
  rw [wI] at e
  cases z:rs[j]? with
  | none=>rw [z] at e; cases e
  | some r=>
   rw [z] at e
   have hj:j<vs.length:=by rw [oks.len]; exact (wL.mp z).1
   obtain ⟨r',q1,q2⟩:=oks.get (wC hj)
   rw [z] at q1
   cases q1
   exact ⟨r,vs[j],rfl,(zF e).symm,wC hj,q2⟩
 have own:∀(j:Nat) (xs:Pl) (a:Addr),(rs.map (qHK ρ))[j]? = some (.o xs)->(vs.map some)[j]? = some (some (.ref a))->G a=none/\F a=none/\((∃ ys,rs[j]? = some (.o ys)/\vs[j]? = some (.ref a)/\¬ qLd ρ σ a)\/∃ i,rs[j]? = some (.b i)/\ρ[i]? = some (.o xs)/\σ[i]? = some (some (.ref a))):=fun j xs a h1 h2=>by
  obtain ⟨r,v,e1,e2,e3,ok⟩:=get j _ h1
  rw [wI,e3] at h2
  cases h2
  cases r with
  | d x=>cases e2
  | raw x=>cases e2
  | o ys=>
   obtain ⟨b,ws,z,z1,z2,z3,z4,z5⟩:=ok
   cases z
   exact ⟨z3,z4,.inl ⟨ys,e1,e3,z5⟩⟩
  | b i=>
   have e2':Sl.o xs=(ρ[i]?).getD .u:=e2
   cases z:ρ[i]? with
   | none=>rw [z] at e2'; cases e2'
   | some s=>
    rw [z] at e2'
    cases (show Sl.o xs=s from e2')
    have o:=I.out a ⟨i,xs,z,ok⟩
    exact ⟨o.1,o.2,.inr ⟨i,e1,z,ok⟩⟩
 refine ⟨fun j s e=>?_,I.g,fun b o e=>?_,fun b o e=>?_,fun j k a xs ys h1 h2 h3 h4=>?_,fun a ha=>?_,fun b ws e=>?ft⟩
 case ft=>
  by_cases z:kept ρ σ rs b
  ·rw [JR z] at e
   obtain ⟨i,xs,h1,h2,_⟩:=z
   obtain ⟨o,q1,a,us,q2,q3,q4⟩:=I.ok i _ h1
   rw [h2] at q1
   cases q1
   cases q2
   rw [q3] at e
   exact q4.ntup ws (zF e)
  ·rw [YT z] at e
   exact I.ft b ws e
 ·obtain ⟨r,v,e1,e2,e3,ok⟩:=get j s e
  refine ⟨some v,by rw [wI,e3]; rfl,?_⟩
  subst e2
  cases r with
  | d x=>exact ⟨v,rfl,ok⟩
  | raw x=>trivial
  | o ys=>
   obtain ⟨b,ws,z,z1,z2,z3,z4,z5⟩:=ok
   subst z
   exact ⟨b,ws,rfl,z1,z2⟩
  | b i=>
   have ok':σ[i]? = some (some v):=ok
   show qKX G H ((ρ[i]?).getD .u) (some v)
   cases z:ρ[i]? with
   | none=>trivial
   | some s=>
    obtain ⟨o,q1,q2⟩:=I.ok i s z
    rw [ok'] at q1
    cases q1
    exact q2
 ·by_cases z:kept ρ σ rs b
  ·rw [JR z] at e; exact e
  ·rw [YT z] at e; exact I.f _ _ e
 ·by_cases z:kept ρ σ rs b
  ·obtain ⟨i,xs,h1,h2,_⟩:=z
   exact (I.out b ⟨i,xs,h1,h2⟩).1
  ·rw [YT z] at e; exact I.gf _ _ e
 ·obtain ⟨_,_,o1⟩:=own j xs a h1 h3
  obtain ⟨_,_,o2⟩:=own k ys a h2 h4
  rcases o1 with ⟨us,q1,q2,q3⟩ | ⟨i,q1,q2,q3⟩
  ·rcases o2 with ⟨ws,p1,p2,p3⟩ | ⟨i',p1,p2,p3⟩
   ·exact oks.apart q1 p1 q2 p2
   ·exact absurd ⟨i',ys,p2,p3⟩ q3
  ·rcases o2 with ⟨ws,p1,p2,p3⟩ | ⟨i',p1,p2,p3⟩
   ·exact absurd ⟨i,xs,q2,q3⟩ p3
   ·have e:=I.nd i i' a xs ys q2 p2 q3 p3
    subst e
    exact qGM nb q1 p1
 ·obtain ⟨j,xs,h1,h2⟩:=ha
  obtain ⟨g,f,o⟩:=own j xs a h1 h2
  refine ⟨g,?_⟩
  rw [YT]
  ·exact f
  ·rintro ⟨i,us,e1,e2,e3⟩
   rcases o with ⟨ys,q1,q2,q3⟩ | ⟨i',q1,q2,q3⟩
   ·exact q3 ⟨i,us,e1,e2⟩
   ·have e:=I.nd i i' a us xs e1 q2 e2 q3
    subst e
    exact e3 (yT q1)
theorem SI.unfocus {rs:List Rs} {vs:List V} {G' H':Hp} {as:List Sl} (I:SI G F ρ σ H) (oks:jw G F ρ σ H rs vs) (g:qV G G') (I':SI G' (foc H F ρ σ rs) as (vs.map some) H'):SI G' F (wb ρ rs as) σ H':=by
 have hf:=Jc (rs:=rs) I
 have at':∀{i j:Nat},rs[j]? = some (.b i)->∃ v,vs[j]? = some v/\σ[i]? = some (some v):=fun {i j} e=>by
  have hj:j<vs.length:=by rw [oks.len]; exact (wL.mp e).1
  obtain ⟨r',q1,q2⟩:=oks.get (wC hj)
  rw [e] at q1
  cases q1
  exact ⟨_,wC hj,q2⟩
 have own:∀(i:Nat) (xs:Pl) (a:Addr),(wb ρ rs as)[i]? = some (.o xs)->σ[i]? = some (some (.ref a))->(∃ j:Nat,rs[j]? = some (Rs.b i)/\as[j]? = some (Sl.o xs)/\(vs.map some)[j]? = some (some (V.ref a)))\/(ρ[i]? = some (.o xs)/\kept ρ σ rs a):=fun i xs a h1 h2=>by
  rcases qD6 h1 with ⟨j,e1,e2⟩ | ⟨e1,e2⟩
  ·obtain ⟨v,q1,q2⟩:=at' e1
   rw [h2] at q2
   cases q2
   refine .inl ⟨j,e1,e2.resolve_right (fun z=>nomatch z),by rw [wI,q1]; rfl⟩
  ·exact .inr ⟨e1,i,xs,e1,h2,e2 ⟨xs,rfl⟩⟩
 have keptH:∀ a,kept ρ σ rs a->∃ ws,H a=some ws/\foc H F ρ σ rs a=some ws:=fun a k=>by
  obtain ⟨i,xs,e1,e2,e3⟩:=k
  obtain ⟨o,q1,b,ws,z,q2,q3⟩:=I.ok i _ e1
  rw [e2] at q1
  cases q1
  cases z
  exact ⟨ws,q2,by rw [JR ⟨i,xs,e1,e2,e3⟩]; exact q2⟩
 refine ⟨fun i s e=>?_,I'.g,fun b o e=>I'.f _ _ (hf _ _ e),fun b o e=>I'.gf _ _ (hf _ _ e),fun i k a xs ys h1 h2 h3 h4=>?_,fun a ha=>?_,fun b xs e=>I'.ft b xs (hf _ _ e)⟩
 ·rcases qD6 e with ⟨j,e1,e2⟩ | ⟨e1,e2⟩
  ·obtain ⟨v,q1,q2⟩:=at' e1
   refine ⟨_,q2,?_⟩
   rcases e2 with e2 | rfl
   ·obtain ⟨o,p1,p2⟩:=I'.ok j s e2
    rw [wI,q1] at p1
    cases p1
    exact p2
   ·trivial
  ·obtain ⟨o,p1,p2⟩:=I.ok i s e1
   refine ⟨o,p1,p2.up g fun xs a ws z1 z2 z3=>?_⟩
   subst z1 z2
   obtain ⟨ws',k1,k2⟩:=keptH a ⟨i,xs,e1,p1,e2 ⟨xs,rfl⟩⟩
   rw [z3] at k1
   cases k1
   exact I'.f _ _ k2
 ·rcases own i xs a h1 h3 with ⟨j1,p1,p2,p3⟩ | ⟨p1,p2⟩
  ·rcases own k ys a h2 h4 with ⟨j2,q1,q2,q3⟩ | ⟨q1,q2⟩
   ·have e:=I'.nd j1 j2 a xs ys p2 q2 p3 q3
    subst e
    rw [p1] at q1
    cases q1
    rfl
   ·obtain ⟨ws,k1,k2⟩:=keptH a q2
    rw [(I'.out a ⟨j1,xs,p2,p3⟩).2] at k2
    cases k2
  ·rcases own k ys a h2 h4 with ⟨j2,q1,q2,q3⟩ | ⟨q1,q2⟩
   ·obtain ⟨ws,k1,k2⟩:=keptH a p2
    rw [(I'.out a ⟨j2,ys,q2,q3⟩).2] at k2
    cases k2
   ·exact I.nd i k a xs ys p1 q1 h3 h4
 ·obtain ⟨i,xs,h1,h2⟩:=ha
  rcases own i xs a h1 h2 with ⟨j1,p1,p2,p3⟩ | ⟨p1,p2⟩
  ·have o:=I'.out a ⟨j1,xs,p2,p3⟩
   exact ⟨o.1,hf.free o.2⟩
  ·obtain ⟨ws,k1,k2⟩:=keptH a p2
   exact ⟨I'.gf _ _ k2,(I.out a ⟨i,xs,p1,h2⟩).2⟩
theorem jb.unfocus {rs:List Rs} {vs:List V} {G' H':Hp} {as:List Sl} {r:Rs} {v:V} {d:D} (I:SI G F ρ σ H) (oks:jw G F ρ σ H rs vs) (hr:r.it=some d) (ok:jb G' (foc H F ρ σ rs) as (vs.map some) H' r v):jb G' F (wb ρ rs as) σ H' r v:=by
 have hf:=Jc (rs:=rs) I
 cases r with
 | d x=>exact ok
 | b i=>cases hr
 | raw w=>cases hr
 | o xs=>
  obtain ⟨a,ws,rfl,h1,h2,h3,h4,h5⟩:=ok
  refine ⟨a,ws,rfl,h1,h2,h3,hf.free h4,?_⟩
  rintro ⟨i,ys,e1,e2⟩
  rcases qD6 e1 with ⟨j,q1,q2⟩ | ⟨q1,q2⟩
  ·have hj:j<vs.length:=by rw [oks.len]; exact (wL.mp q1).1
   obtain ⟨r',p1,p2⟩:=oks.get (wC hj)
   rw [q1] at p1
   cases p1
   have p2':σ[i]? = some (some vs[j]):=p2
   rw [e2] at p2'
   refine h5 ⟨j,ys,q2.resolve_right (fun z=>nomatch z),?_⟩
   rw [wI,wC hj,<- zF p2']
   rfl
  ·obtain ⟨o,p1,b,ws',z,p2,p3⟩:=I.ok i _ q1
   rw [e2] at p1
   cases p1
   cases z
   rw [JR ⟨i,ys,q1,e2,q2 ⟨ys,rfl⟩⟩,p2] at h4
   cases h4
end
noncomputable abbrev PV:=List Sl->(Rs->List Sl->Prop)->Prop
noncomputable def spV (P:PV):Sp:=fun vs H Q _=>∃ as Φ G F,P as Φ/\as.length=vs.length/\SI G F as (vs.map some) H/\Fin G F (vs.map some) Φ Q
theorem qX {P:PV} {E:XK} {t:TA} {ρ:List Sl} {Φ:Rs->List Sl->Prop} (h:wpA t ρ fun rs ρ1=>(isB rs).Nodup/\P (rs.map (qHK ρ1)) fun r as=>(∃ d,r.it=some d)/\Φ r (wb ρ1 rs as)):wpV (qHA (spV P) [] E t) ρ Φ:=by
 intro G F σ H I Q q
 refine h G F σ H I _ fun G1 H1 vs rs ρ1 ⟨nb,h1⟩ g1 I1 oks=>?_
 show spV P (vs++[]) H1 Q E
 rw [zZ]
 refine ⟨_,_,G1,_,h1,by rw [wA,oks.len],I1.focus oks nb,?_⟩
 intro G2 H2 v r as ⟨⟨d,ed⟩,h2⟩ g2 I2 ok
 exact q G2 H2 v r _ h2 (g1.trans g2) (I1.unfocus oks g2 I2) (jb.unfocus I1 oks ed ok)
noncomputable def sel (c:Nat) (B:List Nat) (n:Nat) (ρ:List Sl):List Sl:=(wO n).map fun j=>if B.contains (c+j) then (ρ[c+j]?).getD .u else .u
theorem qCa {c:Nat} {B:List Nat} {n:Nat} {ρ:List Sl} {j:Nat} {s:Sl} (h:(sel c B n ρ)[j]? = some s):j<n/\(s=.u\/(c+j∈B/\ρ[c+j]? = some s)):=by
 unfold sel at h
 rw [wI] at h
 by_cases z:j<n
 ·rw [kY z] at h
  refine ⟨z,?_⟩
  have h':(if B.contains (c+j)=true then (ρ[c+j]?).getD .u else .u)=s:=zF h
  by_cases q:B.contains (c+j)=true
  ·rw [if_pos q] at h'
   rw [kM,decide_eq_true_iff] at q
   cases e:ρ[c+j]? with
   | none=>rw [e] at h'; exact .inl h'.symm
   | some s'=>
    rw [e] at h'
    have h2:s'=s:=h'
    subst h2
    exact .inr ⟨q,rfl⟩
  ·rw [if_neg q] at h'; exact .inl h'.symm
 ·rw [vP (zC (uA zR) (by omega))] at h
  cases h
theorem SI.sel {G F H:Hp} {ρ:List Sl} {σ σ0:St} {c n:Nat} {B:List Nat} {vs:List V} (I:SI G F ρ σ H) (k:Kp B σ0 σ) (h0:∀ j v,vs[j]? = some v->σ0[c+j]? = some (some v)) (hn:n<=vs.length):SI G F (sel c B n ρ) (vs.map some) H:=by
 have own:∀(j:Nat) (xs:Pl) (a:Addr),(L4.sel c B n ρ)[j]? = some (.o xs)->(vs.map some)[j]? = some (some (.ref a))->ρ[c+j]? = some (.o xs)/\σ[c+j]? = some (some (.ref a)):=fun j xs a h1 h2=>by
  obtain ⟨z,q⟩:=qCa h1
  obtain ⟨m,q⟩:=q.resolve_left fun z=>by cases z
  refine ⟨q,?_⟩
  rw [k _ m]
  rw [wI] at h2
  cases e:vs[j]? with
  | none=>rw [e] at h2; cases h2
  | some v=>rw [e] at h2; cases h2; exact h0 j _ e
 refine ⟨fun j s e=>?_,I.g,I.f,I.gf,fun i j a xs ys h1 h2 h3 h4=>?_,fun a ⟨j,xs,h1,h2⟩=>?_,I.ft⟩
 ·obtain ⟨z,q⟩:=qCa e
  have hj:j<vs.length:=by omega
  refine ⟨some vs[j],by rw [wI,wC hj]; rfl,?_⟩
  rcases q with rfl | ⟨m,q⟩
  ·trivial
  ·obtain ⟨o,e1,e2⟩:=I.ok _ s q
   rw [k _ m,h0 j _ (wC hj)] at e1
   cases e1
   exact e2
 ·obtain ⟨p1,p2⟩:=own i xs a h1 h3
  obtain ⟨q1,q2⟩:=own j ys a h2 h4
  have:=I.nd _ _ a xs ys p1 q1 p2 q2
  omega
 ·obtain ⟨p1,p2⟩:=own j xs a h1 h2
  exact I.out a ⟨_,xs,p1,p2⟩
theorem jb.sel {G F H:Hp} {ρ:List Sl} {σ σ0:St} {c n:Nat} {B:List Nat} {vs:List V} {r:Rs} {v:V} {d:D} (hr:r.it=some d) (ok:jb G F ρ σ H r v) (k:Kp B σ0 σ) (h0:∀ j v,vs[j]? = some v->σ0[c+j]? = some (some v)):jb G F (sel c B n ρ) (vs.map some) H r v:=by
 cases r with
 | d x=>exact ok
 | b i=>cases hr
 | raw w=>cases hr
 | o xs=>
  obtain ⟨a,ws,rfl,h1,h2,h3,h4,h5⟩:=ok
  refine ⟨a,ws,rfl,h1,h2,h3,h4,?_⟩
  rintro ⟨j,ys,e1,e2⟩
  obtain ⟨z,q⟩:=qCa e1
  obtain ⟨m,q⟩:=q.resolve_left fun z=>by cases z
  refine h5 ⟨_,ys,q,?_⟩
  rw [k _ m]
  rw [wI] at e2
  cases e:vs[j]? with
  | none=>rw [e] at e2; cases e2
  | some v=>rw [e] at e2; cases e2; exact h0 j _ e
theorem SI.ext {G F H:Hp} {as:List Sl} {vs:List V} (I:SI G F as (vs.map some) H) (c k:Nat) (hl:as.length=vs.length):SI G F (wX c .u++(as++wX k .u)) (wX c none++(vs.map some++wX k none)) H:=by
 have get:∀(i:Nat) (s:Sl),(wX c Sl.u++(as++wX k Sl.u))[i]? = some s->(s=.u/\i<c+as.length+k)\/(c<=i/\i - c<as.length/\as[i - c]? = some s):=fun i s e=>by
  by_cases z:i<c
  ·rw [vH (by rw [zO]; exact z),fV,if_pos z] at e
   exact .inl ⟨(zF e).symm,by omega⟩
  ·rw [yC (by rw [zO]; omega),zO] at e
   by_cases q:i - c<as.length
   ·rw [vH q] at e
    exact .inr ⟨by omega,q,e⟩
   ·rw [yC (by omega),fV] at e
    by_cases y:i - c - as.length<k
    ·rw [if_pos y] at e; exact .inl ⟨(zF e).symm,by omega⟩
    ·rw [if_neg y] at e; cases e
 have st:∀ i,c<=i->i - c<as.length->(wX c none++(vs.map some++wX k none))[i]? = (vs.map some)[i - c]?:=fun i h1 h2=>by
  rw [yC (by rw [zO]; exact h1),zO,vH (by rw [wA]; omega)]
 have own:∀(i:Nat) (xs:Pl),(wX c Sl.u++(as++wX k Sl.u))[i]? = some (.o xs)->c<=i/\i - c<as.length/\as[i - c]? = some (.o xs):=fun i xs e=>(get i _ e).resolve_left fun z=>by cases z.1
 refine ⟨fun i s e=>?_,I.g,I.f,I.gf,fun i j a xs ys h1 h2 h3 h4=>?_,fun a ⟨i,xs,h1,h2⟩=>?_,I.ft⟩
 ·rcases get i s e with ⟨rfl,z⟩ | ⟨z1,z2,z3⟩
  ·have hl2:(wX c none++(vs.map some++wX k none)).length=c+vs.length+k:=by
    rw [wM,wM,zO,zO,wA]; omega
   have hi:i<(wX c none++(vs.map some++wX k none)).length:=by rw [hl2,<- hl]; exact z
   exact ⟨_,wC hi,trivial⟩
  ·obtain ⟨o,e1,e2⟩:=I.ok _ s z3
   exact ⟨o,by rw [st i z1 z2]; exact e1,e2⟩
 ·obtain ⟨p1,p2,p3⟩:=own i xs h1
  obtain ⟨q1,q2,q3⟩:=own j ys h2
  rw [st i p1 p2] at h3
  rw [st j q1 q2] at h4
  have:=I.nd _ _ a xs ys p3 q3 h3 h4
  omega
 ·obtain ⟨p1,p2,p3⟩:=own i xs h1
  rw [st i p1 p2] at h2
  exact I.out a ⟨_,xs,p3,h2⟩
theorem jR {P:Program} {w:World} {K:wG} {mg:Str->Option Value} {base:Heap} {x qual:Str} {st:Stmt} {f:Addr} {fd:FuncData} {N ps:List Str} {k:Nat} {pv:PV} (F:Fun K x qual st f fd) (S:qR N ps (qH st)) (B:List Nat)
  (len:∀ as Φ,pv as Φ->as.length=ps.length)
  (hbody:∀(cdv:Value) (A:Around) (outer:List Env) (s:Shared) (H:Hp) (E:XK),Y0 k (A.deeper (PyProof.Rows.envOfC qual (qH st) s.heap.objs.size f cdv))->
   ∃ t,PSs (qH9 CX0 P w K mg base N qual (qH st) f cdv A outer s H E).nox (QQ st) t/\
    ∀ as Φ,pv as Φ->wpS B t (as++wX (N.length - ps.length) .u) { nx:=fun ρ=>Φ (.d .non) (sel 0 B ps.length ρ),rt:=fun r ρ=>(∃ d,r.it=some d)/\Φ r (sel 0 B ps.length ρ) }) :
  jo P w K mg base CX0 (k+1) f fd ps (spV pv):=by
 have len':∀ vs H Q E,spV pv vs H Q E->vs.length=ps.length:=fun vs H Q E h=>by
  obtain ⟨as,Φ,G,F,p,l,_⟩:=h
  rw [<- l]; exact len as Φ p
 refine F.ok S len' fun cdv A outer s H vs Q E hr h=>?_
 obtain ⟨t,ht,hw⟩:=hbody cdv A outer s H E hr
 refine ⟨t,ht,?_⟩
 have hl:=len' vs H Q E h
 obtain ⟨as,Φ,G,F',p,l,I,q⟩:=h
 have I0:=I.ext 0 (N.length - ps.length) l
 rw [yQ,yQ,uK,uK] at I0
 have es:L2.start N vs=vs.map some++wX (N.length - ps.length) none:=by unfold L2.start; rw [hl]
 have h0:∀ j v,vs[j]? = some v->(vs.map some++wX (N.length - ps.length) none)[0+j]? = some (some v):=fun j v e=>by
  rw [ZH,vH (by rw [wA]; exact (wL.mp e).1),wI,e]
  rfl
 rw [es]
 refine hw as Φ p G F' _ H I0 _ ?_ ?_ ?_ ?_
 ·intro G1 σ1 H1 ρ1 h1 g1 k1 I1
  exact q G1 H1 .non (.d .non) _ h1 g1 (I1.sel k1 h0 (uA hl.symm)) rfl
 ·intro G1 σ1 H1 ρ1 r v ⟨⟨d,ed⟩,h1⟩ g1 k1 I1 ok
  exact q G1 H1 v r _ h1 g1 (I1.sel k1 h0 (uA hl.symm)) (jb.sel ed ok k1 h0)
 ·intro G1 σ1 H1 ρ1 h1
  exact h1.elim
 ·intro G1 σ1 H1 ρ1 h1
  exact h1.elim
noncomputable def Src (J:It) (G F:Hp) (xs:List D):Prop:=∀(i:Nat) (G' H':Hp),qV G G'->qV G' H'->qV F H'->
 (i<xs.length->J.go i H'/\∀ x H2,J.yld i H' x H2->∃ d,xs[i]? = some d/\((H2=H'/\Den G' d x)\/∃ p o,H' p=none/\H2=upd H' p o/\Den (upd G' p o) d x))/\(i=xs.length->J.stop i H')
noncomputable def wpI (wi:TI) (ρ:List Sl) (Φ:List D->List Sl->Prop):Prop:=∀ G F σ H,SI G F ρ σ H->∀ R:It->Hp->Prop,(∀ G' H' J xs ρ',Φ xs ρ'->qV G G'->SI G' F ρ' σ H'->Src J G' F xs->R J H')->wi σ H R
section
variable {ρ:List Sl} {Φ:List D->List Sl->Prop} {K:wG}
noncomputable def qF6 (lo:Int) (n:Nat):List D:=(wO n).map fun k:Nat=>D.int (lo+k)
theorem jI (lo:Int) (n:Nat):(qF6 lo n).length=n:=by unfold qF6; rw [wA,zR]
theorem QT {lo:Int} {n k:Nat} (h:k<n):(qF6 lo n)[k]? = some (.int (lo+k)):=by unfold qF6; rw [wI,kY h]; rfl
theorem src_range (lo:Int) (n:Nat) (G F:Hp):Src (Itr lo n) G F (qF6 lo n):=by
 intro i G' H' _ _ _
 rw [jI]
 refine ⟨fun hi=>⟨hi,fun x H2 y=>?_⟩,fun hi=>uA hi.symm⟩
 obtain ⟨e,y⟩:=y
 subst e y
 exact ⟨_,QT hi,.inl ⟨rfl,rfl⟩⟩
theorem qDx {ta:TA} (h:wpA ta ρ fun rs ρ1=>∃ j:Int,(∃ r,rs=[r]/\rd ρ1 r=some (.int j))/\-(2 ^ 62)<=j/\j<2 ^ 62/\Φ (qF6 0 j.toNat) ρ1):wpI (qJ3 ta) ρ Φ:=by
 intro G F σ H I R q
 refine h G F σ H I _ fun G1 H1 vs rs ρ1 ⟨j,⟨x,er,ex⟩,l1,l2,h1⟩ g1 I1 oks=>?_
 subst er
 obtain ⟨v,rfl,ok⟩:=jT oks
 cases qT I1 ok ex
 exact ⟨j,rfl,l1,l2,q G1 H1 _ _ ρ1 h1 g1 I1 (src_range _ _ _ _)⟩
theorem qNF {ta:TA} (h:wpA ta ρ fun rs ρ1=>∃ i j:Int,(∃ r r',rs=[r,r']/\rd ρ1 r=some (.int i)/\rd ρ1 r'=some (.int j))/\(-(2 ^ 62)<=i/\i<2 ^ 62/\-(2 ^ 62)<=j/\j<2 ^ 62)/\Φ (qF6 i (j - i).toNat) ρ1):wpI (qLM ta) ρ Φ:=by
 intro G F σ H I R q
 refine h G F σ H I _ fun G1 H1 vs rs ρ1 ⟨i,j,⟨x,x',er,ex,ex'⟩,l1,h1⟩ g1 I1 oks=>?_
 subst er
 obtain ⟨v,v',rfl,ok,ok'⟩:=qCR oks
 cases qT I1 ok ex
 cases qT I1 ok' ex'
 exact ⟨i,j,rfl,l1,q G1 H1 _ _ ρ1 h1 g1 I1 (src_range _ _ _ _)⟩
theorem qFC {a:Addr} {ws:List V} {xs:List D} {G F:Hp} (h1:G a=some (.tup ws)) (h2:qZ G xs ws):Src (Itt K a) G F xs:=by
 intro i G' H' g gh _
 have st:SqT K H' a ws:=SqT.of (gh _ _ (g _ _ h1))
 have hl:=h2.length
 refine ⟨fun hi=>?_,fun hi=>⟨ws,st,by omega⟩⟩
 have hi2:i<ws.length:=by omega
 refine ⟨⟨ws,ws[i],st,wC hi2⟩,fun x H2 y=>?_⟩
 obtain ⟨e,y⟩:=y
 subst e
 obtain ⟨d,e1,e2⟩:=h2.get (y ws st)
 exact ⟨d,e1,.inl ⟨rfl,Den.mono g _ _ e2⟩⟩
theorem qDL {a:Addr} {ws:List V} {xs:List D} {G F:Hp} (h1:∀ G' H',qV G G'->qV G' H'->qV F H'->SqL K H' a ws) (h2:qZ G xs ws):Src (Itl K a) G F xs:=by
 intro i G' H' g gh gf
 have st:SqL K H' a ws:=h1 G' H' g gh gf
 have hl:=h2.length
 refine ⟨fun hi=>?_,fun hi=>⟨ws,st,by omega⟩⟩
 have hi2:i<ws.length:=by omega
 refine ⟨⟨ws,ws[i],st,wC hi2⟩,fun x H2 y=>?_⟩
 obtain ⟨e,y⟩:=y
 subst e
 obtain ⟨d,e1,e2⟩:=h2.get (y ws st)
 exact ⟨d,e1,.inl ⟨rfl,Den.mono g _ _ e2⟩⟩
theorem Qp {tl:TE} (h:wpV tl ρ fun r ρ1=>∃ d xs,r.it=some d/\sq d=some xs/\Φ xs ρ1):wpI (qJy K tl) ρ Φ:=by
 intro G F σ H I R q
 refine h G F σ H I _ fun G0 H1 v x ρ1 ⟨d,xs,e1,e2,h1⟩ g0 I0 ok=>?_
 obtain ⟨G1,g1',I1,dn⟩:=qGV I0 ok e1
 have g1:=g0.trans g1'
 cases d with
 | tup l=>
  cases e2
  obtain ⟨a,ws,rfl,k1,k2⟩:=dn
  exact ⟨a,rfl,.inr ⟨⟨ws,SqT.of (I1.g _ _ k1)⟩,q G1 H1 _ _ ρ1 h1 g1 I1 (qFC k1 k2)⟩⟩
 | lst l=>
  cases e2
  obtain ⟨a,ws,rfl,k1,k2⟩:=dn
  exact ⟨a,rfl,.inl ⟨⟨ws,SqL.of (I1.g _ _ k1)⟩,q G1 H1 _ _ ρ1 h1 g1 I1 (qDL (fun G' H' g gh _=>SqL.of (gh _ _ (g _ _ k1))) k2)⟩⟩
 | non=>cases e2
 | bl _=>cases e2
 | int _=>cases e2
 | str _=>cases e2
 | dic=>cases e2
end
theorem Yj {B:List Nat} {ρ:List Sl} {Ψ:VE} {wi:TI} {g:TG} {tb:TS} (h:wpI wi ρ fun xs ρ1=>∃ Jv:Nat->List Sl->Prop,Jv 0 ρ1/\
  (∀ k x ρ,xs[k]? = some x->Jv k ρ->wpG B g (.d x) ρ fun ρ2=>wpS B tb ρ2 { nx:=Jv (k+1),ct:=Jv (k+1),bk:=Ψ.nx,rt:=Ψ.rt })/\∀ ρ,Jv xs.length ρ->Ψ.nx ρ):wpS B (qIF wi g tb) ρ Ψ:=by
 intro G F σ H I D n r b ct
 refine h G F σ H I _ fun G1 H1 J xs ρ1 ⟨Jv,i0,st,en⟩ g1 I1 S=>?_
 refine ⟨fun i m σ' H'=>m=xs.length - i/\i<=xs.length/\∃ G' ρ',Jv i ρ'/\qV G1 G'/\Kp B σ σ'/\SI G' F ρ' σ' H',⟨xs.length,by simp,zP _,G1,ρ1,i0,qV.refl _,Kp.refl _ _,I1⟩,?_⟩
 rintro i m σ2 H2 ⟨rfl,hi,G2,ρ2,p2,g2,k2,I2⟩
 obtain ⟨s1,s2⟩:=S i G2 H2 g2 I2.g I2.f
 by_cases hlt:i<xs.length
 ·obtain ⟨go,yl⟩:=s1 hlt
  refine .inr ⟨go,fun σ' H'=>∃ G' ρ',Jv (i+1) ρ'/\qV G1 G'/\Kp B σ σ'/\SI G' F ρ' σ' H',fun σ' H' p'=>⟨xs.length - (i+1),by omega,rfl,hlt,p'⟩,fun x H' y=>?_⟩
  obtain ⟨d,ed,yy⟩:=yl x H' y
  have fin:∀ G3,qV G2 G3->SI G3 F ρ2 σ2 H'->Den G3 d x->g x σ2 H' fun σ3 H3=>tb { D with nx:=fun σ' H'=>∃ G' ρ',Jv (i+1) ρ'/\qV G1 G'/\Kp B σ σ'/\SI G' F ρ' σ' H',ct:=fun σ' H'=>∃ G' ρ',Jv (i+1) ρ'/\qV G1 G'/\Kp B σ σ'/\SI G' F ρ' σ' H',bk:=D.nx } σ3 H3:=fun G3 g3 I3 dn=>by
   refine st i d ρ2 ed p2 G3 F σ2 _ x I3 dn _ ?_
   intro G4 σ4 H4 ρ4 h4 g4 k4 I4
   have gg:=(g2.trans g3).trans g4
   refine h4 G4 F σ4 H4 I4 _ ?_ (r.at (g1.trans gg) (k2.trans k4)) ?_ ?_
   ·exact fun G5 σ5 H5 ρ5 p5 g5 k5 I5=>⟨G5,ρ5,p5,gg.trans g5,(k2.trans k4).trans k5,I5⟩
   ·exact n.at (g1.trans gg) (k2.trans k4)
   ·exact fun G5 σ5 H5 ρ5 p5 g5 k5 I5=>⟨G5,ρ5,p5,gg.trans g5,(k2.trans k4).trans k5,I5⟩
  rcases yy with ⟨e,dn⟩ | ⟨p,o,hp,e,dn⟩
  ·subst e
   exact fin G2 (qV.refl _) I2 dn
  ·subst e
   obtain ⟨I3,g3⟩:=I2.newG (o:=o) hp
   exact fin _ g3 I3 dn
 ·have e:i=xs.length:=by omega
  subst e
  exact .inl ⟨s2 rfl,n G2 σ2 H2 ρ2 (en ρ2 p2) (g1.trans g2) k2 I2⟩
noncomputable def Q4 (fr:List (Str×Nat)):List Rs:=fr.map fun p=>Rs.b p.2
noncomputable def known (ρ:List Sl) (fr:List (Str×Nat)):Prop:=∀ p∈fr,∃ s,ρ[p.2]? = some s/\s≠.u
theorem qAh {G F H:Hp} {ρ:List Sl} {σ:St} (I:SI G F ρ σ H):∀{fr:List (Str×Nat)},known ρ fr->∃ vs:List V,jw G F ρ σ H (Q4 fr) vs/\(fr.map fun p=>(σ[p.2]?).join)=vs.map some
 | [],_=>⟨[],rfl,rfl⟩
 | p::fr,h=>by
  obtain ⟨vs,h1,h2⟩:=qAh I (fr:=fr) fun q hq=>h q (wQ _ hq)
  obtain ⟨s,e,ne⟩:=h p wN
  obtain ⟨o,e1,e2⟩:=I.ok _ s e
  have:∃ v,o=some v:=by
   cases s with
   | u=>exact absurd rfl ne
   | d x=>obtain ⟨v,z,_⟩:=e2; exact ⟨v,z⟩
   | o x=>obtain ⟨a,_,z,_⟩:=e2; exact ⟨_,z⟩
   | f _ x=>obtain ⟨a,_,z,_⟩:=e2; exact ⟨_,z⟩
  obtain ⟨v,rfl⟩:=this
  refine ⟨v::vs,⟨v,vs,rfl,e1,h1⟩,?_⟩
  rw [yV,yV,h2,e1]
  rfl
noncomputable def inner (own:List Str) (fr:List (Str×Nat)) (ρ:List Sl):List Sl:=wX own.length .u++fr.map fun p=>(ρ[p.2]?).getD .u
noncomputable def bnd (own:List Str) (fr:List (Str×Nat)):List Nat:=(wO fr.length).map (own.length + ·)
noncomputable def outer (own:List Str) (fr:List (Str×Nat)) (ρ ρc:List Sl):List Sl:=wb ρ (Q4 fr) (ρc.drop own.length)
theorem qAc {c n:Nat} {ρ:List Sl} (h:ρ.length=c+n):sel c ((wO n).map (c + ·)) n ρ=ρ.drop c:=by
 apply xV
 intro j
 unfold sel
 rw [wI,WJ]
 by_cases z:j<n
 ·rw [kY z]
  have m:((wO n).map (c + ·)).contains (c+j)=true:=by
   rw [kM,decide_eq_true_iff]
   exact zJ.mpr ⟨j,zM.mpr z,rfl⟩
  show some (if ((wO n).map (c + ·)).contains (c+j)=true then (ρ[c+j]?).getD .u else .u)=_
  rw [if_pos m]
  have:c+j<ρ.length:=by omega
  rw [wC this]
  rfl
 ·rw [vP (zC (uA zR) (by omega)),vP (by omega)]
  rfl
theorem qCM {own:List Str} {fr:List (Str×Nat)} {J:It} {g:TG} {tt:TT} {te:TE} {ρ:List Sl} {Φ:Rs->List Sl->Prop} {G F H:Hp} {σ:St} {Q:VK} {xs:List D} (I:SI G F ρ σ H) (kn:known ρ fr) (nd:(isB (Q4 fr)).Nodup)
  (S:Src J G (foc H F ρ σ (Q4 fr)) xs) (Jv:Nat->List D->List Sl->Prop) (j0:Jv 0 [] (inner own fr ρ)) (jl:∀ k ys ρc,Jv k ys ρc->ys.length<sizeLine/\ρc.length=own.length+fr.length)
  (st:∀ k x ys ρc,xs[k]? = some x->Jv k ys ρc->wpG (bnd own fr) g (.d x) ρc fun ρ2=>wpT tt ρ2 fun b ρ3=>if b=true then wpV te ρ3 fun r ρ4=>∃ d,r.it=some d/\Jv (k+1) (ys++[d]) ρ4 else Jv (k+1) ys ρ3)
  (en:∀ ys ρc,Jv xs.length ys ρc->Φ (.l ys) (outer own fr ρ ρc)) (q:Fin G F σ Φ Q) (A:Addr) (hA:H A=none):qAi J g tt te (qj own fr σ) H A fun H2=>Q (.ref A) H2:=by
 obtain ⟨vs,oks,ev⟩:=qAh I kn
 have I1:=I.focus oks nd
 have lv:vs.length=fr.length:=by rw [oks.len]; unfold Q4; rw [wA]
 have as_eq:(Q4 fr).map (qHK ρ)=fr.map fun p=>(ρ[p.2]?).getD .u:=by unfold Q4; rw [zE]; rfl
 rw [as_eq] at I1
 have I2:=I1.ext own.length 0 (by rw [wA,lv])
 have e1:(wX own.length Sl.u++((fr.map fun p=>(ρ[p.2]?).getD .u)++wX 0 Sl.u))=inner own fr ρ:=by unfold inner; rw [yQ,zZ]
 have e2:(wX own.length none++(vs.map some++wX 0 none))=qj own fr σ:=by
  unfold qj
  rw [yQ,zZ,ev]
  congr 1
  rw [VS]
 rw [e1,e2] at I2
 generalize hF2:foc H F ρ σ (Q4 fr)=F2 at S I1 I2
 have FA:F2 A=none:=I1.f.free hA
 have h0:∀(j:Nat) (v:V),vs[j]? = some v->(qj own fr σ)[own.length+j]? = some (some v):=fun j v e=>by
  rw [<- e2,yC (by rw [zO]; omega),zO,ZC,yQ,zZ,wI,e]
  rfl
 have fr1:∀ ys,qV F2 (upd F2 A (.lst ys)):=fun ys=>qV.new FA
 refine ⟨fun i m ys σ' H'=>m=xs.length - i/\i<=xs.length/\∃ G' ds ρc,Jv i ds ρc/\qV G G'/\Kp (bnd own fr) (qj own fr σ) σ'/\SI G' (upd F2 A (.lst ys)) ρc σ' H'/\qZ G' ds ys,⟨xs.length,by simp,zP _,G,[],_,j0,qV.refl _,Kp.refl _ _,?_,rfl⟩,?_⟩
 ·have I3:=I2.new (o:=.lst []) hA
  refine ⟨I3.ok,I3.g,fun b o e=>?_,fun b o e=>?_,I3.nd,fun b hb=>⟨(I3.out b hb).1,?_⟩,fun b us e=>?ft⟩
  case ft=>
   by_cases z:b=A
   ·rw [z,qJ] at e
    cases e
   ·rw [qN z] at e
    exact I3.ft b us e
  ·by_cases z:b=A
   ·subst z; rw [qJ] at e ⊢; exact e
   ·rw [qN z] at e; exact I3.f _ _ e
  ·by_cases z:b=A
   ·subst z; exact I2.g.free hA
   ·rw [qN z] at e; exact I3.gf _ _ e
  ·have nb:b≠A:=fun z=>by
    subst z
    obtain ⟨i,zs,q1,q2⟩:=hb
    obtain ⟨o,p1,a,ws,z,p2,p3⟩:=I2.ok i _ q1
    rw [q2] at p1
    cases p1
    cases z
    rw [hA] at p2
    cases p2
   rw [qN nb]
   exact (I3.out b hb).2
 ·rintro i m ys σ2 H2 ⟨rfl,hi,G2,ds,ρ2,p2,g2,k2,I4,dn⟩
  have hHA:H2 A=some (.lst ys):=I4.f _ _ qJ
  have lds:=dn.length
  obtain ⟨jl1,jl2⟩:=jl i ds ρ2 p2
  refine ⟨hHA,?_⟩
  obtain ⟨s1,s2⟩:=S i G2 H2 g2 I4.g ((fr1 ys).trans I4.f)
  by_cases hlt:i<xs.length
  ·obtain ⟨go,yl⟩:=s1 hlt
   refine .inr ⟨go,by rw [lds]; exact jl1,fun ys' σ' H'=>∃ G' ds ρc,Jv (i+1) ds ρc/\qV G G'/\Kp (bnd own fr) (qj own fr σ) σ'/\SI G' (upd F2 A (.lst ys')) ρc σ' H'/\qZ G' ds ys',fun ys' σ' H' p'=>⟨xs.length - (i+1),by omega,rfl,hlt,p'⟩,fun x H' y=>?_⟩
   obtain ⟨d,ed,yy⟩:=yl x H' y
   have fin:∀ G3,qV G2 G3->SI G3 (upd F2 A (.lst ys)) ρ2 σ2 H'->Den G3 d x->g x σ2 H' fun σ4 H4=>tt σ4 H4 fun b H5=>if b=true then te σ4 H5 fun y H6=>H6 A=some (.lst ys)/\∃ G' ds ρc,Jv (i+1) ds ρc/\qV G G'/\Kp (bnd own fr) (qj own fr σ) σ4/\SI G' (upd F2 A (.lst (ys++[y]))) ρc σ4 (upd H6 A (.lst (ys++[y])))/\qZ G' ds (ys++[y])
     else ∃ G' ds ρc,Jv (i+1) ds ρc/\qV G G'/\Kp (bnd own fr) (qj own fr σ) σ4/\SI G' (upd F2 A (.lst ys)) ρc σ4 H5/\qZ G' ds ys:=fun G3 g3 I3 dx=>by
    refine st i d ds ρ2 ed p2 G3 (upd F2 A (.lst ys)) σ2 H' x I3 dx _ ?_
    intro G4 σ4 H4 ρ4 h4 g4 k4 I5
    refine h4 G4 _ σ4 H4 I5 _ fun G5 H5 b ρ5 h5 g5 I6=>?_
    have gg:=((g2.trans g3).trans g4).trans g5
    cases b with
    | false=>
     rw [if_neg wU] at h5 ⊢
     exact ⟨G5,ds,ρ5,h5,gg,k2.trans k4,I6,qZ.mono ((g3.trans g4).trans g5) _ _ dn⟩
    | true=>
     rw [if_pos rfl] at h5 ⊢
     refine h5 G5 _ σ4 H5 I6 _ fun G6 H6 y r ρ6 ⟨d',ed',h6⟩ g6 I7 ok=>?_
     obtain ⟨G7,g7,I8,dy⟩:=qGV I7 ok ed'
     have hA6:H6 A=some (.lst ys):=I8.f _ _ qJ
     refine ⟨hA6,G7,ds++[d'],ρ6,h6,(gg.trans g6).trans g7,k2.trans k4,?_,qZ.snoc (qZ.mono (((g3.trans g4).trans g5).trans (g6.trans g7)) _ _ dn) dy⟩
     have gA:G7 A=none:=I8.gf _ _ qJ
     have oA:∀ b,qLd ρ6 σ4 b->b≠A:=fun b hb z=>by
      subst z
      have:=(I8.out b hb).2
      rw [qJ] at this
      cases this
     refine ⟨fun j s e=>?_,fun b o e=>?_,fun b o e=>?_,fun b o e=>?_,I8.nd,fun b hb=>?_,fun b us e=>?ft⟩
     case ft=>
      by_cases z:b=A
      ·rw [z,qJ] at e
       cases e
      ·rw [qN z] at e
       exact I8.ft b us (by rw [qN z]; exact e)
     ·obtain ⟨o,q1,q2⟩:=I8.ok j s e
      refine ⟨o,q1,q2.up (qV.refl _) fun us a ws z1 z2 z3=>?_⟩
      subst z1 z2
      rw [qN (oA a ⟨j,us,e,q1⟩)]
      exact z3
     ·rw [qN]
      ·exact I8.g _ _ e
      ·intro z; subst z; rw [gA] at e; cases e
     ·by_cases z:b=A
      ·subst z; rw [qJ] at e ⊢; exact e
      ·rw [qN z] at e ⊢
       exact I8.f _ _ (by rw [qN z]; exact e)
     ·by_cases z:b=A
      ·subst z; exact gA
      ·rw [qN z] at e
       exact I8.gf _ _ (by rw [qN z]; exact e)
     ·refine ⟨(I8.out b hb).1,?_⟩
      have:=(I8.out b hb).2
      rw [qN (oA b hb)] at this ⊢
      exact this
   rcases yy with ⟨e,dx⟩ | ⟨p,o,hp,e,dx⟩
   ·subst e
    exact fin G2 (qV.refl _) I4 dx
   ·subst e
    obtain ⟨I3,g3⟩:=I4.newG (o:=o) hp
    exact fin _ g3 I3 dx
  ·have e:i=xs.length:=by omega
   subst e
   refine .inl ⟨s2 rfl,?_⟩
   have gA:G2 A=none:=I4.gf _ _ qJ
   have I5:SI G2 F2 ρ2 σ2 H2:=⟨I4.ok,I4.g,(fr1 ys).trans I4.f,fun b o e=>I4.gf _ _ (fr1 ys _ _ e),I4.nd,fun b hb=>⟨(I4.out b hb).1,(fr1 ys).free (I4.out b hb).2⟩,fun b us e=>I4.ft b us (fr1 ys _ _ e)⟩
   have ok5:jb G2 F2 ρ2 σ2 H2 (.l ds) (.ref A):=⟨A,_,rfl,hHA,⟨ys,rfl,dn⟩,gA,FA,fun hb=>by
    have:=(I4.out A hb).2
    rw [qJ] at this
    cases this⟩
   have I6:=I5.sel (n:=fr.length) k2 h0 (uA lv.symm)
   have ok6:=jb.sel (n:=fr.length) (d:=.lst ds) rfl ok5 k2 h0
   have es:sel own.length (bnd own fr) fr.length ρ2=ρ2.drop own.length:=qAc jl2
   rw [es,<- hF2] at I6 ok6
   have I7:=I.unfocus oks g2 I6
   have ok7:=jb.unfocus (d:=.lst ds) I oks rfl ok6
   exact q G2 H2 _ _ _ (en ds ρ2 p2) g2 I7 ok7
theorem qGJ {own:List Str} {fr:List (Str×Nat)} {wi:TI} {g:TG} {tt:TT} {te:TE} {ρ:List Sl} {Φ:Rs->List Sl->Prop} (h:wpI wi ρ fun xs ρ1=>known ρ1 fr/\(isB (Q4 fr)).Nodup/\∃ Jv:Nat->List D->List Sl->Prop,Jv 0 [] (inner own fr ρ1)/\
  (∀ k ys ρc,Jv k ys ρc->ys.length<sizeLine/\ρc.length=own.length+fr.length)/\
  (∀ k x ys ρc,xs[k]? = some x->Jv k ys ρc->wpG (bnd own fr) g (.d x) ρc fun ρ2=>wpT tt ρ2 fun b ρ3=>if b=true then wpV te ρ3 fun r ρ4=>∃ d,r.it=some d/\Jv (k+1) (ys++[d]) ρ4 else Jv (k+1) ys ρ3)/\
  ∀ ys ρc,Jv xs.length ys ρc->Φ (.l ys) (outer own fr ρ1 ρc)):wpV (qEU own fr wi g tt te) ρ Φ:=by
 intro G F σ H I Q q
 refine h G F σ H I _ fun G1 H1 J xs ρ1 ⟨kn,nd,Jv,j0,jl,st,en⟩ g1 I1 S A hA=>?_
 refine qCM I1 kn nd (fun i G' H' a b c=>S i G' H' a b ((Jc I1).trans c)) Jv j0 jl st en (q.at g1 fun _ _ z=>z) A hA
theorem qDb {own:List Str} {fr:List (Str×Nat)} {g:TG} {tt:TT} {te:TE} {ρ:List Sl} {Φ:Rs->List Sl->Prop} {K:wG} {s:Nat} {xs:List D} (hs:ρ[s]? = some (.l xs)) (hn:Rs.b s∉Q4 fr) (kn:known ρ fr) (nd:(isB (Q4 fr)).Nodup) (Jv:Nat->List D->List Sl->Prop) (j0:Jv 0 [] (inner own fr ρ))
  (jl:∀ k ys ρc,Jv k ys ρc->ys.length<sizeLine/\ρc.length=own.length+fr.length)
  (st:∀ k x ys ρc,xs[k]? = some x->Jv k ys ρc->wpG (bnd own fr) g (.d x) ρc fun ρ2=>wpT tt ρ2 fun b ρ3=>if b=true then wpV te ρ3 fun r ρ4=>∃ d,r.it=some d/\Jv (k+1) (ys++[d]) ρ4 else Jv (k+1) ys ρ3)
  (en:∀ ys ρc,Jv xs.length ys ρc->Φ (.l ys) (outer own fr ρ ρc)):wpV (qEU own fr (qJy K (qHn s)) g tt te) ρ Φ:=by
 intro G F σ H I Q q
 obtain ⟨o,e,a,_,rfl,k1,ws,rfl,k2⟩:=I.ok s _ hs
 have ka:kept ρ σ (Q4 fr) a:=⟨s,.li xs,hs,e,hn⟩
 refine ⟨_,e,a,rfl,.inl ⟨⟨ws,SqL.of k1⟩,fun A hA=>?_⟩⟩
 refine qCM I kn nd (qDL (fun G' H' _ _ c=>SqL.of (c a _ (by rw [JR ka]; exact k1))) k2) Jv j0 jl st en q A hA
noncomputable def qM1 (wi:TI) (ρ:List Sl) (Φ:List D->List Sl->Prop):Prop:=∀ G F σ H,SI G F ρ σ H->∀ R:It->Hp->Prop,(∀ G' H' J xs ρ',Φ xs ρ'->qV G G'->SI G' F ρ' σ H'->Src J G' (fun _=>none) xs->R J H')->wi σ H R
theorem qK0 {ρ:List Sl} {Φ:List D->List Sl->Prop} {K:wG} {tl:TE} (h:wpV tl ρ fun r ρ1=>∃ d xs,r.it=some d/\sq d=some xs/\Φ xs ρ1):qM1 (qJy K tl) ρ Φ:=by
 intro G F σ H I R q
 refine h G F σ H I _ fun G0 H1 v x ρ1 ⟨d,xs,e1,e2,h1⟩ g0 I0 ok=>?_
 obtain ⟨G1,g1',I1,dn⟩:=qGV I0 ok e1
 have go:=fun J S=>q G1 H1 J xs ρ1 h1 (g0.trans g1') I1 S
 cases d with
 | tup l=>
  obtain ⟨a,ws,rfl,k1,k2⟩:=dn
  obtain rfl:l=xs:=zF e2
  exact ⟨a,rfl,.inr ⟨⟨ws,SqT.of (I1.g _ _ k1)⟩,go _ (qFC k1 k2)⟩⟩
 | lst l=>
  obtain ⟨a,ws,rfl,k1,k2⟩:=dn
  obtain rfl:l=xs:=zF e2
  exact ⟨a,rfl,.inl ⟨⟨ws,SqL.of (I1.g _ _ k1)⟩,go _ (qDL (fun G' H' g gh _=>SqL.of (gh _ _ (g _ _ k1))) k2)⟩⟩
 | non=>cases e2
 | bl _=>cases e2
 | int _=>cases e2
 | str _=>cases e2
 | dic=>cases e2
section
variable {G F H:Hp} {ρ:List Sl} {σ:St} {A:Addr}
theorem SI.begun (I:SI G F ρ σ H) (hA:H A=none):SI G (upd F A (.lst [])) ρ σ (upd H A (.lst [])):=by
 have I3:=I.new (o:=.lst []) hA
 refine ⟨I3.ok,I3.g,fun b o e=>?_,fun b o e=>?_,I3.nd,fun b hb=>⟨(I3.out b hb).1,?_⟩,fun b us e=>?_⟩
 ·by_cases z:b=A
  ·subst z; rw [qJ] at e ⊢; exact e
  ·rw [qN z] at e; exact I3.f _ _ e
 ·by_cases z:b=A
  ·subst z; exact I.g.free hA
  ·rw [qN z] at e; exact I3.gf _ _ e
 ·have nb:b≠A:=fun z=>by
   subst z
   obtain ⟨i,zs,q1,q2⟩:=hb
   obtain ⟨o,p1,a,ws,z,p2,p3⟩:=I.ok i _ q1
   rw [q2] at p1
   cases p1
   cases z
   rw [hA] at p2
   cases p2
  rw [qN nb]
  exact (I3.out b hb).2
 ·by_cases z:b=A
  ·rw [z,qJ] at e; cases e
  ·rw [qN z] at e; exact I3.ft b us e
theorem SI.longer {ys:List V} {y:V} (I:SI G (upd F A (.lst ys)) ρ σ H):SI G (upd F A (.lst (ys++[y]))) ρ σ (upd H A (.lst (ys++[y]))):=by
 have gA:G A=none:=I.gf _ _ qJ
 have oA:∀ b,qLd ρ σ b->b≠A:=fun b hb z=>by
  subst z
  have:=(I.out b hb).2
  rw [qJ] at this
  cases this
 have far:∀{b:Addr} {o:HO},b≠A->upd F A (.lst (ys++[y])) b=some o->upd F A (.lst ys) b=some o:=fun z e=>by rw [qN z] at e ⊢; exact e
 refine ⟨fun j s e=>?_,fun b o e=>?_,fun b o e=>?_,fun b o e=>?_,I.nd,fun b hb=>⟨(I.out b hb).1,?_⟩,fun b us e=>?_⟩
 ·obtain ⟨o,q1,q2⟩:=I.ok j s e
  refine ⟨o,q1,q2.up (qV.refl _) fun us a ws z1 z2 z3=>?_⟩
  subst z1 z2
  rw [qN (oA a ⟨j,us,e,q1⟩)]
  exact z3
 ·rw [qN fun z=>by subst z; rw [gA] at e; cases e]
  exact I.g _ _ e
 ·by_cases z:b=A
  ·subst z; rw [qJ] at e ⊢; exact e
  ·rw [qN z]; exact I.f _ _ (far z e)
 ·by_cases z:b=A
  ·subst z; exact gA
  ·exact I.gf _ _ (far z e)
 ·have:=(I.out b hb).2
  rw [qN (oA b hb)] at this ⊢
  exact this
 ·by_cases z:b=A
  ·rw [z,qJ] at e; cases e
  ·exact I.ft b us (far z e)
end
theorem qLt {own:List Str} {fr:List (Str×Nat)} {wi:TI} {g:TG} {tt:TT} {wi1:TI} {g1:TG} {tt1:TT} {te:TE} {ρ:List Sl} {Φ:Rs->List Sl->Prop} (h:wpI wi ρ fun xs ρ1=>known ρ1 fr/\(isB (Q4 fr)).Nodup/\∃ Jv:Nat->List D->List Sl->Prop,Jv 0 [] (inner own fr ρ1)/\
  (∀ k ys ρc,Jv k ys ρc->ρc.length=own.length+fr.length)/\
  (∀ k x ys ρc,xs[k]? = some x->Jv k ys ρc->wpG (bnd own fr) g (.d x) ρc fun ρ2=>wpT tt ρ2 fun b ρ3=>if b=true then qM1 wi1 ρ3 fun us ρ4=>∃ Lv:Nat->List D->List Sl->Prop,Lv 0 ys ρ4/\(∀ j ys ρc,Lv j ys ρc->ys.length<sizeLine)/\
    (∀ j u ys ρc,us[j]? = some u->Lv j ys ρc->wpG (bnd own fr) g1 (.d u) ρc fun ρ5=>wpT tt1 ρ5 fun b ρ6=>if b=true then wpV te ρ6 fun r ρ7=>∃ d,r.it=some d/\Lv (j+1) (ys++[d]) ρ7 else Lv (j+1) ys ρ6)/\
    ∀ ys ρc,Lv us.length ys ρc->Jv (k+1) ys ρc
   else Jv (k+1) ys ρ3)/\
  ∀ ys ρc,Jv xs.length ys ρc->Φ (.l ys) (outer own fr ρ1 ρc)):wpV (qMu own fr wi g tt wi1 g1 tt1 te) ρ Φ:=by
 intro G F σ H I Q q
 refine h G F σ H I _ fun G1 H1 J xs ρ1 ⟨kn,nd,Jv,j0,jl,st,en⟩ gg1 I1 S A hA=>?_
 obtain ⟨vs,oks,ev⟩:=qAh I1 kn
 have If:=I1.focus oks nd
 have lv:vs.length=fr.length:=by rw [oks.len]; unfold Q4; rw [wA]
 have as_eq:(Q4 fr).map (qHK ρ1)=fr.map fun p=>(ρ1[p.2]?).getD .u:=by unfold Q4; rw [zE]; rfl
 rw [as_eq] at If
 have I2:=If.ext own.length 0 (by rw [wA,lv])
 have e1:(wX own.length Sl.u++((fr.map fun p=>(ρ1[p.2]?).getD .u)++wX 0 Sl.u))=inner own fr ρ1:=by unfold inner; rw [yQ,zZ]
 have e2:(wX own.length none++(vs.map some++wX 0 none))=qj own fr σ:=by
  unfold qj
  rw [yQ,zZ,ev]
  congr 1
  rw [VS]
 rw [e1,e2] at I2
 have S2:Src J G1 (foc H1 F ρ1 σ (Q4 fr)) xs:=fun i G' H' a b c=>S i G' H' a b ((Jc I1).trans c)
 generalize hF2:foc H1 F ρ1 σ (Q4 fr)=F2 at S2 If I2
 have FA:F2 A=none:=If.f.free hA
 have h0:∀(j:Nat) (v:V),vs[j]? = some v->(qj own fr σ)[own.length+j]? = some (some v):=fun j v e=>by
  rw [<- e2,yC (by rw [zO]; omega),zO,ZC,yQ,zZ,wI,e]
  rfl
 have fr1:∀ ys,qV F2 (upd F2 A (.lst ys)):=fun ys=>qV.new FA
 refine ⟨fun i m ys σ' H'=>m=xs.length - i/\i<=xs.length/\∃ G' ds ρc,Jv i ds ρc/\qV G1 G'/\Kp (bnd own fr) (qj own fr σ) σ'/\SI G' (upd F2 A (.lst ys)) ρc σ' H'/\qZ G' ds ys,⟨xs.length,by simp,zP _,G1,[],_,j0,qV.refl _,Kp.refl _ _,I2.begun hA,rfl⟩,?_⟩
 rintro i m ys σ2 H2 ⟨rfl,hi,G2,ds,ρ2,p2,g2,k2,I4,dn⟩
 have hHA:H2 A=some (.lst ys):=I4.f _ _ qJ
 refine ⟨hHA,?_⟩
 obtain ⟨s1,s2⟩:=S2 i G2 H2 g2 I4.g ((fr1 ys).trans I4.f)
 by_cases hlt:i<xs.length
 ·obtain ⟨go,yl⟩:=s1 hlt
  refine .inr ⟨go,fun ys' σ' H'=>∃ G' ds ρc,Jv (i+1) ds ρc/\qV G1 G'/\Kp (bnd own fr) (qj own fr σ) σ'/\SI G' (upd F2 A (.lst ys')) ρc σ' H'/\qZ G' ds ys',fun ys' σ' H' p'=>⟨xs.length - (i+1),by omega,rfl,hlt,p'⟩,fun x H' y=>?_⟩
  obtain ⟨d,ed,yy⟩:=yl x H' y
  have fin:∀ G3,qV G2 G3->SI G3 (upd F2 A (.lst ys)) ρ2 σ2 H'->Den G3 d x->g x σ2 H' fun σ4 H4=>tt σ4 H4 fun b H5=>if b=true then qFf wi1 g1 tt1 te A ys σ4 H5 (fun ys' σ' H'=>∃ G' ds ρc,Jv (i+1) ds ρc/\qV G1 G'/\Kp (bnd own fr) (qj own fr σ) σ'/\SI G' (upd F2 A (.lst ys')) ρc σ' H'/\qZ G' ds ys')
    else ∃ G' ds ρc,Jv (i+1) ds ρc/\qV G1 G'/\Kp (bnd own fr) (qj own fr σ) σ4/\SI G' (upd F2 A (.lst ys)) ρc σ4 H5/\qZ G' ds ys:=fun G3 g3 I3 dx=>by
   refine st i d ds ρ2 ed p2 G3 (upd F2 A (.lst ys)) σ2 H' x I3 dx _ ?_
   intro G4 σ4 H4 ρ4 h4 g4 k4 I5
   refine h4 G4 _ σ4 H4 I5 _ fun G5 H5 b ρ5 h5 g5 I6=>?_
   have gg:=((g2.trans g3).trans g4).trans g5
   have dn5:=qZ.mono ((g3.trans g4).trans g5) _ _ dn
   cases b with
   | false=>
    rw [if_neg wU] at h5 ⊢
    exact ⟨G5,ds,ρ5,h5,gg,k2.trans k4,I6,dn5⟩
   | true=>
    rw [if_pos rfl] at h5 ⊢
    refine h5 G5 _ σ4 H5 I6 _ fun G6 H6 J1 us ρ6 ⟨Lv,l0,ll,ls,le⟩ g6 I7 T=>?_
    refine ⟨fun j m zs σ' H'=>m=us.length - j/\j<=us.length/\∃ G' es ρc,Lv j es ρc/\qV G6 G'/\Kp (bnd own fr) (qj own fr σ) σ'/\SI G' (upd F2 A (.lst zs)) ρc σ' H'/\qZ G' es zs,⟨us.length,by simp,zP _,G6,ds,ρ6,l0,qV.refl _,k2.trans k4,I7,qZ.mono g6 _ _ dn5⟩,?_⟩
    rintro j m zs σ7 H7 ⟨rfl,hj,G7,es,ρ7,p7,g7,k7,I8,dn7⟩
    refine ⟨I8.f _ _ qJ,?_⟩
    obtain ⟨t1,t2⟩:=T j G7 H7 g7 I8.g fun _ _ e=>by cases e
    by_cases hlj:j<us.length
    ·obtain ⟨go',yl'⟩:=t1 hlj
     refine .inr ⟨go',by rw [dn7.length]; exact ll j es ρ7 p7,fun zs' σ' H'=>∃ G' es ρc,Lv (j+1) es ρc/\qV G6 G'/\Kp (bnd own fr) (qj own fr σ) σ'/\SI G' (upd F2 A (.lst zs')) ρc σ' H'/\qZ G' es zs',fun zs' σ' H' p'=>⟨us.length - (j+1),by omega,rfl,hlj,p'⟩,fun x H' y=>?_⟩
     obtain ⟨d',ed',yy'⟩:=yl' x H' y
     have fin':∀ G8,qV G7 G8->SI G8 (upd F2 A (.lst zs)) ρ7 σ7 H'->Den G8 d' x->g1 x σ7 H' fun σ8 H8=>tt1 σ8 H8 fun b H9=>if b=true then te σ8 H9 fun y H10=>H10 A=some (.lst zs)/\∃ G' es ρc,Lv (j+1) es ρc/\qV G6 G'/\Kp (bnd own fr) (qj own fr σ) σ8/\SI G' (upd F2 A (.lst (zs++[y]))) ρc σ8 (upd H10 A (.lst (zs++[y])))/\qZ G' es (zs++[y])
       else ∃ G' es ρc,Lv (j+1) es ρc/\qV G6 G'/\Kp (bnd own fr) (qj own fr σ) σ8/\SI G' (upd F2 A (.lst zs)) ρc σ8 H9/\qZ G' es zs:=fun G8 g8 I9 dx=>by
      refine ls j d' es ρ7 ed' p7 G8 _ σ7 H' x I9 dx _ ?_
      intro G9 σ9 H9 ρ9 h9 g9 k9 I10
      refine h9 G9 _ σ9 H9 I10 _ fun G10 H10 b ρ10 h10 g10 I11=>?_
      have g':=(g8.trans g9).trans g10
      cases b with
      | false=>
       rw [if_neg wU] at h10 ⊢
       exact ⟨G10,es,ρ10,h10,g7.trans g',k7.trans k9,I11,qZ.mono g' _ _ dn7⟩
      | true=>
       rw [if_pos rfl] at h10 ⊢
       refine h10 G10 _ σ9 H10 I11 _ fun G11 H11 y r ρ11 ⟨d2,ed2,h11⟩ g11 I12 ok=>?_
       obtain ⟨G12,g12,I13,dy⟩:=qGV I12 ok ed2
       have g3':=g'.trans (g11.trans g12)
       exact ⟨I13.f _ _ qJ,G12,es++[d2],ρ11,h11,g7.trans g3',k7.trans k9,I13.longer,qZ.snoc (qZ.mono g3' _ _ dn7) dy⟩
     rcases yy' with ⟨e,dx⟩ | ⟨p,o,hp,e,dx⟩
     ·subst e
      exact fin' G7 (qV.refl _) I8 dx
     ·subst e
      obtain ⟨I9,g9⟩:=I8.newG (o:=o) hp
      exact fin' _ g9 I9 dx
    ·have e:j=us.length:=by omega
     subst e
     exact .inl ⟨t2 rfl,G7,es,ρ7,le es ρ7 p7,(gg.trans g6).trans g7,k7,I8,dn7⟩
  rcases yy with ⟨e,dx⟩ | ⟨p,o,hp,e,dx⟩
  ·subst e
   exact fin G2 (qV.refl _) I4 dx
  ·subst e
   obtain ⟨I3,g3⟩:=I4.newG (o:=o) hp
   exact fin _ g3 I3 dx
 ·have e:i=xs.length:=by omega
  subst e
  refine .inl ⟨s2 rfl,?_⟩
  have gA:G2 A=none:=I4.gf _ _ qJ
  have I5:SI G2 F2 ρ2 σ2 H2:=⟨I4.ok,I4.g,(fr1 ys).trans I4.f,fun b o e=>I4.gf _ _ (fr1 ys _ _ e),I4.nd,fun b hb=>⟨(I4.out b hb).1,(fr1 ys).free (I4.out b hb).2⟩,fun b us e=>I4.ft b us (fr1 ys _ _ e)⟩
  have ok5:jb G2 F2 ρ2 σ2 H2 (.l ds) (.ref A):=⟨A,_,rfl,hHA,⟨ys,rfl,dn⟩,gA,FA,fun hb=>by
   have:=(I4.out A hb).2
   rw [qJ] at this
   cases this⟩
  have I6:=I5.sel (n:=fr.length) k2 h0 (uA lv.symm)
  have ok6:=jb.sel (n:=fr.length) (d:=.lst ds) rfl ok5 k2 h0
  have es:sel own.length (bnd own fr) fr.length ρ2=ρ2.drop own.length:=qAc (jl _ _ _ p2)
  rw [es,<- hF2] at I6 ok6
  have I7:=I1.unfocus oks g2 I6
  have ok7:=jb.unfocus (d:=.lst ds) I1 oks rfl ok6
  exact (q.at gg1 fun _ _ z=>z) G2 H2 _ _ _ (en ds ρ2 p2) g2 I7 ok7
section
variable {ρ:List Sl} {Φ:Rs->List Sl->Prop} {K:wG} {t:TA} {i:Nat} {xs:List D} {rL rT:V->List V->Hp->VK->Prop} {to:TE}
theorem qBO {H:Hp}:∀{xs:List D} {vs:List V} (n:Nat),qZ H xs vs->qZ H (xs.take n) (vs.take n)
 | xs,vs,0,h=>by rw [UI,UI]; exact rfl
 | [],vs,n+1,h=>by cases (show vs=[] from h); exact rfl
 | x::xs,vs,n+1,h=>by
  obtain ⟨w,r,rfl,h1,h2⟩:=h
  exact ⟨w,r.take n,rfl,h1,qBO n h2⟩
theorem qB6 {H:Hp}:∀{xs:List D} {vs:List V} (n:Nat),qZ H xs vs->qZ H (xs.drop n) (vs.drop n)
 | xs,vs,0,h=>h
 | [],vs,n+1,h=>by cases (show vs=[] from h); exact rfl
 | x::xs,vs,n+1,h=>by
  obtain ⟨w,r,rfl,h1,h2⟩:=h
  exact qB6 n h2
theorem qJi {ta:TA} (h:wpA ta ρ fun rs ρ1=>∃ j:Int,(∃ r,rs=[r]/\rd ρ1 r=some (.int j))/\j<=1000/\-(2 ^ 62)<=j/\Φ (.l ((wO j.toNat).map fun k:Nat=>D.int k)) ρ1):wpV (tCB qDf (qHl (tCB qCh ta) qLm)) ρ Φ:=by
 intro G F σ H I Q q
 refine h G F σ H I _ fun G1 H1 vs rs ρ1 ⟨j,⟨x,er,ex⟩,l1,l2,h1⟩ g1 I1 oks=>?_
 subst er
 obtain ⟨v,rfl,ok⟩:=jT oks
 cases qT I1 ok ex
 refine ⟨j,rfl,fun p hp=>⟨p,j,rfl,qJ,l1,l2,fun l hl=>?_⟩⟩
 have I2:=I1.new (o:=.rng 0 j) hp
 refine QO (q.at g1 fun _ _ z=>z) I2 ?_ h1 hl
 have e1:((wO j.toNat).map fun k:Nat=>D.int k)=((wO j.toNat).map fun k:Nat=>(k:Int)).map D.int:=by rw [zE]; rfl
 have e2:((wO j.toNat).map fun k:Nat=>V.int k)=((wO j.toNat).map fun k:Nat=>(k:Int)).map V.int:=by rw [zE]; rfl
 rw [e1,e2]
 exact qZ.ints _ _
theorem qAn {H:Hp}:∀{xs:List D} {vs:List V},qZ H xs vs->qZ H xs.reverse vs.reverse
 | [],vs,h=>by cases (show vs=[] from h); exact rfl
 | x::xs,vs,h=>by
  obtain ⟨w,r,rfl,h1,h2⟩:=h
  simp only [List.reverse_cons]
  exact (qAn h2).snoc h1
noncomputable def wpO (to:TO) (ρ:List Sl) (Φ:Option Int->List Sl->Prop):Prop:=∀ G F σ H,SI G F ρ σ H->∀ Q:Option Int->Hp->Prop,(∀ G' H' o ρ',Φ o ρ'->qV G G'->SI G' F ρ' σ H'->Q o H')->to σ H Q
theorem qLL {Φ:Option Int->List Sl->Prop} (h:Φ none ρ):wpO qFb ρ Φ:=fun G F σ H I Q q=>q G H none ρ h (qV.refl _) I
theorem qK3 {Φ:Option Int->List Sl->Prop} {te:TE} (h:wpV te ρ fun r ρ1=>∃ i,rd ρ1 r=some (.int i)/\Φ (some i) ρ1):wpO (qKf te) ρ Φ:=fun G F σ H I Q q=>
 h G F σ H I _ fun G1 H1 v r ρ1 ⟨i,e,h1⟩ g1 I1 ok=>⟨i,qT I1 ok e,q G1 H1 (some i) ρ1 h1 g1 I1⟩
noncomputable def cutD (xs:List D) (lo hi:Option Int):List D:=(xs.drop (HT.sIx xs.length 0 lo)).take (HT.sIx xs.length xs.length hi - HT.sIx xs.length 0 lo)
theorem qDm {H:Hp} {xs:List D} {vs:List V} {lo hi:Option Int} (h:qZ H xs vs):qZ H (cutD xs lo hi) (qGx vs lo hi):=by
 unfold cutD qGx
 rw [h.length]
 exact qBO _ (qB6 _ h)
noncomputable def SlV (r:V->Option Int->Option Int->Hp->VK->Prop) (x:Rs) (lo hi:Option Int) (ρ:List Sl) (Φ:Rs->List Sl->Prop):Prop:=∀ G F σ H v,SI G F ρ σ H->jb G F ρ σ H x v->∀ Q:VK,Fin G F σ Φ Q->r v lo hi H Q
theorem qND {r:V->Option Int->Option Int->Hp->VK->Prop} {te:TE} {tl th:TO} (h:wpV te ρ fun x ρ1=>wpO tl ρ1 fun lo ρ2=>wpO th ρ2 fun hi ρ3=>SlV r x lo hi ρ3 Φ):wpV (tSl r te tl th) ρ Φ:=by
 intro G F σ H I Q q
 refine h G F σ H I _ fun G1 H1 v x ρ1 h1 g1 I1 ok1=>?_
 refine h1 G1 (hold x v H1 F) σ H1 (I1.held ok1) _ fun G2 H2 lo ρ2 h2 g2 I2=>?_
 refine h2 G2 _ σ H2 I2 _ fun G3 H3 hi ρ3 h3 g3 I3=>?_
 obtain ⟨I4,ok4⟩:=SI.freed ok1 (g2.trans g3) I3
 exact h3 G3 F σ H3 v I4 ok4 Q (q.at ((g1.trans g2).trans g3) fun _ _ z=>z)
theorem qMe {x:Rs} {lo hi:Option Int} (hx:rd ρ x=some (.lst xs)) (h:Φ (.l (cutD xs lo hi)) ρ):SlV (qLw K) x lo hi ρ Φ:=fun G F σ H v I ok Q q=>by
 obtain ⟨a,ws,rfl,s1,d1⟩:=jh (K:=K) I ok hx
 exact ⟨a,ws,rfl,s1,fun p hp=>QO q I (qDm d1) h hp⟩
end
theorem qKM {ρ:List Sl} {Φ:Rs->List Sl->Prop} {ta:TA} (h:wpA ta ρ fun rs ρ1=>∃ j:Int,(∃ r,rs=[r]/\rd ρ1 r=some (.int j))/\j<=1000/\-(2 ^ 62)<=j/\Φ (.d (.tup ((wO j.toNat).map fun k:Nat=>D.int k))) ρ1):wpV (tCB qFD (qHl (tCB qCh ta) qLm)) ρ Φ:=by
 intro G F σ H I Q q
 refine h G F σ H I _ fun G1 H1 vs rs ρ1 ⟨j,⟨x,er,ex⟩,l1,l2,h1⟩ g1 I1 oks=>?_
 subst er
 obtain ⟨v,rfl,ok⟩:=jT oks
 cases qT I1 ok ex
 refine ⟨j,rfl,fun p hp=>⟨p,j,rfl,qJ,l1,l2,fun l hl=>?_⟩⟩
 have I2:=I1.new (o:=.rng 0 j) hp
 obtain ⟨I3,g3⟩:=I2.newG (o:=.tup ((wO j.toNat).map fun k:Nat=>V.int k)) hl
 have e1:((wO j.toNat).map fun k:Nat=>D.int k)=((wO j.toNat).map fun k:Nat=>(k:Int)).map D.int:=by rw [zE]; rfl
 have e2:((wO j.toNat).map fun k:Nat=>V.int k)=((wO j.toNat).map fun k:Nat=>(k:Int)).map V.int:=by rw [zE]; rfl
 refine q _ _ _ (.d (.tup ((wO j.toNat).map fun k:Nat=>D.int k))) ρ1 h1 (g1.trans g3) I3 ⟨l,_,rfl,qJ,?_⟩
 rw [e1,e2]
 exact qZ.ints _ _
noncomputable def Y2 (fr:List (Str×Nat)) (ρ:List Sl):List Sl:=fr.map fun p=>(ρ[p.2]?).getD .u
theorem set_same {ρ:List Sl} {i:Nat} {s:Sl} (h:ρ[i]? = some s):ρ.set i s=ρ:=by
 apply xV
 intro j
 rw [zV]
 by_cases z:i=j
 ·subst z
  rw [if_pos rfl,if_pos (wL.mp h).1,h]
 ·rw [if_neg z]
theorem qAU:∀(fr:List (Str×Nat)) (ρ:List Sl),wb ρ (Q4 fr) (Y2 fr ρ)=ρ
 | [],ρ=>rfl
 | p::fr,ρ=>by
  show (match ρ[p.2]? with | some (.o _)=>wb (ρ.set p.2 ((Y2 (p::fr) ρ).headD .u)) (Q4 fr) (Y2 (p::fr) ρ).tail | _=>wb ρ (Q4 fr) (Y2 (p::fr) ρ).tail)=ρ
  have e:(Y2 (p::fr) ρ).tail=Y2 fr ρ:=rfl
  rw [e]
  cases h:ρ[p.2]? with
  | none=>exact qAU fr ρ
  | some s=>
   cases s with
   | o xs=>
    have e2:(Y2 (p::fr) ρ).headD .u=.o xs:=by
     show (ρ[p.2]?).getD .u=_
     rw [h]; rfl
    rw [e2,set_same h]
    exact qAU fr ρ
   | _=>exact qAU fr ρ
theorem Jk {own:List Str} {fr:List (Str×Nat)} {ρ os:List Sl} (h:os.length=own.length):outer own fr ρ (os++Y2 fr ρ)=ρ:=by
 unfold outer
 rw [<- h,List.drop_left]
 exact qAU fr ρ
section
variable {α:Type} {own:List Str} {fr:List (Str×Nat)} {g:TG} {tt:TT} {te:TE} {ρ:List Sl} {Φ:Rs->List Sl->Prop}
noncomputable def qHB (own:List Str) (fr:List (Str×Nat)) (g:TG) (tt:TT) (te:TE) (ρ:List Sl) (x:D) (b:Bool) (d:D):Prop:=∀ os:List Sl,os.length=own.length->wpG (bnd own fr) g (.d x) (os++Y2 fr ρ) fun ρ2=>
 (∃ os',os'.length=own.length/\ρ2=os'++Y2 fr ρ)/\wpT tt ρ2 (fun c ρ3=>c=b/\ρ3=ρ2)/\(b=true->wpV te ρ2 fun r ρ4=>r.it=some d/\ρ4=ρ2)
theorem wpG.mono {B:List Nat} {g:TG} {r:Rs} {ρ:List Sl} {Φ Ψ:List Sl->Prop} (h:wpG B g r ρ Φ) (e:∀ ρ',Φ ρ'->Ψ ρ'):wpG B g r ρ Ψ:=fun G F σ H v I ok N n=>h G F σ H v I ok N fun G1 σ1 H1 ρ1 p g1 k1 I1=>n G1 σ1 H1 ρ1 (e _ p) g1 k1 I1
noncomputable def qEe (own:List Str) (fr:List (Str×Nat)) (ρ:List Sl) (l:List α) (p:α->Bool) (f:α->D):Nat->List D->List Sl->Prop:=fun k ys ρc=>ys=(((l.take k).filter p).map f)/\∃ os,os.length=own.length/\ρc=os++Y2 fr ρ
theorem qBl {enc:α->D} {l:List α} {p:α->Bool} {f:α->D} (st:∀ a∈l,qHB own fr g tt te ρ (enc a) (p a) (f a)):∀ k x ys ρc,(l.map enc)[k]? = some x->qEe own fr ρ l p f k ys ρc->wpG (bnd own fr) g (.d x) ρc fun ρ2=>wpT tt ρ2 fun b ρ3=>if b=true then wpV te ρ3 fun r ρ4=>∃ d,r.it=some d/\qEe own fr ρ l p f (k+1) (ys++[d]) ρ4 else qEe own fr ρ l p f (k+1) ys ρ3:=by
 rintro k x ys ρc hx ⟨rfl,os,ho,rfl⟩
 rw [wI] at hx
 cases ha:l[k]? with
 | none=>rw [ha] at hx; cases hx
 | some a=>
  rw [ha] at hx
  have hx':enc a=x:=zF hx
  subst hx'
  refine (st a (yT ha) os ho).mono ?_
  rintro ρ2 ⟨⟨os',ho',rfl⟩,h1,h2⟩
  refine h1.mono ?_
  rintro c ρ3 ⟨rfl,rfl⟩
  have et:(l.take (k+1)).filter p=(l.take k).filter p++if p a=true then [a] else []:=by
   rw [uO,ha,fH]
   congr 1
   cases hpa:p a <;> simp [hpa]
  cases hp:p a with
  | true=>
   rw [if_pos rfl]
   refine (h2 hp).mono ?_
   rintro r ρ4 ⟨e1,rfl⟩
   refine ⟨_,e1,?_,os',ho',rfl⟩
   rw [et,if_pos hp,zI]
   rfl
  | false=>
   rw [if_neg wU]; refine ⟨?_,os',ho',rfl⟩
   rw [et,hp,if_neg wU,zZ]
theorem qDs {l:List α} {p:α->Bool} {f:α->D} (hl:l.length<sizeLine):∀ k ys ρc,qEe own fr ρ l p f k ys ρc->ys.length<sizeLine/\ρc.length=own.length+fr.length:=by
 rintro k ys ρc ⟨rfl,os,ho,rfl⟩
 constructor
 ·rw [wA]
  refine yE (vC _ _) ?_
  rw [yW]
  omega
 ·rw [wM,ho]
  unfold Y2
  rw [wA]
theorem ja {wi:TI} (enc:α->D) (l:List α) (p:α->Bool) (f:α->D) (h:wpI wi ρ fun xs ρ1=>xs=l.map enc/\l.length<sizeLine/\known ρ1 fr/\(isB (Q4 fr)).Nodup/\(∀ a∈l,qHB own fr g tt te ρ1 (enc a) (p a) (f a))/\Φ (.l ((l.filter p).map f)) ρ1):wpV (qEU own fr wi g tt te) ρ Φ:=by
 refine qGJ fun G F σ H I R q=>h G F σ H I R fun G1 H1 J xs ρ1 ⟨e,hl,kn,nd,st,fin⟩ g1 I1 S=>q G1 H1 J xs ρ1 ?_ g1 I1 S
 subst e
 refine ⟨kn,nd,qEe own fr ρ1 l p f,⟨rfl,_,zO,rfl⟩,qDs hl,qBl st,?_⟩
 rintro ys ρc ⟨rfl,os,ho,rfl⟩
 rw [Jk ho,wA,xQ]
 exact fin
theorem qJt {K:wG} {s:Nat} (enc:α->D) (l:List α) (p:α->Bool) (f:α->D) (hs:ρ[s]? = some (.l (l.map enc))) (hn:(isB (Q4 fr)).contains s=false) (hl:l.length<sizeLine) (kn:known ρ fr) (nd:(isB (Q4 fr)).Nodup) (st:∀ a∈l,qHB own fr g tt te ρ (enc a) (p a) (f a)) (fin:Φ (.l ((l.filter p).map f)) ρ):wpV (qEU own fr (qJy K (qHn s)) g tt te) ρ Φ:=by
 have hn':Rs.b s∉Q4 fr:=fun z=>by
  rw [kM,decide_eq_false_iff_not] at hn
  exact hn (JM.mpr z)
 refine qDb hs hn' kn nd (qEe own fr ρ l p f) ⟨rfl,_,zO,rfl⟩ (qDs hl) (qBl st) ?_
 rintro ys ρc ⟨rfl,os,ho,rfl⟩
 rw [Jk ho,wA,xQ]
 exact fin
theorem qg {l:List α}:l.filter (fun _=>true)=l:=List.filter_eq_self.mpr fun _ _=>rfl
theorem qCT {os:List Sl} (h:os.length=1):∃ a,os=[a]:=List.length_eq_one_iff.mp h
theorem qM7 {k:Nat}:∀{os:List Sl},os.length=k+1->∃ a r,os=a::r/\r.length=k
 | a::r,h=>⟨a,r,rfl,Nat.succ.inj h⟩
theorem qLR {os:List Sl} (h:os.length=2):∃ a b,os=[a,b]:=(qM7 h).elim fun a e=>e.elim fun _ g=>(qCT g.2).elim fun b z=>⟨a,b,g.1.trans (congrArg _ z)⟩
end
theorem J8 (lo:Int) (n:Nat):qF6 lo n=(wO n).map fun k:Nat=>D.int (lo+k):=rfl
theorem qL7 {B:List Nat} {ρ:List Sl} {r:Rs} {to ti:TE} {Φ:List Sl->Prop} (h:∃ d,r.it=some d/\wpV to ρ fun o ρ2=>∃ i,o=.b i/\wpV ti ρ2 fun ix ρ3=>∃ k j xs,rd ρ3 ix=some (.int k)/\ρ3[i]? = some (.l xs)/\ixN xs.length k=some j/\Φ (ρ3.set i (.l (xs.set j d)))):wpG B (qMR to ti qJG) r ρ Φ:=by
 intro G F σ H v I ok N n
 obtain ⟨d,ed,h1⟩:=h
 obtain ⟨G1',g1',I1',dn⟩:=qGV I ok ed
 refine h1 G1' F σ H I1' _ fun G2 H2 w o ρ2 ⟨i,eo,h2⟩ g2 I2 ok2=>?_
 subst eo
 refine h2 G2 F σ H2 I2 _ fun G3 H3 z ix ρ3 ⟨k,j,xs,e1,e2,e3,h3⟩ g3 I3 ok3=>?_
 obtain ⟨o',e4,a,_,e5,h4,vs,rfl,h5⟩:=I3.ok i _ e2
 have ok2':σ[i]? = some (some w):=ok2
 rw [ok2'] at e4
 cases e4
 cases e5
 refine ⟨a,vs,k,j,rfl,qT I3 ok3 e1,h4,by rw [h5.length]; exact e3,?_⟩
 exact n G3 σ _ _ h3 ((g1'.trans g2).trans g3) (Kp.refl _ _) (I3.put e2 ok2 (qAX j h5 (Den.mono (g2.trans g3) _ _ dn)))
noncomputable def qKi (ρ:List Sl) (fr:List (Str×Nat)):Bool:=fr.all fun p=>match ρ[p.2]? with | some .u=>false | some _=>true | none=>false
theorem qb {ρ:List Sl} {fr:List (Str×Nat)} (h:qKi ρ fr=true):known ρ fr:=fun p hp=>by
 have q:=(uF.mp h) p hp
 cases e:ρ[p.2]? with
 | none=>rw [e] at q; cases q
 | some s=>
  rw [e] at q
  cases s with
  | u=>cases q
  | d x=>exact ⟨_,rfl,by intro z; cases z⟩
  | o x=>exact ⟨_,rfl,by intro z; cases z⟩
  | f _ x=>exact ⟨_,rfl,by intro z; cases z⟩
theorem QV (xs:List D) (j:Nat):cutD xs (some (j:Int)) none=xs.drop j:=by
 unfold cutD
 rw [HT.sIx_nat,HT.sIx_none]
 by_cases h:j<=xs.length
 ·rw [gS h,xO (by rw [yI]; omega)]
 ·rw [ZD (by omega),List.drop_of_length_le (wK _),List.drop_of_length_le (by omega),List.take_nil]
theorem szl {n:Nat} (h:n<=1000):n<=sizeLine:=vQ (qL h)
theorem jt {α:Type} {f:α->D} {k:Nat} (h:∀ a,jQ (f a)<=k):∀ l:List α,qK (l.map f)<=k
 | []=>zP _
 | a::l=>by
  show max (jQ (f a)) (qK (l.map f))<=k
  have:=h a
  have:=jt h l
  omega
theorem Yq {α:Type} [DecidableEq α] {f:α->D} (h:∀ a b,dEq (f a) (f b)=decide (a=b)) (a:α) (l:List α):dIn (f a) (l.map f)=decide (a∈l):=by
 unfold dIn
 rw [uJ,List.any_eq_true,decide_eq_true_iff]
 constructor
 ·rintro ⟨e,he,q⟩
  obtain ⟨b,hb,rfl⟩:=zJ.mp he
  rw [h,decide_eq_true_iff] at q
  exact q ▸ hb
 ·intro m
  exact ⟨f a,zJ.mpr ⟨a,m,rfl⟩,qDS _⟩
theorem qFo (a b:Int):dEq (.int a) (.int b)=decide (a=b):=by simp [dEq,Bool.beq_eq_decide_eq]
theorem qDo {α:Type} [DecidableEq α] {f:α->D} (h:∀ a b,dEq (f a) (f b)=decide (a=b)):∀(l m:List α),Qc (l.map f) (m.map f)=decide (l=m)
 | [],[]=>by simp [Qc]
 | [],_::_=>by simp [Qc]
 | _::_,[]=>by simp [Qc]
 | a::l,b::m=>by
  show (dEq (f a) (f b) && Qc (l.map f) (m.map f))=_
  rw [h,qDo h l m]
  simp
theorem qJV (q:Int) (fs:List Int):dIn (.int q) (fs.map D.int)=decide (q∈fs):=Yq qFo q fs
theorem qAw (ns:List Int):qK (ns.map D.int)<=50:=zC (jt (f:=D.int) (k:=0) (fun a=>wK _) ns) (by decide)
section
variable {ρ:List Sl} {Φ:Rs->List Sl->Prop} {x y:Rs} {K:wG}
theorem qMX {q:Int} {fs:List Int} (hx:rdE ρ x=some (.int q)) (hy:rdE ρ y=some (.lst (fs.map D.int))) (h:Φ (.d (.bl (decide (q∈fs)))) ρ):OpV (qH2 false) x y ρ Φ:=by
 refine qLu hx hy (qAw _) ?_
 rw [if_neg wU,qJV]
 exact h
theorem qG7 {α:Type} [DecidableEq α] {f:α->D} {q:α} {fs:List α} (hf:∀ a b,dEq (f a) (f b)=decide (a=b)) (hd:∀ a,jQ (f a)<=50) (hx:rdE ρ x=some (f q)) (hy:rdE ρ y=some (.lst (fs.map f))\/rdE ρ y=some (.tup (fs.map f))) (h:Φ (.d (.bl (decide (q∈fs)))) ρ):OpV (qH2 false) x y ρ Φ:=by
 rcases hy with hy | hy
 ·refine qLu hx hy (jt hd _) (hd2:=hd q) ?_
  rw [if_neg wU,Yq hf]
  exact h
 ·refine qKO hx hy (jt hd _) (hd2:=hd q) ?_
  rw [if_neg wU,Yq hf]
  exact h
theorem qK9 {α:Type} [DecidableEq α] {f:α->D} {q:α} {fs:List α} (hf:∀ a b,dEq (f a) (f b)=decide (a=b)) (hd:∀ a,jQ (f a)<=50) (hx:rdE ρ x=some (f q)) (hy:rdE ρ y=some (.lst (fs.map f))\/rdE ρ y=some (.tup (fs.map f))) (h:Φ (.d (.bl (!decide (q∈fs)))) ρ):OpV (qH2 true) x y ρ Φ:=by
 rcases hy with hy | hy
 ·refine qLu hx hy (jt hd _) (hd2:=hd q) ?_
  rw [if_pos rfl,Yq hf]
  exact h
 ·refine qKO hx hy (jt hd _) (hd2:=hd q) ?_
  rw [if_pos rfl,Yq hf]
  exact h
theorem qHw (l:List D):Qc l []=l.isEmpty:=by cases l <;> simp [Qc]
theorem qI1 {l:List D} (hx:rdE ρ x=some (.lst l)) (hy:rdE ρ y=some (.lst [])) (hd:qK l<=50) (h:Φ (.d (.bl !l.isEmpty)) ρ):OpV (fun x y H Q=>rNe x y H Q\/qJO true x y H Q) x y ρ Φ:=by
 refine OpV.r (qEr hx hy hd ?_)
 rw [if_pos rfl,qHw]
 exact h
end
section
variable {ρ:List Sl} {Φ:Rs->List Sl->Prop} {ta tb tc td:TE} {r r' r'':R2}
noncomputable abbrev IsD (d:D) (ρ:List Sl):Rs->List Sl->Prop:=fun x ρ1=>x=.d d/\ρ1=ρ
theorem qH7 {b c:Bool} {x y z:D} (h1:wpV ta ρ (IsD x ρ)) (h2:wpV tb ρ (IsD y ρ)) (h3:OpV r (.d x) (.d y) ρ (IsD (.bl b) ρ)) (h4:b=true->wpV tc ρ (IsD z ρ)) (h5:b=true->OpV r' (.d y) (.d z) ρ (IsD (.bl c) ρ)) (h:Φ (.d (.bl (b && c))) ρ):wpV (qIV r r' ta tb tc) ρ Φ:=by
 intro G F σ H I Q q
 refine h1 G F σ H I _ fun G1 H1 v1 x1 ρ1 ⟨e1,e2⟩ g1 I1 ok1=>?_
 subst e1 e2
 refine h2 G1 F σ H1 I1 _ fun G2 H2 v2 x2 ρ2 ⟨e1,e2⟩ g2 I2 ok2=>?_
 subst e1 e2
 have ok1':jb G2 F ρ2 σ H2 (.d x) v1:=Den.mono g2 _ _ ok1
 refine h3 G2 F σ H2 v1 v2 I2 ok1' ok2 _ fun G3 H3 v3 x3 ρ3 ⟨e1,e2⟩ g3 I3 ok3=>?_
 subst e1 e2
 have e3:v3=.bl b:=ok3
 refine ⟨b,e3,?_⟩
 have gg:=(g1.trans g2).trans g3
 cases b with
 | false=>
  rw [if_neg wU]; exact q G3 H3 _ (.d (.bl false)) ρ3 h gg I3 rfl
 | true=>
  rw [if_pos rfl]
  refine h4 rfl G3 F σ H3 I3 _ fun G4 H4 v4 x4 ρ4 ⟨e1,e2⟩ g4 I4 ok4=>?_
  subst e1 e2
  have ok2':jb G4 F ρ4 σ H4 (.d y) v2:=Den.mono (g3.trans g4) _ _ ok2
  refine h5 rfl G4 F σ H4 v2 v4 I4 ok2' ok4 _ fun G5 H5 v5 x5 ρ5 ⟨e1,e2⟩ g5 I5 ok5=>?_
  subst e1 e2
  exact q G5 H5 v5 (.d (.bl (true && c))) ρ5 h ((gg.trans g4).trans g5) I5 ok5
theorem qGg {b c e:Bool} {x y z u:D} (h1:wpV ta ρ (IsD x ρ)) (h2:wpV tb ρ (IsD y ρ)) (h3:OpV r (.d x) (.d y) ρ (IsD (.bl b) ρ)) (h4:b=true->wpV tc ρ (IsD z ρ)) (h5:b=true->OpV r' (.d y) (.d z) ρ (IsD (.bl c) ρ)) (h6:c=true->wpV td ρ (IsD u ρ)) (h7:c=true->OpV r'' (.d z) (.d u) ρ (IsD (.bl e) ρ)) (h:Φ (.d (.bl (b && (c && e)))) ρ):wpV (qCf r r' r'' ta tb tc td) ρ Φ:=by
 intro G F σ H I Q q
 refine h1 G F σ H I _ fun G1 H1 v1 x1 ρ1 ⟨e1,e2⟩ g1 I1 ok1=>?_
 subst e1 e2
 refine h2 G1 F σ H1 I1 _ fun G2 H2 v2 x2 ρ2 ⟨e1,e2⟩ g2 I2 ok2=>?_
 subst e1 e2
 have ok1':jb G2 F ρ2 σ H2 (.d x) v1:=Den.mono g2 _ _ ok1
 refine h3 G2 F σ H2 v1 v2 I2 ok1' ok2 _ fun G3 H3 v3 x3 ρ3 ⟨e1,e2⟩ g3 I3 ok3=>?_
 subst e1 e2
 have e3:v3=.bl b:=ok3
 refine ⟨b,e3,?_⟩
 have gg:=(g1.trans g2).trans g3
 cases b with
 | false=>
  rw [if_neg wU]; exact q G3 H3 _ (.d (.bl false)) ρ3 h gg I3 rfl
 | true=>
  rw [if_pos rfl]
  refine h4 rfl G3 F σ H3 I3 _ fun G4 H4 v4 x4 ρ4 ⟨e1,e2⟩ g4 I4 ok4=>?_
  subst e1 e2
  have ok2':jb G4 F ρ4 σ H4 (.d y) v2:=Den.mono (g3.trans g4) _ _ ok2
  refine h5 rfl G4 F σ H4 v2 v4 I4 ok2' ok4 _ fun G5 H5 v5 x5 ρ5 ⟨e1,e2⟩ g5 I5 ok5=>?_
  subst e1 e2
  have e5:v5=.bl c:=ok5
  refine ⟨c,e5,?_⟩
  have g45:=(gg.trans g4).trans g5
  cases c with
  | false=>
   rw [if_neg (by decide)]
   exact q G5 H5 _ (.d (.bl false)) ρ5 h g45 I5 rfl
  | true=>
   rw [if_pos rfl]
   refine h6 rfl G5 F σ H5 I5 _ fun G6 H6 v6 x6 ρ6 ⟨e1,e2⟩ g6 I6 ok6=>?_
   subst e1 e2
   have ok4':jb G6 F ρ6 σ H6 (.d z) v4:=Den.mono (g5.trans g6) _ _ ok4
   refine h7 rfl G6 F σ H6 v4 v6 I6 ok4' ok6 _ fun G7 H7 v7 x7 ρ7 ⟨e1,e2⟩ g7 I7 ok7=>?_
   subst e1 e2
   exact q G7 H7 v7 (.d (.bl (true && (true && e)))) ρ7 h ((g45.trans g6).trans g7) I7 ok7
end
theorem qc {B:List Nat} {t u:TS} {ρ:List Sl} {Ψ:VE} (M:List Sl->Prop) (h1:wpS B t ρ { Ψ with nx:=M }) (h2:∀ ρ1,M ρ1->wpS B u ρ1 Ψ):wpS B (Qm t u) ρ Ψ:=by
 refine Yz ?_
 intro G F σ H I D n r b ct
 refine h1 G F σ H I D ?_ r b ct
 intro G1 σ1 H1 ρ1 m g1 k1 I1
 exact n G1 σ1 H1 ρ1 (h2 ρ1 m) g1 k1 I1
noncomputable def qGG (K:wG):Sp:=fun vs H Q _=>∃(a:Addr) (ns:List Int),vs=[.ref a]/\SqL K H a (ns.map V.int)/\ns.length<=63/\∀ H',Q (.bl true) H'
theorem qKZ {P:Program} {w:World} {K:wG} {mg:Str->Option Value} {base:Heap} {qual:Str} {x:Str} {st:Stmt} {f:Addr} {fd:FuncData} {N:List Str} {k:Nat} (F:Fun K x qual st f fd) (S:qR N ["script"] (qH st))
  (hbody:∀(cdv:Value) (A:Around) (outer:List Env) (s:Shared) (H:Hp) (E:XK),Y0 k (A.deeper (PyProof.Rows.envOfC qual (qH st) s.heap.objs.size f cdv))->
   ∃ t,PSs (qH9 CX0 P w K mg base N qual (qH st) f cdv A outer s H E).nox (QQ st) t/\
    ∀ ns:List Int,ns.length<=63->wpS [0] t (.f K (ns.map D.int)::wX (N.length - 1) .u) { nx:=fun _=>False,rt:=fun r _=>r=.d (.bl true) }) :
  jo P w K mg base CX0 (k+1) f fd ["script"] (qGG K):=by
 refine F.ok S (fun vs H Q E h=>?_) fun cdv A outer s H vs Q E hr h=>?_
 ·obtain ⟨a,ns,rfl,_⟩:=h
  rfl
 ·obtain ⟨t,ht,hw⟩:=hbody cdv A outer s H E hr
  refine ⟨t,ht,?_⟩
  obtain ⟨a,ns,rfl,hS,hl,fin⟩:=h
  have I:SI H (fun _=>none) [.f K (ns.map D.int)] ([V.ref a].map some) H:=by
   refine ⟨fun i s e=>?_,qV.refl _,fun b o e=>(nomatch e),fun b o e=>(nomatch e),fun i j b xs ys h1=>?_,fun b ⟨i,xs,h1,_⟩=>?_,fun b xs e=>(nomatch e)⟩
   ·cases i with
    | zero=>
     cases e
     exact ⟨_,rfl,a,_,rfl,hS,qZ.ints _ _⟩
    | succ i=>simp at e
   ·cases i with
    | zero=>cases h1
    | succ i=>simp at h1
   ·cases i with
    | zero=>cases h1
    | succ i=>simp at h1
  have I0:=I.ext 0 (N.length - 1) rfl
  rw [yQ,yQ,uK,uK] at I0
  refine hw ns hl H (fun _=>none) _ H I0 _ ?_ ?_ ?_ ?_
  ·intro G1 σ1 H1 ρ1 h1
   exact h1.elim
  ·intro G1 σ1 H1 ρ1 r v h1 g1 k1 I1 ok
   have h1':r=.d (.bl true):=h1
   subst h1'
   have e:v=.bl true:=ok
   rw [e]
   exact fin H1
  ·intro G1 σ1 H1 ρ1 h1
   exact h1.elim
  ·intro G1 σ1 H1 ρ1 h1
   exact h1.elim
theorem qJx.row {R R':List TRw} {r:TRw} (m:qJx R r R') (nd:(R.map (·.2)).Nodup):(R'.map (·.2)).Nodup/\(∀ ks,ks∈R'.map (·.2)↔ks∈R.map (·.2)\/ks=r.2)/\R'.length<=R.length+1/\∀ z∈R',z∈R\/z=r:=by
 rcases m with ⟨h,rfl⟩ | ⟨h,p⟩
 ·exact ⟨nd,fun ks=>⟨.inl,fun z=>z.elim id fun e=>e ▸ h⟩,uN _,fun z hz=>.inl hz⟩
 ·refine ⟨(p.map (·.2)).nodup_iff.mpr (vE.mpr ⟨h,nd⟩),fun ks=>?_,uA p.length_eq,fun z hz=>?_⟩
  ·rw [(p.map (·.2)).mem_iff]
   show ks∈r.2::R.map (·.2)↔_
   rw [wZ]
   exact Or.comm
  ·exact (wZ.mp (p.mem_iff.mp hz)).elim .inr .inl
theorem qI8 {G:Hp} {ks:List Int} {v:V} (h:Den G (Qa ks) v):∃ a,v=.ref a/\G a=some (.tup (ks.map V.int)):=by
 obtain ⟨a,vs,rfl,h1,h2⟩:=h
 exact ⟨a,rfl,h2.ints_eq ▸ h1⟩
theorem qDq {G:Hp}:∀{R:List TRw},(∀ r∈R,G r.1=some (.tup (r.2.map V.int)))->qZ G ((R.map (·.2)).map Qa) (R.map fun r=>V.ref r.1)
 | [],_=>rfl
 | r::R,h=>⟨_,_,rfl,⟨r.1,_,rfl,h r wN,qZ.ints _ _⟩,qDq fun z hz=>h z (wQ _ hz)⟩
theorem qGW {α:Type} {own:List Str} {fr:List (Str×Nat)} {wi:TI} {g:TG} {tt:TT} {te:TE} {ρ:List Sl} {Φ:Rs->List Sl->Prop} (enc:α->D) (l:List α) (p:α->Bool) (f:α->List Int)
  (h:wpI wi ρ fun xs ρ1=>xs=l.map enc/\l.length<59/\known ρ1 fr/\(isB (Q4 fr)).Nodup/\(∀ a∈l,qHB own fr g tt te ρ1 (enc a) (p a) (Qa (f a)))/\(∀ a,f a≠[])/\∀ L:List (List Int),L.Nodup->(∀ ks,ks∈L↔ks∈(l.filter p).map f)->L.Pairwise (fun a b=>HT.lexLt b a=false)->Φ (.l (L.map Qa)) ρ1):wpV (qDQ own fr wi g tt te) ρ Φ:=by
 intro G0 F σ H0 I0 Q q0
 refine h G0 F σ H0 I0 _ fun G H J xs ρ1 ⟨ex,hl,kn,nd,st,ne,fin⟩ g1 I S=>?_
 subst ex
 have q:=q0.at g1 fun _ _ z=>z
 obtain ⟨vs,oks,ev⟩:=qAh I kn
 have I1:=I.focus oks nd
 have lv:vs.length=fr.length:=by rw [oks.len]; unfold Q4; rw [wA]
 have as_eq:(Q4 fr).map (qHK ρ1)=fr.map fun p=>(ρ1[p.2]?).getD .u:=by unfold Q4; rw [zE]; rfl
 rw [as_eq] at I1
 have I2:=I1.ext own.length 0 (by rw [wA,lv])
 have e1:(wX own.length Sl.u++((fr.map fun p=>(ρ1[p.2]?).getD .u)++wX 0 Sl.u))=wX own.length Sl.u++Y2 fr ρ1:=by rw [yQ,zZ]; rfl
 have e2:(wX own.length none++(vs.map some++wX 0 none))=qj own fr σ:=by
  unfold qj
  rw [yQ,zZ,ev]
  congr 1
  rw [VS]
 rw [e1,e2] at I2
 have S2:Src J G (foc H F ρ1 σ (Q4 fr)) (l.map enc):=fun i G' H' a b c=>S i G' H' a b ((Jc I).trans c)
 generalize hF2:foc H F ρ1 σ (Q4 fr)=F2 at S2 I1 I2
 have h0:∀(j:Nat) (v:V),vs[j]? = some v->(qj own fr σ)[own.length+j]? = some (some v):=fun j v e=>by
  rw [<- e2,yC (by rw [zO]; omega),zO,ZC,yQ,zZ,wI,e]
  rfl
 let Ok:Nat->List TRw->St->Hp->Prop:=fun i R σ' H'=>R.length<=i/\(R.map (·.2)).Nodup/\(∀ ks,ks∈R.map (·.2)↔ks∈((l.take i).filter p).map f)/\∃ G' os,os.length=own.length/\qV G G'/\Kp (bnd own fr) (qj own fr σ) σ'/\SI G' F2 (os++Y2 fr ρ1) σ' H'/\∀ r∈R,G' r.1=some (.tup (r.2.map V.int))
 refine ⟨fun i m R σ' H'=>m=l.length - i/\i<=l.length/\Ok i R σ' H',⟨l.length,by simp,zP _,zP _,xK,fun ks=>by simp,G,_,zO,qV.refl _,Kp.refl _ _,I2,fun r hr=>absurd hr yM⟩,?_⟩
 rintro i m R σ2 H2 ⟨rfl,hi,lR,ndR,inR,G2,os,ho,g2,k2,I4,rows⟩
 refine ⟨fun r hr=>I4.g _ _ (rows r hr),by omega,?_⟩
 obtain ⟨s1,s2⟩:=S2 i G2 H2 g2 I4.g I4.f
 rw [wA] at s1 s2
 by_cases hlt:i<l.length
 ·obtain ⟨go,yl⟩:=s1 hlt
  refine .inr ⟨go,fun R' σ' H'=>Ok (i+1) R' σ' H',fun R' σ' H' p'=>⟨l.length - (i+1),by omega,rfl,hlt,p'⟩,fun x H' y=>?_⟩
  obtain ⟨d,ed,yy⟩:=yl x H' y
  have ha:l[i]? = some l[i]:=wC hlt
  rw [wI,ha] at ed
  obtain rfl:enc l[i]=d:=zF ed
  have et:(l.take (i+1)).filter p=(l.take i).filter p++if p l[i]=true then [l[i]] else []:=by
   rw [uO,ha,fH]
   congr 1
   cases hpa:p l[i] <;> simp [hpa]
  have turn:∀ G3,qV G2 G3->SI G3 F2 (os++Y2 fr ρ1) σ2 H'->Den G3 (enc l[i]) x->g x σ2 H' fun σ4 H4=>tt σ4 H4 fun b H5=>if b=true then te σ4 H5 fun y H6=>∃(a:Addr) (ks:List Int),y=.ref a/\H6 a=some (.tup (ks.map V.int))/\(∀ r∈R,H6 r.1=some (.tup (r.2.map V.int)))/\∀ R',qJx R (a,ks) R'->Ok (i+1) R' σ4 H6
    else Ok (i+1) R σ4 H5:=fun G3 g3 I3 dx=>by
   refine st l[i] (uG hlt) os ho G3 F2 σ2 H' x I3 dx _ ?_
   rintro G4 σ4 H4 ρ4 ⟨⟨os',ho',rfl⟩,h1,h2⟩ g4 k4 I5
   refine h1 G4 _ σ4 H4 I5 _ ?_
   rintro G5 H5 b ρ5 ⟨rfl,rfl⟩ g5 I6
   have gg:=((g2.trans g3).trans g4).trans g5
   cases hp:p l[i] with
   | false=>
    rw [if_neg wU]
    refine ⟨by omega,ndR,fun ks=>?_,G5,os',ho',gg,k2.trans k4,I6,fun r hr=>((g3.trans g4).trans g5) _ _ (rows r hr)⟩
    rw [et,hp,if_neg wU,zZ]
    exact inR ks
   | true=>
    rw [if_pos rfl]
    refine h2 hp G5 _ σ4 H5 I6 _ ?_
    rintro G6 H6 y r ρ6 ⟨ed',rfl⟩ g6 I7 ok
    obtain ⟨G7,g7,I8,dy⟩:=qGV I7 ok ed'
    obtain ⟨a,rfl,ea⟩:=qI8 dy
    have old:∀ r∈R,G7 r.1=some (.tup (r.2.map V.int)):=fun r hr=>(((g3.trans g4).trans g5).trans (g6.trans g7)) _ _ (rows r hr)
    refine ⟨a,f l[i],rfl,I8.g _ _ ea,fun r hr=>I8.g _ _ (old r hr),fun R' mo=>?_⟩
    obtain ⟨m1,m2,m3,m4⟩:=qJx.row mo ndR
    refine ⟨by omega,m1,fun ks=>?_,G7,os',ho',(gg.trans g6).trans g7,k2.trans k4,I8,fun r hr=>(m4 r hr).elim (old r) fun e=>e ▸ ea⟩
    rw [m2,et,if_pos hp,zI,zK,inR]
    show _\/ks=f l[i]↔_\/ks∈[f l[i]]
    rw [zB]
  rcases yy with ⟨e,dx⟩ | ⟨p',o,hp,e,dx⟩
  ·subst e
   exact turn G2 (qV.refl _) I4 dx
  ·subst e
   obtain ⟨I3,g3⟩:=I4.newG (o:=o) hp
   exact turn _ g3 I3 dx
 ·have e:i=l.length:=by omega
  subst e
  refine .inl ⟨s2 rfl,fun r hr=>?_,fun R' A pm so hA=>?_⟩
  ·have:r.2∈R.map (·.2):=kX hr
   rw [inR] at this
   obtain ⟨a,_,z⟩:=zJ.mp this
   rw [<- z]
   exact ne a
  ·have I6:=I4.sel (n:=fr.length) k2 h0 (uA lv.symm)
   have lc:(os++Y2 fr ρ1).length=own.length+fr.length:=by
    rw [wM,ho]
    unfold Y2
    rw [wA]
   have es:sel own.length (bnd own fr) fr.length (os++Y2 fr ρ1)=(os++Y2 fr ρ1).drop own.length:=qAc lc
   rw [es,<- hF2] at I6
   have I7:=I.unfocus oks g2 I6
   have eo:wb ρ1 (Q4 fr) ((os++Y2 fr ρ1).drop own.length)=ρ1:=Jk (own:=own) ho
   rw [eo] at I7
   have rows':∀ r∈R',G2 r.1=some (.tup (r.2.map V.int)):=fun r hr=>rows r (pm.mem_iff.mp hr)
   refine QO (q.at g2 fun _ _ z=>z) I7 (qDq rows') (fin (R'.map (·.2)) ((pm.map (·.2)).nodup_iff.mpr ndR) (fun ks=>?_) so) hA
   rw [(pm.map (·.2)).mem_iff,inR,xQ]
theorem qC0 {ta:TA} {ρ:List Sl} {Φ:Rs->List Sl->Prop} (h:wpA ta ρ fun rs ρ1=>∃ ns:List Int,(∃ r,rs=[r]/\rdE ρ1 r=some (.lst (ns.map D.int)))/\ns.length<60/\∀ ns':List Int,ns'.Nodup->(∀ k,k∈ns'↔k∈ns)->ns'.Pairwise (·<=·)->Φ (.l (ns'.map D.int)) ρ1):wpV (qAG ta) ρ Φ:=by
 intro G F σ H I Q q
 refine h G F σ H I _ fun G1 H1 vs rs ρ1 ⟨ns,⟨r,er,hx⟩,few,k⟩ g1 I1 oks=>?_
 subst er
 obtain ⟨v,rfl,ok⟩:=jT oks
 obtain ⟨a,ws,rfl,s1,d1⟩:=(Q6 I1 ok hx).2.2 _ rfl
 have e:=d1.ints_eq
 subst e
 exact ⟨a,ns,rfl,s1,few,fun ns' l h1 h2 h3 hl=>QO (q.at g1 fun _ _ z=>z) I1 (qZ.ints _ _) (k ns' h1 h2 h3) hl⟩
noncomputable def isT:Option HO->Bool
 | some (.tup _)=>true
 | _=>false
noncomputable def tups (G:Hp):Hp:=fun a=>if isT (G a)=true then G a else none
noncomputable def both (G G':Hp):Hp:=fun a=>if G' a=none then G a else G' a
noncomputable def anew (G G3:Hp) (a:Addr) (vs:List V):Hp:=fun b=>if b=a then some (.lst vs) else if isT (G3 b)=true then G3 b else if G b=none then none else G3 b
theorem qIR:∀(ns:List Int) (m:Int),∃ k,ns.foldl qJH (some m)=some k/\m<=k/\(∀ n∈ns,n<=k)/\(k=m\/k∈ns)
 | [],m=>⟨m,rfl,Int.le_refl _,(fun n h=>nomatch h),.inl rfl⟩
 | n::ns,m=>by
  obtain ⟨k,h1,h2,h3,h4⟩:=qIR ns (if n > m then n else m)
  have hn:n<=k/\m<=k:=by
   by_cases z:n > m
   ·rw [if_pos z] at h2; omega
   ·rw [if_neg z] at h2; omega
  refine ⟨k,h1,hn.2,fun x hx=>?_,?_⟩
  ·rcases wZ.mp hx with rfl | hx
   ·exact hn.1
   ·exact h3 x hx
  ·rcases h4 with h4 | h4
   ·by_cases z:n > m
    ·rw [if_pos z] at h4; exact .inr (by rw [h4]; exact wN)
    ·rw [if_neg z] at h4; exact .inl h4
   ·exact .inr (wQ _ h4)
theorem qAq {ns:List Int} (h:ns≠[]):∃ m,qAM ns=some m/\m∈ns/\∀ n∈ns,n<=m:=by
 cases ns with
 | nil=>exact absurd rfl h
 | cons n ns=>
  obtain ⟨k,h1,h2,h3,h4⟩:=qIR ns n
  refine ⟨k,h1,?_,fun x hx=>?_⟩
  ·rcases h4 with rfl | h4
   ·exact wN
   ·exact wQ _ h4
  ·rcases wZ.mp hx with rfl | hx
   ·exact h2
   ·exact h3 x hx
noncomputable def mx0 (ns:List Int):Int:=(qAM ns).getD 0
theorem qC8 {ns:List Int} (h:ns≠[]):mx0 ns∈ns:=by
 obtain ⟨m,h1,h2,_⟩:=qAq h
 unfold mx0
 rw [h1]; exact h2
theorem qLF {ns:List Int} {n:Int} (h:n∈ns):n<=mx0 ns:=by
 obtain ⟨m,h1,_,h3⟩:=qAq (List.ne_nil_of_mem h)
 unfold mx0
 rw [h1]; exact h3 n h
theorem qE4 {ns:List Int} (h:ns≠[]):qAM ns=some (mx0 ns):=by
 obtain ⟨m,h1,_,_⟩:=qAq h
 unfold mx0
 rw [h1]; rfl
section
variable {ρ:List Sl} {Φ:Rs->List Sl->Prop} {K:wG} {x:Rs}
theorem qIl {ns:List Int} (hx:rd ρ x=some (.lst (ns.map D.int))) (hn:ns≠[]) (h:Φ (.d (.int (mx0 ns))) ρ):QC (qJv K) [x] ρ Φ:=fun G F σ H vs I h1 Q q=>by
 obtain ⟨v,rfl,ok⟩:=jT h1
 obtain ⟨a,ws,rfl,s1,d1⟩:=jh (K:=K) I ok hx
 rw [d1.ints_eq] at s1
 exact ⟨a,ns,_,rfl,.inl s1,qE4 hn,j7 q I h⟩
theorem qFT {ns:List Int} (hx:rd ρ x=some (.tup (ns.map D.int))) (hn:ns≠[]) (h:Φ (.d (.int (mx0 ns))) ρ):QC (qJv K) [x] ρ Φ:=fun G F σ H vs I h1 Q q=>by
 obtain ⟨v,rfl,ok⟩:=jT h1
 obtain ⟨a,ws,rfl,s1,d1⟩:=jJ I ok hx
 rw [d1.ints_eq] at s1
 exact ⟨a,ns,_,rfl,.inr (SqT.of (I.g _ _ s1)),qE4 hn,j7 q I h⟩
end
end L4
namespace L2
open PySem PySem.Spec PyProof.Rows
end L2
namespace L4
open PySem L2
end L4
namespace L2
open PySem PySem.Spec PyProof.Rows
section
variable {X:Cx}
noncomputable def qLI (K:wG):List V->Hp->VK->Prop:=fun xs H Q=>∃(p:Addr) (ns:List Int),xs=[.ref p]/\SqL K H p (ns.map V.int)/\ns≠[]/\∀ m,m∈ns->(∀ n∈ns,m<=n)->Q (.int m) H
theorem qGH {K:wG} (hK:X.K=K) (hc:X.calm=true):QB X (.builtin "min") (qLI K):=by
 intro pins s σ H xs us Q I r h
 subst hK
 obtain ⟨p,ns,rfl,hp,hn,q⟩:=h
 obtain ⟨u,rfl,rx⟩:=vals1 r
 cases rx
 obtain ⟨its,rv,pl,hzz⟩:=I.list hp
 have tp:s.heap.IsList p its.toArray:=pl.isList
 obtain ⟨el,at'⟩:=qFA rv
 have lt:p<s.heap.objs.size:=let ⟨o,ho,_⟩:=tp; wY ho
 have hl:0<ns.length:=gW.mpr hn
 have ez:its.toArray.size=ns.length:=by rw [wJ,el]
 have num:∀(i:Nat) (v:Value),its.toArray[i]? = some v->∃ t,v=.int (ns.getD i 0) t:=fun i v e=>by
  obtain ⟨n,t,e1,rfl⟩:=at' i v e
  exact ⟨t,by rw [zA,e1]; rfl⟩
 refine call_min_walk (kG tp ⟨_,_,_,_,_,_,_,rfl,WG (A:=X.A.in1) (I.ok.hd hc) _ p (zH lt) its.toArray,⟨⟨_,wR _ rfl,rfl,rfl⟩,let ⟨o,ho,z⟩:=tp; ⟨o,wF _ ho,z⟩⟩,fun b hb=>?_,by rw [ez]; exact hl,CmpOf.ints_lt (fun i=>ns.getD i 0) num,fun v h' tk pv keep=>?_⟩)
 ·have sz:∀ o,(s.heap.push o).objs.size=s.heap.objs.size+1:=fun o=>gF ..
  rw [sz]
  rcases wZ.mp hb with z | z
  ·rw [z]
   exact VC _
  ·rw [zB.mp z]
   exact gG lt
 ·obtain ⟨a1,a2⟩:=argBest_lt (fun i=>ns.getD i 0) (its.toArray.size - 1)
  obtain ⟨t,rfl⟩:=num _ _ pv
  have bl:=yE a1 (show its.toArray.size - 1<ns.length by rw [ez]; exact Nat.sub_lt hl Nat.one_pos)
  refine ⟨.int _,H,I.kept fun b o e=>keep b o ?_ (wF _ e),⟨t,rfl⟩,q _ ?_ fun n hm=>?_⟩
  ·exact fun z=>zH (wY e) (zB.mp z)
  ·rw [zA,wC bl]
   exact uG bl
  ·obtain ⟨j,hj,rfl⟩:=gU hm
   have:=a2 j (by rw [ez]; exact Nat.le_sub_one_of_lt hj)
   rwa [show ns.getD j 0=ns[j] by rw [zA,wC hj]; rfl] at this
end
end L2
namespace L4
open PySem L2
section
variable {ρ:List Sl} {Φ:Rs->List Sl->Prop} {K:wG} {x:Rs}
theorem qLg {ns:List Int} (hx:rd ρ x=some (.lst (ns.map D.int))) (hn:ns≠[]) (h:∀ m,m∈ns->(∀ n∈ns,m<=n)->Φ (.d (.int m)) ρ):QC (qLI K) [x] ρ Φ:=fun G F σ H vs I h1 Q q=>by
 obtain ⟨v,rfl,ok⟩:=jT h1
 obtain ⟨a,ws,rfl,s1,d1⟩:=jh (K:=K) I ok hx
 rw [d1.ints_eq] at s1
 exact ⟨a,ns,rfl,s1,hn,fun m h2 h3=>j7 q I (h m h2 h3)⟩
end
section
variable {ρ:List Sl} {Φ:Rs->List Sl->Prop} {K:wG} {x y:Rs} {B:List Nat} {Ψ:VE}
theorem qAt {t:TS} {i:Nat} {xs:List D} (hi:ρ[i]? = some (.l xs)) (h:wpS B t (ρ.set i (.d (.lst xs))) Ψ):wpS B t ρ Ψ:=by
 intro G F σ H I D n r b ct
 obtain ⟨G',g,I'⟩:=I.freeze hi
 exact h G' F σ H I' D (n.at g (Kp.refl _ _)) (r.at g (Kp.refl _ _)) (b.at g (Kp.refl _ _)) (ct.at g (Kp.refl _ _))
end
section
variable {ρ:List Sl} {Φ:Rs->List Sl->Prop} {x y:Rs} {K:wG}
theorem jn {xs ys:List D} (hx:rd ρ x=some (.tup xs)) (hy:rd ρ y=some (.tup ys)) (hz:xs.length+ys.length<=sizeLine) (h:Φ (.d (.tup (xs++ys))) ρ):OpV (qIz K) x y ρ Φ:=fun G F σ H vx vy I h1 h2 Q q=>by
 have g1:=J3 I h1 hx (fun _ z=>by cases z)
 have g2:=J3 I (ok2 h1 h2) hy (fun _ z=>by cases z)
 obtain ⟨a,vs,rfl,s1,d1⟩:=jJ I h1 hx
 obtain ⟨b,ws,rfl,s2,d2⟩:=jJ I (ok2 h1 h2) hy
 refine ⟨a,b,vs,ws,rfl,rfl,SqT.of (I.g _ _ s1),SqT.of (I.g _ _ s2),by rw [d1.length,d2.length]; exact hz,fun z=>?_,fun _ z=>?_,fun _ _ p hp=>Jl q I (d1.append d2) h hp⟩
 ·have l1:=d1.length
  rw [z] at l1
  have xe:xs=[]:=hZ.mp l1.symm
  subst xe
  exact qBj q I g2 h
 ·have l2:=d2.length
  rw [z] at l2
  have ye:ys=[]:=hZ.mp l2.symm
  subst ye
  rw [zZ] at h
  exact qBj q I g1 h
theorem SlV.l {r r':V->Option Int->Option Int->Hp->VK->Prop} {lo hi:Option Int} (h:SlV r x lo hi ρ Φ):SlV (fun a l u H Q=>r a l u H Q\/r' a l u H Q) x lo hi ρ Φ:=fun G F σ H v I ok Q q=>.inl (h G F σ H v I ok Q q)
theorem SlV.r {r r':V->Option Int->Option Int->Hp->VK->Prop} {lo hi:Option Int} (h:SlV r' x lo hi ρ Φ):SlV (fun a l u H Q=>r a l u H Q\/r' a l u H Q) x lo hi ρ Φ:=fun G F σ H v I ok Q q=>.inr (h G F σ H v I ok Q q)
theorem qCx {xs:List D} {lo hi:Option Int} (hx:rd ρ x=some (.tup xs)) (h:Φ (.d (.tup (cutD xs lo hi))) ρ):SlV (qMQ K) x lo hi ρ Φ:=fun G F σ H v I ok Q q=>by
 have g1:=J3 I ok hx (fun _ z=>by cases z)
 obtain ⟨a,vs,rfl,s1,d1⟩:=jJ I ok hx
 refine ⟨a,vs,rfl,SqT.of (I.g _ _ s1),fun hw=>?_,fun _ p hp=>Jl q I (qDm d1) h hp⟩
 rw [d1.length] at hw
 unfold cutD at h
 rw [hw.1,hw.2,ZT,WW,xQ] at h
 exact qBj q I g1 h
theorem qLX {te ts:TE} (h:wpV te ρ fun r ρ1=>wpV ts ρ1 fun t ρ2=>rd ρ2 t=some (.int (-1))/\∃ xs,rd ρ2 r=some (.tup xs)/\Φ (.d (.tup xs.reverse)) ρ2):wpV (qKj K te ts) ρ Φ:=by
 intro G F σ H I Q q
 refine h G F σ H I _ fun G1 H1 v r ρ1 h1 g1 I1 ok1=>?_
 refine h1 G1 (hold r v H1 F) σ H1 (I1.held ok1) _ fun G2 H2 u t ρ2 ⟨e1,xs,e2,h2⟩ g2 I2 ok2=>?_
 obtain ⟨I3,ok3⟩:=SI.freed ok1 g2 I2
 refine ⟨qT I2 ok2 e1,?_⟩
 obtain ⟨a,vs,rfl,s1,d1⟩:=jJ I3 ok3 e2
 exact ⟨a,vs,rfl,SqT.of (I3.g _ _ s1),fun p hp=>Jl (q.at (g1.trans g2) fun _ _ z=>z) I3 (qAn d1) h2 hp⟩
end
theorem qAF {G:Hp}:∀(k:Nat) {xs:List D} {vs:List V},qZ G xs vs->qZ G (xs.drop k) (vs.drop k)
 | 0,_,_,d=>d
 | k+1,[],vs,d=>by
  have e:vs=[]:=d
  subst e
  exact rfl
 | k+1,x::xs,vs,d=>by
  obtain ⟨v,r,rfl,_,h⟩:=d
  exact qAF k h
theorem qLa {ρ:List Sl} {Φ:Rs->List Sl->Prop} {K:wG} {te tu ts:TE} (h:wpV te ρ fun r ρ1=>wpV tu ρ1 fun o ρ2=>wpV ts ρ2 fun t ρ3=>∃ k:Nat,rd ρ2 o=some (.int (k:Int))/\rd ρ3 t=some (.int (-1))/\∃ xs,rd ρ3 r=some (.tup xs)/\Φ (.d (.tup (xs.drop (k+1)).reverse)) ρ3):wpV (qKR K te tu ts) ρ Φ:=by
 intro G F σ H I Q q
 refine h G F σ H I _ fun G1 H1 v r ρ1 h1 g1 I1 ok1=>?_
 refine h1 G1 (hold r v H1 F) σ H1 (I1.held ok1) _ fun G2 H2 u o ρ2 h2 g2 I2 ok2=>?_
 refine h2 G2 (hold o u H2 (hold r v H1 F)) σ H2 (I2.held ok2) _ fun G3 H3 b t ρ3 ⟨k,e0,e1,xs,e2,h3⟩ g3 I3 ok3=>?_
 have z0:=qT I2 ok2 e0
 have z1:=qT I3 ok3 e1
 obtain ⟨I4,_⟩:=SI.freed ok2 g3 I3
 obtain ⟨I5,ok5⟩:=SI.freed ok1 (g2.trans g3) I4
 obtain ⟨a,vs,rfl,s1,d1⟩:=jJ I5 ok5 e2
 exact ⟨k,z0,z1,a,vs,rfl,SqT.of (I5.g _ _ s1),fun p hp=>Jl (q.at (g1.trans (g2.trans g3)) fun _ _ z=>z) I5 (qAn (qAF (k+1) d1)) h3 hp⟩
section
variable {ρ:List Sl} {Φ:Rs->List Sl->Prop} {x y:Rs} {K:wG}
theorem qD8 {nss:List (List Int)} (hx:rdE ρ x=some (.tup (nss.map Qa))\/rdE ρ x=some (.lst (nss.map Qa))) (hn:2<=nss.length->∀ ns∈nss,ns≠[]) (h64:nss.length<64) (h:∀ nss':List (List Int),nss'.Perm nss->Φ (.l (nss'.map Qa)) ρ):QC qGZ [x] ρ Φ:=fun G F σ H vs I h1 Q q=>by
 obtain ⟨v,rfl,ok⟩:=jT h1
 have fin:∀{xs:List V},qZ G (nss.map Qa) xs->∀(is:List Nat) (l:Addr),is.Perm (wO nss.length)->H l=none->Q (.ref l) (upd H l (.lst (is.map fun i=>xs.getD i V.non))):=fun {xs} hd is l pm hl=>by
  have lx:xs.length=nss.length:=by rw [hd.length,wA]
  refine QO q I (Yy hd is fun i hi=>?_) (h _ ?_) hl
  ·have:=zM.mp (pm.mem_iff.mp hi)
   omega
  ·have:=pm.map (fun i=>nss.getD i [])
   rw [jg] at this
   exact this
 rcases hx with hx | hx
 ·obtain ⟨a,ws,rfl,s1,d1⟩:=(Q6 I ok hx).2.1 (fun _ z=>by cases z)
  exact ⟨a,ws,nss,rfl,.inl (I.g _ _ s1),qZ.mono I.g _ _ d1,hn,h64,fin d1⟩
 ·obtain ⟨a,ws,rfl,s1,d1⟩:=(Q6 I ok hx).2.2 _ rfl
  exact ⟨a,ws,nss,rfl,.inr s1,qZ.mono I.g _ _ d1,hn,h64,fin d1⟩
theorem JU {nss:List (List Int)} (hx:rdE ρ x=some (.tup (nss.map Qa))\/rdE ρ x=some (.lst (nss.map Qa))) (hn:∀ ns∈nss,ns≠[]) (h64:nss.length<64) (h:∀ nss':List (List Int),nss'.Perm nss->Φ (.l (nss'.map Qa)) ρ):QC qGZ [x] ρ Φ:=qD8 hx (fun _=>hn) h64 h
end
section
variable {ρ:List Sl} {Φ:Rs->List Sl->Prop} {x y:Rs} {K:wG} {G F H:Hp} {σ:St}
noncomputable def qLQ:D->Bool
 | .int _=>true | .bl _=>true | _=>false
noncomputable def qGX:D->Bool
 | .bl _=>true | _=>false
noncomputable def qEn:D->Bool
 | .tup _=>true | _=>false
theorem qJl (K:wG) (d:D):xI K (.type (tyD d)) (.type "int")=some (qLQ d):=by cases d <;> rfl
theorem qGu (K:wG) (d:D):xI K (.type (tyD d)) (.type "bool")=some (qGX d):=by cases d <;> rfl
theorem qIa (K:wG) (d:D):xI K (.type (tyD d)) (.type "tuple")=some (qEn d):=by cases d <;> rfl
theorem qHg {d:D} (h:qEn d=true):∃ l,d=.tup l:=by
 cases d with
 | tup l=>exact ⟨l,rfl⟩
 | _=>cases h
end
end L4
namespace L2
open PySem PySem.Spec PyProof.Rows PySem.W
end L2
namespace L4
open PySem L2
open PyProof.Rows (step_dedup step_length firstMet)
theorem hu1 {a:Nat} (h:a+64<cLine):a+1<cLine:=by omega
section
variable {κ:Type} [DecidableEq κ]
noncomputable def qCS (ks:List (κ×D)) (k:κ):Option D:=(ks.find? fun p=>decide (p.1=k)).map (·.2)
noncomputable def putD (ks:List (κ×D)) (k:κ) (d:D):List (κ×D):=if (ks.any fun p=>decide (p.1=k))=true then ks.map (fun p=>if p.1=k then (p.1,d) else p) else ks++[(k,d)]
theorem Yg {G:Hp}:∀{ks:List (κ×D)} {vs:List (κ×V)},Q9 G ks vs->vs.length=ks.length
 | [],vs,h=>by cases (show vs=[] from h); rfl
 | p::ks,vs,h=>by
  obtain ⟨v,r,rfl,_,h2⟩:=h
  rw [zS,zS,Yg h2]
theorem qBT {G:Hp} {k:κ}:∀{ks:List (κ×D)} {vs:List (κ×V)},Q9 G ks vs->(vs.any fun p=>decide (p.1=k))=(ks.any fun p=>decide (p.1=k))
 | [],vs,h=>by cases (show vs=[] from h); rfl
 | p::ks,vs,h=>by
  obtain ⟨v,r,rfl,_,h2⟩:=h
  rw [uE,uE,qBT h2]
theorem Ya {G:Hp} {k:κ}:∀{ks:List (κ×D)} {vs:List (κ×V)},Q9 G ks vs->(qCS ks k=none/\qDj vs k=none)\/∃ d v,qCS ks k=some d/\qDj vs k=some v/\Den G d v
 | [],vs,h=>by cases (show vs=[] from h); exact .inl ⟨rfl,rfl⟩
 | p::ks,vs,h=>by
  obtain ⟨v,r,rfl,h1,h2⟩:=h
  by_cases e:p.1=k
  ·refine .inr ⟨p.2,v,?_,YA e,h1⟩
   simp [qCS,xC,e]
  ·have e1:qCS (p::ks) k=qCS ks k:=by simp [qCS,xC,e]
   rw [e1,J7 (p:=(p.1,v)) e]
   exact Ya h2
theorem Yt {G:Hp} {k:κ} {d:D} {v:V} (hv:Den G d v):∀{ks:List (κ×D)} {vs:List (κ×V)},Q9 G ks vs->Q9 G (ks.map fun p=>if p.1=k then (p.1,d) else p) (vs.map fun p=>if p.1=k then (p.1,v) else p)
 | [],vs,h=>by cases (show vs=[] from h); rfl
 | p::ks,vs,h=>by
  obtain ⟨w,r,rfl,h1,h2⟩:=h
  rw [yV,yV]
  by_cases e:p.1=k
  ·rw [if_pos e,if_pos e]
   exact ⟨v,_,rfl,hv,Yt hv h2⟩
  ·rw [if_neg e,if_neg e]
   exact ⟨w,_,rfl,h1,Yt hv h2⟩
theorem qAI {G:Hp} {k:κ} {d:D} {v:V} (hv:Den G d v):∀{ks:List (κ×D)} {vs:List (κ×V)},Q9 G ks vs->Q9 G (ks++[(k,d)]) (vs++[(k,v)])
 | [],vs,h=>by cases (show vs=[] from h); exact ⟨v,[],rfl,hv,rfl⟩
 | p::ks,vs,h=>by
  obtain ⟨w,r,rfl,h1,h2⟩:=h
  exact ⟨w,_,rfl,h1,qAI hv h2⟩
theorem qBm {G:Hp} {k:κ} {d:D} {v:V} {ks:List (κ×D)} {vs:List (κ×V)} (h:Q9 G ks vs) (hv:Den G d v):Q9 G (putD ks k d) (putK vs k v):=by
 unfold putD putK
 rw [qBT h]
 by_cases e:(ks.any fun p=>decide (p.1=k))=true
 ·rw [if_pos e,if_pos e]
  exact Yt hv h
 ·rw [if_neg e,if_neg e]
  exact qAI hv h
theorem qCD (p:κ×D) (ks:List (κ×D)) (j:κ):qCS (p::ks) j=if p.1=j then some p.2 else qCS ks j:=by
 by_cases e:p.1=j
 ·rw [if_pos e]
  simp [qCS,xC,e]
 ·rw [if_neg e]
  simp [qCS,xC,e]
theorem qDr (k:κ):∀ ks:List (κ×D),(ks.any fun p=>decide (p.1=k))=(qCS ks k).isSome
 | []=>rfl
 | p::ks=>by
  rw [uE,qCD,qDr k ks]
  by_cases e:p.1=k
  ·rw [decide_eq_true e,if_pos e]
   rfl
  ·rw [decide_eq_false e,if_neg e]
   rfl
end
section
variable {ρ:List Sl} {Φ:Rs->List Sl->Prop} {x y:Rs} {K:wG} {G F H:Hp} {σ:St} {B:List Nat} {Ψ:VE}
theorem qEk {i:Nat} {p:Pl} (hi:ρ[i]? = some (.o p)) (h:Φ (.b i) ρ):wpV (qHn i) ρ Φ:=fun G F σ H I Q q=>by
 obtain ⟨o,e,a,vs,rfl,hv⟩:=I.ok i _ hi
 exact ⟨_,e,q G H (.ref a) _ ρ h (qV.refl _) I e⟩
theorem qLi {Q:VK} (q:Fin G F σ Φ Q) (I:SI G F ρ σ H) {pl:Pl} {o:HO} {p:Addr} (hv:qGk G pl p o) (h:Φ (.o pl) ρ) (hp:H p=none):Q (.ref p) (upd H p o):=by
 refine q G _ _ _ ρ h (qV.refl _) (I.new hp) ⟨p,_,rfl,qJ,hv,I.g.free hp,I.f.free hp,?_⟩
 rintro ⟨i,ys,h1,h2⟩
 obtain ⟨o',e1,a,ws,z,h3,_⟩:=I.ok i _ h1
 rw [h2] at e1
 cases e1
 cases z
 rw [hp] at h3
 cases h3
theorem qKT (h:Φ (.o (.di [])) ρ):wpV qIS ρ Φ:=fun G F σ H I Q q p hp=>qLi (pl:=.di []) q I ⟨[],rfl,rfl⟩ h hp
theorem qKk (h:Φ (.o (.dt [])) ρ):wpV qIZ ρ Φ:=fun G F σ H I Q q p hp=>qLi (pl:=.dt []) q I ⟨[],rfl,rfl⟩ h hp
theorem qGL {p:Pl} {i:Nat} {v:V} (I:SI G F ρ σ H) (hi:ρ[i]? = some (.o p)) (ok:jb G F ρ σ H (.b i) v):∃ a o,v=.ref a/\σ[i]? = some (some (.ref a))/\H a=some o/\qGk G p a o:=by
 obtain ⟨o,e,a,vs,z,h1,h2⟩:=I.ok i _ hi
 have ok':σ[i]? = some (some v):=ok
 rw [ok'] at e
 cases e
 cases z
 exact ⟨a,vs,rfl,ok',h1,h2⟩
theorem qIA {td ty:TE} (h:wpV td ρ fun o ρ1=>∃ i,o=.b i/\wpV ty ρ1 fun y ρ2=>∃ ks k d,ρ2[i]? = some (.o (.di ks))/\rd ρ2 y=some (.int k)/\qCS ks (.inl k)=some d/\Φ (.d d) ρ2):wpV (qLc td ty) ρ Φ:=by
 intro G F σ H I Q q
 refine h G F σ H I _ fun G1 H1 w o ρ1 ⟨i,eo,h1⟩ g1 I1 ok1=>?_
 subst eo
 refine h1 G1 F σ H1 I1 _ fun G2 H2 z y ρ2 ⟨ks,k,d,e1,e2,e3,h2⟩ g2 I2 ok2=>?_
 obtain ⟨a,_,rfl,_,ha,vs,rfl,dn⟩:=qGL I2 e1 ok1
 rcases Ya (k:=xT k) dn with ⟨z1,_⟩ | ⟨d',v,z1,z2,z3⟩
 ·rw [z1] at e3; cases e3
 ·rw [z1] at e3
  cases e3
  refine ⟨a,v,rfl,.inl ⟨vs,.inl k,.inl ha,qT I2 ok2 e2,z2.symm⟩,?_⟩
  exact q G2 H2 v (.d d) ρ2 h2 (g1.trans g2) I2 z3
theorem qL3 {td ty:TE} (h:wpV ty ρ fun y ρ1=>∃ k,y=.d (.int k)/\wpV td ρ1 fun o ρ2=>∃ i ks,o=.b i/\ρ2[i]? = some (.o (.di ks))/\Φ (.d (.bl (qCS ks (.inl k)).isSome)) ρ2):wpV (qMs ty td) ρ Φ:=by
 intro G F σ H I Q q
 refine h G F σ H I _ fun G1 H1 w y ρ1 ⟨k,ey,h1⟩ g1 I1 ok1=>?_
 subst ey
 have ew:w=.int k:=ok1
 refine h1 G1 F σ H1 I1 _ fun G2 H2 z o ρ2 ⟨i,ks,eo,e1,h2⟩ g2 I2 ok2=>?_
 subst eo
 obtain ⟨a,_,rfl,_,ha,vs,rfl,dn⟩:=qGL I2 e1 ok2
 refine ⟨a,qDj vs (.inl k),rfl,.inl ⟨vs,.inl k,.inl ha,ew,rfl⟩,?_⟩
 have es:(qDj vs (xT k:Key)).isSome=(qCS ks (.inl k)).isSome:=by
  rcases Ya (k:=(xT k:Key)) dn with ⟨z1,z2⟩ | ⟨d',v,z1,z2,_⟩ <;> rw [z1,z2] <;> rfl
 rw [es]
 exact q G2 H2 _ (.d (.bl _)) ρ2 h2 (g1.trans g2) I2 rfl
theorem qK7 {td ty tv:TE} (h:wpV tv ρ fun r ρ1=>∃ d,r.it=some d/\wpV td ρ1 fun o ρ2=>∃ i,o=.b i/\wpV ty ρ2 fun y ρ3=>∃ k ks,rd ρ3 y=some (.int k)/\ρ3[i]? = some (.o (.di ks))/\ks.length<sizeLine/\Ψ.nx (ρ3.set i (.o (.di (putD ks (.inl k) d))))):wpS B (qJu td ty tv) ρ Ψ:=by
 intro G F σ H I D n rt b ct
 refine h G F σ H I _ fun G1 H1 v r ρ1 ⟨d,ed,h1⟩ g1 I1 ok1=>?_
 obtain ⟨G1',g1',I1',dn⟩:=qGV I1 ok1 ed
 refine h1 G1' F σ H1 I1' _ fun G2 H2 w o ρ2 ⟨i,eo,h2⟩ g2 I2 ok2=>?_
 subst eo
 refine h2 G2 F σ H2 I2 _ fun G3 H3 z y ρ3 ⟨k,ks,e1,e2,e3,h3⟩ g3 I3 ok3=>?_
 obtain ⟨a,_,rfl,e5,ha,vs,rfl,dk⟩:=qGL I3 e2 ok2
 refine ⟨a,_,rfl,.inl ⟨vs,.inl k,ha,qT I3 ok3 e1,by rw [Yg dk]; exact e3,rfl⟩,?_⟩
 exact n G3 σ _ _ h3 (((g1.trans g1').trans g2).trans g3) (Kp.refl _ _) (I3.putO e2 e5 ⟨_,rfl,qBm dk (Den.mono (g2.trans g3) _ _ dn)⟩)
theorem qIN {i:Nat} {xs:List D} (hi:ρ[i]? = some (.f K xs)) (h:Φ (.d (.int xs.length)) ρ):QC (fun xs H Q=>∃ p ys,xs=[.ref p]/\(SqL K H p ys\/SqT K H p ys)/\Q (.int ys.length) H) [.b i] ρ Φ:=fun G F σ H vs I h1 Q q=>by
 obtain ⟨v,rfl,ok⟩:=jT h1
 obtain ⟨o,e,a,ws,z,k1,k2⟩:=I.ok i _ hi
 have ok':σ[i]? = some (some v):=ok
 rw [ok'] at e
 cases e
 cases z
 refine ⟨a,ws,rfl,.inl (I.g.seq k1),?_⟩
 rw [k2.length]
 exact j7 q I h
theorem qL4 {i:Nat} {xs:List D} {k:Int} {d:D} (hx:ρ[i]? = some (.f K xs)) (hy:rd ρ y=some (.int k)) (hi:atI xs k=some d) (h:Φ (.d d) ρ):OpV (rIx K) (.b i) y ρ Φ:=fun G F σ H vx vy I h1 h2 Q q=>by
 obtain ⟨o,e,a,ws,z,k1,k2⟩:=I.ok i _ hx
 have ok':σ[i]? = some (some vx):=h1
 rw [ok'] at e
 cases e
 cases z
 obtain ⟨v,e1,e2⟩:=qGK k2 hi
 exact .inl ⟨a,ws,k,v,rfl,qT I (ok2 h1 h2) hy,I.g.seq k1,e1,qBj q I e2 h⟩
end
section
variable {ρ:List Sl} {Φ:Rs->List Sl->Prop} {x y:Rs} {K:wG} {B:List Nat} {Ψ:VE}
noncomputable abbrev qIC (ns:List Int):List Key:=ns.map xT
theorem qKP (ns:List Int):(qIC ns).map kV=ns.map V.int:=by
 unfold qIC
 rw [zE]
 rfl
theorem qKt {td ty tv:TE} (h:wpV tv ρ fun r ρ1=>∃ d,r.it=some d/\wpV td ρ1 fun o ρ2=>∃ i,o=.b i/\wpV ty ρ2 fun y ρ3=>∃ ns ks,rd ρ3 y=some (.tup (ns.map D.int))/\ρ3[i]? = some (.o (.dt ks))/\ks.length<sizeLine/\Ψ.nx (ρ3.set i (.o (.dt (putD ks (qIC ns) d))))):wpS B (qJu td ty tv) ρ Ψ:=by
 intro G F σ H I D n rt b ct
 refine h G F σ H I _ fun G1 H1 v r ρ1 ⟨d,ed,h1⟩ g1 I1 ok1=>?_
 obtain ⟨G1',g1',I1',dn⟩:=qGV I1 ok1 ed
 refine h1 G1' F σ H1 I1' _ fun G2 H2 w o ρ2 ⟨i,eo,h2⟩ g2 I2 ok2=>?_
 subst eo
 refine h2 G2 F σ H2 I2 _ fun G3 H3 z y ρ3 ⟨ns,ks,e1,e2,e3,h3⟩ g3 I3 ok3=>?_
 obtain ⟨a,_,rfl,e5,ha,vs,rfl,dk⟩:=qGL I3 e2 ok2
 obtain ⟨kb,us,rfl,k1,k2⟩:=jJ I3 ok3 e1
 have k3:=k2.ints_eq
 subst k3
 refine ⟨a,_,rfl,.inr ⟨vs,qIC ns,kb,ha,rfl,by rw [qKP]; exact I3.g _ _ k1,by rw [Yg dk]; exact e3,rfl⟩,?_⟩
 exact n G3 σ _ _ h3 (((g1.trans g1').trans g2).trans g3) (Kp.refl _ _) (I3.putO e2 e5 ⟨_,rfl,qBm dk (Den.mono (g2.trans g3) _ _ dn)⟩)
theorem SI.tuples {G F H:Hp} {σ:St} (I:SI G F ρ σ H) (S:Addr->Prop) (hS:∀ b,S b->∃ xs,H b=some (.tup xs)):∃ G',qV G G'/\SI G' F ρ σ H/\∀ b,S b->G' b=H b:=by
 classical
 let G':Hp:=fun b=>if S b then H b else G b
 have on:∀ b,S b->G' b=H b:=fun b hb=>if_pos hb
 have off:∀ b,¬ S b->G' b=G b:=fun b hb=>if_neg hb
 have sg:qV G G':=fun b o e=>by
  by_cases hb:S b
  ·rw [on b hb]
   exact I.g _ _ e
  ·rw [off b hb]
   exact e
 have no:∀ b,(∀ xs,H b≠some (.tup xs))->¬ S b:=fun b hb z=>let ⟨xs,e⟩:=hS b z; hb xs e
 refine ⟨G',sg,⟨fun i s e=>let ⟨o',e1,e2⟩:=I.ok i s e; ⟨o',e1,e2.up sg fun _ _ _ _ _ z=>z⟩,fun b o e=>?_,I.f,fun b o e=>?_,I.nd,fun b hb=>?_,I.ft⟩,on⟩
 ·by_cases hb:S b
  ·rw [on b hb] at e
   exact e
  ·rw [off b hb] at e
   exact I.g _ _ e
 ·rw [off b (no b fun xs z=>?_)]
  ·exact I.gf _ _ e
  ·have:=I.f _ _ e
   rw [z] at this
   cases this
   exact I.ft b xs e
 ·obtain ⟨i,p,h1,h2⟩:=id hb
  obtain ⟨o,q1,a,vs,q2,q3,q4⟩:=I.ok i _ h1
  rw [h2] at q1
  cases q1
  cases q2
  rw [off b (no b fun xs z=>?_)]
  ·exact I.out b hb
  ·rw [q3] at z
   exact q4.ntup xs (zF z)
theorem qEE {td:TE} (h:wpV td ρ fun o ρ1=>∃ i ks nss,o=.b i/\ρ1[i]? = some (.o (.dt ks))/\ks.map (·.1)=nss.map qIC/\(∀ ns∈nss,ns≠[])/\nss.length<64/\∀ nss':List (List Int),nss'.Perm nss->Φ (.l (nss'.map Qa)) ρ1):wpV (qBz td) ρ Φ:=by
 intro G F σ H I Q q
 refine h G F σ H I _ fun G1 H1 v r ρ1 ⟨i,ks,nss,er,e1,e2,e3,e4,h1⟩ g1 I1 ok1=>?_
 subst er
 obtain ⟨a,_,rfl,e5,ha,vs,rfl,dk⟩:=qGL I1 e1 ok1
 have ek:vs.map (·.1)=ks.map (·.1):=by
  clear h1 e2 e1 ha
  induction ks generalizing vs with
  | nil=>cases (show vs=[] from dk); rfl
  | cons k ks ih=>
   obtain ⟨v,r,rfl,_,d2⟩:=dk
   rw [yV,yV,ih r d2]
 refine ⟨a,vs,nss,rfl,ha,ek.trans e2,e3,e4,fun bs is l lb at_ pm hl=>?_⟩
 obtain ⟨G2,g2,I2,on⟩:=I1.tuples (fun b=>b∈bs) fun b hb=>by
  obtain ⟨j,hj⟩:=List.mem_iff_getElem?.mp hb
  exact ⟨_,at_ j b hj⟩
 have dn:qZ G2 (nss.map Qa) (bs.map V.ref):=by
  have key:∀(nss:List (List Int)) (cs:List Addr),cs.length=nss.length->(∀ j b,cs[j]? = some b->b∈bs/\H1 b=some (.tup ((nss.getD j []).map V.int)))->qZ G2 (nss.map Qa) (cs.map V.ref):=by
   intro nss
   induction nss with
   | nil=>
    intro cs hc _
    cases cs with
    | nil=>rfl
    | cons c cs=>cases hc
   | cons ns nss ih=>
    intro cs hc ha
    cases cs with
    | nil=>cases hc
    | cons c cs=>
     obtain ⟨m,e⟩:=ha 0 c rfl
     refine ⟨_,_,rfl,⟨c,ns.map V.int,rfl,by rw [on c m]; exact e,qZ.ints _ _⟩,ih cs (by simpa using hc) fun j b hj=>ha (j+1) b hj⟩
  exact key nss bs lb fun j b hj=>⟨yT hj,at_ j b hj⟩
 have lx:(bs.map V.ref).length=nss.length:=by rw [wA]; exact lb
 refine QO (q.at (g1.trans g2) fun _ _ z=>z) I2 (Yy dn is fun i hi=>?_) (h1 _ ?_) hl
 ·have:=zM.mp (pm.mem_iff.mp hi)
  omega
 ·have:=pm.map (fun i=>nss.getD i [])
  rw [jg] at this
  exact this
end
theorem qEc {ρ:List Sl} {Φ:Rs->List Sl->Prop} {i:Nat} {ks:List (List Key×D)} {nss:List (List Int)} (hi:ρ[i]? = some (.o (.dt ks))) (hk:ks.map (·.1)=nss.map qIC) (hn:∀ ns∈nss,ns≠[]) (h64:nss.length<64) (h:∀ nss':List (List Int),nss'.Perm nss->Φ (.l (nss'.map Qa)) ρ):QC qBv [.b i] ρ Φ:=fun G F σ H vs I oks Q q=>by
 obtain ⟨v,rfl,o1⟩:=jT oks
 have e:σ[i]? = some (some v):=o1
 have w:wpV (qBz (qHn i)) ρ Φ:=qEE (qEk hi ⟨i,ks,nss,rfl,hi,hk,hn,h64,h⟩)
 obtain ⟨v',e',a,kvs,ns,ex,r⟩:=w G F σ H I Q q
 rw [e] at e'
 cases e'
 exact ⟨a,kvs,ns,by rw [ex],r⟩
noncomputable def qDA:Nat->List D->List D
 | _,[]=>[]
 | k,x::xs=>.tup [.int k,x]::qDA (k+1) xs
theorem JV:∀(k:Nat) (xs:List D),(qDA k xs).length=xs.length
 | _,[]=>rfl
 | k,_::xs=>congrArg (· + 1) (JV (k+1) xs)
theorem YR:∀{k:Nat} {xs:List D} {i:Nat} {x:D},xs[i]? = some x->(qDA k xs)[i]? = some (.tup [.int ((k+i:Nat):Int),x])
 | k,[],i,x,h=>by simp at h
 | k,y::xs,0,x,h=>by cases h; rfl
 | k,y::xs,i+1,x,h=>by
  have h':xs[i]? = some x:=h
  show (qDA (k+1) xs)[i]? = _
  rw [YR h',show k+1+i=k+(i+1) by omega]
theorem qJE {l:Addr} {us:List V} {xs:List D} {G F:Hp} (h1:G l=some (.tup us)) (h2:qZ G xs us):Src (Ite l) G F (qDA 0 xs):=by
 intro i G' H' g gh _
 have e1:H' l=some (.tup us):=gh _ _ (g _ _ h1)
 have a1:=h2.length
 rw [JV]
 refine ⟨fun hi=>?_,fun hi=>⟨us,e1,by omega⟩⟩
 have i1:i<us.length:=by omega
 refine ⟨⟨us,us[i],e1,wC i1⟩,fun x H2 y=>?_⟩
 obtain ⟨T,rfl,hT,hall⟩:=y
 have hH:=hall us _ e1 (wC i1)
 obtain ⟨d1,p1,p2⟩:=h2.get (wC i1)
 have gT:G' T=none:=gh.free hT
 refine ⟨_,YR p1,.inr ⟨T,_,hT,hH,T,_,rfl,qJ,?_⟩⟩
 rw [ZH]
 exact ⟨_,_,rfl,rfl,_,_,rfl,Den.mono (g.trans (qV.new gT)) _ _ p2,rfl⟩
theorem qLz {ρ:List Sl} {Φ:List D->List Sl->Prop} {ta:TA} (h:wpA ta ρ fun rs ρ1=>∃ xs,(∃ r,rs=[r]/\rd ρ1 r=some (.tup xs))/\Φ (qDA 0 xs) ρ1):wpI (qMm ta) ρ Φ:=by
 intro G F σ H I R q
 refine h G F σ H I _ fun G1 H1 vs rs ρ1 ⟨xs,⟨x,er,ex⟩,h1⟩ g1 I1 oks=>?_
 subst er
 obtain ⟨v,rfl,ok⟩:=jT oks
 obtain ⟨a,us,rfl,s1,d1⟩:=jJ I1 ok ex
 exact ⟨a,rfl,⟨us,I1.g _ _ s1⟩,q G1 H1 _ _ ρ1 h1 g1 I1 (qJE s1 d1)⟩
theorem qLK {ρ:List Sl} {Φ:Rs->List Sl->Prop} {x:Rs} {bs:List Bool} (hx:rdE ρ x=some (.lst (bs.map D.bl))) (h:Φ (.d (.bl (bs.any id))) ρ):QC qKD [x] ρ Φ:=fun G F σ H vs I h1 Q q=>by
 obtain ⟨v,rfl,ok⟩:=jT h1
 obtain ⟨a,ws,rfl,s1,d1⟩:=(Q6 I ok hx).2.2 _ rfl
 rw [qEp d1] at s1
 exact ⟨a,bs,rfl,s1,qa q I h⟩
noncomputable def jN (t u:TS):TS:=Qm t u
section
variable {B:List Nat} {ρ:List Sl} {Ψ:VE}
theorem qKx {t u:TS} (h:wpS B t ρ { Ψ with nx:=fun ρ1=>wpS B u ρ1 Ψ }):wpS B (jN t u) ρ Ψ:=Yz h
theorem qLx {t:TS} (h:let Φ:=Ψ; wpS B t ρ Φ):wpS B t ρ Ψ:=h
theorem nm2 {t1 t2:TS} (h:let Φ:=Ψ; let y2:=t2; let y1:=jN t1 y2; wpS B y1 ρ Φ):wpS B (Qm t1 t2) ρ Ψ:=h
theorem nm3 {t1 t2 t3:TS} (h:let Φ:=Ψ; let y3:=t3; let y2:=jN t2 y3; let y1:=jN t1 y2; wpS B y1 ρ Φ):wpS B (Qm t1 (Qm t2 t3)) ρ Ψ:=h
theorem nm5 {t1 t2 t3 t4 t5:TS} (h:let Φ:=Ψ; let y5:=t5; let y4:=jN t4 y5; let y3:=jN t3 y4; let y2:=jN t2 y3; let y1:=jN t1 y2; wpS B y1 ρ Φ):wpS B (Qm t1 (Qm t2 (Qm t3 (Qm t4 t5)))) ρ Ψ:=h
theorem qNN {t1 t2 t3 t4 t5 t6 t7 t8 t9 t10 t11 t12:TS} (h:let Φ:=Ψ; let y12:=t12; let y11:=jN t11 y12; let y10:=jN t10 y11; let y9:=jN t9 y10; let y8:=jN t8 y9; let y7:=jN t7 y8; let y6:=jN t6 y7; let y5:=jN t5 y6; let y4:=jN t4 y5; let y3:=jN t3 y4; let y2:=jN t2 y3; let y1:=jN t1 y2; wpS B y1 ρ Φ):wpS B (Qm t1 (Qm t2 (Qm t3 (Qm t4 (Qm t5 (Qm t6 (Qm t7 (Qm t8 (Qm t9 (Qm t10 (Qm t11 t12))))))))))) ρ Ψ:=h
theorem nf1 {t1:TS} {wi:TI} {g:TG} (h:let Φ:=Ψ; let y1:=t1; wpS B (qIF wi g y1) ρ Φ):wpS B (qIF wi g t1) ρ Ψ:=h
theorem nf3 {t1 t2 t3:TS} {wi:TI} {g:TG} (h:let Φ:=Ψ; let y3:=t3; let y2:=jN t2 y3; let y1:=jN t1 y2; wpS B (qIF wi g y1) ρ Φ):wpS B (qIF wi g (Qm t1 (Qm t2 t3))) ρ Ψ:=h
theorem qNQ {t1 t2 t3 t4 t5 t6 t7 t8 t9 t10 t11 t12:TS} {wi:TI} {g:TG} (h:let Φ:=Ψ; let y12:=t12; let y11:=jN t11 y12; let y10:=jN t10 y11; let y9:=jN t9 y10; let y8:=jN t8 y9; let y7:=jN t7 y8; let y6:=jN t6 y7; let y5:=jN t5 y6; let y4:=jN t4 y5; let y3:=jN t3 y4; let y2:=jN t2 y3; let y1:=jN t1 y2; wpS B (qIF wi g y1) ρ Φ):wpS B (qIF wi g (Qm t1 (Qm t2 (Qm t3 (Qm t4 (Qm t5 (Qm t6 (Qm t7 (Qm t8 (Qm t9 (Qm t10 (Qm t11 t12)))))))))))) ρ Ψ:=h
noncomputable def Le:List Sl->List Sl->Prop
 | [],[]=>True
 | _::ρ,.u::τ=>Le ρ τ
 | s::ρ,.d x::τ=>s=.d x/\Le ρ τ
 | s::ρ,.o x::τ=>s=.o x/\Le ρ τ
 | s::ρ,.f K x::τ=>s=.f K x/\Le ρ τ
 | _,_=>False
theorem Le.at_:∀{ρ τ:List Sl},Le ρ τ->∀(i:Nat) (s:Sl),τ[i]? = some s->(s=.u/\∃ t,ρ[i]? = some t)\/ρ[i]? = some s
 | [],[],_,i,s,e=>by cases e
 | _::ρ,.u::τ,h,0,s,e=>.inl ⟨(zF e).symm,_,rfl⟩
 | _::ρ,.u::τ,h,i+1,s,e=>Le.at_ (ρ:=ρ) (τ:=τ) h i s e
 | _::ρ,.d x::τ,h,0,s,e=>.inr ((congrArg some h.1).trans e)
 | _::ρ,.d x::τ,h,i+1,s,e=>Le.at_ (ρ:=ρ) (τ:=τ) h.2 i s e
 | _::ρ,.o x::τ,h,0,s,e=>.inr ((congrArg some h.1).trans e)
 | _::ρ,.o x::τ,h,i+1,s,e=>Le.at_ (ρ:=ρ) (τ:=τ) h.2 i s e
 | _::ρ,.f K x::τ,h,0,s,e=>.inr ((congrArg some h.1).trans e)
 | _::ρ,.f K x::τ,h,i+1,s,e=>Le.at_ (ρ:=ρ) (τ:=τ) h.2 i s e
theorem SI.le {G F H:Hp} {σ:St} {τ:List Sl} (l:Le ρ τ) (I:SI G F ρ σ H):SI G F τ σ H:=by
 have own:∀{i:Nat} {p:Pl},τ[i]? = some (.o p)->ρ[i]? = some (.o p):=fun e=>(l.at_ _ _ e).resolve_left fun z=>by cases z.1
 refine ⟨fun i s e=>?_,I.g,I.f,I.gf,fun i j a xs ys h1 h2=>I.nd i j a xs ys (own h1) (own h2),fun a ⟨i,xs,h1,h2⟩=>I.out a ⟨i,xs,own h1,h2⟩,I.ft⟩
 rcases l.at_ i s e with ⟨rfl,t,z⟩ | z
 ·obtain ⟨o,h1,_⟩:=I.ok i t z
  exact ⟨o,h1,trivial⟩
 ·exact I.ok i s z
theorem qIs {t:TS} {τ:List Sl} (l:Le ρ τ) (h:wpS B t τ Ψ):wpS B t ρ Ψ:=fun G F σ H I=>h G F σ H (I.le l)
theorem qHj {g:TG} {d:D} {τ:List Sl} {Φ:List Sl->Prop} (l:Le ρ τ) (h:wpG B g (.d d) τ Φ):wpG B g (.d d) ρ Φ:=fun G F σ H v I ok=>h G F σ H v (I.le l) ok
end
end L4
namespace L2
open PySem
noncomputable def Has (P:Program) (w:World) (K:wG) (mg:Str->Option Value) (base:Heap) (x:Str) (st:Stmt) (ps:List Str) (k:Nat) (sp:Sp):Prop:=∃ f fd,YC K mg x st ps f fd/\jo P w K mg base CX0 k f fd ps sp
section
variable {X:Cx} {x:Str} {pos:Pos}
theorem qx {st:Stmt} {ps:List Str} {j k:Nat} {sp:Sp} {e:Expr} {es:List Expr} {t:TA} {p:Pos} (h:Has X.prog X.w X.K X.mg X.base x st ps k sp) (hr:Y0 j X.A) (ha:PA X (e::es) t) (hk:k<=j:=by decide) (hg:Gl X x:=by rfl) (hdb:(x == ("__debug__" : Str))=false:=by decide) (he:starEach (e::es) X.env=(false,eval e X.env)::starEach es X.env:=by rfl) (hpl:(backTo pos (starEach es X.env)).any (·.1)=false:=by rfl):PE X (.Call (.Name x p) (e::es) [] pos) (qHA sp [] E0 t):=
 let ⟨_,_,D,F⟩:=h
 qJg F (hr.mono hk) hg D.mg D.fn.kp D.bd .nil qMC ha hdb he hpl
theorem jD {K:wG} {a b:Expr} {ta tb:TE} (ha:PE X a ta) (hb:PE X b tb) (hK:X.K=K:=by rfl) (hs:qEj b:=by exact fun _ _=>rfl):PE X (.Subscript a b pos) (tOp (rIx K) ta tb):=qMW (ixK hK) ha hb hs
theorem QJ (i:Nat) {P:List Str} {sc:Scope} {e:Expr} {te:TE} {pos':Pos} (S:qR X.N P sc) (he:PE X e te) (hi:X.N[i]? = some x:=by rfl) (hx:Loc X.env.scope x:=by first | exact .inl rfl | exact .inr rfl) (hs:swapsWith e (some (.Name x pos')) pos.line X.env=pure false:=by rfl) (hf:X.fn x=true\/X.env.scope.names.lookup x=some .local:=by first | exact .inl rfl | exact .inr rfl | assumption):PS X (.Assign [.Name x pos'] e pos) (qJz te (qDG i)):=qF0 S.nd hi hx he hs hf
theorem JF (i:Nat) {P:List Str} {sc:Scope} (S:qR X.N P sc) (hi:X.N[i]? = some x:=by rfl) (hx:Loc X.env.scope x:=by first | exact .inl rfl | exact .inr rfl) (hf:X.fn x=true\/X.env.scope.names.lookup x=some .local:=by first | exact .inl rfl | exact .inr rfl | assumption):PG X (.Name x pos) (qDG i):=qEv S.nd hi hx hf
theorem JG (i:Nat) {N:List Str} {scope:Scope} {cl:List (Str×Addr)} {C:Addr} {s0:Shared} {H0:Hp} {fp:List Addr} (hi:N[i]? = some x:=by rfl) (hN:N.Nodup:=by decide +kernel) (hx:Loc (qd X N scope cl C s0 H0 fp).env.scope x:=by first | exact .inl rfl | exact .inr rfl) (hf:(qd X N scope cl C s0 H0 fp).fn x=true\/(qd X N scope cl C s0 H0 fp).env.scope.names.lookup x=some .local:=by first | exact .inl rfl | exact .inr rfl | assumption):PG (qd X N scope cl C s0 H0 fp) (.Name x pos) (qDG i):=qEv (X:=qd X N scope cl C s0 H0 fp) hN hi hx hf
end
end L2
namespace L4
theorem ite_no {a b:Prop} (h:b):if false=true then a else b:=h
end L4
namespace L2
open PySem
end L2
namespace PySem.W.Fast
def tw5617944903659168864:=0
def tw15678437149165717632:=0
def tw15949382424430568576:=0
def tw5356674326041711872:=0
def tw7360665528041294208:=0
def tw13625865659815852480:=0
def tw15118440410596341664:=0
def tw17592327630692542400:=0
def tw14090414662729427105:=0
def tw1720680135389756609:=0
def tw822470514647404929:=0
def tw6105193061763447329:=0
def tw1265305966262993505:=0
def tw13118327082571371297:=0
def tw12403166325567942465:=0
def tw14339960770936524641:=0
def tw2134356946368066529:=0
def tw17079733489120735618:=0
def tw1495827312289893858:=0
def tw13163504521378039298:=0
def tw4923443629833425698:=0
def tw13284312190226041666:=0
def tw3016466273128878115:=0
def tw16302319951849376099:=0
def tw12687688773245499747:=0
def tw4604978142275945155:=0
def tw3455718646840050403:=0
def tw1218367890733606659:=0
def tw818673334788804451:=0
def tw15999359668558102371:=0
def tw2865578247383914371:=0
def tw11676666783138164836:=0
def tw5248375910183329252:=0
def tw2570320415490043588:=0
def tw821484454851889028:=0
def tw4361485199253965732:=0
def tw8685554880337905861:=0
def tw8502513941638666693:=0
def tw3769399996617322021:=0
def tw16562360322558508613:=0
def tw13883635363160638245:=0
def tw4839854774252899205:=0
def tw4597277456022853638:=0
def tw14733595013520943110:=0
def tw5427988238262347910:=0
def tw15742519329063788710:=0
def tw13217182937966536902:=0
def tw339470443881551046:=0
def tw9055558890533596774:=0
def tw11795370079945399014:=0
def tw1977213570050092870:=0
def tw12545850929704756134:=0
def tw8970950465153770567:=0
def tw8062455712978776391:=0
def tw17078178272593379719:=0
def tw9939268270162587207:=0
def tw9246918799217597031:=0
def tw11038667729815292519:=0
def tw5816719225964077799:=0
def tw14936236257906750215:=0
def tw2538559675078801223:=0
def tw14656176014669317384:=0
def tw14790161144461157896:=0
def tw16488049802398904968:=0
def tw12361724704499468264:=0
def tw15386299407274604329:=0
def tw5062140598039409609:=0
def tw11415017792458198122:=0
def tw15357179942440750282:=0
def tw2245421011635861706:=0
def tw6524258088243454282:=0
def tw4491792402896018858:=0
def tw16948471865997355626:=0
def tw8002125110776897386:=0
def tw16620272717805708170:=0
def tw4672063999751668747:=0
def tw58162958273053931:=0
def tw16241182857732209899:=0
def tw4436527739520431371:=0
def tw11755760812171158251:=0
def tw11143005022413846443:=0
def tw13762471509010960716:=0
def tw8497684423795789132:=0
def tw10444315782473496044:=0
def tw7649225238162894604:=0
def tw3636474442479889260:=0
def tw3362885424575376268:=0
def tw12378986701966922732:=0
def tw15684915061630644461:=0
def tw2809518296631892461:=0
def tw10123354670799733421:=0
def tw2915307485323149550:=0
def tw6636189949865877774:=0
def tw12369632918523705806:=0
def tw9892949230687686158:=0
def tw14752315569809450606:=0
def tw2459333426418680654:=0
def tw16074289082263343279:=0
def tw15122971802489441935:=0
def tw13986745507005323055:=0
def tw3718432729185710959:=0
def tw12152930236567535503:=0
def tw14085663834344547247:=0
def tw9793108004122954896:=0
def tw16939646148624216240:=0
def tw17746483588508068080:=0
def tw8158356795432625456:=0
def tw17564448024818302384:=0
def tw14956483793495564752:=0
def tw17536706565808444912:=0
def tw7066518107857698480:=0
def tw15161975193989018416:=0
def tw10186990513740613488:=0
def tw6407279345084122032:=0
def tw11966979168493323345:=0
def tw3550741141223985393:=0
def tw15177467157312910609:=0
def tw1744307004591939921:=0
def tw12302622401533365585:=0
def tw11521267978973220177:=0
def tw14310188637875380977:=0
def tw3888628724119454738:=0
def tw9397415556825698546:=0
def tw8192624118231235154:=0
def tw18170923126165537394:=0
def tw15760991705266996914:=0
def tw10082697326252914546:=0
def tw5047352771654534098:=0
def tw4677906732841792691:=0
def tw13768245963478429875:=0
def tw5410727465291513267:=0
def tw1754812401151153811:=0
def tw13202320989723329267:=0
def tw2452981593578106675:=0
def tw17072179099863849875:=0
def tw16547075405897239668:=0
def tw12440151431097529876:=0
def tw10404432682708365365:=0
def tw13120996455767810165:=0
def tw3105124609581284501:=0
def tw4364610582183183573:=0
def tw11840280695697645813:=0
def tw8178624225276466581:=0
def tw13171773220030171765:=0
def tw17702779512930233173:=0
def tw6952697914137611253:=0
def tw9450013256797896790:=0
def tw14866361222912722102:=0
def tw16329580194471347382:=0
def tw359355549966744790:=0
def tw8150540130426121590:=0
def tw10493777401539498390:=0
def tw4883678644813788662:=0
def tw1633537058963236502:=0
def tw14394478118397580982:=0
def tw506680621322019574:=0
def tw865901203315045174:=0
def tw14880872506900025399:=0
def tw17367786822520332631:=0
def tw4185809373622386103:=0
def tw1666932982014483063:=0
def tw14231104279017024215:=0
def tw10820622433528878871:=0
def tw5937357632381773848:=0
def tw12680504654849407000:=0
def tw4260307141297380472:=0
def tw10226704304315512056:=0
def tw17292069251114597912:=0
def tw7421003619218425881:=0
def tw15751053696735384249:=0
def tw840371101773526074:=0
def tw1735347680464312474:=0
def tw3490595848760843482:=0
def tw13389770762556671482:=0
def tw2575107940018883322:=0
def tw15672631618200265498:=0
def tw15175800138954062746:=0
def tw1104683949693384731:=0
def tw16069191054650201403:=0
def tw4890730535243782523:=0
def tw6379459269058115099:=0
def tw762347362748855995:=0
def tw12527007852831326939:=0
def tw3186320023570904827:=0
def tw11705985660658369275:=0
def tw5626668512857415483:=0
def tw3343343782136916891:=0
def tw6435308695909591003:=0
def tw4281903418424237180:=0
def tw650374492760973500:=0
def tw15761057024456366364:=0
def tw16188113229041876796:=0
def tw15625929505088761885:=0
def tw4700942095702199453:=0
def tw7530579724317146461:=0
def tw15437476368786791901:=0
def tw10465475954397856605:=0
def tw1799390246164930429:=0
def tw16730081477906281373:=0
def tw15597827667359535166:=0
def tw2466608152201184382:=0
def tw8354434248030314974:=0
def tw176549386997703262:=0
def tw9748364906565586590:=0
def tw14575263351797591806:=0
def tw13061414292835092286:=0
def tw2163200822372205502:=0
def tw7285079161546580031:=0
def tw6394431349184194783:=0
def tw1789470181707061503:=0
def tw18298657811744905567:=0
def tw7883346876532776447:=0
def tw7276135266635521663:=0
def tw9699977081487437695:=0
def tw17502088161198752671:=0
end PySem.W.Fast
def PySem.W.Fast.tw7202298336614726477:PySem.Program:=PySem.Challenge.pw_rillturn_k15_fewest_hues_judged
theorem PySem.W.Fast.te7202298336614726477:PySem.Challenge.pw_rillturn_k15_fewest_hues_judged=PySem.W.Fast.tw7202298336614726477:=rfl
namespace K15
open PySem L2 L4
local macro_rules | `(tactic| walk_at "nm")=>`(tactic| first
 | ((with_reducible refine qNN ?_); intro _ _ _ _ _ _ _ _ _ _ _ _ _)
 | ((with_reducible refine nm5 ?_); intro _ _ _ _ _ _)
 | ((with_reducible refine nm3 ?_); intro _ _ _ _)
 | ((with_reducible refine nm2 ?_); intro _ _ _))
local macro_rules | `(tactic| walk_at "nf")=>`(tactic| first
 | ((with_reducible refine qNQ ?_); intro _ _ _ _ _ _ _ _ _ _ _ _ _)
 | ((with_reducible refine nf3 ?_); intro _ _ _ _)
 | ((with_reducible refine nf1 ?_); intro _ _))
local macro_rules | `(tactic| walk_at "ps")=>`(tactic| try ((with_reducible refine qLx ?_); intro _))
local macro_rules | `(tactic| walk_at "rf")=>`(tactic| first | rfl | decide)
local macro_rules | `(tactic| walk_at "op")=>`(tactic| first
 | ((with_reducible refine' qMq ?h1 ?h2 ?_); (case h1=>rfl); (case h2=>rfl))
 | ((with_reducible refine' OpV.l (qMq ?h1 ?h2 ?_)); (case h1=>rfl); (case h2=>rfl))
 | ((with_reducible refine' qM3 ?h1 ?h2 ?_); (case h1=>rfl); (case h2=>rfl))
 | ((with_reducible refine' OpV.l (qM3 ?h1 ?h2 ?_)); (case h1=>rfl); (case h2=>rfl))
 | ((with_reducible refine' OpV.l (qMN ?h1 ?h2 ?_)); (case h1=>rfl); (case h2=>rfl))
 | ((with_reducible refine' OpV.l (qMJ ?h1 ?h2 ?_)); (case h1=>rfl); (case h2=>rfl))
 | ((with_reducible refine' qMX ?h1 ?h2 ?_); (case h1=>rfl); (case h2=>rfl))
 | ((with_reducible refine' qI1 ?h1 ?h2 ?h3 ?_); (case h1=>rfl); (case h2=>rfl); (case h3=>first | exact qAw _ | assumption))
 | ((with_reducible refine' OpV.r (OpV.l (Jz ?h1 ?h2 ?h3 ?_))); (case h1=>rfl); (case h2=>rfl); (case h3=>exact szl (zG rfl)))
 | ((with_reducible refine' qKl ?h1 ?h2 ?h3 ?_); (case h1=>rfl); (case h2=>rfl); (case h3=>rfl))
 | ((with_reducible refine' YO ?h1 ?h2 ?h3 ?_); (case h1=>rfl); (case h2=>rfl); (case h3=>rfl))
 | ((with_reducible refine' YO ?h1 ?h2 ?h3 ?_); (case h1=>rfl); (case h2=>rfl); (case h3=>assumption))
 | ((with_reducible refine' qKl ?h1 ?h2 ?h3 ?_); (case h1=>rfl); (case h2=>rfl); (case h3=>assumption)))
local macro_rules | `(tactic| walk_at "ca")=>`(tactic| first
 | ((with_reducible refine' u_i ?h1 ?_); (case h1=>rfl))
 | ((with_reducible refine' qNE ?h1 ?h2 ?_); (case h1=>rfl); (case h2=>rfl))
 | ((with_reducible refine' qLb ?h1 ?_); (case h1=>rfl))
 | ((with_reducible refine' qJ6 ?h1 ?_); (case h1=>rfl))
 | ((with_reducible refine' qHb ?h1 ?_); (case h1=>rfl))
 | ((with_reducible refine' qIr ?h1 ?_); (case h1=>rfl))
 | ((with_reducible refine' qI3 ?h1 ?_); (case h1=>rfl))
 | ((with_reducible refine' J9 ?h1 ?h2 ?_); (case h1=>rfl); (case h2=>rfl)))
local macro_rules | `(tactic| walk_at "v1")=>`(tactic| first
 | with_reducible refine qNH ?_
 | with_reducible refine qME ?_
 | ((with_reducible refine' qAf ?h ?_); (case h=>rfl))
 | ((with_reducible refine' qJj ?h ?_); (case h=>rfl))
 | ((with_reducible refine' qJC ?h ?_); (case h=>rfl))
 | ((with_reducible refine' qEk ?h ?_); (case h=>rfl))
 | with_reducible refine qJi ?_
 | with_reducible refine qNT ?_
 | with_reducible refine qNM ?_
 | (refine ⟨⟨rfl,_,(rfl:rd _ _=some (D.lst _))⟩,?_⟩)
 | with_reducible refine qLC ?_
 | with_reducible refine qMV ?_
 | with_reducible refine qMd ?_
 | with_reducible refine qMM ?_
 | with_reducible refine qM8 ?_
 | with_reducible refine qLs ?_
 | with_reducible refine qMc ?_
 | with_reducible refine qND ?_
 | with_reducible refine qLL ?_
 | with_reducible refine qK3 ?_
 | with_reducible refine qM6 ?_
 | with_reducible refine v_not ?_
 | with_reducible refine qH8 ?_
 | with_reducible refine t_B ?_
 | with_reducible refine qMU ?_
 | with_reducible refine QG ?_
 | with_reducible refine qLv ?_
 | with_reducible refine qKx ?_
 | walk_at "nm"
 | with_reducible refine Yz ?_
 | with_reducible refine qA1 ?_
 | ((with_reducible refine' qm ?h ?_); (case h=>rfl))
 | ((with_reducible refine' qB3 ?h1 ?h2 ?_); (case h1=>rfl); (case h2=>rfl))
 | with_reducible refine Yp ?_
 | with_reducible refine qL7 ?_
 | (refine ⟨_,(rfl:Rs.it _=some _),?_⟩)
 | (refine ⟨_,(rfl:_=Rs.b _),?_⟩)
 | with_reducible refine qFS ?_
 | with_reducible refine Y7 ?_
 | with_reducible refine qKB ?_
 | with_reducible refine Yv ?_
 | with_reducible refine qw ?_
 | walk_at "op"
 | walk_at "ca"
 | (refine ⟨_,(rfl:rd _ _=some _),?_⟩)
 | (refine ⟨_,_,(rfl:rd _ _=some _),(rfl:qLq _=some _),?_⟩)
 | (refine ⟨_,(rfl:its _=some _),szl (zG rfl),?_⟩))
local macro_rules | `(tactic| walk_at "v")=>`(tactic| (repeat (walk_at "v1")))
local macro_rules | `(tactic| walk_at "st")=>`(tactic| try dsimp only [zS,uL,Nat.reduceAdd,Nat.reduceSub,wX,List.cons_append,uK,List.set,Y2,WV,Rs.sl,wb,L4.outer,Q4,List.drop,inner,List.getElem?_cons_zero,fY,List.headD,List.tail,qHK,Option.getD])
local macro_rules | `(tactic| walk_at "call")=>`(tactic| ((with_reducible refine qX ?_); walk_at "v"; (refine ⟨of_decide_eq_true rfl,?_⟩); walk_at "st"))
local macro_rules | `(tactic| walk_at "J")=>`(tactic| first
 | ((with_reducible refine' qJ9 ?h1 ?h2 ?_); (case h1=>(walk_at "vJ"; exact ⟨rfl,rfl⟩)); (case h2=>(intro _; walk_at "vJ"; exact ⟨rfl,rfl⟩)))
 | ((with_reducible refine' qH7 ?h1 ?h2 ?h3 ?h4 ?h5 ?_); (case h1=>(walk_at "vJ"; exact ⟨rfl,rfl⟩)); (case h2=>(walk_at "vJ"; exact ⟨rfl,rfl⟩)); (case h3=>(walk_at "vJ"; exact ⟨rfl,rfl⟩)); (case h4=>(intro _; walk_at "vJ"; exact ⟨rfl,rfl⟩)); (case h5=>(intro _; walk_at "vJ"; exact ⟨rfl,rfl⟩)))
 | ((with_reducible refine' qGg ?h1 ?h2 ?h3 ?h4 ?h5 ?h6 ?h7 ?_); (case h1=>(walk_at "vJ"; exact ⟨rfl,rfl⟩)); (case h2=>(walk_at "vJ"; exact ⟨rfl,rfl⟩)); (case h3=>(walk_at "vJ"; exact ⟨rfl,rfl⟩)); (case h4=>(intro _; walk_at "vJ"; exact ⟨rfl,rfl⟩)); (case h5=>(intro _; walk_at "vJ"; exact ⟨rfl,rfl⟩)); (case h6=>(intro _; walk_at "vJ"; exact ⟨rfl,rfl⟩)); (case h7=>(intro _; walk_at "vJ"; exact ⟨rfl,rfl⟩))))
local macro_rules | `(tactic| walk_at "vJ")=>`(tactic| (repeat (first | walk_at "v1" | walk_at "J")))
local macro_rules | `(tactic| walk_at "sc")=>`(tactic| exact ⟨rfl,rfl,rfl,by decide +kernel,rfl,by decide +kernel,by decide +kernel⟩)
local macro_rules | `(tactic| walk_at "cs")=>`(tactic| exact ⟨rfl,by decide +kernel,by decide +kernel,by repeat' (first | exact trivial | refine ⟨⟨rfl,rfl,by first | exact Or.inl rfl | exact Or.inr rfl⟩,?_⟩),by decide +kernel⟩)
local macro_rules | `(tactic| walk_at "vc")=>`(tactic| (walk_at "v"; walk_at "call"))
local macro_rules | `(tactic| walk_at "sv")=>`(tactic| (walk_at "st"; walk_at "v"))
def top (i:Nat):Stmt:=PySem.Challenge.pw_rillturn_k15_fewest_hues_judged.main.body.getD i (.Pass ⟨0,0,0,0⟩)
structure Txt (mg:Str->Option Value):Prop where
 n_min:mg "min" = none
 n_max:mg "max" = none
 n_tuple:mg "tuple" = none
 n_range:mg "range" = none
 n_len:mg "len" = none
 n_zip:mg "zip" = none
 n_int:mg "int" = none
 n_list:mg "list" = none
 n_sorted:mg "sorted" = none
 n_all:mg "all" = none
 n_any:mg "any" = none
 n_isinstance:mg "isinstance" = none
 n_bool:mg "bool" = none
 n_set:mg "set" = none
 n_enumerate:mg "enumerate" = none
abbrev Tie:=Int×Int
def qu (t:Tie):D:=.tup [.int t.1,.int t.2]
def QP (n:Nat) (ts:List Tie):D:=.tup [.int n,.tup (ts.map qu)]
abbrev qI (ns:List Int):List D:=ns.map D.int
theorem ofd {p:Prop} {i:Decidable p} (h:@decide p i=true):p:=@of_decide_eq_true p i h
theorem sz2 {a:Nat} (h:a<=1000):a<=sizeLine:=zC h (by rw [vG]; decide)
def jZ:D->Bool
 | .int _=>true
 | _=>false
def isTup:D->Bool
 | .tup _=>true
 | _=>false
def qBV:PV:=fun as Φ=>∃ d:D,as=[.d d]/\Φ (.d (.bl (jZ d))) as
def qE9:D->Int
 | .int i=>i
 | _=>0
theorem qFj {d:D} (h:jZ d=true):d=.int (qE9 d):=by
 cases d with
 | int i=>rfl
 | _=>cases h
def qMn (f:List D->Bool):D->Bool
 | .tup l=>f l
 | _=>false
theorem qIm {f:List D->Bool} {d:D} (h:qEn d=false):qMn f d=false:=by cases d <;> first | rfl | cases h
theorem jH {b:Bool} (h:(!b)=true):b=false:=by cases b <;> first | rfl | cases h
theorem jc {b:Bool} (h:¬ (!b)=true):b=true:=by cases b <;> first | rfl | exact absurd rfl h
def mk (a b:Int):Tie:=(if b<a then b else a,if b > a then b else a)
theorem Yc (a b:Tie):dEq (qu a) (qu b)=decide (a=b):=by
 obtain ⟨a1,a2⟩:=a
 obtain ⟨b1,b2⟩:=b
 show (decide (a1=b1) && (decide (a2=b2) && true))=_
 rw [UQ]
 by_cases h1:a1=b1
 ·by_cases h2:a2=b2
  ·simp [h1,h2]
  ·simp [h1,h2]
 ·simp [h1]
section
variable {P:Program} {w:World} {K:wG} {mg:Str->Option Value} {base:Heap} {f:Addr} {fd:FuncData}
theorem qDD:qR ["thing"] ["thing"] (qH (top 1)):=by walk_at "sc"
theorem qC9 (F:Fun K "is_whole" "is_whole" (top 1) f fd) (T:Txt mg):jo P w K mg base CX0 1 f fd ["thing"] (spV qBV):=by
 refine jR F qDD [0] (fun as Φ h=>?_) (fun cdv A outer s H E hr=>?_)
 ·obtain ⟨d,rfl,_⟩:=h
  rfl
 ·have hu:=hr.units
  refine ⟨_,(qG (qP (Qw (qF (JK (K:=K) rfl) (by rfl) T.n_isinstance vI (qA (pv 0) (qA (JJ (v:=.ty "int") (by rfl) T.n_int PyProof.Rows.boot_int rfl) qB))) (Qq (qHa (K:=K) rfl (qF (JK (K:=K) rfl) (by rfl) T.n_isinstance vI (qA (pv 0) (qA (JJ (v:=.ty "bool") (by rfl) T.n_bool PyProof.Rows.boot_bool rfl) qB)))))))),?_⟩
  rintro as Φ ⟨d,rfl,k⟩
  walk_at "sv"
  refine v_and ?_
  walk_at "v"
  refine J9 rfl (qJl K d) ?_
  walk_at "v"
  refine QH (fun h1=>?_) (fun h1=>?_)
  ·walk_at "v"
   refine J9 rfl (qGu K d) ?_
   walk_at "v"
   have e:(!qGX d)=jZ d:=by cases d <;> first | rfl | cases h1
   rw [e]
   exact ⟨⟨_,rfl⟩,k⟩
  ·have e:jZ d=false:=by cases d <;> first | rfl | exact absurd rfl h1
   rw [e] at k
   exact ⟨⟨_,rfl⟩,k⟩
def qe (q:Int×Int×Int):List D:=[.int q.1,.int q.2.1,.int q.2.2]
def qLB:PV:=fun as Φ=>∃ c:Int,as=[.d (.int c)]/\∀ q,Φ (.l (qe q)) as
def YL:PV:=fun as Φ=>∃(q:Int×Int×Int) (b:Int),as=[.l (qe q),.d (.int b)]/\0<b/\b<1073741824/\∀ r q',0<=r->r<b->Φ (.d (.int r)) [.l (qe q'),.d (.int b)]
theorem qDC:qR ["cell"] ["cell"] (qH (top 20)):=by walk_at "sc"
theorem qC2 (F:Fun K "_law_dig" "_law_dig" (top 20) f fd) (T:Txt mg):jo P w K mg base CX0 1 f fd ["cell"] (spV qLB):=by
 refine jR F qDC [0] (fun as Φ h=>?_) (fun cdv A outer s H E hr=>?_)
 ·obtain ⟨c,rfl,_⟩:=h
  rfl
 ·have hu:=hr.units
  refine ⟨_,(qG (qP (jM (qA (qF (j9 rfl) (by rfl) T.n_max vD (qA qC (qA (qQ Jb (pv 0) (qQ qCE qC qC)) qB))) (qA (qQ JS (pv 0) (qQ qCE qC qC)) (qA qC qB)))))),?_⟩
  rintro as Φ ⟨c,rfl,k⟩
  walk_at "sv"
  refine Ye rfl rfl ⟨by decide,by decide,by decide⟩ ?_
  walk_at "v"
  refine Ye rfl rfl ⟨by decide,by decide,by decide⟩ ?_
  refine Ye rfl rfl (by show (0:Int)<_; decide) ?_
  walk_at "v"
  exact ⟨⟨_,rfl⟩,k (_,_,_)⟩
theorem QE:qR ["pool","base","digit","mixed","stir"] ["pool","base"] (qH (top 21)):=by walk_at "sc"
theorem qCI (F:Fun K "_law_next" "_law_next" (top 21) f fd) (T:Txt mg):jo P w K mg base CX0 1 f fd ["pool","base"] (spV YL):=by
 refine jR F QE [0,1] (fun as Φ h=>?_) (fun cdv A outer s H E hr=>?_)
 ·obtain ⟨q,b,rfl,_⟩:=h
  rfl
 ·have hu:=hr.units
  refine ⟨_,(qD (jm (qO qC3 (jD (pv 0) qC) qC (qY _))
   (qD (QJ 2 QE (qQ JS (jD (pv 0) qC) (pv 1)))
    (qD (JC (qQ qGb (jD (pv 0) qC) (pv 1)) (qFt (pv 0) qC set_list))
    (qG (qP (pv 2)))))
   qi)
   (qD (JC (qQ (j4 (K:=K) rfl) (jD (pv 0) qC) qC) (qFt (pv 0) qC set_list))
   (qD (QJ 3 QE (qQ JS (qQ (j4 (K:=K) rfl) (jD (pv 0) qC) (qQ opM qC (jD (pv 0) qC))) qC))
   (qD (QJ 4 QE (qQ JS (qQ opM (qQ (j4 (K:=K) rfl) (pv 3) qC) (qQ (j4 (K:=K) rfl) (pv 3) qC)) qC))
   (qG (qP (qQ JS (qQ qGb (qQ JS (qQ opM (pv 4) (pv 4)) qC) qC) (pv 1)))))))),?_⟩
  rintro as Φ ⟨⟨p0,p1,p2⟩,b,rfl,b0,b1,k⟩
  walk_at "sv"
  refine QH (fun hc=>?_) (fun hc=>?_)
  ·walk_at "v"
   refine Ye rfl rfl b0 ?_
   walk_at "v"
   refine Ye rfl rfl ⟨b0,b1⟩ ?_
   walk_at "v"
   refine ⟨_,_,_,rfl,rfl,rfl,?_⟩
   walk_at "sv"
   exact ⟨⟨_,rfl⟩,k _ (_,_,_) (hV _ (by omega)) (uZ _ b0)⟩
  ·refine qw ?_
   walk_at "v"
   refine ⟨_,_,_,rfl,rfl,rfl,?_⟩
   walk_at "st"
   generalize hp2:p2+1=p3
   walk_at "v"
   refine OpV.l (Ye rfl rfl (.inl ⟨by decide,by decide⟩) ?_)
   walk_at "v"
   refine Ye rfl rfl (by show (0:Int)<_; decide) ?_
   walk_at "v"
   have e0:(((p0,p1,p2):Int×Int×Int).snd.fst+7919*p3) % 1000000007=(p1+7919*p3) % 1000000007:=rfl
   rw [e0]
   generalize hm:(p1+7919*p3) % 1000000007=m
   have m0:0<=m:=by rw [<- hm]; exact hV _ (by decide)
   have m1:m<1000000007:=by rw [<- hm]; exact uZ _ (by decide)
   refine OpV.l (Ye rfl rfl (.inl ⟨by omega,by omega⟩) ?_)
   walk_at "v"
   refine Ye rfl rfl (by show (0:Int)<_; decide) ?_
   walk_at "v"
   generalize hs:(m+11)*(m+48271) % 998244353=st
   have s0:0<=st:=by rw [<- hs]; exact hV _ (by decide)
   have s1:st<998244353:=by rw [<- hs]; exact uZ _ (by decide)
   refine OpV.l (Ye rfl rfl (.inl ⟨by omega,by omega⟩) ?_)
   walk_at "v"
   refine Ye rfl rfl (by show (0:Int)<_; decide) ?_
   walk_at "v"
   refine Ye rfl rfl ⟨by decide,by decide⟩ ?_
   walk_at "v"
   refine Ye rfl rfl b0 ?_
   exact ⟨⟨_,rfl⟩,k _ (p0,p1,p3) (hV _ (by omega)) (uZ _ b0)⟩
def places (n:Nat):List Int:=(wO n).map fun k:Nat=>(k:Int)
theorem places_len (n:Nat):(places n).length=n:=by unfold places; rw [wA,zR]
theorem Qz {n:Nat} {p:Int}:p∈places n↔0<=p/\p<(n:Int):=by
 unfold places
 rw [zJ]
 constructor
 ·rintro ⟨k,hk,rfl⟩
  have:=zM.mp hk
  omega
 ·rintro ⟨h0,h1⟩
  exact ⟨p.toNat,zM.mpr (by omega),by omega⟩
def Q8 (n:Nat) (o:List Int):Prop:=o.Perm (places n)
theorem Q8.len {n:Nat} {o:List Int} (h:Q8 n o):o.length=n:=by rw [h.length_eq,places_len]
theorem Q8.mem {n:Nat} {o:List Int} (h:Q8 n o) {p:Int}:p∈o↔0<=p/\p<(n:Int):=by rw [h.mem_iff,Qz]
theorem Jx (n:Nat):(places n).Nodup:=by
 unfold places
 rw [zN,vW]
 exact List.Pairwise.imp (fun {a b} h z=>h (by omega)) (zN.mp (kQ (n:=n)))
theorem Q8.nd {n:Nat} {o:List Int} (h:Q8 n o):o.Nodup:=h.nodup_iff.mpr (Jx n)
def okp (n:Nat) (t:Tie):Prop:=0<=t.1/\t.1<t.2/\t.2<(n:Int)
structure qJ5 (n:Nat) (ts:List Tie):Prop where
 pos:1<=n
 few:n<=9
 len:ts.length<=20
 ok:∀ t∈ts,okp n t
structure qJ2 (n:Nat) (ts:List Tie):Prop extends qJ5 n ts where
 nd:ts.Nodup
def qJ1 (o:List Int) (t:Tie):Tie:=mk (o.getD t.1.toNat 0) (o.getD t.2.toNat 0)
def qGe:PV:=fun as Φ=>∃(q:Int×Int×Int) (n:Nat),as=[.l (qe q),.d (.int n)]/\n<=9/\∀ o q',Q8 n o->Φ (.d (.tup (qI o))) [.l (qe q'),.d (.int n)]
def qDk:PV:=fun as Φ=>∃(n:Nat) (us:List Tie) (o:List Int),as=[.d (QP n us),.d (.tup (qI o))]/\qJ2 n us/\Q8 n o/\∀ ts:List Tie,ts.Perm (us.map (qJ1 o))->Φ (.d (QP n ts)) as
def qM4:PV:=fun as Φ=>∃(q:Int×Int×Int) (most cap:Nat),as=[.l (qe q),.d (.int most),.d (.int cap)]/\1<=most/\most<=9/\cap<=20/\∀ n ts q',qJ2 n ts->n<=most->ts.length<=cap->Φ (.d (QP n ts)) [.l (qe q'),.d (.int most),.d (.int cap)]
def Jg (t:Tie):List Int:=[t.1,t.2]
def qGF (r:List Int):Tie:=(r.getD 0 0,r.getD 1 0)
theorem Qu {nss:List (List Int)} {us:List Tie} (h:nss.Perm (us.map Jg)):∃ ts:List Tie,nss=ts.map Jg/\ts.Perm us:=by
 refine ⟨nss.map qGF,?_,?_⟩
 ·rw [zE]
  have:∀ r∈nss,Jg (qGF r)=r:=fun r hr=>by
   obtain ⟨t,_,rfl⟩:=zJ.mp (h.mem_iff.mp hr)
   rfl
  symm
  have e:nss.map (Jg∘qGF)=nss.map id:=vV this
  rw [e,List.map_id]
 ·have:=h.map qGF
  rw [zE] at this
  have e:us.map (qGF∘Jg)=us:=List.map_id'' (fun _=>rfl) us
  rw [e] at this
  exact this
theorem jS (us:List Tie):(us.map Jg).map Qa=us.map qu:=by
 rw [zE]
 rfl
theorem qJF {n:Nat} {a b:Int} (ha:0<=a/\a<(n:Int)) (hb:0<=b/\b<(n:Int)) (ne:a≠b):okp n (mk a b):=by
 unfold okp mk
 refine ⟨?_,?_,?_⟩
 ·show 0<=(if b<a then b else a)
  split <;> omega
 ·show (if b<a then b else a)<(if b > a then b else a)
  split <;> split <;> omega
 ·show (if b > a then b else a)<(n:Int)
  split <;> omega
theorem qDT {n:Nat} {o:List Int} (O:Q8 n o) {a:Int} (h0:0<=a) (h1:a<(n:Int)):∃ p,atI (qI o) a=some (.int p)/\o[a.toNat]? = some p/\0<=p/\p<(n:Int):=by
 have hl:=O.len
 have hk:a.toNat<o.length:=by omega
 refine ⟨o[a.toNat],?_,wC hk,?_⟩
 ·have e:a=((a.toNat:Nat):Int):=by omega
  conv=>lhs; rw [e]
  exact jz (by rw [wI,wC hk]; rfl)
 ·exact O.mem.mp (uG hk)
theorem qKC {n:Nat} {o:List Int} (O:Q8 n o) {a b p r:Int} (h0:0<=a) (h1:a<b) (h2:b<(n:Int)) (ha:o[a.toNat]? = some p) (hb:o[b.toNat]? = some r):p≠r:=by
 intro z
 subst z
 obtain ⟨ka,ea⟩:=wL.mp ha
 obtain ⟨kb,eb⟩:=wL.mp hb
 have:=(WY O.nd).mp (ea.trans eb.symm)
 omega
theorem qI0 (us:List Tie) (c:Nat):cutD (us.map qu) none (some (c:Int))=(us.take c).map qu:=by
 unfold cutD
 rw [HT.sIx_none,HT.sIx_nat,ZT,WW,wA,fU]
 by_cases h:c<=us.length
 ·rw [gS h]
 ·rw [ZD (by omega),xO (by rw [wA]; exact wK _),xO (by rw [wA]; omega)]
theorem Ys {α β:Type} (f:α->β):∀(l:List α) (j:Nat),(l.map f).eraseIdx j=(l.eraseIdx j).map f
 | [],_=>rfl
 | _::_,0=>rfl
 | x::l,j+1=>by
  show f x::(l.map f).eraseIdx j=f x::(l.eraseIdx j).map f
  rw [Ys f l j]
theorem qAR {α:Type}:∀(l:List α) {j:Nat} (h:j<l.length),(l[j]::l.eraseIdx j).Perm l
 | x::l,0,_=>List.Perm.refl _
 | x::l,j+1,h=>by
  have h':j<l.length:=by simpa using h
  show (l[j]::x::l.eraseIdx j).Perm (x::l)
  exact (List.Perm.swap _ _ _).trans ((qAR l h').cons x)
theorem qBA {n:Nat} {o:List Int} (O:Q8 n o) {a b:Int} (ha:0<=a/\a<(n:Int)) (hb:0<=b/\b<(n:Int)) (e:o.getD a.toNat 0=o.getD b.toNat 0):a=b:=by
 have hl:=O.len
 have ka:a.toNat<o.length:=by omega
 have kb:b.toNat<o.length:=by omega
 rw [zA,zA,wC ka,wC kb] at e
 have:=(WY O.nd).mp e
 omega
theorem qIQ (a b:Int):mk a b=(a,b)\/mk a b=(b,a):=by
 unfold mk
 by_cases h:b<a
 ·exact .inr (by rw [if_pos h,if_neg (WI.mpr (Int.le_of_lt h))])
 ·by_cases g:b > a
  ·exact .inl (by rw [if_neg h,if_pos g])
  ·exact .inl (by rw [if_neg h,if_neg g,Int.le_antisymm (WI.mp h) (WI.mp g)])
theorem mk_inj {a b c d:Int} (h:mk a b=mk c d):(a=c/\b=d)\/(a=d/\b=c):=by
 rcases qIQ a b with e | e <;> rcases qIQ c d with f | f <;> rw [e,f] at h
 ·exact .inl ⟨congrArg UJ h,congrArg Prod.snd h⟩
 ·exact .inr ⟨congrArg UJ h,congrArg Prod.snd h⟩
 ·exact .inr ⟨congrArg Prod.snd h,congrArg UJ h⟩
 ·exact .inl ⟨congrArg Prod.snd h,congrArg UJ h⟩
theorem qIi {n:Nat} {o:List Int} (O:Q8 n o) {t:Tie} (h:okp n t):okp n (qJ1 o t):=by
 obtain ⟨t1,t2,t3⟩:=h
 obtain ⟨p,_,hp2,hp3⟩:=qDT O (a:=t.1) (by omega) (by omega)
 obtain ⟨r,_,hr2,hr3⟩:=qDT O (a:=t.2) (by omega) (by omega)
 unfold qJ1
 rw [zA,zA,hp2,hr2]
 exact qJF hp3 hr3 (qKC O t1 t2 t3 hp2 hr2)
theorem qG1 {n:Nat} {o:List Int} (O:Q8 n o) {s t:Tie} (hs:okp n s) (ht:okp n t) (e:qJ1 o s=qJ1 o t):s=t:=by
 obtain ⟨s1,s2,s3⟩:=hs
 obtain ⟨t1,t2,t3⟩:=ht
 rcases mk_inj e with ⟨e1,e2⟩ | ⟨e1,e2⟩
 ·exact Prod.ext (qBA O ⟨s1,by omega⟩ ⟨t1,by omega⟩ e1) (qBA O ⟨by omega,s3⟩ ⟨by omega,t3⟩ e2)
 ·have:=qBA O ⟨s1,by omega⟩ ⟨by omega,t3⟩ e1
  have:=qBA O ⟨by omega,s3⟩ ⟨t1,by omega⟩ e2
  omega
theorem qBG {f:Tie->Tie}:∀{l:List Tie},(∀ s∈l,∀ t∈l,f s=f t->s=t)->l.Nodup->(l.map f).Nodup
 | [],_,_=>xK
 | x::l,h,nd=>by
  rw [vE] at nd
  show (f x::l.map f).Nodup
  rw [vE]
  refine ⟨fun hm=>?_,qBG (fun s hs t ht=>h s (wQ _ hs) t (wQ _ ht)) nd.2⟩
  obtain ⟨y,hy,e⟩:=zJ.mp hm
  have:=h y (wQ _ hy) x wN e
  exact nd.1 (this ▸ hy)
theorem qJh {n:Nat} {ts us:List Tie} {o:List Int} (W:qJ2 n ts) (O:Q8 n o) (pm:us.Perm (ts.map (qJ1 o))):qJ2 n us:={ pos:=W.pos,few:=W.few,len:=(by rw [pm.length_eq,wA]; exact W.len),ok:=fun t ht=>(let ⟨s,hs,e⟩:=zJ.mp (pm.mem_iff.mp ht); e ▸ qIi O (W.ok s hs)),nd:=pm.nodup_iff.mpr (qBG (fun s hs t ht e=>qG1 O (W.ok s hs) (W.ok t ht) e) W.nd) }
theorem JZ:qR ["pool","many","left"] ["pool","many"] (qH (top 24)):=by walk_at "sc"
theorem qA6 (F:Fun K "_law_order" "_law_order" (top 24) f fd) (T:Txt mg) (XAQ:Has P w K mg base "_law_next" (top 21) ["pool","base"] 1 (spV YL)):jo P w K mg base CX0 2 f fd ["pool","many"] (spV qGe):=by
 refine jR F JZ [0,1] (fun as Φ h=>?_) (fun cdv A outer s H E hr=>?_)
 ·obtain ⟨q,b,rfl,_⟩:=h
  rfl
 ·have hu:=hr.units
  refine ⟨_,(qD (QJ 2 JZ (qp (qBi rfl) (by rfl) T.n_list PyProof.Rows.boot_list (qA (qp YN (by rfl) T.n_range TB (qA (pv 1) qB)) qB)))
   (qG (qP (qp (Jh (K:=K) rfl) (by rfl) T.n_tuple zU (qA (jF rfl (own:=["k"]) (fr:=[("left",2),("pool",0)]) (by walk_at "cs") (qq (by rfl) T.n_range (qA (pv 1) qB)) (fun cl C s0 H0 fp=>⟨(JG 0),jk,(qDa (K:=K) rfl gB PySem.F.slot_list_pop PySem.F.type_list_pop qDy (pv 1) (qA (qx XAQ hr (qA (pv 2) (qA (qF (qBu (K:=K) rfl) (by rfl) T.n_len yX (qA (pv 1) qB)) qB))) qB))⟩)) qB))))),?_⟩
  rintro as Φ ⟨q,n,rfl,hn,k⟩
  walk_at "sv"
  refine ⟨n,⟨_,rfl,rfl⟩,by omega,by omega,?_⟩
  rw [yG]
  have e0:((wO n).map fun k:Nat=>D.int (k:Int))=qI (places n):=by
   unfold qI places
   rw [zE]
   rfl
  rw [e0]
  refine qm rfl ?_
  walk_at "sv"
  refine qGJ (qDx ?_)
  walk_at "v"
  refine ⟨n,⟨_,rfl,rfl⟩,by omega,by omega,qb rfl,of_decide_eq_true rfl,fun i ys ρc=>∃ s q lf os,ρc=[s,.l (qI lf),.l (qe q)]/\ys=qI os/\os.length=i/\(os++lf).Perm (places n),⟨_,q,places n,[],rfl,rfl,rfl,List.Perm.refl _⟩,?_,?_,?_⟩
  ·rintro i ys ρc ⟨s,q,lf,os,rfl,rfl,hl,pm⟩
   have:=pm.length_eq
   rw [places_len,wM] at this
   exact ⟨qL (by rw [wA]; omega),rfl⟩
  ·rintro i x ys ρc hx ⟨s,q,lf,os,rfl,rfl,hl,pm⟩
   have hin:i<n:=by
    have:=(wL.mp hx).1
    rw [jI] at this
    omega
   have pl:=pm.length_eq
   rw [places_len,wM] at pl
   walk_at "v"
   rw [if_pos rfl]
   walk_at "v"
   refine qX ?_
   walk_at "v"
   refine ⟨of_decide_eq_true rfl,?_⟩
   walk_at "st"
   refine ⟨q,_,rfl,by rw [wA]; omega,by rw [wA]; omega,fun r q' r0 r1=>⟨⟨_,rfl⟩,?_⟩⟩
   rw [wA] at r1
   obtain ⟨j,rfl⟩:∃ j:Nat,r=(j:Int):=⟨r.toNat,by omega⟩
   have hj:j<lf.length:=by omega
   walk_at "sv"
   refine qEs (k:=j) (d:=.int lf[j]) rfl rfl (by rw [wI,wC hj]; rfl) (by rw [wA]; omega) ?_
   walk_at "st"
   have ee:(qI lf).eraseIdx j=qI (lf.eraseIdx j):=by
    unfold qI
    rw [Ys]
   rw [ee]
   refine ⟨_,rfl,_,q',lf.eraseIdx j,os++[lf[j]],rfl,?_,by rw [wM,hl]; rfl,?_⟩
   ·unfold qI
    rw [zI]
    rfl
   ·refine List.Perm.trans ?_ pm
    rw [vR]
    exact List.Perm.append_left os (qAR lf hj)
  ·rintro ys ρc ⟨s,q,lf,os,rfl,rfl,hl,pm⟩
   rw [jI,yG] at hl
   have pl:=pm.length_eq
   rw [places_len,wM] at pl
   have:lf=[]:=hZ.mp (by omega)
   subst this
   rw [zZ] at pm
   walk_at "sv"
   exact ⟨⟨_,rfl⟩,k os q pm⟩
theorem Qt:qR ["web","names","ties"] ["web","names"] (qH (top 25)):=by walk_at "sc"
theorem YS (F:Fun K "_law_renamed" "_law_renamed" (top 25) f fd) (T:Txt mg):jo P w K mg base CX0 1 f fd ["web","names"] (spV qDk):=by
 refine jR F Qt [0,1] (fun as Φ h=>?_) (fun cdv A outer s H E hr=>?_)
 ·obtain ⟨n,us,o,rfl,_⟩:=h
  rfl
 ·have hu:=hr.units
  refine ⟨_,(qD (Q2 (i:=2) rfl Qt.nd rfl rfl (own:=["a","b"]) (fr:=[("names",1)]) (by walk_at "cs") (qz (K:=K) rfl (jD (pv 0) qC)) (fun cl C s0 H0 fp=>⟨(jX (K:=K) (n:=2) rfl rfl (qM (JG 0) (qM (JG 1) jU))),jk,(qS (qA (qF (QA rfl) (by rfl) T.n_min vX (qA (jD (pv 2) (pv 0)) (qA (jD (pv 2) (pv 1)) qB))) (qA (qF (j9 rfl) (by rfl) T.n_max vD (qA (jD (pv 2) (pv 0)) (qA (jD (pv 2) (pv 1)) qB))) qB)))⟩))
   (qG (qP (qS (qA (jD (pv 0) qC) (qA (qp (Jh (K:=K) rfl) (by rfl) T.n_tuple zU (qA (qF (QD hu) (by rfl) T.n_sorted uT (qA (pv 2) qB)) qB)) qB)))))),?_⟩
  rintro as Φ ⟨n,us,o,rfl,W,O,k⟩
  have W2:=W.len
  have hl:=O.len
  walk_at "sv"
  refine ja qu us (fun _=>true) (fun t=>qu (mk (o.getD t.1.toNat 0) (o.getD t.2.toNat 0))) (Qp ?_)
  walk_at "v"
  refine ⟨_,_,rfl,rfl,rfl,qL (by omega),qb rfl,of_decide_eq_true rfl,?_,?_⟩
  ·rintro ⟨a,b⟩ ht os hos
   obtain ⟨z0,z1,rfl⟩:=qLR hos
   obtain ⟨t1,t2,t3⟩:=W.ok _ ht
   simp only at t1 t2 t3
   obtain ⟨p,hp,hp2,_⟩:=qDT O (a:=a) (by omega) (by omega)
   obtain ⟨r,hr,hr2,_⟩:=qDT O (a:=b) (by omega) (by omega)
   walk_at "v"
   refine ⟨⟨[_,_],rfl,rfl⟩,QG ⟨rfl,rfl⟩,fun _=>?_⟩
   walk_at "v"
   refine ⟨?_,rfl⟩
   show _=some (qu (mk (o.getD a.toNat 0) (o.getD b.toNat 0)))
   rw [zA,zA,hp2,hr2]
   rfl
  rw [qg]
  have em:us.map (fun t:Tie=>qu (mk (o.getD t.1.toNat 0) (o.getD t.2.toNat 0)))=((us.map fun t:Tie=>mk (o.getD t.1.toNat 0) (o.getD t.2.toNat 0)).map Jg).map Qa:=by
   rw [jS,zE]
   rfl
  rw [em]
  have hlen:(us.map fun t:Tie=>mk (o.getD t.1.toNat 0) (o.getD t.2.toNat 0)).length<=20:=by rw [wA]; exact W2
  have k':∀ ts:List Tie,ts.Perm (us.map fun t:Tie=>mk (o.getD t.1.toNat 0) (o.getD t.2.toNat 0))->Φ (.d (QP n ts)) [.d (QP n us),.d (.tup (qI o))]:=k
  clear k
  generalize us.map (fun t:Tie=>mk (o.getD t.1.toNat 0) (o.getD t.2.toNat 0))=vs at hlen k'
  refine qm rfl ?_
  walk_at "sv"
  refine JU (nss:=vs.map Jg) (.inr rfl) (fun ns h=>?_) (by rw [wA]; omega) (fun nss' pm=>?_)
  ·obtain ⟨t,_,rfl⟩:=zJ.mp h
   exact fun z=>by cases z
  obtain ⟨ts,rfl,pt⟩:=Qu pm
  rw [jS ts]
  walk_at "v"
  exact ⟨⟨_,rfl⟩,k' ts pt⟩
theorem atN (bs:List Int) (w:Int) (h0:0<=w) (h1:w<(bs.length:Int)):∃ b,atI (bs.map D.int) w=some (.int b)/\bs[w.toNat]? = some b:=by
 obtain ⟨k,rfl⟩:∃ k:Nat,w=(k:Int):=⟨w.toNat,by omega⟩
 have hk:k<bs.length:=by omega
 exact ⟨bs[k],jz (by rw [wI,wC hk]; rfl),by simp [hk]⟩
theorem qLY {n i:Nat} (hi:i<n) (h3:2<n):((0:Int)+(i:Int))≠((0:Int)+(i:Int)+1) % (n:Int)/\0<=((0:Int)+(i:Int)+1) % (n:Int)/\((0:Int)+(i:Int)+1) % (n:Int)<(n:Int):=by
 refine ⟨?_,hV _ (by omega),uZ _ (by omega)⟩
 by_cases z:i+1<n
 ·rw [Int.emod_eq_of_lt (by omega) (by omega)]
  omega
 ·have e:(0:Int)+(i:Int)+1=(n:Int):=by omega
  rw [e,Int.emod_self]
  omega
theorem qNS {p:Prop} {i:Decidable p} (h:@decide p i=false):¬ p:=@of_decide_eq_false p i h
theorem qF2 {l:List Tie} {t:Tie} (h:l.Nodup) (n:t∉l):(l++[t]).Nodup:=kI.mpr ⟨h,vE.mpr ⟨yM,xK⟩,fun x hx y hy z=>n (zB.mp hy ▸ z ▸ hx)⟩
theorem qIJ {l m:List Tie} (h:l.Nodup) (g:m.Nodup) (d:∀ p∈l,p∉m):(l++m).Nodup:=kI.mpr ⟨h,g,fun x hx y hy z=>d x hx (z ▸ hy)⟩
theorem qDi {ps:List Tie} {i:Nat} (h:ps.Nodup) (g:∀ p∈ps,p.2<(i:Int)):(ps++(wO i).map fun a:Nat=>((0+(a:Int),(i:Int)):Tie)).Nodup/\∀ p∈ps++(wO i).map (fun a:Nat=>((0+(a:Int),(i:Int)):Tie)),p.2<((i+1:Nat):Int):=by
 refine ⟨qIJ h ?_ fun p hp z=>?_,fun p hp=>?_⟩
 ·rw [zN,vW]
  exact (zN.mp kQ).imp fun {a b} ne z=>ne (by have:=congrArg UJ z; simp only at this; omega)
 ·obtain ⟨a,_,rfl⟩:=zJ.mp z
  have:=g _ hp
  simp only at this
  omega
 ·obtain z | z:=zK.mp hp
  ·have:=g p z
   omega
  ·obtain ⟨a,_,rfl⟩:=zJ.mp z
   simp only
   omega
theorem qJr (n:Nat):(((wO n).filter fun _=>decide ((n:Int) > 2)).map fun i:Nat=>mk (0+(i:Int)) ((0+(i:Int)+1) % (n:Int))).Nodup:=by
 rw [zN,vW]
 refine List.Pairwise.imp_of_mem (R:=fun a b=>a≠b) (fun {i j} hi hj ne z=>?_) (zN.mp (kQ.filter _))
 obtain ⟨i1,i2⟩:=vZ.mp hi
 obtain ⟨j1,_⟩:=vZ.mp hj
 have i1:=zM.mp i1
 have j1:=zM.mp j1
 have i2:=of_decide_eq_true i2
 have nx:∀ i:Nat,i<n->(0+(i:Int)+1) % (n:Int)=if i+1<n then (i:Int)+1 else 0:=fun i hi=>by
  by_cases h:i+1<n
  ·rw [if_pos h,Int.emod_eq_of_lt (by omega) (by omega)]
   omega
  ·rw [if_neg h,show 0+(i:Int)+1=(n:Int) by omega,Int.emod_self]
 rw [nx i i1,nx j j1] at z
 rcases mk_inj z with ⟨e,_⟩ | ⟨e1,e2⟩
 ·omega
 ·split at e1 <;> split at e2 <;> omega
theorem qHM {ps:List Tie} (h:ps.Nodup) {i:Nat} (hi:i<ps.length):ps[i]∉ps.take i:=fun z=>by
 have e:=gM i ps
 rw [<- e,kI] at h
 refine h.2.2 _ z _ ?_ rfl
 rw [List.drop_eq_getElem_cons hi]
 exact wN
theorem qFX {ps:List Tie} {i:Nat} (hi:i<ps.length) (p:Tie) (h:p=ps[i]\/p∈ps.take i):p∈ps.take (i+1):=by
 rw [WX hi]
 rcases h with z | z
 ·rw [z]
  exact zD _ wN
 ·exact zK.mpr (.inl z)
theorem qh:qR ["pool","most","cap","many","pairs","b","way","first","size","dense","more"] ["pool","most","cap"] (qH (top 23)):=by walk_at "sc"
theorem qC7 (F:Fun K "_law_web" "_law_web" (top 23) f fd) (T:Txt mg) (XAQ:Has P w K mg base "_law_next" (top 21) ["pool","base"] 1 (spV YL))
  (XAJ:Has P w K mg base "_law_order" (top 24) ["pool","many"] 2 (spV qGe))
  (XAB:Has P w K mg base "_law_renamed" (top 25) ["web","names"] 1 (spV qDk)):jo P w K mg base CX0 3 f fd ["pool","most","cap"] (spV qM4):=by
 refine jR F qh [0,1,2] (fun as Φ h=>?_) (fun cdv A outer s H E hr=>?_)
 ·obtain ⟨q,m,c,rfl,_⟩:=h
  rfl
 ·have hu:=hr.units
  refine ⟨_,(qD (QJ 3 qh (qQ (j4 (K:=K) rfl) qC (qx XAQ hr (qA (pv 0) (qA (pv 1) qB)))))
   (qD (QJ 4 qh (jM qB))
   (qD (Qh vK rfl (qq (by rfl) T.n_range (qA (pv 3) qB)) (JF 5 qh)
   (qG (QJ 4 qh (qQ (j4 (K:=K) rfl) (pv 4) (jF rfl (own:=["a"]) (fr:=[("b",5)]) (by walk_at "cs") (qq (by rfl) T.n_range (qA (pv 5) qB)) (fun cl C s0 H0 fp=>⟨(JG 0),jk,(qS (qA (pv 0) (qA (pv 1) qB)))⟩))))))
   (qD (QJ 6 qh (qx XAQ hr (qA (pv 0) (qA qC qB))))
   (qD (QJ 7 qh (jM qB))
   (qD (jm (PW.pt (qB4 (qO (qBB hu) (pv 6) qC (qY _)) (YW (qO qC3 (pv 3) qC (qY _)))))
   (qG (QJ 7 qh (jF rfl (own:=["b"]) (fr:=[("pool",0)]) (by walk_at "cs") (qEl (by rfl) T.n_range (qA qC (qA (pv 3) qB))) (fun cl C s0 H0 fp=>⟨(JG 0),jk,(qS (qA (qx XAQ hr (qA (pv 1) (qA (pv 0) qB))) (qA (pv 0) qB)))⟩))))
   qi)
   (qD (jm (qO (qBB hu) (pv 6) qC (qY _))
   (qG (QJ 7 qh (jF rfl (own:=["k"]) (fr:=[("many",3)]) (by walk_at "cs") (qq (by rfl) T.n_range (qA (pv 3) qB)) (fun cl C s0 H0 fp=>⟨(JG 0),J2 (qO qC3 (pv 1) qC (qY _)),(qS (qA (qF (QA rfl) (by rfl) T.n_min vX (qA (pv 0) (qA (qQ JS (qQ (j4 (K:=K) rfl) (pv 0) qC) (pv 1)) qB))) (qA (qF (j9 rfl) (by rfl) T.n_max vD (qA (pv 0) (qA (qQ JS (qQ (j4 (K:=K) rfl) (pv 0) qC) (pv 1)) qB))) qB)))⟩))))
   qi)
   (qD (jm (qO (qBB hu) (pv 6) qC (qY _))
   (qD (QJ 8 qh (qQ (j4 (K:=K) rfl) qC (qx XAQ hr (qA (pv 0) (qA qC qB)))))
    (qG (QJ 7 qh (jF rfl (own:=["pair"]) (fr:=[("size",8)]) (by walk_at "cs") (qz (K:=K) rfl (pv 4)) (fun cl C s0 H0 fp=>⟨(JG 0),J2 (qO Yi (jD (pv 0) qC) (pv 1) (qY _)),(pv 0)⟩)))))
   qi)
   (qD (QJ 9 qh (jD (jM (qA qC (qA qC (qA qC (qA qC qB))))) (qx XAQ hr (qA (pv 0) (qA qC qB)))))
   (qD (Q2 (i:=10) rfl qh.nd rfl rfl (own:=["pair"]) (fr:=[("first",7),("pool",0),("dense",9)]) (by walk_at "cs") (qz (K:=K) rfl (pv 4)) (fun cl C s0 H0 fp=>⟨(JG 0),J2 (PW.pt (qB4 (qO (qJY hu) (pv 0) (pv 1) (by with_unfolding_all rfl)) (YW (qO (qBB hu) (qx XAQ hr (qA (pv 2) (qA (pv 3) qB))) qC (qY _))))),(pv 0)⟩))
   (qD (qDU vK (PW.pt (qB4 (qO qC3 (qQ (j4 (K:=K) rfl) (qF (qBu (K:=K) rfl) (by rfl) T.n_len yX (qA (pv 7) qB)) (qF (qBu (K:=K) rfl) (by rfl) T.n_len yX (qA (pv 10) qB))) (pv 2) (qY _)) (YW (qO (qD9 hu) (pv 10) (jM qB) (qY _)))))
   (qG (qCo (qDa (K:=K) rfl gB PySem.F.slot_list_pop PySem.F.type_list_pop qDy (pv 10) (qA (qx XAQ hr (qA (pv 0) (qA (qF (qBu (K:=K) rfl) (by rfl) T.n_len yX (qA (pv 10) qB)) qB))) qB)))))
   (qG (qP (qx XAB hr (qA (qS (qA (pv 3) (qA (qp (Jh (K:=K) rfl) (by rfl) T.n_tuple zU (qA (qF (QD hu) (by rfl) T.n_sorted uT (qA (qQ (j4 (K:=K) rfl) (qv (qCW (K:=K) rfl) (pv 7) jO (jG (pv 2))) (pv 10)) qB)) qB)) qB))) (qA (qx XAJ hr (qA (pv 0) (qA (pv 3) qB))) qB)))))))))))))))),?_⟩
  rintro as Φ ⟨q,most,cap,rfl,m0,m1,hcap,k⟩
  walk_at "st"
  walk_at "vc"
  refine ⟨q,most,rfl,by omega,by omega,fun r q1 r0 r1=>⟨⟨_,rfl⟩,?_⟩⟩
  walk_at "sv"
  obtain ⟨n,hn⟩:∃ n:Nat,(n:Int)=1+r:=⟨(1+r).toNat,by omega⟩
  rw [<- hn]
  have hn1:1<=n:=by omega
  have hn9:n<=9:=by omega
  have hnm:n<=most:=by omega
  clear hn r0 r1
  walk_at "st"
  refine Yj (qDx ?_)
  walk_at "v"
  refine ⟨n,⟨_,rfl,rfl⟩,by omega,by omega,fun i ρ=>∃(ps:List Tie) (s5:Sl),ρ=[.l (qe q1),.d (.int most),.d (.int cap),.d (.int n),.l (ps.map qu),s5,.u,.u,.u,.u,.u]/\(∀ p∈ps,okp n p)/\ps.length<=9*i/\ps.Nodup/\∀ p∈ps,p.2<(i:Int),⟨[],_,rfl,fun _ h=>(by cases h),wK _,xK,fun _ h=>(by cases h)⟩,?_,?_⟩
  ·rintro i x ρ hx ⟨ps,s5,rfl,hok,hl,pnd,plt⟩
   have hin:i<n:=by
    have:=(wL.mp hx).1
    rw [jI] at this
    omega
   rw [yG,QT hin,kS] at hx
   cases hx
   refine qm rfl ?_
   walk_at "sv"
   refine ja (fun a:Nat=>D.int (0+(a:Int))) (wO i) (fun _=>true) (fun a=>qu (0+(a:Int),(i:Int))) (qDx ?_)
   walk_at "v"
   refine ⟨i,⟨_,rfl,rfl⟩,by omega,by omega,J8 _ _,qL (by rw [zR]; omega),qb rfl,of_decide_eq_true rfl,?_,?_⟩
   ·rintro a _ os hos
    obtain ⟨z0,rfl⟩:=qCT hos
    walk_at "v"
    refine ⟨⟨[_],rfl,rfl⟩,QG ⟨rfl,rfl⟩,fun _=>?_⟩
    walk_at "v"
    exact ⟨rfl,rfl⟩
   rw [qg]
   have em:(wO i).map (fun a:Nat=>qu (0+(a:Int),(i:Int)))=((wO i).map fun a:Nat=>((0+(a:Int),(i:Int)):Tie)).map qu:=by
    rw [zE]
    rfl
   rw [em]
   refine OpV.r (OpV.l (Jz rfl rfl (sz2 ?_) ?_))
   ·rw [wA,wA,wA,zR]
    omega
   rw [<- zI]
   refine qm rfl ?_
   walk_at "st"
   refine ⟨_,_,rfl,fun p hp=>?_,?_,(qDi pnd plt).1,(qDi pnd plt).2⟩
   ·obtain z | z:=zK.mp hp
    ·exact hok p z
    ·obtain ⟨a,ha,rfl⟩:=zJ.mp z
     have:=zM.mp ha
     refine ⟨?_,?_,?_⟩ <;> simp only <;> omega
   ·rw [wM,wA,zR]
    omega
  rintro ρ ⟨ps,s5,rfl,hps,hpl,pnd,_⟩
  rw [jI,yG] at hpl
  walk_at "vc"
  refine ⟨q1,6,rfl,by decide,by decide,fun way q2 w0 w1=>⟨⟨_,rfl⟩,?_⟩⟩
  walk_at "st"
  refine qm rfl ?_
  walk_at "st"
  refine qc (fun ρ=>ρ=[.l (qe q2),.d (.int most),.d (.int cap),.d (.int n),.l (ps.map qu),s5,.d (.int way),.l [],.u,.u,.u]) (by walk_at "v"; rfl) ?_
  rintro ρ rfl
  refine qc (fun ρ=>∃(q:Int×Int×Int) (fs:List Tie),ρ=[.l (qe q),.d (.int most),.d (.int cap),.d (.int n),.l (ps.map qu),s5,.d (.int way),.l (fs.map qu),.u,.u,.u]/\(∀ p∈fs,okp n p)/\fs.length<=81/\fs.Nodup) ?_ ?_
  ·walk_at "v"
   walk_at "vJ"
   refine QH (fun _=>?_) (fun _=>qw ⟨q2,[],rfl,fun _ h=>(by cases h),by decide,xK⟩)
   refine qA1 (qGJ (qNF ?_))
   walk_at "v"
   refine ⟨1,n,⟨_,_,rfl,rfl,rfl⟩,⟨by decide,by decide,by omega,by omega⟩,qb rfl,of_decide_eq_true rfl,fun i ys ρc=>∃(s:Sl) (q:Int×Int×Int) (fs:List Tie),ρc=[s,.l (qe q)]/\ys=fs.map qu/\fs.length=i/\i<=9/\(∀ p∈fs,okp n p)/\fs.Nodup/\∀ p∈fs,p.2<1+(i:Int),⟨_,q2,[],rfl,rfl,rfl,by decide,fun _ h=>(by cases h),xK,fun _ h=>(by cases h)⟩,?_,?_,?_⟩
   ·rintro i ys ρc ⟨s,q,fs,rfl,rfl,hl,hi,_⟩
    exact ⟨qL (by rw [wA]; omega),rfl⟩
   ·rintro i x ys ρc hx ⟨s,q,fs,rfl,rfl,hl,hi,hok,fnd,flt⟩
    have hin:i<((n:Int) - 1).toNat:=by
     have:=(wL.mp hx).1
     rw [jI] at this
     exact this
    rw [QT hin] at hx
    cases hx
    generalize hb:(1:Int)+(i:Int)=b
    walk_at "v"
    rw [if_pos rfl]
    walk_at "v"
    refine qX ?_
    walk_at "v"
    refine ⟨of_decide_eq_true rfl,?_⟩
    walk_at "st"
    refine ⟨q,b,rfl,by omega,by omega,fun v q' v0 v1=>⟨⟨_,rfl⟩,?_⟩⟩
    walk_at "sv"
    refine ⟨_,q',fs++[(v,b)],rfl,?_,by rw [wM,hl]; rfl,by omega,fun p hp=>?_,qF2 fnd (fun z=>by have:=flt _ z; simp only at this; omega),fun p hp=>?_⟩
    ·rw [zI]
     rfl
    ·obtain z | z:=zK.mp hp
     ·exact hok p z
     ·rw [zB.mp z]
      refine ⟨?_,?_,?_⟩ <;> simp only <;> omega
    ·obtain z | z:=zK.mp hp
     ·have:=flt p z
      omega
     ·rw [zB.mp z]
      simp only
      omega
   ·rintro ys ρc ⟨s,q,fs,rfl,rfl,hl,hi,hok,fnd,_⟩
    walk_at "st"
    refine qm rfl ?_
    walk_at "st"
    exact ⟨q,fs,rfl,hok,by omega,fnd⟩
  rintro ρ ⟨q3,fs,rfl,hok,hfl,fnd⟩
  refine qc (fun ρ=>∃(fs:List Tie),ρ=[.l (qe q3),.d (.int most),.d (.int cap),.d (.int n),.l (ps.map qu),s5,.d (.int way),.l (fs.map qu),.u,.u,.u]/\(∀ p∈fs,okp n p)/\fs.length<=81/\fs.Nodup) ?_ ?_
  ·walk_at "v"
   refine QH (fun _=>?_) (fun _=>qw ⟨fs,rfl,hok,hfl,fnd⟩)
   walk_at "v"
   refine ja (fun i:Nat=>D.int (0+(i:Int))) (wO n) (fun _=>decide ((n:Int) > 2)) (fun i=>qu (mk (0+(i:Int)) ((0+(i:Int)+1) % (n:Int)))) (qDx ?_)
   walk_at "v"
   refine ⟨n,⟨_,rfl,rfl⟩,by omega,by omega,J8 _ _,qL (by rw [zR]; omega),qb rfl,of_decide_eq_true rfl,?_,?_⟩
   ·rintro i _ os hos
    obtain ⟨z0,rfl⟩:=qCT hos
    walk_at "v"
    refine ⟨⟨[_],rfl,rfl⟩,?_,fun _=>?_⟩
    ·walk_at "v"
     exact ⟨rfl,rfl⟩
    ·walk_at "v"
     refine Ye rfl rfl (by show (0:Int)<_; omega) ?_
     walk_at "v"
     refine Ye rfl rfl (by show (0:Int)<_; omega) ?_
     walk_at "v"
     exact ⟨rfl,rfl⟩
   have em:((wO n).filter fun _=>decide ((n:Int) > 2)).map (fun i:Nat=>qu (mk (0+(i:Int)) ((0+(i:Int)+1) % (n:Int))))=(((wO n).filter fun _=>decide ((n:Int) > 2)).map fun i:Nat=>mk (0+(i:Int)) ((0+(i:Int)+1) % (n:Int))).map qu:=by
    rw [zE]
    rfl
   rw [em]
   refine qm rfl ?_
   walk_at "st"
   refine ⟨_,rfl,fun p hp=>?_,?_,qJr n⟩
   ·obtain ⟨i,hi,rfl⟩:=zJ.mp hp
    obtain ⟨h1,h2⟩:=vZ.mp hi
    have h1':=zM.mp h1
    have h2':=ofd h2
    obtain ⟨a1,a2,a3⟩:=qLY h1' (by omega)
    exact qJF ⟨by omega,by omega⟩ ⟨a2,a3⟩ a1
   ·rw [wA]
    exact zC (vC _ _) (by rw [zR]; omega)
  rintro ρ ⟨fs,rfl,hok,hfl,fnd⟩
  refine qc (fun ρ=>∃(q:Int×Int×Int) (fs:List Tie) (s8:Sl),ρ=[.l (qe q),.d (.int most),.d (.int cap),.d (.int n),.l (ps.map qu),s5,.d (.int way),.l (fs.map qu),s8,.u,.u]/\(∀ p∈fs,okp n p)/\fs.length<=81/\fs.Nodup) ?_ ?_
  ·walk_at "v"
   refine QH (fun _=>?_) (fun _=>qw ⟨q3,fs,_,rfl,hok,hfl,fnd⟩)
   walk_at "vc"
   refine ⟨q3,4,rfl,by decide,by decide,fun v q4 v0 v1=>⟨⟨_,rfl⟩,?_⟩⟩
   walk_at "sv"
   generalize (2:Int)+v=sz
   refine qJt qu ps (fun p=>decide (p.2<sz)) qu rfl rfl (qL (by omega)) (qb rfl) (of_decide_eq_true rfl) ?_ ?_
   ·rintro ⟨a,b⟩ _ os hos
    obtain ⟨z0,rfl⟩:=qCT hos
    walk_at "v"
    refine ⟨⟨[_],rfl,rfl⟩,?_,fun _=>?_⟩
    ·walk_at "v"
     exact ⟨rfl,rfl⟩
    ·walk_at "v"
     exact ⟨rfl,rfl⟩
   refine qm rfl ?_
   walk_at "st"
   exact ⟨q4,_,_,rfl,fun p hp=>hps p (vZ.mp hp).1,zC (vC _ _) (by omega),pnd.filter _⟩
  rintro ρ ⟨q4,fs,s8,rfl,hok,hfl,fnd⟩
  walk_at "vc"
  refine ⟨q4,4,rfl,by decide,by decide,fun dv q5 v0 v1=>⟨⟨_,rfl⟩,?_⟩⟩
  walk_at "st"
  obtain ⟨dn,hdn,hdn2⟩:=atN [2,3,4,9] dv v0 v1
  have hdm:=yT hdn2
  have hd2:2<=dn/\dn<=9:=by
   simp only [wZ,yM,or_false] at hdm
   omega
  refine YO rfl rfl hdn ?_
  refine qm rfl ?_
  walk_at "st"
  refine qc (fun ρ=>∃(q:Int×Int×Int) (ms:List Tie),ρ=[.l (qe q),.d (.int most),.d (.int cap),.d (.int n),.l (ps.map qu),s5,.d (.int way),.l (fs.map qu),s8,.d (.int dn),.l (ms.map qu)]/\(∀ p∈ms,okp n p)/\ms.length<=81/\ms.Nodup/\∀ p∈ms,p∉fs) ?_ ?_
  ·refine qA1 (qDb (s:=4) (xs:=ps.map qu) rfl (fun h=>by simp [Q4] at h) (qb rfl) (of_decide_eq_true rfl) (fun i ys ρc=>∃(s:Sl) (q:Int×Int×Int) (ms:List Tie),ρc=[s,.l (fs.map qu),.l (qe q),.d (.int dn)]/\ys=ms.map qu/\ms.length<=i/\i<=ps.length/\(∀ p∈ms,okp n p)/\ms.Nodup/\(∀ p∈ms,p∉fs)/\∀ p∈ms,p∈ps.take i) ⟨_,q5,[],rfl,rfl,wK _,zP _,fun _ h=>(by cases h),xK,fun _ h=>(by cases h),fun _ h=>(by cases h)⟩ ?_ ?_ ?_)
   ·rintro i ys ρc ⟨s,q,ms,rfl,rfl,hl,hi,_⟩
    exact ⟨qL (by rw [wA]; omega),rfl⟩
   ·rintro i x ys ρc hx ⟨s,q,ms,rfl,rfl,hl,hi,hmk,mnd,mnf,mtk⟩
    have hil:i<ps.length:=by
     have:=(wL.mp hx).1
     rwa [wA] at this
    have et:(ps.map qu)[i]? = some (qu ps[i]):=by rw [wI,wC hil]; rfl
    rw [et] at hx
    cases hx
    have ot:=hps _ (uG hil)
    have tn:ps[i]∉ps.take i:=qHM pnd hil
    have ti:∀ p,p=ps[i]\/p∈ps.take i->p∈ps.take (i+1):=qFX hil
    clear et
    generalize ps[i]=t at ot tn ti
    refine qm rfl ?_
    walk_at "st"
    refine qFY (qH8 ?_)
    walk_at "v"
    refine qK9 (f:=qu) (q:=t) (fs:=fs) Yc (fun _=>zG rfl) rfl (.inl rfl) ?_
    walk_at "v"
    refine QH (fun hnf=>?_) (fun _=>?_)
    ·have hnf:=qNS (jH hnf)
     walk_at "vc"
     refine ⟨q,dn,rfl,by omega,by omega,fun v q' v0 v1=>⟨⟨_,rfl⟩,?_⟩⟩
     walk_at "sv"
     refine QH (fun _=>?_) (fun _=>?_)
     ·walk_at "v"
      refine ⟨_,q',ms++[t],rfl,?_,?_,by omega,fun p hp=>?_,qF2 mnd (fun z=>tn (mtk _ z)),fun p hp=>?_,fun p hp=>ti p ?_⟩
      ·rw [zI]
       rfl
      ·rw [wM]
       show ms.length+1<=i+1
       omega
      ·obtain z | z:=zK.mp hp
       ·exact hmk p z
       ·rw [zB.mp z]
        exact ot
      ·obtain z | z:=zK.mp hp
       ·exact mnf p z
       ·rw [zB.mp z]
        exact hnf
      ·obtain z | z:=zK.mp hp
       ·exact .inr (mtk p z)
       ·exact .inl (zB.mp z)
     ·exact ⟨_,q',ms,rfl,rfl,by omega,by omega,hmk,mnd,mnf,fun p hp=>ti p (.inr (mtk p hp))⟩
    ·rw [if_neg wU]
     exact ⟨_,q,ms,rfl,rfl,by omega,by omega,hmk,mnd,mnf,fun p hp=>ti p (.inr (mtk p hp))⟩
   ·rintro ys ρc ⟨s,q,ms,rfl,rfl,hl,hi,hmk,mnd,mnf,_⟩
    walk_at "st"
    refine qm rfl ?_
    walk_at "st"
    rw [wA] at hl hi
    exact ⟨q,ms,rfl,hmk,by omega,mnd,mnf⟩
  rintro ρ ⟨q6,ms,rfl,hmk,hml,mnd,mnf⟩
  refine qc (fun ρ=>∃(q:Int×Int×Int) (ms:List Tie),ρ=[.l (qe q),.d (.int most),.d (.int cap),.d (.int n),.l (ps.map qu),s5,.d (.int way),.l (fs.map qu),s8,.d (.int dn),.l (ms.map qu)]/\(∀ p∈ms,okp n p)/\ms.Nodup/\(∀ p∈ms,p∉fs)/\(fs.length+ms.length<=cap\/ms=[])) ?_ ?_
  ·refine qFu (fun m ρ=>∃(q:Int×Int×Int) (ms:List Tie),ρ=[.l (qe q),.d (.int most),.d (.int cap),.d (.int n),.l (ps.map qu),s5,.d (.int way),.l (fs.map qu),s8,.d (.int dn),.l (ms.map qu)]/\(∀ p∈ms,okp n p)/\ms.Nodup/\(∀ p∈ms,p∉fs)/\ms.length=m/\m<=81) ms.length ⟨q6,ms,rfl,hmk,mnd,mnf,rfl,hml⟩ ?_
   rintro m ρ ⟨q,ms,rfl,hmk,mnd,mnf,hm,hm81⟩
   have hdp:qK (ms.map qu)<=50:=zC (jt (f:=qu) (k:=1) (fun a=>wK _) ms) (by decide)
   walk_at "vJ"
   by_cases hc:fs.length+ms.length<=cap
   ·rw [decide_eq_false (by rw [wA,wA]; omega),yJ,if_neg wU]
    exact ⟨q,ms,rfl,hmk,mnd,mnf,.inl hc⟩
   ·rw [decide_eq_true (by rw [wA,wA]; omega),yB]
    by_cases hz:ms=[]
    ·subst hz
     rw [if_neg (by decide)]
     exact ⟨q,[],rfl,hmk,mnd,mnf,.inr rfl⟩
    ·have e:(ms.map qu).isEmpty=false:=by
      cases ms with
      | nil=>exact absurd rfl hz
      | cons t ms=>rfl
     have hpos:0<ms.length:=gW.mpr hz
     rw [e,if_pos (by rfl)]
     walk_at "v"
     refine qX ?_
     walk_at "v"
     refine ⟨of_decide_eq_true rfl,?_⟩
     walk_at "st"
     refine ⟨q,_,rfl,by rw [wA]; omega,by rw [wA]; omega,fun r q' r0 r1=>⟨⟨_,rfl⟩,?_⟩⟩
     rw [wA] at r1
     obtain ⟨j,rfl⟩:∃ j:Nat,r=(j:Int):=⟨r.toNat,by omega⟩
     have hj:j<ms.length:=by omega
     walk_at "sv"
     refine qEs (k:=j) (d:=qu ms[j]) rfl rfl (by rw [wI,wC hj]; rfl) (by rw [wA]; omega) ?_
     walk_at "st"
     rw [Ys]
     refine ⟨m - 1,by omega,q',ms.eraseIdx j,rfl,fun p hp=>hmk p (UU hp),List.Pairwise.sublist (List.eraseIdx_sublist _ _) mnd,fun p hp=>mnf p (UU hp),?_,by omega⟩
     rw [List.length_eraseIdx,if_pos hj]
     omega
  rintro ρ ⟨q7,ms,rfl,hmk,mnd,mnf,hend⟩
  have hus:∀ p∈fs.take cap++ms,okp n p:=fun p hp=>by
   obtain z | z:=zK.mp hp
   ·exact hok p (ZU z)
   ·exact hmk p z
  have unn:(fs.take cap++ms).Nodup:=qIJ (List.Pairwise.sublist (fK _ _) fnd) mnd fun p hp z=>mnf p z (ZU hp)
  have hul:(fs.take cap++ms).length<=cap:=by
   rw [wM,yW]
   rcases hend with z | z
   ·omega
   ·rw [z]
    show min cap fs.length+0<=cap
    omega
  walk_at "v"
  refine qX ?_
  walk_at "v"
  refine SlV.l (qMe rfl ?_)
  rw [qI0]
  walk_at "v"
  refine OpV.r (OpV.l (Jz rfl rfl (sz2 ?_) ?_))
  ·rw [wA,wA]
   rw [wM] at hul
   omega
  rw [<- zI]
  generalize fs.take cap++ms=us at hus hul unn
  walk_at "v"
  refine JU (nss:=us.map Jg) (.inr (congrArg (fun l=>some (D.lst l)) (jS us).symm)) (fun ns h=>?_) (by rw [wA]; omega) (fun nss' pm=>?_)
  ·obtain ⟨t,_,rfl⟩:=zJ.mp h
   exact fun z=>by cases z
  obtain ⟨ts,rfl,pt⟩:=Qu pm
  rw [jS ts]
  walk_at "vc"
  refine ⟨q7,n,rfl,hn9,fun o q8 O=>⟨⟨_,rfl⟩,?_⟩⟩
  walk_at "sv"
  refine ⟨of_decide_eq_true rfl,?_⟩
  walk_at "st"
  have W1:qJ2 n ts:={ pos:=hn1,few:=hn9,len:=(by rw [pt.length_eq]; omega),ok:=fun t ht=>hus t (pt.mem_iff.mp ht),nd:=pt.nodup_iff.mpr unn }
  refine ⟨n,ts,o,rfl,W1,O,fun ts2 p2=>⟨⟨_,rfl⟩,?_⟩⟩
  walk_at "st"
  exact ⟨⟨_,rfl⟩,k n ts2 q8 (qJh W1 O p2) hnm (by rw [p2.length_eq,wA,pt.length_eq]; exact hul)⟩
def qD1:PV:=fun as Φ=>∃ a b:Int,as=[.d (.int a),.d (.int b)]/\Φ (.d (qu (mk a b))) as
theorem qH5 (ts:List Tie):ts.map qu=(ts.map Jg).map Qa:=by
 rw [zE]
 rfl
theorem qEy:qR ["a","b"] ["a","b"] (qH (top 4)):=by walk_at "sc"
theorem qFd (F:Fun K "tie_of" "tie_of" (top 4) f fd) (T:Txt mg):jo P w K mg base CX0 1 f fd ["a","b"] (spV qD1):=by
 refine jR F qEy [0,1] (fun as Φ h=>?_) (fun cdv A outer s H E hr=>?_)
 ·obtain ⟨a,b,rfl,_⟩:=h
  rfl
 ·have hu:=hr.units
  refine ⟨_,(qG (qP (qS (qA (qF (QA rfl) (by rfl) T.n_min vX (qA (pv 0) (qA (pv 1) qB))) (qA (qF (j9 rfl) (by rfl) T.n_max vD (qA (pv 0) (qA (pv 1) qB))) qB))))),?_⟩
  rintro as Φ ⟨a,b,rfl,k⟩
  walk_at "sv"
  exact ⟨⟨_,rfl⟩,k⟩
def tlt (s t:Tie):Prop:=s.1<t.1\/(s.1=t.1/\s.2<t.2)
def ndr (a b p:Int):Int:=if p=b then a else if p > b then p - 1 else p
theorem qAP {α:Type} {r:α->α->Prop} (irr:∀ a,¬ r a a) (asym:∀ a b,r a b->¬ r b a):∀{as bs:List α},as.Pairwise r->bs.Pairwise r->(∀ x,x∈as↔x∈bs)->as=bs
 | [],[],_,_,_=>rfl
 | [],b::bs,_,_,h=>absurd ((h b).mpr wN) yM
 | a::as,[],_,_,h=>absurd ((h a).mp wN) yM
 | a::as,b::bs,ha,hb,h=>by
  obtain ⟨a1,a2⟩:=fG.mp ha
  obtain ⟨b1,b2⟩:=fG.mp hb
  have e:a=b:=by
   rcases wZ.mp ((h a).mp wN) with z | z
   ·exact z
   ·rcases wZ.mp ((h b).mpr wN) with y | y
    ·exact y.symm
    ·exact absurd (a1 b y) (asym _ _ (b1 a z))
  subst e
  have t:as=bs:=qAP irr asym a2 b2 fun x=>⟨fun hx=>(wZ.mp ((h x).mp (wQ _ hx))).resolve_left fun z=>irr a (a1 a (z ▸ hx)),fun hx=>(wZ.mp ((h x).mpr (wQ _ hx))).resolve_left fun z=>irr a (b1 a (z ▸ hx))⟩
  rw [t]
theorem qBy:∀{a b:List Int},HT.lexLt a b=false->HT.lexLt b a=false->a=b
 | [],b,h,g=>by
  cases b with
  | nil=>rfl
  | cons y b=>exact nomatch h
 | x::a,[],h,g=>nomatch g
 | x::a,y::b,h,g=>by
  rw [HT.lexLt_cons] at h g
  by_cases e:x=y
  ·subst e
   rw [if_pos rfl] at h g
   rw [qBy h g]
  ·rw [if_neg e] at h
   rw [if_neg (gX e)] at g
   have:=of_decide_eq_false h
   have:=of_decide_eq_false g
   omega
theorem qJZ {l:List (List Int)} (h:l.Pairwise (fun a b=>HT.lexLt b a=false)) (nd:l.Nodup):l.Pairwise (fun a b=>HT.lexLt a b=true):=by
 rw [zN] at nd
 refine (h.and nd).imp fun {a b} z=>?_
 cases e:HT.lexLt a b with
 | true=>rfl
 | false=>exact absurd (qBy e z.1) z.2
def qMp:PV:=fun as Φ=>∃ p a b:Int,as=[.d (.int p),.d (.int a),.d (.int b)]/\Φ (.d (.int (ndr a b p))) as
def qGi (a b:Int) (t:Tie):Tie:=mk (ndr a b t.1) (ndr a b t.2)
def qGE (a b:Int) (ts us:List Tie):Prop:=us.Pairwise tlt/\∀ u,u∈us↔∃ t∈ts,ndr a b t.1≠ndr a b t.2/\u=qGi a b t
def qDz:PV:=fun as Φ=>∃(n:Nat) (ts:List Tie) (a b:Int),as=[.d (QP n ts),.d (.int a),.d (.int b)]/\1<=n/\ts.length<=40/\∀ us,qGE a b ts us->Φ (.d (QP (n - 1) us)) as
theorem qGn {s t:Tie} (h:Jg s=Jg t):s=t:=by
 obtain ⟨a,b⟩:=s
 obtain ⟨c,d⟩:=t
 obtain ⟨e1,e2⟩:=hE h
 obtain ⟨e3,_⟩:=hE e2
 exact Prod.ext e1 e3
theorem qKQ {s t:Tie} (h:HT.lexLt (Jg s) (Jg t)=true):tlt s t:=by
 unfold Jg at h
 unfold tlt
 rw [HT.lexLt_cons] at h
 by_cases e:s.1=t.1
 ·rw [if_pos e,HT.lexLt_cons] at h
  by_cases e2:s.2=t.2
  ·rw [if_pos e2] at h
   cases h
  ·rw [if_neg e2] at h
   exact .inr ⟨e,of_decide_eq_true h⟩
 ·rw [if_neg e] at h
  exact .inl (of_decide_eq_true h)
theorem qJb {us:List Tie} (so:(us.map Jg).Pairwise (fun a b=>HT.lexLt b a=false)) (nd:us.Nodup):us.Pairwise tlt:=by
 have nd2:(us.map Jg).Nodup:=by
  rw [zN,vW]
  exact (zN.mp nd).imp fun {a b} h z=>h (qGn z)
 have:=qJZ so nd2
 rw [vW] at this
 exact this.imp fun {a b} h=>qKQ h
theorem qIk {s:Tie}:¬ tlt s s:=fun h=>by
 unfold tlt at h
 omega
theorem qEQ {us:List Tie} (h:us.Pairwise tlt):us.Nodup:=zN.mpr (h.imp fun {a b} z (e:a=b)=>qIk (e ▸ z))
theorem YU:qR ["place","a","b"] ["place","a","b"] (qH (top 6)):=by walk_at "sc"
theorem YY (F:Fun K "number_drawn" "number_drawn" (top 6) f fd) (T:Txt mg):jo P w K mg base CX0 1 f fd ["place","a","b"] (spV qMp):=by
 refine jR F YU [0,1,2] (fun as Φ h=>?_) (fun cdv A outer s H E hr=>?_)
 ·obtain ⟨p,a,b,rfl,_⟩:=h
  rfl
 ·have hu:=hr.units
  refine ⟨_,(qD (jm (qO (qBB hu) (pv 0) (pv 2) (qY _))
   (qG (qP (pv 1)))
   qi)
   (qG (qP (qHv (qO qC3 (pv 0) (pv 2) (qY _)) (qQ Jb (pv 0) qC) (pv 0))))),?_⟩
  rintro as Φ ⟨p,a,b,rfl,k⟩
  unfold ndr at k
  walk_at "sv"
  refine QH (fun hc=>?_) (fun hc=>?_)
  ·rw [if_pos (ofd hc)] at k
   walk_at "v"
   exact ⟨⟨_,rfl⟩,k⟩
  ·rw [if_neg fun z=>hc (decide_eq_true z)] at k
   refine qw ?_
   refine Y7 (qM9 ?_)
   walk_at "v"
   refine QH (fun hc2=>?_) (fun hc2=>?_)
   ·rw [if_pos (ofd hc2)] at k
    walk_at "v"
    exact ⟨⟨_,rfl⟩,k⟩
   ·rw [if_neg fun z=>hc2 (decide_eq_true z)] at k
    walk_at "v"
    exact ⟨⟨_,rfl⟩,k⟩
theorem J6:qR ["web","a","b","many","ties","pairs"] ["web","a","b"] (qH (top 7)):=by walk_at "sc"
theorem qHu (F:Fun K "drawn" "drawn" (top 7) f fd) (T:Txt mg) (XAD:Has P w K mg base "number_drawn" (top 6) ["place","a","b"] 1 (spV qMp)) (XAf:Has P w K mg base "tie_of" (top 4) ["a","b"] 1 (spV qD1)):jo P w K mg base CX0 2 f fd ["web","a","b"] (spV qDz):=by
 refine jR F J6 [0,1,2] (fun as Φ h=>?_) (fun cdv A outer s H E hr=>?_)
 ·obtain ⟨n,ts,a,b,rfl,_⟩:=h
  rfl
 ·have hu:=hr.units
  refine ⟨_,(qD (JC (pv 0) (jX (K:=K) (n:=2) rfl rfl (qM (JF 3 J6) (qM (JF 4 J6) jU))))
   (qD (Q2 (i:=5) rfl J6.nd rfl rfl (own:=["one","other"]) (fr:=[("a",1),("b",2)]) (by walk_at "cs") (qz (K:=K) rfl (pv 4)) (fun cl C s0 H0 fp=>⟨(jX (K:=K) (n:=2) rfl rfl (qM (JG 0) (qM (JG 1) jU))),jk,(qS (qA (qx XAD hr (qA (pv 0) (qA (pv 2) (qA (pv 3) qB)))) (qA (qx XAD hr (qA (pv 1) (qA (pv 2) (qA (pv 3) qB)))) qB)))⟩))
   (qG (qP (qS (qA (qQ Jb (pv 3) qC) (qA (qp (Jh (K:=K) rfl) (by rfl) T.n_tuple zU (qA (qEI rfl hu (by rfl) T.n_sorted (own:=["one","other"]) (fr:=[]) (by walk_at "cs") (qz (K:=K) rfl (pv 5)) (fun cl C s0 H0 fp=>⟨(jX (K:=K) (n:=2) rfl rfl (qM (JG 0) (qM (JG 1) jU))),J2 (qO (qD9 hu) (pv 0) (pv 1) (qY _)),(qx XAf hr (qA (pv 0) (qA (pv 1) qB)))⟩)) qB)) qB))))))),?_⟩
  rintro as Φ ⟨n,ts,a,b,rfl,n1,hl,k⟩
  let SW:Sl:=.d (QP n ts)
  let SA:Sl:=.d (.int a)
  let SB:Sl:=.d (.int b)
  let SN:Sl:=.d (.int n)
  let ST:Sl:=.d (.tup (ts.map qu))
  let pr:Tie->Tie:=fun t=>(ndr a b t.1,ndr a b t.2)
  walk_at "st"
  refine qc (fun ρ=>ρ=[SW,SA,SB,SN,ST,.u]) ?_ ?_
  ·refine qA1 (qAf rfl ?_)
   refine qB3 rfl rfl (Yp (qm rfl (Yp (qm rfl (qFS ?_)))))
   rfl
  rintro ρ rfl
  refine qc (fun ρ=>ρ=[SW,SA,SB,SN,ST,.l (ts.map fun t=>qu (pr t))]) ?_ ?_
  ·refine qA1 (ja qu ts (fun _=>true) (fun t=>qu (pr t)) (Qp ?_))
   walk_at "v"
   refine ⟨_,_,rfl,rfl,rfl,qL (by omega),qb rfl,of_decide_eq_true rfl,?_,?_⟩
   ·rintro ⟨c,d⟩ ht os hos
    obtain ⟨z0,z1,rfl⟩:=qLR hos
    rw [show qu (c,d)=D.tup [.int c,.int d] from rfl]
    walk_at "v"
    refine ⟨⟨[_,_],rfl,rfl⟩,QG ⟨rfl,rfl⟩,fun _=>?_⟩
    walk_at "vc"
    refine ⟨c,a,b,rfl,⟨⟨_,rfl⟩,?_⟩⟩
    walk_at "st"
    walk_at "vc"
    refine ⟨d,a,b,rfl,⟨⟨_,rfl⟩,?_⟩⟩
    walk_at "sv"
    exact ⟨rfl,rfl⟩
   ·rw [qg]
    walk_at "v"
    rfl
  rintro ρ rfl
  refine qAt (i:=5) rfl ?_
  walk_at "sv"
  refine qGW (fun t=>qu (pr t)) ts (fun t=>!decide (ndr a b t.1=ndr a b t.2)) (fun t=>Jg (qGi a b t)) (Qp ?_)
  walk_at "v"
  refine ⟨_,_,rfl,rfl,rfl,by omega,qb rfl,of_decide_eq_true rfl,?_,fun t=>gP _ _,fun L nd inL so=>?_⟩
  ·rintro ⟨c,d⟩ ht os hos
   obtain ⟨z0,z1,rfl⟩:=qLR hos
   rw [show qu (pr (c,d))=D.tup [.int (ndr a b c),.int (ndr a b d)] from rfl]
   walk_at "v"
   refine ⟨⟨[_,_],rfl,rfl⟩,?_,fun _=>?_⟩
   ·walk_at "v"
    exact ⟨rfl,rfl⟩
   ·walk_at "call"
    exact ⟨_,_,rfl,⟨⟨_,rfl⟩,rfl,rfl⟩⟩
  ·have inn:∀ r,r∈L↔∃ t∈ts,ndr a b t.1≠ndr a b t.2/\r=Jg (qGi a b t):=fun r=>by
    rw [inL,zJ]
    constructor
    ·rintro ⟨t,ht,e⟩
     obtain ⟨h1,h2⟩:=vZ.mp ht
     rw [gK,decide_eq_false_iff_not] at h2
     exact ⟨t,h1,h2,e.symm⟩
    ·rintro ⟨t,h1,h2,e⟩
     exact ⟨t,vZ.mpr ⟨h1,by rw [gK,decide_eq_false_iff_not]; exact h2⟩,e.symm⟩
   let un:List Int->Tie:=fun l=>(l.getD 0 0,l.getD 1 0)
   have back:∀ r∈L,Jg (un r)=r:=fun r hr=>by
    obtain ⟨t,_,_,rfl⟩:=(inn r).mp hr
    rfl
   have eL:L=(L.map un).map Jg:=by
    rw [zE]
    conv=>lhs; rw [<- List.map_id L]
    exact vV fun r hr=>(back r hr).symm
   have ndu:(L.map un).Nodup:=by
    rw [eL] at nd
    exact (zN.mpr ((vW.mp (zN.mp nd)).imp fun {s t} h (z:s=t)=>h (congrArg Jg z)))
   have up:(L.map un).Pairwise tlt:=qJb (eL ▸ so) ndu
   have inu:∀ u,u∈L.map un↔∃ t∈ts,ndr a b t.1≠ndr a b t.2/\u=qGi a b t:=fun u=>by
    rw [zJ]
    constructor
    ·rintro ⟨r,hr,rfl⟩
     obtain ⟨t,h1,h2,rfl⟩:=(inn r).mp hr
     exact ⟨t,h1,h2,rfl⟩
    ·rintro ⟨t,h1,h2,rfl⟩
     exact ⟨Jg (qGi a b t),(inn _).mpr ⟨t,h1,h2,rfl⟩,rfl⟩
   have e2:L.map Qa=(L.map un).map qu:=by
    conv=>lhs; rw [eL]
    exact (qH5 _).symm
   rw [e2]
   walk_at "v"
   have en:(n:Int) - 1=((n - 1:Nat):Int):=by omega
   rw [en]
   exact ⟨⟨_,rfl⟩,k _ ⟨up,inu⟩⟩
inductive Pap
 | crowd (ps:List Int)
 | part (a b:Int) (one other:Pap)
def QK:Pap->D
 | .crowd ps=>.tup [.str "crowd",.tup (qI ps)]
 | .part a b x y=>.tup [.str "part",.int a,.int b,QK x,QK y]
def Pap.deep:Pap->Nat
 | .crowd _=>0
 | .part _ _ x y=>max x.deep y.deep+1
def Pap.slim:Pap->Prop
 | .crowd ps=>ps.length<=30
 | .part _ _ x y=>x.slim/\y.slim
def qBa (ts:List Tie):List Int->Bool
 | []=>true
 | a::r=>r.all (fun b=>decide ((a,b)∈ts)) && qBa ts r
def inB (n:Nat) (p:Int):Bool:=decide (0<=p) && decide (p<(n:Int))
def QL (n:Nat) (ts:List Tie) (k:Int) (ps:List Int):Bool:=decide ((ps.length:Int)=k) && (ps.all (inB n) && qBa ts ps)
def j8 (a b:Int) (ts:List Tie):List Tie:=(ts.filter fun t=>!decide (ndr a b t.1=ndr a b t.2)).map (qGi a b)
def okP (k:Int):Pap->Nat->List Tie->Bool
 | .crowd ps,n,ts=>QL n ts k ps
 | .part a b x y,n,ts=>(decide (0<=a) && (decide (a<b) && decide (b<(n:Int)))) && (!decide ((a,b)∈ts) && (okP k x (n - 1) (j8 a b ts) && okP k y n (ts++[(a,b)])))
theorem qBh {ts us:List Tie} (h:∀ t,t∈ts↔t∈us):∀ ps:List Int,qBa ts ps=qBa us ps
 | []=>rfl
 | a::r=>by
  have e:(fun b=>decide ((a,b)∈ts))=fun b=>decide ((a,b)∈us):=funext fun b=>decide_eq_decide.mpr (h (a,b))
  unfold qBa
  rw [e,qBh h r]
theorem Qx {a b:Int} {ts:List Tie} {u:Tie}:u∈j8 a b ts↔∃ t∈ts,ndr a b t.1≠ndr a b t.2/\u=qGi a b t:=by
 unfold j8
 rw [zJ]
 constructor
 ·rintro ⟨t,ht,rfl⟩
  obtain ⟨h1,h2⟩:=vZ.mp ht
  rw [gK,decide_eq_false_iff_not] at h2
  exact ⟨t,h1,h2,rfl⟩
 ·rintro ⟨t,h1,h2,rfl⟩
  exact ⟨t,vZ.mpr ⟨h1,by rw [gK,decide_eq_false_iff_not]; exact h2⟩,rfl⟩
theorem Q5 (k:Int):∀(p:Pap) (n:Nat) {ts us:List Tie},(∀ t,t∈ts↔t∈us)->okP k p n ts=okP k p n us
 | .crowd ps,n,ts,us,h=>by
  unfold okP QL
  rw [qBh h]
 | .part a b x y,n,ts,us,h=>by
  unfold okP
  rw [decide_eq_decide.mpr (h (a,b)),Q5 k x (n - 1) (ts:=j8 a b ts) (us:=j8 a b us) fun t=>?_,Q5 k y n (ts:=ts++[(a,b)]) (us:=us++[(a,b)]) fun t=>?_]
  ·rw [zK,zK,h t]
  ·rw [Qx,Qx]
   exact ⟨fun ⟨s,h1,h2⟩=>⟨s,(h s).mp h1,h2⟩,fun ⟨s,h1,h2⟩=>⟨s,(h s).mpr h1,h2⟩⟩
theorem qAT {a b:Int} {ts us:List Tie} (h:qGE a b ts us):∀ t,t∈us↔t∈j8 a b ts:=fun t=>by rw [Qx]; exact h.2 t
theorem qFc {a b:Int} {ts us:List Tie} (h:qGE a b ts us):us.length<=ts.length:=by
 refine zC (uW (qEQ h.1) (l₂:=j8 a b ts) fun t ht=>(qAT h t).mp ht) ?_
 unfold j8
 rw [wA]
 exact vC _ _
def Jr (ts:List Tie):List Int->List (List Bool)
 | []=>[]
 | a::r=>r.map (fun b=>decide ((a,b)∈ts))::Jr ts r
theorem qBI (ts:List Tie):∀ ps:List Int,(Jr ts ps).length=ps.length
 | []=>rfl
 | _::r=>congrArg (· + 1) (qBI ts r)
theorem qBJ (ts:List Tie):∀ ps:List Int,(Jr ts ps).flatten.all id=qBa ts ps
 | []=>rfl
 | a::r=>by
  show (r.map (fun b=>decide ((a,b)∈ts))++(Jr ts r).flatten).all id=(r.all (fun b=>decide ((a,b)∈ts)) && qBa ts r)
  rw [List.all_append,qBJ ts r,uB]
  rfl
theorem qBC (ts:List Tie):∀{ps:List Int} {k:Nat} {a:Int},ps[k]? = some a->(Jr ts ps)[k]? = some ((ps.drop (k+1)).map fun b=>decide ((a,b)∈ts))
 | [],_,_,h=>by cases h
 | _::_,0,_,h=>by cases h; rfl
 | _::r,k+1,a,h=>qBC ts (ps:=r) (k:=k) h
theorem qBp (ts:List Tie):∀{ps:List Int} {m:Nat},ps.length<=m->∀ k,((Jr ts ps).take k).flatten.length<=k*m
 | [],m,_,k=>by
  rw [show Jr ts []=[] from rfl,List.take_nil]
  exact zP _
 | a::r,m,h,0=>zP _
 | a::r,m,h,k+1=>by
  have h':r.length+1<=m:=h
  show (r.map (fun b=>decide ((a,b)∈ts))++((Jr ts r).take k).flatten).length<=(k+1)*m
  rw [wM,wA,Nat.succ_mul]
  have:=qBp ts (ps:=r) (m:=m) (by omega) k
  omega
theorem qf {X:Cx} {x:Str} {pos:Pos} {st:Stmt} {ps:List Str} {j k:Nat} {sp:Sp} {e:Expr} {es:List Expr} {t:TA} {p:Pos} (h:Has X.prog X.w X.K X.mg X.base x st ps k sp) (hr:Y0 j X.A) (ha:PA X (e::es) t) (hk:k<=j:=by omega) (hg:Gl X x:=by rfl) (hdb:(x == ("__debug__" : Str))=false:=by decide) (he:starEach (e::es) X.env=(false,eval e X.env)::starEach es X.env:=by rfl) (hpl:(backTo pos (starEach es X.env)).any (·.1)=false:=by rfl):PE X (.Call (.Name x p) (e::es) [] pos) (qHA sp [] E0 t):=qx h hr ha hk hg hdb he hpl
theorem qLr {p:Prop} {i:Decidable p} (h:¬ (@decide p i)=true):¬ p:=fun z=>h (@decide_eq_true p i z)
def qDe:PV:=fun as Φ=>∃ m a b:Int,as=[.d (.int m),.d (.tup [.int a,.int b])]/\Φ (.d (.bl (decide (0<=a) && (decide (a<b) && decide (b<m))))) as
def qFa:PV:=fun as Φ=>∃(n:Nat) (ts:List Tie) (p:Int),as=[.d (QP n ts),.d (.int p)]/\Φ (.d (.bl (inB n p))) as
def qDu:PV:=fun as Φ=>∃(n:Nat) (ts:List Tie) (a b:Int),as=[.d (QP n ts),.d (.int a),.d (.int b)]/\a<b/\ts.length<=40/\∀ ts':List Tie,ts'.Perm (ts++[(a,b)])->Φ (.d (QP n ts')) as
def qBt:PV:=fun as Φ=>∃(n:Nat) (ts:List Tie) (k:Int) (ps:List Int),as=[.d (QP n ts),.d (.int k),.d (.tup (qI ps))]/\ps.length<=30/\Φ (.d (.bl (QL n ts k ps))) as
def qBU (m:Nat):PV:=fun as Φ=>∃(n:Nat) (ts:List Tie) (k:Int) (p:Pap),as=[.d (QP n ts),.d (.int k),.d (QK p)]/\p.deep<m/\m<=12/\p.slim/\1<=n/\ts.length+m<=40/\Φ (.d (.bl (okP k p n ts))) as
def qHX (m:Nat):PV:=fun as Φ=>∃(n:Nat) (ts:List Tie) (k a b:Int) (x y:Pap),as=[.d (QP n ts),.d (.int k),.d (QK (.part a b x y))]/\(Pap.part a b x y).deep<m/\m<=12/\(Pap.part a b x y).slim/\1<=n/\ts.length+m<=40/\Φ (.d (.bl (okP k (.part a b x y) n ts))) as
theorem QI:qR ["many","thing","a","b"] ["many","thing"] (qH (top 2)):=by walk_at "sc"
theorem Y8 (F:Fun K "is_tie_form" "is_tie_form" (top 2) f fd) (T:Txt mg) (XAa:Has P w K mg base "is_whole" (top 1) ["thing"] 1 (spV qBV)):jo P w K mg base CX0 2 f fd ["many","thing"] (spV qDe):=by
 refine jR F QI [0,1] (fun as Φ h=>?_) (fun cdv A outer s H E hr=>?_)
 ·obtain ⟨m,a,b,rfl,_⟩:=h
  rfl
 ·have hu:=hr.units
  refine ⟨_,(qD (jm (PW.pt (JI (QM (qo (K:=K) rfl (qF (JK (K:=K) rfl) (by rfl) T.n_isinstance vI (qA (pv 1) (qA (JJ (v:=.ty "tuple") (by rfl) T.n_tuple zU rfl) qB))) (fun _=>rfl))) (Qk (qO (qD9 hu) (qF (qBu (K:=K) rfl) (by rfl) T.n_len yX (qA (pv 1) qB)) qC (qY _)))))
   (qG (qP JA))
   qi)
   (qD (JC (pv 1) (jX (K:=K) (n:=2) rfl rfl (qM (JF 2 QI) (qM (JF 3 QI) jU))))
   (qG (qP (Qw (qx XAa hr (qA (pv 2) qB)) (Qw (qx XAa hr (qA (pv 3) qB)) (Qq (qFW qE8 Yi Yi qC (pv 2) (pv 3) (pv 0))))))))),?_⟩
  rintro as Φ ⟨m,a,b,rfl,k⟩
  walk_at "st"
  refine qc (fun ρ=>ρ=[.d (.int m),.d (.tup [.int a,.int b]),.u,.u]) ?_ ?_
  ·refine Yv (qCm ?_)
   walk_at "v"
   refine ite_no ?_
   walk_at "v"
   refine ite_no ?_
   exact qw rfl
  rintro ρ rfl
  walk_at "v"
  walk_at "st"
  refine v_and ?_
  walk_at "call"
  refine ⟨.int a,rfl,⟨⟨_,rfl⟩,?_⟩⟩
  walk_at "sv"
  rw [if_pos (show jZ (D.int a)=true from rfl)]
  refine v_and ?_
  walk_at "call"
  refine ⟨.int b,rfl,⟨⟨_,rfl⟩,?_⟩⟩
  walk_at "sv"
  rw [if_pos (show jZ (D.int b)=true from rfl)]
  walk_at "vJ"
  exact ⟨⟨_,rfl⟩,k⟩
theorem qCg:qR ["web","thing"] ["web","thing"] (qH (top 3)):=by walk_at "sc"
theorem qC5 (F:Fun K "is_place" "is_place" (top 3) f fd) (T:Txt mg) (XAa:Has P w K mg base "is_whole" (top 1) ["thing"] 1 (spV qBV)):jo P w K mg base CX0 2 f fd ["web","thing"] (spV qFa):=by
 refine jR F qCg [0,1] (fun as Φ h=>?_) (fun cdv A outer s H E hr=>?_)
 ·obtain ⟨n,ts,p,rfl,_⟩:=h
  rfl
 ·have hu:=hr.units
  refine ⟨_,(qG (qP (Qw (qx XAa hr (qA (pv 1) qB)) (Qq (qAz qE8 Yi qC (pv 1) (jD (pv 0) qC)))))),?_⟩
  rintro as Φ ⟨n,ts,p,rfl,k⟩
  walk_at "st"
  refine Y7 (v_and ?_)
  walk_at "call"
  refine ⟨.int p,rfl,⟨⟨_,rfl⟩,?_⟩⟩
  walk_at "sv"
  rw [if_pos (show jZ (D.int p)=true from rfl)]
  walk_at "vJ"
  exact ⟨⟨_,rfl⟩,k⟩
theorem JL:qR ["web","a","b","many","ties"] ["web","a","b"] (qH (top 8)):=by walk_at "sc"
theorem qDF (F:Fun K "with_tie" "with_tie" (top 8) f fd) (T:Txt mg) (XAf:Has P w K mg base "tie_of" (top 4) ["a","b"] 1 (spV qD1)):jo P w K mg base CX0 2 f fd ["web","a","b"] (spV qDu):=by
 refine jR F JL [0,1,2] (fun as Φ h=>?_) (fun cdv A outer s H E hr=>?_)
 ·obtain ⟨n,ts,a,b,rfl,_⟩:=h
  rfl
 ·have hu:=hr.units
  refine ⟨_,(qD (JC (pv 0) (jX (K:=K) (n:=2) rfl rfl (qM (JF 3 JL) (qM (JF 4 JL) jU))))
   (qG (qP (qS (qA (pv 3) (qA (qp (Jh (K:=K) rfl) (by rfl) T.n_tuple zU (qA (qF (QD hu) (by rfl) T.n_sorted uT (qA (qQ (j4 (K:=K) rfl) (pv 4) (qS (qA (qx XAf hr (qA (pv 1) (qA (pv 2) qB))) qB))) qB)) qB)) qB)))))),?_⟩
  rintro as Φ ⟨n,ts,a,b,rfl,ab,hl,k⟩
  have mab:mk a b=(a,b):=by
   show (if b<a then b else a,if b > a then b else a)=(a,b)
   rw [if_neg (by omega),if_pos ab]
  walk_at "sv"
  walk_at "st"
  walk_at "call"
  refine ⟨a,b,rfl,⟨⟨_,rfl⟩,?_⟩⟩
  rw [mab]
  walk_at "sv"
  refine OpV.r (OpV.r (jn rfl rfl (szl (by rw [wA]; show ts.length+1<=1000; omega)) ?_))
  walk_at "v"
  have e0:WV qu ts++[qu (a,b)]=((ts++[(a,b)]).map Jg).map Qa:=by
   rw [jS,zI]
   rfl
  refine JU (nss:=(ts++[(a,b)]).map Jg) (.inl (congrArg (fun z=>some (D.tup z)) e0)) (fun ns hns=>?_) (by rw [wA,wM]; show ts.length+1<64; omega) fun nss' pm=>?_
  ·obtain ⟨t,_,rfl⟩:=zJ.mp hns
   exact gP _ _
  ·obtain ⟨ts',rfl,p1⟩:=Qu pm
   rw [jS]
   walk_at "v"
   exact ⟨⟨_,rfl⟩,k ts' p1⟩
theorem qDB:qR ["web","k","thing"] ["web","k","thing"] (qH (top 14)):=by walk_at "sc"
theorem qCj (F:Fun K "is_crowd" "is_crowd" (top 14) f fd) (T:Txt mg) (XAZ:Has P w K mg base "is_place" (top 3) ["web","thing"] 2 (spV qFa)):jo P w K mg base CX0 3 f fd ["web","k","thing"] (spV qBt):=by
 refine jR F qDB [0,1,2] (fun as Φ h=>?_) (fun cdv A outer s H E hr=>?_)
 ·obtain ⟨n,ts,m,ps,rfl,_⟩:=h
  rfl
 ·have hu:=hr.units
  refine ⟨_,(qD (jm (PW.pt (JI (QM (qo (K:=K) rfl (qF (JK (K:=K) rfl) (by rfl) T.n_isinstance vI (qA (pv 2) (qA (JJ (v:=.ty "tuple") (by rfl) T.n_tuple zU rfl) qB))) (fun _=>rfl))) (Qk (qO (qD9 hu) (qF (qBu (K:=K) rfl) (by rfl) T.n_len yX (qA (pv 2) qB)) (pv 1) (qY _)))))
   (qG (qP JA))
   qi)
   (qD (jm (QM (qo (K:=K) rfl (qF (jj rfl) (by rfl) T.n_all vY (qA (jF rfl (own:=["place"]) (fr:=[("web",0)]) (by walk_at "cs") (qz (K:=K) rfl (pv 2)) (fun cl C s0 H0 fp=>⟨(JG 0),jk,(qx XAZ hr (qA (pv 1) (qA (pv 0) qB)))⟩)) qB)) (fun _=>rfl)))
   (qG (qP JA))
   qi)
   (qG (qP (qF (jj rfl) (by rfl) T.n_all vY (qA (qKU rfl (own:=["at","a","b"]) (fr:=[("thing",2),("web",0)]) (by walk_at "cs") (qKa (by rfl) T.n_enumerate (qA (pv 2) qB)) (fun cl C s0 H0 fp=>⟨(jX (K:=K) (n:=2) rfl rfl (qM (JG 0) (qM (JG 1) jU))),jk,(qz (K:=K) rfl (qv (qCW (K:=K) rfl) (pv 3) (jG (qQ (j4 (K:=K) rfl) (pv 0) qC)) jO)),(JG 2),jk,(QR (qKW hu) (qS (qA (pv 1) (qA (pv 2) qB))) (jD (pv 4) qC) (by with_unfolding_all rfl))⟩)) qB)))))),?_⟩
  rintro as Φ ⟨n,ts,m,ps,rfl,hl,k⟩
  let S0:Sl:=.d (QP n ts)
  let S2:Sl:=.d (.tup (qI ps))
  unfold QL at k
  walk_at "st"
  refine qc (fun ρ=>(ps.length:Int)=m/\ρ=[S0,.d (.int m),S2]) ?_ ?_
  ·refine Yv (qCm ?_)
   walk_at "v"
   refine ite_no ?_
   walk_at "v"
   refine QH (fun hc=>?_) (fun hc=>?_)
   ·walk_at "v"
    have e:=of_decide_eq_false (jH hc)
    rw [show (qI ps).length=ps.length from wA _] at e
    rw [decide_eq_false e,yJ] at k
    exact ⟨⟨_,rfl⟩,k⟩
   ·have e:=of_decide_eq_true (jc hc)
    rw [show (qI ps).length=ps.length from wA _] at e
    exact qw ⟨e,rfl⟩
  rintro ρ ⟨em,rfl⟩
  rw [decide_eq_true em,yB] at k
  refine qc (fun ρ=>ps.all (inB n)=true/\ρ=[S0,.d (.int m),S2]) ?_ ?_
  ·refine Yv ?_
   walk_at "v"
   refine ja D.int ps (fun _=>true) (fun p=>D.bl (inB n p)) (Qp ?_)
   walk_at "v"
   refine ⟨_,_,rfl,rfl,rfl,qL (by omega),qb rfl,of_decide_eq_true rfl,?_,?_⟩
   ·rintro p _ os hos
    obtain ⟨z0,rfl⟩:=qCT hos
    walk_at "v"
    refine ⟨⟨[_],rfl,rfl⟩,QG ⟨rfl,rfl⟩,fun _=>?_⟩
    walk_at "call"
    exact ⟨n,ts,p,rfl,⟨⟨_,rfl⟩,rfl,rfl⟩⟩
   rw [qg,show ps.map (fun p=>D.bl (inB n p))=(ps.map (inB n)).map D.bl from by rw [zE]; rfl]
   walk_at "v"
   refine qCC rfl ?_
   rw [show (ps.map (inB n)).all id=ps.all (inB n) from by rw [uB]; rfl]
   walk_at "v"
   refine QH (fun ha=>?_) (fun ha=>?_)
   ·walk_at "v"
    rw [jH ha,yJ] at k
    exact ⟨⟨_,rfl⟩,k⟩
   ·exact qw ⟨jc ha,rfl⟩
  rintro ρ ⟨ea,rfl⟩
  rw [ea,yB] at k
  walk_at "v"
  refine qLt (qLz ?_)
  walk_at "v"
  refine ⟨_,⟨_,rfl,rfl⟩,qb rfl,of_decide_eq_true rfl,fun j ys ρc=>∃ s0 s1 s2:Sl,ρc=[s0,s1,s2,S2,S0]/\ys=((Jr ts ps).take j).flatten.map D.bl/\j<=ps.length,⟨_,_,_,rfl,rfl,zP _⟩,?_,?_,?_⟩
  ·rintro j ys ρc ⟨s0,s1,s2,rfl,_⟩
   rfl
  ·rintro j x ys ρc hx ⟨s0,s1,s2,rfl,rfl,hj⟩
   have hj2:j<ps.length:=by
    have:=(wL.mp hx).1
    rw [JV] at this
    rwa [show (qI ps).length=ps.length from wA _] at this
   have ga:=wC hj2
   generalize ps[j]=a at ga
   rw [YR (x:=D.int a) (by unfold qI; rw [wI,ga]; rfl),ZH] at hx
   cases hx
   have few:=qBp ts (ps:=ps) (m:=30) hl j
   have f2:j*30<=900:=by omega
   refine qB3 rfl rfl ?_
   walk_at "v"
   refine (if_pos rfl).mpr ?_
   refine qK0 ?_
   walk_at "v"
   refine SlV.r (qCx rfl ?_)
   rw [show (some ((j:Int)+1))=some ((j+1:Nat):Int) from congrArg some (by omega),QV,<- UR]
   refine ⟨_,_,rfl,rfl,fun i ys ρc=>∃ s2:Sl,ρc=[.d (.int j),.d (.int a),s2,S2,S0]/\ys=(((Jr ts ps).take j).flatten++(((ps.drop (j+1)).take i).map fun b=>decide ((a,b)∈ts))).map D.bl,⟨_,rfl,by rw [UI,ZF,zZ]⟩,?_,?_,?_⟩
   ·rintro i ys ρc ⟨s2,rfl,rfl⟩
    refine qL ?_
    rw [wA,wM,wA,yW,yI]
    omega
   ·rintro i u ys ρc hu ⟨s2,rfl,rfl⟩
    rw [wI] at hu
    obtain ⟨b,hb,rfl⟩:=gD.mp hu
    refine qm rfl ?_
    walk_at "sv"
    refine (if_pos rfl).mpr ?_
    walk_at "v"
    refine qG7 (f:=qu) (q:=(a,b)) (fs:=ts) Yc (fun _=>zG rfl) rfl (.inr rfl) ?_
    refine ⟨_,rfl,_,rfl,?_⟩
    rw [uO,hb,zI,zI,zI]
    simp only [zI,vR,Option.toList_some,yV,ZF]
    exact congrArg (_ ++ ·) (congrArg (_ ++ ·) (congrArg (fun b=>[D.bl b]) (decide_eq_decide.mpr Iff.rfl)))
   ·rintro ys ρc ⟨s2,rfl,rfl⟩
    refine ⟨_,_,_,rfl,?_,hj2⟩
    rw [wA,xQ,uO,qBC ts ga,List.flatten_append]
    show _=((List.take j (Jr ts ps)).flatten++[WV (fun b=>decide ((a,b)∈ts)) (List.drop (j+1) ps)].flatten).map D.bl
    rw [List.flatten_singleton]
  ·rintro ys ρc ⟨s0,s1,s2,rfl,rfl,_⟩
   have e:(Jr ts ps).take (qDA 0 (qI ps)).length=Jr ts ps:=by
    rw [JV,show (qI ps).length=ps.length from wA _,<- qBI ts ps,xQ]
   rw [e]
   walk_at "v"
   refine qCC rfl ?_
   rw [qBJ]
   walk_at "v"
   exact ⟨⟨_,rfl⟩,k⟩
theorem jx:qR ["web","k","thing","word","a","b","one","other"] ["web","k","thing"] (qH (top 15)):=by walk_at "sc"
theorem Yr {m:Nat} {f:Addr} {fd:FuncData} (F:Fun K "is_part" "is_part" (top 15) f fd) (T:Txt mg) (XAE:Has P w K mg base "is_tie_form" (top 2) ["many","thing"] 2 (spV qDe)) (XAg:Has P w K mg base "drawn" (top 7) ["web","a","b"] 2 (spV qDz)) (XAb:Has P w K mg base "with_tie" (top 8) ["web","a","b"] 2 (spV qDu)) (XAY:Has P w K mg base "is_paper" (top 16) ["web","k","thing"] (2*m+4) (spV (qBU m))):jo P w K mg base CX0 (2*m+5) f fd ["web","k","thing"] (spV (qHX (m+1))):=by
 refine jR F jx [0,1,2] (fun as Φ h=>?_) (fun cdv A outer s H E hr=>?_)
 ·obtain ⟨n,ts,k,a,b,x,y,rfl,_⟩:=h
  rfl
 ·have hu:=hr.units
  refine ⟨_,(qD (JC (pv 2) (jX (K:=K) (n:=5) rfl rfl (qM (JF 3 jx) (qM (JF 4 jx) (qM (JF 5 jx) (qM (JF 6 jx) (qM (JF 7 jx) jU)))))))
   (qD (jm (PW.pt (JI (qO (qD9 hu) (pv 3) JD (qY _)) (JI (QM (qo (K:=K) rfl (qf XAE hr (qA (jD (pv 0) qC) (qA (qS (qA (pv 4) (qA (pv 5) qB))) qB))) (fun _=>rfl))) (Qk (qO (qKW hu) (qS (qA (pv 4) (qA (pv 5) qB))) (jD (pv 0) qC) (by with_unfolding_all rfl))))))
   (qG (qP JA))
   qi)
   (qG (qP (Qw (qf XAY hr (qA (qf XAg hr (qA (pv 0) (qA (pv 4) (qA (pv 5) qB)))) (qA (pv 1) (qA (pv 6) qB)))) (Qq (qf XAY hr (qA (qf XAb hr (qA (pv 0) (qA (pv 4) (qA (pv 5) qB)))) (qA (pv 1) (qA (pv 7) qB)))))))))),?_⟩
  rintro as Φ ⟨n,ts,c,a,b,x,y,rfl,hd,hm,⟨sx,sy⟩,hn,hl,k⟩
  have dx:x.deep<m:=by
   have:max x.deep y.deep+1<m+1:=hd
   omega
  have dy:y.deep<m:=by
   have:max x.deep y.deep+1<m+1:=hd
   omega
  unfold okP at k
  let S0:Sl:=.d (QP n ts)
  let S1:Sl:=.d (.int c)
  let S2:Sl:=.d (QK (.part a b x y))
  walk_at "st"
  refine qc (fun ρ=>ρ=[S0,S1,S2,.d (.str "part"),.d (.int a),.d (.int b),.d (QK x),.d (QK y)]) ?_ ?_
  ·refine qA1 (qAf rfl ?_)
   refine qB3 rfl rfl ?_
   walk_at "v"
   rfl
  rintro ρ rfl
  refine qc (fun ρ=>a<b/\(decide (0<=a) && (decide (a<b) && decide (b<(n:Int))))=true/\(a,b)∉ts/\ρ=[S0,S1,S2,.d (.str "part"),.d (.int a),.d (.int b),.d (QK x),.d (QK y)]) ?_ ?_
  ·refine Yv (qCm ?_)
   walk_at "v"
   refine OpV.l (qJA rfl rfl rfl rfl rfl ?_)
   rw [decide_eq_true rfl]
   refine ⟨_,rfl,?_⟩
   refine ite_no ?_
   refine qCm ?_
   walk_at "v"
   refine qX ?_
   walk_at "v"
   refine ⟨of_decide_eq_true rfl,?_⟩
   walk_at "st"
   refine ⟨n,a,b,rfl,⟨⟨_,rfl⟩,?_⟩⟩
   walk_at "sv"
   refine QH (fun h3=>?_) (fun h3=>?_)
   ·rw [if_pos rfl]
    walk_at "v"
    rw [jH h3,yJ] at k
    exact ⟨⟨_,rfl⟩,k⟩
   have h1:=jc h3
   walk_at "v"
   refine qG7 (f:=qu) (q:=(a,b)) (fs:=ts) Yc (fun _=>zG rfl) rfl (.inr rfl) ?_
   refine ⟨_,rfl,?_⟩
   refine QH (fun h4=>?_) (fun h4=>?_)
   ·walk_at "v"
    rw [h1,yB,decide_eq_true (ofd h4),Bool.not_true,yJ] at k
    exact ⟨⟨_,rfl⟩,k⟩
   have ab:a<b:=by
    rw [zY,zY] at h1
    exact of_decide_eq_true h1.2.1
   exact qw ⟨ab,h1,qLr h4,rfl⟩
  rintro ρ ⟨ab,h1,h2,rfl⟩
  rw [h1,yB,decide_eq_false h2,UG,yB] at k
  have n2:2<=n:=by
   rw [zY,zY] at h1
   have a0:=of_decide_eq_true h1.1
   have bn:=of_decide_eq_true h1.2.2
   omega
  refine Y7 (v_and ?_)
  refine qX ?_
  walk_at "v"
  refine qX ?_
  walk_at "v"
  refine ⟨of_decide_eq_true rfl,?_⟩
  walk_at "st"
  refine ⟨n,ts,a,b,rfl,hn,by omega,fun us dr=>⟨⟨_,rfl⟩,?_⟩⟩
  have few:=qFc dr
  walk_at "sv"
  refine ⟨of_decide_eq_true rfl,?_⟩
  walk_at "st"
  refine ⟨n - 1,us,c,x,rfl,dx,by omega,sx,by omega,by omega,⟨⟨_,rfl⟩,?_⟩⟩
  rw [Q5 c x (n - 1) (qAT dr)]
  walk_at "sv"
  cases e:okP c x (n - 1) (j8 a b ts) with
  | false=>
   rw [if_neg wU]
   rw [e,yJ] at k
   exact ⟨⟨_,rfl⟩,k⟩
  | true=>
   rw [if_pos rfl]
   rw [e,yB] at k
   refine qX ?_
   walk_at "v"
   refine qX ?_
   walk_at "v"
   refine ⟨of_decide_eq_true rfl,?_⟩
   walk_at "st"
   refine ⟨n,ts,a,b,rfl,ab,by omega,fun us pm=>⟨⟨_,rfl⟩,?_⟩⟩
   have lu:=pm.length_eq
   rw [wM] at lu
   have lu2:us.length=ts.length+1:=lu
   walk_at "sv"
   refine ⟨of_decide_eq_true rfl,?_⟩
   walk_at "st"
   refine ⟨n,us,c,y,rfl,dy,by omega,sy,hn,by omega,⟨⟨_,rfl⟩,?_⟩⟩
   rw [Q5 c y n fun t=>pm.mem_iff]
   exact ⟨⟨_,rfl⟩,k⟩
theorem qCZ:qR ["web","k","thing"] ["web","k","thing"] (qH (top 16)):=by walk_at "sc"
theorem Jw {m:Nat} {f:Addr} {fd:FuncData} (F:Fun K "is_paper" "is_paper" (top 16) f fd) (T:Txt mg) (XAX:Has P w K mg base "is_crowd" (top 14) ["web","k","thing"] 3 (spV qBt)) (XAe:Has P w K mg base "is_part" (top 15) ["web","k","thing"] (2*m+5) (spV (qHX (m+1)))):jo P w K mg base CX0 (2*m+6) f fd ["web","k","thing"] (spV (qBU (m+1))):=by
 refine jR F qCZ [0,1,2] (fun as Φ h=>?_) (fun cdv A outer s H E hr=>?_)
 ·obtain ⟨n,ts,k,p,rfl,_⟩:=h
  rfl
 ·have hu:=hr.units
  refine ⟨_,(qD (jm (QM (qo (K:=K) rfl (qF (JK (K:=K) rfl) (by rfl) T.n_isinstance vI (qA (pv 2) (qA (JJ (v:=.ty "tuple") (by rfl) T.n_tuple zU rfl) qB))) (fun _=>rfl)))
   (qG (qP JA))
   qi)
   (qD (jm (qO (qBB hu) (qF (qBu (K:=K) rfl) (by rfl) T.n_len yX (qA (pv 2) qB)) qC (qY _))
   (qG (qP (Qw (QR (qBB hu) (jD (pv 2) qC) JD (qY _)) (Qq (qf XAX hr (qA (pv 0) (qA (pv 1) (qA (jD (pv 2) qC) qB))))))))
   qi)
   (qG (qP (Qw (QR (qBB hu) (qF (qBu (K:=K) rfl) (by rfl) T.n_len yX (qA (pv 2) qB)) qC (qY _)) (Qq (qf XAe hr (qA (pv 0) (qA (pv 1) (qA (pv 2) qB)))))))))),?_⟩
  rintro as Φ ⟨n,ts,c,p,rfl,hd,hm,sl,hn,hl,k⟩
  let S0:Sl:=.d (QP n ts)
  let S1:Sl:=.d (.int c)
  cases p with
  | crowd ps=>
   unfold okP at k
   walk_at "st"
   refine qc (fun ρ=>ρ=[S0,S1,.d (QK (.crowd ps))]) ?_ ?_
   ·refine Yv ?_
    walk_at "v"
    refine ite_no ?_
    exact qw rfl
   rintro ρ rfl
   refine Yz (Yv ?_)
   walk_at "v"
   refine QH (fun _=>?_) (fun z=>absurd rfl z)
   refine Y7 (v_and ?_)
   walk_at "v"
   refine OpV.l (qBw rfl rfl rfl rfl rfl ?_)
   rw [decide_eq_true rfl]
   refine ⟨_,rfl,?_⟩
   rw [if_pos rfl]
   refine qX ?_
   walk_at "v"
   refine ⟨of_decide_eq_true rfl,?_⟩
   walk_at "st"
   exact ⟨n,ts,c,ps,rfl,sl,⟨⟨_,rfl⟩,⟨_,rfl⟩,k⟩⟩
  | part a b x y=>
   walk_at "st"
   refine qc (fun ρ=>ρ=[S0,S1,.d (QK (.part a b x y))]) ?_ ?_
   ·refine Yv ?_
    walk_at "v"
    refine ite_no ?_
    exact qw rfl
   rintro ρ rfl
   refine qc (fun ρ=>ρ=[S0,S1,.d (QK (.part a b x y))]) ?_ ?_
   ·refine Yv ?_
    walk_at "v"
    refine ite_no ?_
    exact qw rfl
   rintro ρ rfl
   refine Y7 (v_and ?_)
   walk_at "v"
   refine QH (fun _=>?_) (fun z=>absurd rfl z)
   refine qX ?_
   walk_at "v"
   refine ⟨of_decide_eq_true rfl,?_⟩
   walk_at "st"
   exact ⟨n,ts,c,a,b,x,y,rfl,hd,hm,sl,hn,hl,⟨⟨_,rfl⟩,⟨_,rfl⟩,k⟩⟩
theorem qBn {f g:Addr} {fd gd:FuncData} (F:Fun K "is_paper" "is_paper" (top 16) f fd) (F2:Fun K "is_part" "is_part" (top 15) g gd) (T:Txt mg) (D:YC K mg "is_paper" (top 16) ["web","k","thing"] f fd) (D2:YC K mg "is_part" (top 15) ["web","k","thing"] g gd)
  (XAX:Has P w K mg base "is_crowd" (top 14) ["web","k","thing"] 3 (spV qBt)) (XAE:Has P w K mg base "is_tie_form" (top 2) ["many","thing"] 2 (spV qDe)) (XAg:Has P w K mg base "drawn" (top 7) ["web","a","b"] 2 (spV qDz)) (XAb:Has P w K mg base "with_tie" (top 8) ["web","a","b"] 2 (spV qDu)) :
  ∀ m:Nat,jo P w K mg base CX0 (2*m+4) f fd ["web","k","thing"] (spV (qBU m))
 | 0=>⟨fun vs H Q E ⟨_,_,_,_,z,_⟩=>(by obtain ⟨n,ts,k,p,_,h,_⟩:=z; omega),fun A outer s H args us vs Q E _ _ _ _ ⟨_,_,_,_,z,_⟩=>(by obtain ⟨n,ts,k,p,_,h,_⟩:=z; omega)⟩
 | m+1=>Jw F T XAX ⟨g,gd,D2,Yr F2 T XAE XAg XAb ⟨f,fd,D,qBn F F2 T D D2 XAX XAE XAg XAb m⟩⟩
def qGh (t:Tie):List Key:=qIC [t.1,t.2]
theorem qHI {s t:Tie} (h:qGh s=qGh t):s=t:=by
 have h1:([xT s.1,xT s.2]:List Key)=[xT t.1,xT t.2]:=h
 injection h1 with a b
 injection b with b _
 injection a with a
 injection b with b
 exact Prod.ext a b
theorem qG9 {ks:List (List Key×D)} {us:List Tie} (T:ks.map (·.1)=us.map qGh) (t:Tie) (d:D):∃ us':List Tie,(putD ks (qGh t) d).map (·.1)=us'.map qGh/\us'.length<=us.length+1/\∀ s,s∈us'↔s∈us\/s=t:=by
 unfold putD
 by_cases c:(ks.any fun p=>decide (p.1=qGh t))=true
 ·rw [if_pos c]
  have hin:t∈us:=by
   obtain ⟨p,hp,e⟩:=List.any_eq_true.mp c
   have hk:qGh t∈us.map qGh:=by
    rw [<- T,<- of_decide_eq_true e]
    exact zJ.mpr ⟨p,hp,rfl⟩
   obtain ⟨s,hs,es⟩:=zJ.mp hk
   rw [<- qHI es]
   exact hs
  refine ⟨us,?_,uN _,fun s=>⟨.inl,fun z=>z.elim id fun e=>e ▸ hin⟩⟩
  rw [<- T,zE]
  apply vV
  intro p _
  show (if p.1=qGh t then (p.1,d) else p).1=p.1
  split <;> rfl
 ·rw [if_neg c]
  refine ⟨us++[t],by rw [zI,zI,T]; rfl,by rw [wM]; exact wK _,fun s=>?_⟩
  rw [zK,zB]
theorem qIM {n:Nat} {a b p:Int} (ha:0<=a) (ab:a<b) (bn:b<(n:Int)) (h0:0<=p) (h1:p<(n:Int)):0<=ndr a b p/\ndr a b p<((n - 1:Nat):Int):=by
 unfold ndr
 by_cases e:p=b
 ·rw [if_pos e]
  omega
 ·rw [if_neg e]
  by_cases g:p > b
  ·rw [if_pos g]
   omega
  ·rw [if_neg g]
   omega
theorem qDp {n:Nat} {a b:Int} {ts:List Tie} (h:∀ t∈ts,okp n t) (ha:0<=a) (ab:a<b) (bn:b<(n:Int)):∀ u∈j8 a b ts,okp (n - 1) u:=fun u hu=>by
 obtain ⟨t,ht,ne,rfl⟩:=Qx.mp hu
 obtain ⟨t1,t2,t3⟩:=h t ht
 exact qJF (qIM ha ab bn t1 (by omega)) (qIM ha ab bn (by omega) t3) ne
def J0 (n:Nat) (a b:Int):List Int:=(places n).map (ndr a b)
theorem qBS {n:Nat} {a b p:Int} (h0:0<=p) (h1:p<(n:Int)):atI (qI (J0 n a b)) p=some (.int (ndr a b p)):=by
 obtain ⟨k,rfl⟩:∃ k:Nat,p=(k:Int):=⟨p.toNat,by omega⟩
 have hk:k<n:=by omega
 have e:(places n)[k]? = some (k:Int):=by
  unfold places
  rw [wI,kY hk]
  rfl
 refine jz ?_
 unfold qI J0
 rw [wI,wI,e]
 rfl
theorem qKo {p:Prop} [Decidable p] (i:Decidable (decide p=true)):(@ite Int (decide p=true) i 1 0)=if p then 1 else 0:=by
 by_cases h:p
 ·rw [if_pos h,if_pos (decide_eq_true h)]
 ·rw [if_neg h,if_neg (fun z=>h (of_decide_eq_true z))]
theorem qFG {n:Nat} {a b:Int} (h0:0<=b) (h1:b<(n:Int)):((places n).map fun p=>p - if p > b then 1 else 0).set b.toNat a=J0 n a b:=by
 apply xV
 intro k
 unfold J0
 rw [zV,wI,wA,places_len]
 by_cases hk:k<n
 ·have e:(places n)[k]? = some (k:Int):=by
   unfold places
   rw [wI,kY hk]
   rfl
  rw [wI,e]
  show _=some (ndr a b k)
  unfold ndr
  by_cases z:b.toNat=k
  ·rw [if_pos z,if_pos (by omega),if_pos (by omega)]
  ·rw [if_neg z,if_neg (by omega)]
   show some ((k:Int) - _)=_
   by_cases g:(k:Int) > b
   ·rw [if_pos g,if_pos g]
   ·rw [if_neg g,if_neg g,Int.sub_zero]
 ·have e:(places n)[k]? = none:=vP (by rw [places_len]; omega)
  rw [if_neg (by omega),wI,e]
  rfl
theorem qAb {p:Prop} {i:Decidable p}:@decide p i=true↔p:=⟨@of_decide_eq_true p i,@decide_eq_true p i⟩
def Qj:PV:=fun as Φ=>∃(n:Nat) (ts:List Tie) (a b:Int),as=[.d (QP n ts),.d (.int a),.d (.int b)]/\∀ c:Bool,(c=true↔mk a b∈ts)->Φ (.d (.bl c)) as
def JO:PV:=fun as Φ=>∃(n:Nat) (ts:List Tie) (a b:Int),as=[.d (QP n ts),.d (.int a),.d (.int b)]/\0<=a/\a<b/\b<(n:Int)/\n<=9/\ts.length<=40/\(∀ t∈ts,okp n t)/\∀ us:List Tie,(∀ u,u∈us↔u∈j8 a b ts)->us.length<=ts.length->Φ (.d (QP (n - 1) us)) as
def Yf:PV:=fun as Φ=>∃(n:Nat) (ts:List Tie) (a b:Int),as=[.d (QP n ts),.d (.int a),.d (.int b)]/\ts.length<=40/\∀ us:List Tie,us.Perm (ts++[(a,b)])->Φ (.d (QP n us)) as
theorem qCH:qR ["web","a","b"] ["web","a","b"] (qH (top 27)):=by walk_at "sc"
theorem qBs (F:Fun K "_law_tied" "_law_tied" (top 27) f fd) (T:Txt mg):jo P w K mg base CX0 1 f fd ["web","a","b"] (spV Qj):=by
 refine jR F qCH [0,1,2] (fun as Φ h=>?_) (fun cdv A outer s H E hr=>?_)
 ·obtain ⟨n,ts,a,b,rfl,_⟩:=h
  rfl
 ·have hu:=hr.units
  refine ⟨_,(qG (qP (QR (qKW hu) (qS (qA (qF (QA rfl) (by rfl) T.n_min vX (qA (pv 1) (qA (pv 2) qB))) (qA (qF (j9 rfl) (by rfl) T.n_max vD (qA (pv 1) (qA (pv 2) qB))) qB))) (jD (pv 0) qC) (by with_unfolding_all rfl)))),?_⟩
  rintro as Φ ⟨n,ts,a,b,rfl,k⟩
  walk_at "sv"
  refine qG7 (f:=qu) (q:=mk a b) (fs:=ts) Yc (fun _=>zG rfl) rfl (.inr rfl) ?_
  exact ⟨⟨_,rfl⟩,k _ qAb⟩
theorem qB1:qR ["web","a","b"] ["web","a","b"] (qH (top 29)):=by walk_at "sc"
theorem qB2 (F:Fun K "_law_more" "_law_more" (top 29) f fd) (T:Txt mg):jo P w K mg base CX0 1 f fd ["web","a","b"] (spV Yf):=by
 refine jR F qB1 [0,1,2] (fun as Φ h=>?_) (fun cdv A outer s H E hr=>?_)
 ·obtain ⟨n,ts,a,b,rfl,_⟩:=h
  rfl
 ·have hu:=hr.units
  refine ⟨_,(qG (qP (qS (qA (jD (pv 0) qC) (qA (qp (Jh (K:=K) rfl) (by rfl) T.n_tuple zU (qA (qF (QD hu) (by rfl) T.n_sorted uT (qA (qQ (j4 (K:=K) rfl) (jD (pv 0) qC) (qS (qA (qS (qA (pv 1) (qA (pv 2) qB))) qB))) qB)) qB)) qB))))),?_⟩
  rintro as Φ ⟨n,ts,a,b,rfl,hl,k⟩
  walk_at "sv"
  refine OpV.r (OpV.r (jn rfl rfl (szl (by rw [wA]; show ts.length+1<=1000; omega)) ?_))
  walk_at "v"
  have e0:WV qu ts++[qu (a,b)]=((ts++[(a,b)]).map Jg).map Qa:=by
   rw [jS,zI]
   rfl
  refine JU (nss:=(ts++[(a,b)]).map Jg) (.inl (congrArg (fun z=>some (D.tup z)) e0)) (fun ns hns=>?_) (by rw [wA,wM]; show ts.length+1<64; omega) fun nss' pm=>?_
  ·obtain ⟨t,_,rfl⟩:=zJ.mp hns
   exact gP _ _
  ·obtain ⟨ts',rfl,p1⟩:=Qu pm
   rw [jS]
   walk_at "v"
   exact ⟨⟨_,rfl⟩,k ts' p1⟩
theorem jW:qR ["web","a","b","names","found","one","other"] ["web","a","b"] (qH (top 28)):=by walk_at "sc"
theorem qAj (F:Fun K "_law_drawn" "_law_drawn" (top 28) f fd) (T:Txt mg):jo P w K mg base CX0 1 f fd ["web","a","b"] (spV JO):=by
 refine jR F jW [0,1,2] (fun as Φ h=>?_) (fun cdv A outer s H E hr=>?_)
 ·obtain ⟨n,ts,a,b,rfl,_⟩:=h
  rfl
 ·have hu:=hr.units
  refine ⟨_,(qD (Q2 (i:=3) rfl jW.nd rfl rfl (own:=["place"]) (fr:=[("b",2)]) (by walk_at "cs") (qq (by rfl) T.n_range (qA (jD (pv 0) qC) qB)) (fun cl C s0 H0 fp=>⟨(JG 0),jk,(qQ Jb (pv 0) (qp qEt (by rfl) T.n_int PyProof.Rows.boot_int (qA (QR qC3 (pv 0) (pv 1) (qY _)) qB)))⟩))
   (qD (JC (pv 1) (qFt (pv 3) (pv 2) set_list))
   (qD (qF0 (i:=4) jW.nd rfl (Or.inl rfl) qGm)
   (qD (Qh vK rfl (qz (K:=K) rfl (jD (pv 0) qC)) (jX (K:=K) (n:=2) rfl rfl (qM (JF 5 jW) (qM (JF 6 jW) jU)))
   (qG (jm (qO (qD9 hu) (jD (pv 3) (pv 5)) (jD (pv 3) (pv 6)) (qY _))
    (qG (qGU (hu1 hu) (pv 4) (qS (qA (qF (QA rfl) (by rfl) T.n_min vX (qA (jD (pv 3) (pv 5)) (qA (jD (pv 3) (pv 6)) qB))) (qA (qF (j9 rfl) (by rfl) T.n_max vD (qA (jD (pv 3) (pv 5)) (qA (jD (pv 3) (pv 6)) qB))) qB))) JA (by rfl)))
    qi)))
   (qG (qP (qS (qA (qQ Jb (jD (pv 0) qC) qC) (qA (qp (Jh (K:=K) rfl) (by rfl) T.n_tuple zU (qA (qF (qAe rfl hu) (by rfl) T.n_sorted uT (qA (pv 4) qB)) qB)) qB))))))))),?_⟩
  rintro as Φ ⟨n,ts,a,b,rfl,ha,ab,bn,n9,hl,ok,k⟩
  let SW:Sl:=.d (QP n ts)
  let SA:Sl:=.d (.int a)
  let SB:Sl:=.d (.int b)
  walk_at "st"
  refine qc (fun ρ=>ρ=[SW,SA,SB,.l (qI ((places n).map fun p=>p - if p > b then 1 else 0)),.u,.u,.u]) ?_ ?_
  ·refine qA1 (ja (fun p:Int=>D.int p) (places n) (fun _=>true) (fun p=>D.int (p - if p > b then 1 else 0)) (qDx ?_))
   walk_at "v"
   refine ⟨_,⟨_,rfl,rfl⟩,by omega,by omega,?_,qL (by rw [places_len]; omega),qb rfl,of_decide_eq_true rfl,?_,?_⟩
   ·rw [yG]
    unfold qF6 places
    rw [zE]
    exact vV fun i _=>by rw [kS]; rfl
   ·rintro p _ os hos
    obtain ⟨z0,rfl⟩:=qCT hos
    walk_at "v"
    refine ⟨⟨[_],rfl,rfl⟩,QG ⟨rfl,rfl⟩,fun _=>?_⟩
    walk_at "v"
    exact ⟨congrArg (fun z=>some (D.int (p - z))) (qKo _),rfl⟩
   ·rw [qg]
    refine qm rfl ?_
    show _=_
    unfold qI
    rw [zE]
    rfl
  rintro ρ rfl
  refine qc (fun ρ=>ρ=[SW,SA,SB,.l (qI (J0 n a b)),.u,.u,.u]) ?_ ?_
  ·refine qMK ?_
   walk_at "v"
   refine ⟨b,b.toNat,_,rfl,rfl,?_,?_⟩
   ·rw [show (qI ((places n).map fun p=>p - if p > b then 1 else 0)).length=n from by unfold qI; rw [wA,wA,places_len]]
    unfold ixN
    rw [if_pos (by omega),if_pos (by omega)]
   ·have e:=qFG (n:=n) (a:=a) (b:=b) (by omega) bn
    show _=_
    rw [<- e]
    unfold qI
    rw [<- List.map_set]
    rfl
  rintro ρ rfl
  refine Yz (qA1 (qKk ?_))
  refine qm rfl ?_
  walk_at "st"
  refine Yz ?_
  walk_at "nf"
  refine Yj (Qp ?_)
  walk_at "v"
  refine ⟨_,_,rfl,rfl,fun i ρ=>∃(ks:List (List Key×D)) (us:List Tie) (s5 s6:Sl),ρ=[SW,SA,SB,.l (qI (J0 n a b)),.o (.dt ks),s5,s6]/\ks.map (·.1)=us.map qGh/\us.length<=i/\∀ u,u∈us↔u∈j8 a b (ts.take i),⟨[],[],_,_,rfl,rfl,wK _,fun u=>Iff.rfl⟩,?_,?_⟩
  ·rintro i x ρ hx ⟨ks,us,s5,s6,rfl,tk,ul,inn⟩
   rw [wI] at hx
   obtain ⟨⟨c,d⟩,ht,rfl⟩:=gD.mp hx
   have hi:=(wL.mp ht).1
   obtain ⟨c0,cd,dn⟩:=ok _ (yT ht)
   have c0':0<=c:=c0
   have cd':c<d:=cd
   have dn':d<(n:Int):=dn
   have a1:atI (qI (J0 n a b)) c=some (.int (ndr a b c)):=qBS c0' (by omega)
   have a2:atI (qI (J0 n a b)) d=some (.int (ndr a b d)):=qBS (by omega) dn'
   have kl:ks.length=us.length:=by
    have:=congrArg fJ tk
    rwa [wA,wA] at this
   have et:ts.take (i+1)=ts.take i++[(c,d)]:=by
    rw [uO,ht]
    rfl
   refine qB3 rfl rfl (Yp (qm rfl (Yp (qm rfl (qFS ?_)))))
   walk_at "st"
   walk_at "ps"
   walk_at "v"
   refine QH (fun h1=>?_) (fun h1=>?_)
   rotate_left
   ·have e1:ndr a b c=ndr a b d:=of_decide_eq_true (jc h1)
    refine qw ⟨ks,us,_,_,rfl,tk,by omega,fun u=>?_⟩
    rw [inn u,et]
    unfold j8
    rw [fH,List.filter_cons_of_neg (by rw [VD,Bool.not_eq_false']; exact decide_eq_true e1),List.filter_nil,zZ]
   have e1:¬ ndr a b c=ndr a b d:=of_decide_eq_false (jH h1)
   refine qKt ?_
   walk_at "v"
   refine ⟨[(qGi a b (c,d)).1,(qGi a b (c,d)).2],ks,rfl,rfl,yE (show ks.length<=999 by omega) (by rw [vG]; decide),?_⟩
   walk_at "st"
   obtain ⟨us',tk',ul',in'⟩:=qG9 tk (qGi a b (c,d)) (.bl true)
   refine ⟨_,us',_,_,rfl,tk',by omega,fun u=>?_⟩
   rw [in' u,inn u,et]
   unfold j8
   rw [fH,List.filter_cons_of_pos (by rw [gK]; exact decide_eq_false e1),List.filter_nil,zI,zK]
   exact or_congr_right zB.symm
  rintro ρ ⟨ks,us,s5,s6,rfl,tk,ul,inn⟩
  rw [wA] at ul
  rw [xO (by rw [wA]; exact wK _)] at inn
  have ek:ks.map (·.1)=(us.map Jg).map qIC:=by
   rw [tk,zE]
   rfl
  walk_at "v"
  refine qEc (nss:=us.map Jg) rfl ek (fun ns hns=>?_) (by rw [wA]; omega) fun nss' pm=>?_
  ·obtain ⟨t,_,rfl⟩:=zJ.mp hns
   exact gP _ _
  obtain ⟨vs,rfl,pv⟩:=Qu pm
  rw [jS]
  walk_at "v"
  have en:(n:Int) - 1=((n - 1:Nat):Int):=by omega
  rw [en]
  exact ⟨⟨_,rfl⟩,k vs (fun u=>pv.mem_iff.trans (inn u)) (by rw [pv.length_eq]; exact ul)⟩
theorem qAv {ts:List Tie}:∀{ps:List Int},qBa ts ps=true↔ps.Pairwise fun a b=>(a,b)∈ts
 | []=>⟨fun _=>.nil,fun _=>rfl⟩
 | a::r=>by
  unfold qBa
  rw [zY,qAv,fG,uF]
  exact and_congr_left fun _=>⟨fun h b hb=>of_decide_eq_true (h b hb),fun h b hb=>decide_eq_true (h b hb)⟩
theorem qJI {n:Nat} {ts:List Tie} (ok:∀ t∈ts,okp n t) {ps:List Int} (h:qBa ts ps=true):ps.Pairwise (· < ·):=(qAv.mp h).imp fun {a b} z=>(ok _ z).2.1
theorem qC6 {ps ns:List Int} (up:ps.Pairwise (· < ·)) (nd:ns.Nodup) (so:ns.Pairwise (·<=·)) (h:∀ k,k∈ns↔k∈ps):ps=ns:=by
 refine qAP (r:=fun a b:Int=>a<b) (fun a=>Int.lt_irrefl a) (fun a b=>WI.mpr∘Int.le_of_lt) up ?_ fun x=>(h x).symm
 exact (so.and (zN.mp nd)).imp fun {a b} z=>by
  have:=z.1
  have:=z.2
  omega
theorem qGC {ns:List Int} (nd:ns.Nodup) (so:ns.Pairwise (·<=·)):ns.Pairwise (· < ·):=(so.and (zN.mp nd)).imp fun {a b} z=>by
 have:=z.1
 have:=z.2
 omega
def qIP (ts:List Tie) (ps:List Int) (i:Nat):Prop:=∀(j:Nat) (x:Int),j<i->ps[j]? = some x->∀ y∈ps.take j,mk y x∈ts
theorem qIq {a b:Int} (h:a<b):mk a b=(a,b):=by
 show (if b<a then b else a,if b > a then b else a)=(a,b)
 rw [if_neg (by omega),if_pos h]
theorem qBL {ps:List Int} (up:ps.Pairwise (· < ·)) {j:Nat} {x:Int} (hx:ps[j]? = some x) {y:Int} (hy:y∈ps.take j):y<x:=by
 obtain ⟨i,hi,rfl⟩:=gU hy
 obtain ⟨hj,rfl⟩:=wL.mp hx
 rw [yW] at hi
 rw [WT]
 exact kU.mp up i j (by omega) hj (by omega)
theorem Y9 {ts:List Tie} {ps:List Int} (up:ps.Pairwise (· < ·)):qBa ts ps=true↔qIP ts ps ps.length:=by
 rw [qAv,kU]
 constructor
 ·intro h j x _ hx y hy
  rw [qIq (qBL up hx hy)]
  obtain ⟨i,hi,rfl⟩:=gU hy
  obtain ⟨hj,rfl⟩:=wL.mp hx
  rw [yW] at hi
  rw [WT]
  exact h i j (by omega) hj (by omega)
 ·intro h i j hi hj ij
  have hx:ps[j]? = some ps[j]:=wC hj
  have hy:ps[i]∈ps.take j:=List.mem_take_iff_getElem.mpr ⟨i,by omega,rfl⟩
  have:=h j ps[j] hj hx ps[i] hy
  rwa [qIq (qBL up hx hy)] at this
theorem qEu {n:Nat} {ts:List Tie} {k:Int} {ps:List Int} (h:¬ (ps.length:Int)=k):QL n ts k ps=false:=by
 unfold QL
 rw [decide_eq_false h,yJ]
theorem qBr {n:Nat} {ts:List Tie} {k:Int} {ps:List Int} (h:¬ ∀ p∈ps,0<=p/\p<(n:Int)):QL n ts k ps=false:=by
 cases e:QL n ts k ps with
 | false=>rfl
 | true=>
  unfold QL at e
  rw [zY,zY,uF] at e
  refine absurd (fun p hp=>?_) h
  have:=e.2.1 p hp
  unfold inB at this
  rw [zY] at this
  exact ⟨of_decide_eq_true this.1,of_decide_eq_true this.2⟩
theorem qCA {n:Nat} {ts:List Tie} {k:Int} {ps:List Int} (h:qBa ts ps=false):QL n ts k ps=false:=by
 unfold QL
 rw [h,fB,fB]
theorem qE0 {n:Nat} {ts:List Tie} {k:Int} {ps:List Int} (h1:(ps.length:Int)=k) (h2:∀ p∈ps,0<=p/\p<(n:Int)) (h3:qBa ts ps=true):QL n ts k ps=true:=by
 unfold QL
 rw [decide_eq_true h1,h3,UQ,yB,uF]
 intro p hp
 unfold inB
 rw [decide_eq_true (h2 p hp).1,decide_eq_true (h2 p hp).2]
 rfl
theorem qAV (o:List Int) {j:Nat} (h:j<=o.length):cutD (qI o) none (some (j:Int))=qI (o.take j):=by
 unfold cutD qI
 rw [HT.sIx_none,HT.sIx_nat,ZT,WW,wA,gS h,fU]
def qCQ (m:Nat):PV:=fun as Φ=>∃(n:Nat) (ts:List Tie) (k:Int) (p:Pap),as=[.d (QP n ts),.d (.int k),.d (QK p)]/\p.deep<m/\m<=12/\p.slim/\1<=n/\n<=9/\ts.length+m<=40/\(∀ t∈ts,okp n t)/\Φ (.d (.bl (okP k p n ts))) as
theorem qr:qR ["web","k","paper","some","at","word","a","b","one","other"] ["web","k","paper"] (qH (top 30)):=by walk_at "sc"
theorem Y6 {m:Nat} {f:Addr} {fd:FuncData} (F:Fun K "_law_shown" "_law_shown" (top 30) f fd) (T:Txt mg) (XAR:Has P w K mg base "_law_tied" (top 27) ["web","a","b"] 1 (spV Qj)) (XAH:Has P w K mg base "_law_drawn" (top 28) ["web","a","b"] 1 (spV JO)) (XAP:Has P w K mg base "_law_more" (top 29) ["web","a","b"] 1 (spV Yf)) (XAL:Has P w K mg base "_law_shown" (top 30) ["web","k","paper"] (m+2) (spV (qCQ m))):jo P w K mg base CX0 (m+3) f fd ["web","k","paper"] (spV (qCQ (m+1))):=by
 refine jR F qr [0,1,2] (fun as Φ h=>?_) (fun cdv A outer s H E hr=>?_)
 ·obtain ⟨n,ts,k,p,rfl,_⟩:=h
  rfl
 ·have hu:=hr.units
  refine ⟨_,(qD (jm (qO (qBB hu) (jD (pv 2) qC) JD (qY _))
   (qD (QJ 3 qr (qp (qMZ (K:=K) rfl) (by rfl) T.n_list PyProof.Rows.boot_list (qA (jD (pv 2) qC) qB)))
    (qD (jm (PW.pt (JI (qO (qD9 hu) (qF (qBu (K:=K) rfl) (by rfl) T.n_len yX (qA (pv 3) qB)) (pv 1) (qY _)) (JI (qO (qD9 hu) (pv 3) (qBR rfl (by rfl) T.n_sorted (by rfl) T.n_set (qA (pv 3) qB)) (qY _)) (JI (qO Yi (qF (qGH (K:=K) rfl rfl) (by rfl) T.n_min vX (qA (qQ (j4 (K:=K) rfl) (pv 3) (jM (qA qC qB))) qB)) qC (qY _)) (Qk (qO qMT (qF (Yk (K:=K) rfl rfl) (by rfl) T.n_max vD (qA (qQ (j4 (K:=K) rfl) (pv 3) (jM (qA qC qB))) qB)) (jD (pv 0) qC) (qY _)))))))
    (qG (qP JA))
    qi)
    (qD (Qh vK rfl (qq (by rfl) T.n_range (qA (qF (qBu (K:=K) rfl) (by rfl) T.n_len yX (qA (pv 3) qB)) qB)) (JF 4 qr)
    (qG (jm (QM (qo (K:=K) rfl (qF (jj rfl) (by rfl) T.n_all vY (qA (jF rfl (own:=["other"]) (fr:=[("web",0),("some",3),("at",4)]) (by walk_at "cs") (qz (K:=K) rfl (qv (qCW (K:=K) rfl) (pv 3) jO (jG (pv 4)))) (fun cl C s0 H0 fp=>⟨(JG 0),jk,(qf XAR hr (qA (pv 1) (qA (pv 0) (qA (jD (pv 2) (pv 3)) qB))))⟩)) qB)) (fun _=>rfl)))
     (qG (qP JA))
     qi)))
    (qG (qP JA)))))
   qi)
   (qD (JC (pv 2) (jX (K:=K) (n:=5) rfl rfl (qM (JF 5 qr) (qM (JF 6 qr) (qM (JF 7 qr) (qM (JF 8 qr) (qM (JF 9 qr) jU)))))))
   (qD (jm (PW.pt (JI (QM (qGO qE8 Yi Yi qC (pv 6) (pv 7) (jD (pv 0) qC))) (Qk (qo (K:=K) rfl (qf XAR hr (qA (pv 0) (qA (pv 6) (qA (pv 7) qB)))) (fun _=>rfl)))))
   (qG (qP JA))
   qi)
   (qG (qP (Qw (qf XAL hr (qA (qf XAH hr (qA (pv 0) (qA (pv 6) (qA (pv 7) qB)))) (qA (pv 1) (qA (pv 8) qB)))) (Qq (qf XAL hr (qA (qf XAP hr (qA (pv 0) (qA (pv 6) (qA (pv 7) qB)))) (qA (pv 1) (qA (pv 9) qB))))))))))),?_⟩
  rintro as Φ ⟨n,ts,c,p,rfl,hd,hm,sl,hn,n9,hl,ok,k⟩
  let S0:Sl:=.d (QP n ts)
  let S1:Sl:=.d (.int c)
  cases p with
  | crowd ps=>
   unfold okP at k
   have sl':ps.length<=30:=sl
   have el:(qI ps).length=ps.length:=wA _
   let S2:Sl:=.d (QK (.crowd ps))
   walk_at "st"
   refine Yz (Yv ?_)
   walk_at "v"
   refine OpV.l (qBw rfl rfl rfl rfl rfl ?_)
   rw [decide_eq_true rfl]
   refine ⟨_,rfl,?_⟩
   rw [if_pos rfl]
   refine qc (fun ρ=>ρ=[S0,S1,S2,.l (qI ps),.u,.u,.u,.u,.u,.u]) ?_ ?_
   ·walk_at "v"
    show _=_
    rfl
   rintro ρ rfl
   refine qc (fun ρ=>(ps.length:Int)=c/\ps.Pairwise (· < ·)/\(∀ p∈ps,0<=p/\p<(n:Int))/\ρ=[S0,S1,S2,.l (qI ps),.u,.u,.u,.u,.u,.u]) ?_ ?_
   ·refine Yv (qCm ?_)
    walk_at "v"
    refine QH (fun h1=>?_) (fun h1=>?_)
    ·rw [if_pos rfl]
     walk_at "v"
     rw [qEu (by rw [<- el]; exact of_decide_eq_false (jH h1))] at k
     exact ⟨⟨_,rfl⟩,k⟩
    have e1:(ps.length:Int)=c:=by rw [<- el]; exact of_decide_eq_true (jc h1)
    have dp:∀ l:List Int,qK (qI l)<=50:=fun l=>zC (jt (f:=D.int) (k:=0) (fun a=>wK _) l) (by decide)
    refine qCm ?_
    walk_at "v"
    refine qC0 ?_
    walk_at "v"
    refine ⟨ps,⟨_,rfl,rfl⟩,by omega,fun ns nd so' so=>?_⟩
    refine OpV.r (qEr rfl rfl (dp ps) ?_ (hd2:=dp ns))
    rw [if_pos rfl,show Qc (qI ps) (WV D.int ns)=decide (ps=ns) from qDo qFo ps ns]
    refine ⟨_,rfl,?_⟩
    refine QH (fun h2=>?_) (fun h2=>?_)
    ·rw [if_pos rfl]
     walk_at "v"
     have e3:qBa ts ps=false:=by
      cases e:qBa ts ps with
      | false=>rfl
      | true=>exact absurd (qC6 (qJI ok e) nd so so') (of_decide_eq_false (jH h2))
     rw [qCA e3] at k
     exact ⟨⟨_,rfl⟩,k⟩
    have e2:ps=ns:=of_decide_eq_true (jc h2)
    have up:ps.Pairwise (· < ·):=e2 ▸ qGC nd so
    have ez:qI ps++[D.int 0]=(ps++[0]).map D.int:=by
     unfold qI
     rw [zI]
     rfl
    have ne:ps++[0]≠[]:=fun z=>by
     have:=congrArg fJ z
     rw [wM] at this
     exact absurd this (Nat.succ_ne_zero _)
    refine qCm ?_
    walk_at "v"
    refine OpV.r (OpV.l (Jz rfl rfl (szl (by rw [el]; show ps.length+1<=1000; omega)) ?_))
    walk_at "v"
    refine qLg (ns:=ps++[0]) (congrArg (fun z=>some (D.lst z)) ez) ne fun m' hm' lo=>?_
    walk_at "v"
    refine QH (fun h3=>?_) (fun h3=>?_)
    ·rw [if_pos rfl]
     walk_at "v"
     have m0:=of_decide_eq_true h3
     rw [qBr fun z=>(zK.mp hm').elim (fun y=>by have:=(z _ y).1; omega) fun y=>by have:=zB.mp y; omega] at k
     exact ⟨⟨_,rfl⟩,k⟩
    have m0:=qLr h3
    walk_at "v"
    refine OpV.r (OpV.l (Jz rfl rfl (szl (by rw [el]; show ps.length+1<=1000; omega)) ?_))
    walk_at "v"
    refine qIl (ns:=ps++[0]) (congrArg (fun z=>some (D.lst z)) ez) ne ?_
    walk_at "v"
    have mm:=qC8 ne
    have mg':∀ p∈ps,p<=mx0 (ps++[0]):=fun p hp=>qLF (kJ _ hp)
    generalize mx0 (ps++[0])=M at mm mg'
    refine QH (fun h4=>?_) (fun h4=>?_)
    ·walk_at "v"
     have m4:=of_decide_eq_true h4
     rw [qBr fun z=>(zK.mp mm).elim (fun y=>by have:=(z _ y).2; omega) fun y=>by have:=zB.mp y; omega] at k
     exact ⟨⟨_,rfl⟩,k⟩
    have m4:=qLr h4
    exact qw ⟨e1,up,fun p hp=>⟨by have:=lo p (kJ _ hp); omega,by have:=mg' p hp; omega⟩,rfl⟩
   rintro ρ ⟨e1,up,ins,rfl⟩
   refine Yz ?_
   walk_at "nf"
   refine Yj (qDx ?_)
   walk_at "v"
   refine ⟨(ps.length:Int),⟨_,rfl,congrArg (fun z:Nat=>some (D.int z)) el⟩,by omega,by omega,fun i ρ=>∃ s4:Sl,ρ=[S0,S1,S2,.l (qI ps),s4,.u,.u,.u,.u,.u]/\qIP ts ps i,⟨_,rfl,fun j x hj=>absurd hj (kC _)⟩,?_,?_⟩
   ·rintro i x ρ hx ⟨s4,rfl,td⟩
    have hin:i<ps.length:=by
     have:=(wL.mp hx).1
     rw [jI] at this
     omega
    rw [QT (by omega),kS] at hx
    cases hx
    have hq:ps[i]? = some ps[i]:=wC hin
    generalize ps[i]=q at hq
    have aq:atI (qI ps) (i:Int)=some (.int q):=jz (by unfold qI; rw [wI,hq]; rfl)
    refine qm rfl ?_
    walk_at "st"
    refine Yv ?_
    walk_at "v"
    refine ja D.int (ps.take i) (fun _=>true) (fun y=>D.bl (decide (mk y q∈ts))) (Qp ?_)
    walk_at "v"
    refine SlV.l (qMe rfl ?_)
    rw [qAV ps (vQ hin)]
    refine ⟨_,_,rfl,rfl,rfl,qL (by rw [yW]; omega),qb rfl,of_decide_eq_true rfl,?_,?_⟩
    ·rintro y hy os hos
     obtain ⟨z0,rfl⟩:=qCT hos
     walk_at "v"
     refine ⟨⟨[_],rfl,rfl⟩,QG ⟨rfl,rfl⟩,fun _=>?_⟩
     refine qX ?_
     walk_at "v"
     refine ⟨of_decide_eq_true rfl,?_⟩
     walk_at "st"
     exact ⟨n,ts,y,q,rfl,fun g hg=>⟨⟨_,rfl⟩,congrArg (fun z=>some (D.bl z)) (uJ.mpr (hg.trans qAb.symm)),rfl⟩⟩
    rw [qg,show (ps.take i).map (fun y=>D.bl (decide (mk y q∈ts)))=((ps.take i).map fun y=>decide (mk y q∈ts)).map D.bl from by rw [zE]; rfl]
    walk_at "v"
    refine qCC rfl ?_
    walk_at "v"
    refine QH (fun h5=>?_) (fun h5=>?_)
    ·walk_at "v"
     have e5:qBa ts ps=false:=by
      cases e:qBa ts ps with
      | false=>rfl
      | true=>
       have z:((ps.take i).map fun y=>decide (mk y q∈ts)).all id=true:=by
        rw [uB,uF]
        exact fun y hy=>decide_eq_true ((Y9 up).mp e i q hin hq y hy)
       rw [z] at h5
       cases h5
     rw [qCA e5] at k
     exact ⟨⟨_,rfl⟩,k⟩
    have h6:=jc h5
    rw [uB,uF] at h6
    refine qw ⟨_,rfl,fun j x hj hx y hy=>?_⟩
    by_cases z:j<i
    ·exact td j x z hx y hy
    ·have ej:j=i:=by omega
     subst ej
     rw [hq] at hx
     cases hx
     exact ofd (h6 y hy)
   ·rintro ρ ⟨s4,rfl,td⟩
    rw [jI,yG] at td
    walk_at "v"
    rw [qE0 e1 ins ((Y9 up).mpr td)] at k
    exact ⟨⟨_,rfl⟩,k⟩
  | part a b x y=>
   have sx:x.slim:=sl.1
   have sy:y.slim:=sl.2
   have dx:x.deep<m:=by
    have:max x.deep y.deep+1<m+1:=hd
    omega
   have dy:y.deep<m:=by
    have:max x.deep y.deep+1<m+1:=hd
    omega
   unfold okP at k
   let S2:Sl:=.d (QK (.part a b x y))
   walk_at "st"
   refine qc (fun ρ=>ρ=[S0,S1,S2,.u,.u,.u,.u,.u,.u,.u]) ?_ ?_
   ·refine Yv ?_
    walk_at "v"
    refine OpV.l (qBw rfl rfl rfl rfl rfl ?_)
    refine ⟨_,rfl,?_⟩
    refine QH (fun z=>absurd (of_decide_eq_true z) (by intro y; cases y)) (fun _=>?_)
    exact qw rfl
   rintro ρ rfl
   refine qc (fun ρ=>ρ=[S0,S1,S2,.u,.u,.d (.str "part"),.d (.int a),.d (.int b),.d (QK x),.d (QK y)]) ?_ ?_
   ·refine qA1 (qAf rfl ?_)
    refine qB3 rfl rfl ?_
    walk_at "v"
    rfl
   rintro ρ rfl
   refine qc (fun ρ=>0<=a/\a<b/\b<(n:Int)/\(a,b)∉ts/\ρ=[S0,S1,S2,.u,.u,.d (.str "part"),.d (.int a),.d (.int b),.d (QK x),.d (QK y)]) ?_ ?_
   ·refine Yv (qCm ?_)
    walk_at "vJ"
    refine QH (fun h1=>?_) (fun h1=>?_)
    ·rw [if_pos rfl]
     walk_at "v"
     rw [jH h1,yJ] at k
     exact ⟨⟨_,rfl⟩,k⟩
    have h2:=jc h1
    rw [zY,zY] at h2
    have a0:0<=a:=of_decide_eq_true h2.1
    have ab:a<b:=of_decide_eq_true h2.2.1
    have bn:b<(n:Int):=of_decide_eq_true h2.2.2
    walk_at "v"
    refine qX ?_
    walk_at "v"
    refine ⟨of_decide_eq_true rfl,?_⟩
    walk_at "st"
    refine ⟨n,ts,a,b,rfl,fun g hg=>⟨⟨_,rfl⟩,?_⟩⟩
    rw [qIq ab] at hg
    refine ⟨_,_,rfl,rfl,?_⟩
    refine QH (fun h5=>?_) (fun h5=>?_)
    ·walk_at "v"
     rw [h2.1,h2.2.1,h2.2.2,decide_eq_true (hg.mp h5),Bool.not_true,yJ,fB] at k
     exact ⟨⟨_,rfl⟩,k⟩
    exact qw ⟨a0,ab,bn,fun z=>h5 (hg.mpr z),rfl⟩
   rintro ρ ⟨a0,ab,bn,nin,rfl⟩
   rw [decide_eq_true a0,decide_eq_true ab,decide_eq_true bn,decide_eq_false nin,UG,yB,yB,yB,yB] at k
   refine Y7 (v_and ?_)
   refine qX ?_
   walk_at "v"
   refine qX ?_
   walk_at "v"
   refine ⟨of_decide_eq_true rfl,?_⟩
   walk_at "st"
   refine ⟨n,ts,a,b,rfl,a0,ab,bn,n9,by omega,ok,fun us inn few=>⟨⟨_,rfl⟩,?_⟩⟩
   walk_at "sv"
   refine ⟨of_decide_eq_true rfl,?_⟩
   walk_at "st"
   refine ⟨n - 1,us,c,x,rfl,dx,by omega,sx,by omega,by omega,by omega,fun t ht=>qDp ok a0 ab bn t ((inn t).mp ht),⟨⟨_,rfl⟩,?_⟩⟩
   rw [Q5 c x (n - 1) inn]
   walk_at "sv"
   cases e:okP c x (n - 1) (j8 a b ts) with
   | false=>
    rw [if_neg wU]
    rw [e,yJ] at k
    exact ⟨⟨_,rfl⟩,k⟩
   | true=>
    rw [if_pos rfl]
    rw [e,yB] at k
    refine qX ?_
    walk_at "v"
    refine qX ?_
    walk_at "v"
    refine ⟨of_decide_eq_true rfl,?_⟩
    walk_at "st"
    refine ⟨n,ts,a,b,rfl,by omega,fun us pm=>⟨⟨_,rfl⟩,?_⟩⟩
    have lu:=pm.length_eq
    rw [wM] at lu
    have lu':us.length=ts.length+1:=lu
    walk_at "sv"
    refine ⟨of_decide_eq_true rfl,?_⟩
    walk_at "st"
    refine ⟨n,us,c,y,rfl,dy,by omega,sy,hn,n9,by omega,fun t ht=>?_,⟨⟨_,rfl⟩,⟨_,rfl⟩,?_⟩⟩
    ·exact (zK.mp (pm.mem_iff.mp ht)).elim (ok t) fun z=>zB.mp z ▸ ⟨a0,ab,bn⟩
    rw [Q5 c y n (fun t=>pm.mem_iff)]
    exact k
theorem JB (F:Fun K "_law_shown" "_law_shown" (top 30) f fd) (T:Txt mg) (D:YC K mg "_law_shown" (top 30) ["web","k","paper"] f fd) (XAR:Has P w K mg base "_law_tied" (top 27) ["web","a","b"] 1 (spV Qj)) (XAH:Has P w K mg base "_law_drawn" (top 28) ["web","a","b"] 1 (spV JO)) (XAP:Has P w K mg base "_law_more" (top 29) ["web","a","b"] 1 (spV Yf)) :
  ∀ m:Nat,jo P w K mg base CX0 (m+2) f fd ["web","k","paper"] (spV (qCQ m))
 | 0=>⟨fun vs H Q E ⟨_,_,_,_,z,_⟩=>(by obtain ⟨n,ts,k,p,_,h,_⟩:=z; omega),fun A outer s H args us vs Q E _ _ _ _ ⟨_,_,_,_,z,_⟩=>(by obtain ⟨n,ts,k,p,_,h,_⟩:=z; omega)⟩
 | m+1=>Y6 F T XAR XAH XAP ⟨f,fd,D,JB F T D XAR XAH XAP m⟩
def qEw:Nat->List Int->Nat->Nat
 | 0,_,m=>m
 | k+1,ns,m=>if (m:Int)∈ns then qEw k ns (m+1) else m
def lwF (ns:List Int):Nat:=qEw (ns.length+1) ns 0
theorem qFe {ns:List Int} {m:Nat} (h:∀ j:Nat,j<m->(j:Int)∈ns):m<=ns.length:=by
 have:=uW (Jx m) (l₂:=ns) fun p hp=>by
  obtain ⟨h0,h1⟩:=Qz.mp hp
  have:=h p.toNat (by omega)
  have e:((p.toNat:Nat):Int)=p:=by omega
  rw [e] at this
  exact this
 rw [places_len] at this
 exact this
theorem qK5 {ns:List Int}:∀(k m:Nat),m+k=ns.length+1->(∀ j:Nat,j<m->(j:Int)∈ns)->((qEw k ns m:Nat):Int)∉ns/\∀ j:Nat,j<qEw k ns m->(j:Int)∈ns
 | 0,m,hm,h=>by
  have:=qFe h
  omega
 | k+1,m,hm,h=>by
  unfold qEw
  by_cases z:(m:Int)∈ns
  ·rw [if_pos z]
   refine qK5 k (m+1) (by omega) fun j hj=>?_
   by_cases e:j=m
   ·rw [e]; exact z
   ·exact h j (by omega)
  ·rw [if_neg z]
   exact ⟨z,h⟩
theorem qI6 (ns:List Int):((lwF ns:Nat):Int)∉ns/\∀ j:Nat,j<lwF ns->(j:Int)∈ns:=qK5 (ns.length+1) 0 (by omega) fun j hj=>by omega
def look (h:List (Int×Int)) (p:Int):Option Int:=(h.find? fun x=>decide (x.1=p)).map (·.2)
theorem Qe (x:Int×Int) (h:List (Int×Int)) (p:Int):look (x::h) p=if x.1=p then some x.2 else look h p:=by
 unfold look
 by_cases e:x.1=p <;> simp [xC,e]
theorem Qd:∀{h:List (Int×Int)} {p:Int},(look h p).isSome=true↔p∈h.map (·.1)
 | [],p=>by simp [look]
 | x::h,p=>by
  rw [Qe,yV,wZ]
  by_cases e:x.1=p
  ·rw [if_pos e]
   exact ⟨fun _=>.inl e.symm,fun _=>rfl⟩
  ·rw [if_neg e,Qd]
   exact ⟨.inr,fun z=>z.resolve_left fun z=>e z.symm⟩
theorem qAd:∀(h r:List (Int×Int)) (p:Int),look (h++r) p=(look h p).or (look r p)
 | [],r,p=>by
  show look r p=_
  cases e:look r p <;> simp [look]
 | x::h,r,p=>by
  rw [List.cons_append,Qe,Qe,qAd h r p]
  by_cases e:x.1=p
  ·rw [if_pos e,if_pos e]
   rfl
  ·rw [if_neg e,if_neg e]
def qDJ (n:Nat) (ts:List Tie) (p:Int):List Int:=(places n).filter fun k=>decide (mk p k∈ts)
def bar (n:Nat) (ts:List Tie) (h:List (Int×Int)) (p:Int):List Int:=((qDJ n ts p).filter fun o=>(look h o).isSome).map fun o=>(look h o).getD 0
def Y1 (n:Nat) (ts:List Tie) (h:List (Int×Int)) (p:Int):List (Int×Int):=h++[(p,(lwF (bar n ts h p):Int))]
def j6 (n:Nat) (ts:List Tie) (o:List Int):List (Int×Int):=o.foldl (Y1 n ts) []
def hue (n:Nat) (ts:List Tie) (o:List Int) (p:Int):Int:=(look (j6 n ts o) p).getD 0
def qIH (n:Nat) (ts:List Tie) (o:List Int):List Int:=(places n).map (hue n ts o)
theorem qBe (n:Nat) (ts:List Tie):∀(o:List Int) (h:List (Int×Int)),(o.foldl (Y1 n ts) h).map (·.1)=h.map (·.1)++o
 | [],h=>by simp
 | p::o,h=>by
  rw [ZM,qBe n ts o]
  unfold Y1
  rw [zI,vR]
  rfl
theorem Ql (n:Nat) (ts:List Tie) (o:List Int):(j6 n ts o).map (·.1)=o:=by
 unfold j6
 rw [qBe]
 rfl
theorem qBk (n:Nat) (ts:List Tie) (l:List Int) (p:Int):j6 n ts (l++[p])=Y1 n ts (j6 n ts l) p:=by
 unfold j6
 rw [WR]
 rfl
theorem qCG {n:Nat} {ts:List Tie} {q:Int}:∀(r:List Int) (h:List (Int×Int)),(look h q).isSome=true->look (r.foldl (Y1 n ts) h) q=look h q
 | [],h,_=>rfl
 | p::r,h,hq=>by
  have e:look (Y1 n ts h p) q=look h q:=by
   unfold Y1
   rw [qAd]
   cases z:look h q with
   | none=>rw [z] at hq; cases hq
   | some v=>rfl
  rw [ZM,qCG r _ (by rw [e]; exact hq),e]
theorem qG4 {n:Nat} {ts:List Tie} {l r:List Int} {q:Int} (h:q∈l):look (j6 n ts (l++r)) q=look (j6 n ts l) q:=by
 unfold j6
 rw [WR]
 exact qCG r _ (Qd.mpr (by rw [show (l.foldl (Y1 n ts) []).map (·.1)=l from Ql n ts l]; exact h))
theorem qIY {n:Nat} {ts:List Tie} {l r:List Int} {p:Int} (h:p∉l):hue n ts (l++p::r) p=(lwF (bar n ts (j6 n ts l) p):Int):=by
 unfold hue
 have e:l++p::r=(l++[p])++r:=by simp
 rw [e,qG4 (by simp),qBk]
 unfold Y1
 rw [qAd]
 have z:look (j6 n ts l) p=none:=by
  cases z:look (j6 n ts l) p with
  | none=>rfl
  | some v=>
   have:=Qd.mp (show (look (j6 n ts l) p).isSome=true by rw [z]; rfl)
   rw [Ql] at this
   exact absurd this h
 rw [z,Qe,if_pos rfl]
 rfl
theorem qER {n:Nat} {ts:List Tie} {o:List Int} {p:Int} (nd:o.Nodup) (h:p∈o):0<=hue n ts o p:=by
 obtain ⟨l,r,rfl⟩:=List.append_of_mem h
 have:p∉l:=fun z=>by
  have:=(kI.mp nd).2.2 p z p wN
  exact this rfl
 rw [qIY this]
 exact Int.natCast_nonneg _
theorem qHC {l r:List Int} {p:Int} (nd:(l++p::r).Nodup):p∉l:=fun z=>(kI.mp nd).2.2 p z p wN rfl
theorem qG8 (n:Nat) (ts:List Tie) (o:List Int):(qIH n ts o).length=n:=by
 unfold qIH
 rw [wA,places_len]
def qK2:PV:=fun as Φ=>∃(n:Nat) (ts:List Tie) (p:Int),as=[.d (QP n ts),.d (.int p)]/\n<=9/\Φ (.d (.tup (qI (qDJ n ts p)))) as
def qIo (n:Nat) (ts:List Tie) (l:List D):Bool:=decide (l.length=n) && (l.all jZ && ts.all fun t=>!decide ((l.map qE9).getD t.1.toNat 0=(l.map qE9).getD t.2.toNat 0))
def qGq (n:Nat) (ts:List Tie) (d:D):Bool:=qMn (qIo n ts) d
def qKu:PV:=fun as Φ=>∃(n:Nat) (ts:List Tie) (d:D),as=[.d (QP n ts),.d d]/\qJ5 n ts/\Φ (.d (.bl (qGq n ts d))) as
theorem qBY:∀{l:List D},l.all jZ=true->l=qI (l.map qE9)
 | [],_=>rfl
 | d::l,h=>by
  have h':(jZ d && l.all jZ)=true:=h
  rw [zY] at h'
  show d::l=D.int (qE9 d)::qI (l.map qE9)
  rw [<- qBY h'.2,<- qFj h'.1]
theorem at_getD {ns:List Int} {a:Int} (h0:0<=a) (h1:a<(ns.length:Int)):atI (qI ns) a=some (.int (ns.getD a.toNat 0)):=by
 have hk:a.toNat<ns.length:=by omega
 have e:a=((a.toNat:Nat):Int):=by omega
 conv=>lhs; rw [e]
 exact jz (by rw [wI,wC hk,zA,wC hk]; rfl)
theorem qEo {l:List D} {n:Nat} (h:(!decide ((l.length:Int)=(n:Int)))=true):l.length≠n:=fun z=>by
 have:=jH h
 rw [decide_eq_true (by omega)] at this
 cases this
theorem qFR {l:List D} {n:Nat} (h:¬ (!decide ((l.length:Int)=(n:Int)))=true):l.length=n:=by
 have:=ofd (jc h)
 omega
theorem qEh:qR ["web","thing"] ["web","thing"] (qH (top 10)):=by walk_at "sc"
theorem qES (F:Fun K "is_hues" "is_hues" (top 10) f fd) (T:Txt mg) (XAa:Has P w K mg base "is_whole" (top 1) ["thing"] 1 (spV qBV)):jo P w K mg base CX0 2 f fd ["web","thing"] (spV qKu):=by
 refine jR F qEh [0,1] (fun as Φ h=>?_) (fun cdv A outer s H E hr=>?_)
 ·obtain ⟨n,ts,d,rfl,_⟩:=h
  rfl
 ·have hu:=hr.units
  refine ⟨_,(qD (jm (PW.pt (JI (QM (qo (K:=K) rfl (qF (JK (K:=K) rfl) (by rfl) T.n_isinstance vI (qA (pv 1) (qA (JJ (v:=.ty "tuple") (by rfl) T.n_tuple zU rfl) qB))) (fun _=>rfl))) (Qk (qO (qD9 hu) (qF (qBu (K:=K) rfl) (by rfl) T.n_len yX (qA (pv 1) qB)) (jD (pv 0) qC) (qY _)))))
   (qG (qP JA))
   qi)
   (qD (jm (QM (qo (K:=K) rfl (qF (jj rfl) (by rfl) T.n_all vY (qA (jF rfl (own:=["number"]) (fr:=[]) (by walk_at "cs") (qz (K:=K) rfl (pv 1)) (fun cl C s0 H0 fp=>⟨(JG 0),jk,(qx XAa hr (qA (pv 0) qB))⟩)) qB)) (fun _=>rfl)))
   (qG (qP JA))
   qi)
   (qG (qP (qF (jj rfl) (by rfl) T.n_all vY (qA (jF rfl (own:=["a","b"]) (fr:=[("thing",1)]) (by walk_at "cs") (qz (K:=K) rfl (jD (pv 0) qC)) (fun cl C s0 H0 fp=>⟨(jX (K:=K) (n:=2) rfl rfl (qM (JG 0) (qM (JG 1) jU))),jk,(QR (qD9 hu) (jD (pv 2) (pv 0)) (jD (pv 2) (pv 1)) (qY _))⟩)) qB)))))),?_⟩
  rintro as Φ ⟨n,ts,d,rfl,W,k⟩
  have W1:=W.few
  have W2:=W.len
  walk_at "sv"
  refine qCm ?_
  walk_at "v"
  refine J9 rfl (qIa K d) ?_
  walk_at "v"
  refine QH (fun hn=>?_) (fun hn=>?_)
  ·rw [if_pos rfl]
   walk_at "v"
   have e:qGq n ts d=false:=qIm (jH hn)
   rw [e] at k
   exact ⟨⟨_,rfl⟩,k⟩
  obtain ⟨l,rfl⟩:=qHg (jc hn)
  have k':Φ (.d (.bl (decide (l.length=n) && (l.all jZ && ts.all fun t=>!decide ((l.map qE9).getD t.1.toNat 0=(l.map qE9).getD t.2.toNat 0))))) [.d (QP n ts),.d (.tup l)]:=k
  clear k
  walk_at "v"
  refine QH (fun h3=>?_) (fun h3=>?_)
  ·walk_at "v"
   rw [decide_eq_false (qEo h3),yJ] at k'
   exact ⟨⟨_,rfl⟩,k'⟩
  have hl:=qFR h3
  rw [decide_eq_true hl,yB] at k'
  walk_at "v"
  refine ja (fun d:D=>d) l (fun _=>true) (fun d=>.bl (jZ d)) (Qp ?_)
  walk_at "v"
  refine ⟨_,_,rfl,rfl,(List.map_id' l).symm,qL (by omega),qb rfl,of_decide_eq_true rfl,?_,?_⟩
  ·rintro x _ os hos
   obtain ⟨z0,rfl⟩:=qCT hos
   walk_at "v"
   refine ⟨⟨[_],rfl,rfl⟩,QG ⟨rfl,rfl⟩,fun _=>?_⟩
   walk_at "call"
   refine ⟨x,rfl,⟨⟨_,rfl⟩,?_⟩⟩
   exact ⟨rfl,rfl⟩
  have ed:(l.filter fun _=>true).map (fun d=>D.bl (jZ d))=(l.map fun d=>jZ d).map D.bl:=by
   rw [qg,zE]
   rfl
  rw [ed]
  walk_at "v"
  refine qCC rfl ?_
  have ea:(l.map fun d=>jZ d).all id=l.all jZ:=by
   rw [uB]
   rfl
  rw [ea]
  walk_at "v"
  refine QH (fun ha=>?_) (fun ha=>?_)
  ·walk_at "v"
   rw [jH ha,yJ] at k'
   exact ⟨⟨_,rfl⟩,k'⟩
  have ha':=jc ha
  rw [ha',yB] at k'
  have el:=qBY ha'
  have hl2:(l.map qE9).length=l.length:=wA ..
  generalize l.map qE9=ns at k' el hl2
  subst el
  rw [wA] at hl
  walk_at "v"
  refine ja qu ts (fun _=>true) (fun t=>.bl (!decide (ns.getD t.1.toNat 0=ns.getD t.2.toNat 0))) (Qp ?_)
  walk_at "v"
  refine ⟨_,_,rfl,rfl,rfl,qL (by omega),qb rfl,of_decide_eq_true rfl,?_,?_⟩
  ·rintro ⟨a,b⟩ ht os hos
   obtain ⟨z0,z1,rfl⟩:=qLR hos
   obtain ⟨t1,t2,t3⟩:=W.ok _ ht
   simp only at t1 t2 t3
   have h1:=at_getD (ns:=ns) (a:=a) (by omega) (by omega)
   have h2:=at_getD (ns:=ns) (a:=b) (by omega) (by omega)
   walk_at "v"
   refine ⟨⟨[_,_],rfl,rfl⟩,QG ⟨rfl,rfl⟩,fun _=>?_⟩
   walk_at "v"
   exact ⟨rfl,rfl⟩
  have ed:(ts.filter fun _=>true).map (fun t:Tie=>D.bl (!decide (ns.getD t.1.toNat 0=ns.getD t.2.toNat 0)))=(ts.map fun t=>!decide (ns.getD t.1.toNat 0=ns.getD t.2.toNat 0)).map D.bl:=by
   rw [qg,zE]
   rfl
  rw [ed]
  walk_at "v"
  refine qCC rfl ?_
  have ea:(ts.map fun t=>!decide (ns.getD t.1.toNat 0=ns.getD t.2.toNat 0)).all id=ts.all fun t=>!decide (ns.getD t.1.toNat 0=ns.getD t.2.toNat 0):=by
   rw [uB]
   rfl
  rw [ea]
  exact ⟨⟨_,rfl⟩,k'⟩
def qII:PV:=fun as Φ=>∃ ns:List Int,as=[.l (qI ns)]/\ns.length<=100/\Φ (.d (.int (lwF ns:Int))) as
def qKY:PV:=fun as Φ=>∃(n:Nat) (ts:List Tie) (o:List Int),as=[.d (QP n ts),.d (.tup (qI o))]/\qJ5 n ts/\Q8 n o/\Φ (.d (.tup (qI (qIH n ts o)))) as
def qIW (h:List (Int×Int)):List (Key×D):=h.map fun x=>(xT x.1,D.int x.2)
def lk (h:List (Int×Int)) (p:Int):Int:=(look h p).getD 0
theorem qBM:∀(h:List (Int×Int)) (p:Int),qCS (qIW h) (.inl p)=(look h p).map D.int
 | [],p=>rfl
 | x::h,p=>by
  show qCS ((xT x.1,D.int x.2)::qIW h) (.inl p)=_
  rw [qCD,Qe,qBM h p]
  by_cases e:x.1=p
  ·rw [if_pos e,if_pos (by rw [e])]
   rfl
  ·rw [if_neg e,if_neg (fun z=>e (Sum.inl.inj z))]
theorem qJ4 {h:List (Int×Int)} {p v:Int} (hp:p∉h.map (·.1)):putD (qIW h) (.inl p) (.int v)=qIW (h++[(p,v)]):=by
 unfold putD
 rw [qDr,qBM]
 have z:look h p=none:=by
  cases z:look h p with
  | none=>rfl
  | some v=>
   exact absurd (Qd.mp (by rw [z]; rfl)) hp
 rw [z]
 show qIW h++[(xT p,D.int v)]=_
 unfold qIW
 rw [zI]
 rfl
theorem qHY (n:Nat) (ts:List Tie) (p:Int):(qDJ n ts p).length<=n:=by
 unfold qDJ
 exact zC (vC _ _) (by rw [places_len]; exact wK _)
theorem qJS:qR ["web","place"] ["web","place"] (qH (top 5)):=by walk_at "sc"
theorem qI7 (F:Fun K "near" "near" (top 5) f fd) (T:Txt mg) (XAf:Has P w K mg base "tie_of" (top 4) ["a","b"] 1 (spV qD1)):jo P w K mg base CX0 2 f fd ["web","place"] (spV qK2):=by
 refine jR F qJS [0,1] (fun as Φ h=>?_) (fun cdv A outer s H E hr=>?_)
 ·obtain ⟨n,ts,p,rfl,_⟩:=h
  rfl
 ·have hu:=hr.units
  refine ⟨_,(qG (qP (qp (Jh (K:=K) rfl) (by rfl) T.n_tuple zU (qA (jF rfl (own:=["other"]) (fr:=[("place",1),("web",0)]) (by walk_at "cs") (qq (by rfl) T.n_range (qA (jD (pv 0) qC) qB)) (fun cl C s0 H0 fp=>⟨(JG 0),J2 (qO (qKW hu) (qx XAf hr (qA (pv 1) (qA (pv 0) qB))) (jD (pv 2) qC) (by with_unfolding_all rfl)),(pv 0)⟩)) qB)))),?_⟩
  rintro as Φ ⟨n,ts,p,rfl,few,k⟩
  walk_at "sv"
  refine ja D.int (places n) (fun i=>decide (mk p i∈ts)) D.int (qDx ?_)
  walk_at "v"
  refine ⟨n,⟨_,rfl,rfl⟩,by omega,by omega,?_,qL (by rw [places_len]; omega),qb rfl,of_decide_eq_true rfl,?_,?_⟩
  ·rw [J8,yG]
   unfold places
   rw [zE]
   refine vV fun a _=>?_
   show D.int (0+(a:Int))=D.int (a:Int)
   rw [kS]
  ·rintro i _ os hos
   obtain ⟨z0,rfl⟩:=qCT hos
   walk_at "v"
   refine ⟨⟨[_],rfl,rfl⟩,?_,fun _=>?_⟩
   ·walk_at "v"
    walk_at "call"
    refine ⟨p,_,rfl,⟨⟨_,rfl⟩,?_⟩⟩
    walk_at "sv"
    refine qG7 (f:=qu) (q:=mk p i) (fs:=ts) Yc (fun _=>zG rfl) rfl (.inr rfl) ?_
    exact ⟨_,rfl,decide_eq_decide.mpr Iff.rfl,rfl⟩
   ·walk_at "v"
    exact ⟨rfl,rfl⟩
  ·walk_at "v"
   exact ⟨⟨_,rfl⟩,k⟩
theorem jq:qR ["numbers","least"] ["numbers"] (qH (top 11)):=by walk_at "sc"
theorem J4 (F:Fun K "least_without" "least_without" (top 11) f fd) (T:Txt mg):jo P w K mg base CX0 1 f fd ["numbers"] (spV qII):=by
 refine jR F jq [0] (fun as Φ h=>?_) (fun cdv A outer s H E hr=>?_)
 ·obtain ⟨ns,rfl,_⟩:=h
  rfl
 ·have hu:=hr.units
  refine ⟨_,(qD (QJ 1 jq qC)
   (qD (qDU vK (qO (qKW hu) (pv 1) (pv 0) (by with_unfolding_all rfl))
   (qG (qK6 (i:=1) jq.nd rfl (Or.inl rfl) qC qJU)))
   (qG (qP (pv 1))))),?_⟩
  rintro as Φ ⟨ns,rfl,hl,k⟩
  walk_at "sv"
  walk_at "st"
  refine qFu (fun m ρ=>∃ i:Nat,ρ=[.l (qI ns),.d (.int i)]/\i+m=ns.length+1/\qEw m ns i=lwF ns/\∀ j:Nat,j<i->(j:Int)∈ns) (ns.length+1) ⟨0,rfl,by omega,rfl,fun j hj=>by omega⟩ ?_
  rintro m ρ ⟨i,rfl,hm,he,ha⟩
  have hle:=qFe ha
  obtain ⟨m',rfl⟩:∃ m',m=m'+1:=⟨m - 1,by omega⟩
  walk_at "v"
  by_cases hi:(i:Int)∈ns
  ·rw [decide_eq_true hi,if_pos rfl]
   refine qL8 (k:=fun i j=>i+j) rfl rfl ?_
   walk_at "v"
   walk_at "st"
   have e:qEw (m'+1) ns i=qEw m' ns (i+1):=by
    conv=>lhs; unfold qEw
    rw [if_pos hi]
   refine ⟨m',by omega,i+1,?_,by omega,by rw [<- e]; exact he,fun j hj=>?_⟩
   ·rfl
   ·by_cases z:j=i
    ·rw [z]; exact hi
    ·exact ha j (by omega)
  ·rw [decide_eq_false hi,if_neg wU]
   have e:qEw (m'+1) ns i=i:=by
    unfold qEw
    rw [if_neg hi]
   rw [e] at he
   rw [<- he] at k
   walk_at "v"
   exact ⟨⟨_,rfl⟩,k⟩
theorem qC1:qR ["web","order","found","place"] ["web","order"] (qH (top 12)):=by walk_at "sc"
theorem qIy (F:Fun K "laid" "laid" (top 12) f fd) (T:Txt mg) (XAi:Has P w K mg base "near" (top 5) ["web","place"] 2 (spV qK2))
  (XAA:Has P w K mg base "least_without" (top 11) ["numbers"] 1 (spV qII)):jo P w K mg base CX0 3 f fd ["web","order"] (spV qKY):=by
 refine jR F qC1 [0,1] (fun as Φ h=>?_) (fun cdv A outer s H E hr=>?_)
 ·obtain ⟨n,ts,o,rfl,_⟩:=h
  rfl
 ·have hu:=hr.units
  refine ⟨_,(qD (QJ 2 qC1 qH6)
   (qD (Qh vK rfl (qz (K:=K) rfl (pv 1)) (JF 3 qC1)
   (qG (qGU (hu1 hu) (pv 2) (pv 3) (qx XAA hr (qA (jF rfl (own:=["other"]) (fr:=[("found",2)]) (by walk_at "cs") (qz (K:=K) rfl (qx XAi hr (qA (pv 0) (qA (pv 3) qB)))) (fun cl C s0 H0 fp=>⟨(JG 0),J2 (qKI (qK4 (hu1 hu) (pv 0) (pv 1)) (by with_unfolding_all rfl)),(qGI (hu1 hu) (pv 1) (pv 0) (fun _ _=>rfl))⟩)) qB)) (by rfl))))
   (qG (qP (qp (Jh (K:=K) rfl) (by rfl) T.n_tuple zU (qA (jF rfl (own:=["place"]) (fr:=[("found",2)]) (by walk_at "cs") (qq (by rfl) T.n_range (qA (jD (pv 0) qC) qB)) (fun cl C s0 H0 fp=>⟨(JG 0),jk,(qGI (hu1 hu) (pv 1) (pv 0) (fun _ _=>rfl))⟩)) qB)))))),?_⟩
  rintro as Φ ⟨n,ts,o,rfl,W,O,k⟩
  have W1:=W.few
  have hl:=O.len
  have nd:=O.nd
  walk_at "sv"
  refine qKT ?_
  refine qm rfl ?_
  walk_at "st"
  refine Yz (Yj (Qp ?_))
  walk_at "v"
  refine ⟨_,_,rfl,rfl,fun i ρ=>∃ s3,ρ=[.d (QP n ts),.d (.tup (qI o)),.o (.di (qIW (j6 n ts (o.take i)))),s3],⟨_,rfl⟩,?_,?_⟩
  ·rintro i x ρ hx ⟨s3,rfl⟩
   have hi:i<o.length:=by
    have:=(wL.mp hx).1
    rwa [wA] at this
   rw [wI,wC hi] at hx
   cases hx
   have ht:o.take (i+1)=o.take i++[o[i]]:=WX hi
   have hnot:o[i]∉(j6 n ts (o.take i)).map (·.1):=by
    rw [Ql]
    have:(o.take (i+1)).Nodup:=List.Sublist.nodup (fK _ _) nd
    rw [ht] at this
    exact fun z=>(kI.mp this).2.2 _ z _ wN rfl
   have est:j6 n ts (o.take (i+1))=Y1 n ts (j6 n ts (o.take i)) o[i]:=by rw [ht,qBk]
   have hkl:(j6 n ts (o.take i)).length<=9:=by
    have:=congrArg fJ (Ql n ts (o.take i))
    rw [wA,yW] at this
    omega
   clear ht
   generalize o[i]=p at hnot est ⊢
   generalize j6 n ts (o.take i)=h at hnot est hkl ⊢
   refine qm rfl ?_
   walk_at "st"
   refine qK7 ?_
   refine qX ?_
   walk_at "v"
   refine ja D.int (qDJ n ts p) (fun q=>(look h q).isSome) (fun q=>D.int (lk h q)) (Qp ?_)
   walk_at "call"
   refine ⟨n,ts,p,rfl,W1,⟨⟨_,rfl⟩,?_⟩⟩
   walk_at "st"
   have hnl:=qHY n ts p
   refine ⟨_,_,rfl,rfl,rfl,qL (by omega),qb rfl,of_decide_eq_true rfl,?_,?_⟩
   ·rintro q _ os hos
    obtain ⟨z0,rfl⟩:=qCT hos
    walk_at "v"
    refine ⟨⟨[_],rfl,rfl⟩,?_,fun hs=>?_⟩
    ·refine t_B (qL3 ?_)
     walk_at "v"
     refine ⟨_,rfl,?_⟩
     walk_at "v"
     refine ⟨_,_,rfl,rfl,?_⟩
     refine ⟨_,rfl,?_,rfl⟩
     rw [qBM]
     cases look h q <;> rfl
    ·refine qIA ?_
     walk_at "v"
     refine ⟨_,q,D.int (lk h q),rfl,rfl,?_,rfl,rfl⟩
     rw [qBM]
     unfold lk
     cases z:look h q with
     | none=>rw [z] at hs; cases hs
     | some v=>rfl
   have eb:((qDJ n ts p).filter fun q=>(look h q).isSome).map (fun q=>D.int (lk h q))=qI (bar n ts h p):=by
    unfold bar qI
    rw [zE]
    rfl
   rw [eb]
   have hbl:(bar n ts h p).length<=9:=by
    unfold bar
    rw [wA]
    exact zC (vC _ _) (by omega)
   walk_at "v"
   refine ⟨of_decide_eq_true rfl,?_⟩
   walk_at "st"
   refine ⟨bar n ts h p,rfl,by omega,⟨⟨_,rfl⟩,?_⟩⟩
   walk_at "st"
   refine ⟨_,rfl,?_⟩
   walk_at "v"
   refine ⟨p,_,rfl,rfl,qL (by unfold qIW; rw [wA]; omega),?_⟩
   walk_at "st"
   rw [qJ4 hnot,est]
   exact ⟨_,rfl⟩
  ·rintro ρ ⟨s3,rfl⟩
   rw [wA,xQ]
   walk_at "v"
   refine ja D.int (places n) (fun _=>true) (fun p=>D.int (hue n ts o p)) (qDx ?_)
   walk_at "v"
   refine ⟨n,⟨_,rfl,rfl⟩,by omega,by omega,?_,qL (by rw [places_len]; omega),qb rfl,of_decide_eq_true rfl,?_,?_⟩
   ·rw [J8,yG]
    unfold places
    rw [zE]
    refine vV fun a _=>?_
    show D.int (0+(a:Int))=D.int (a:Int)
    rw [kS]
   ·rintro p hp os hos
    obtain ⟨z0,rfl⟩:=qCT hos
    have hpo:=O.mem_iff.mpr hp
    walk_at "v"
    refine ⟨⟨[_],rfl,rfl⟩,QG ⟨rfl,rfl⟩,fun _=>?_⟩
    refine qIA ?_
    walk_at "v"
    refine ⟨_,p,D.int (hue n ts o p),rfl,rfl,?_,rfl,rfl⟩
    rw [qBM]
    unfold hue
    cases z:look (j6 n ts o) p with
    | none=>
     have:=Qd.mpr (show p∈(j6 n ts o).map (·.1) by rw [Ql]; exact hpo)
     rw [z] at this
     cases this
    | some v=>rfl
   rw [qg]
   have eh:(places n).map (fun p=>D.int (hue n ts o p))=qI (qIH n ts o):=by
    unfold qI qIH
    rw [zE]
    rfl
   rw [eh]
   walk_at "v"
   exact ⟨⟨_,rfl⟩,k⟩
def qKA:PV:=fun as Φ=>∃ q:Int×Int×Int,as=[.l (qe q)]/\∀ v q',Φ (.d (.int v)) [.l (qe q')]
theorem QY:qR ["pool","found","k"] ["pool"] (qH (top 22)):=by walk_at "sc"
theorem qDO (F:Fun K "_law_far" "_law_far" (top 22) f fd) (T:Txt mg) (XAQ:Has P w K mg base "_law_next" (top 21) ["pool","base"] 1 (spV YL)):jo P w K mg base CX0 2 f fd ["pool"] (spV qKA):=by
 refine jR F QY [0] (fun as Φ h=>?_) (fun cdv A outer s H E hr=>?_)
 ·obtain ⟨q,rfl,_⟩:=h
  rfl
 ·have hu:=hr.units
  refine ⟨_,(qD (QJ 1 QY qC)
   (qD (Qh vK rfl (qq (by rfl) T.n_range (qA (qQ (j4 (K:=K) rfl) qC (qx XAQ hr (qA (pv 0) (qA qC qB)))) qB)) (JF 2 QY)
   (qG (QJ 1 QY (qQ (j4 (K:=K) rfl) (qQ opM (pv 1) (qQ qCE qC qC)) (qx XAQ hr (qA (pv 0) (qA (qQ qCE qC qC) qB)))))))
   (qG (qP (pv 1))))),?_⟩
  rintro as Φ ⟨q,rfl,k⟩
  walk_at "sv"
  walk_at "st"
  refine Yj (qDx ?_)
  walk_at "vc"
  refine ⟨q,3,rfl,by decide,by decide,fun r q1 r0 r1=>⟨⟨_,rfl⟩,?_⟩⟩
  walk_at "sv"
  refine ⟨_,⟨_,rfl,rfl⟩,by omega,by omega,fun i ρ=>∃ q v s,ρ=[.l (qe q),.d (.int v),s],⟨_,_,_,rfl⟩,?_,?_⟩
  ·rintro i x ρ _ ⟨q,v,s,rfl⟩
   refine qm rfl ?_
   walk_at "sv"
   refine Ye rfl rfl ⟨by decide,by decide,by decide⟩ ?_
   walk_at "v"
   refine OpV.l (Ye rfl rfl (.inr ⟨by decide,by decide⟩) ?_)
   walk_at "v"
   refine qX ?_
   walk_at "v"
   refine Ye rfl rfl ⟨by decide,by decide,by decide⟩ ?_
   walk_at "v"
   refine ⟨of_decide_eq_true rfl,?_⟩
   walk_at "st"
   refine ⟨q,_,rfl,by decide,by decide,fun r q1 r0 r1=>⟨⟨_,rfl⟩,?_⟩⟩
   walk_at "sv"
   exact ⟨_,_,_,rfl⟩
  ·rintro ρ ⟨q,v,s,rfl⟩
   walk_at "v"
   exact ⟨⟨_,rfl⟩,k v q⟩
def qHm (k:Int) (hs:List Int) (p:Pap) (n:Nat) (ts:List Tie):Bool:=(decide (hs.length=n) && ts.all fun t=>!decide (hs.getD t.1.toNat 0=hs.getD t.2.toNat 0)) && ((hs.all fun h=>decide (0<=h) && decide (h<k)) && okP k p n ts)
theorem qGA {n:Nat} {ts:List Tie} {hs:List Int}:qGq n ts (.tup (qI hs))=(decide (hs.length=n) && ts.all fun t=>!decide (hs.getD t.1.toNat 0=hs.getD t.2.toNat 0)):=by
 show qIo n ts (qI hs)=_
 have e1:(qI hs).map qE9=hs:=by
  unfold qI
  rw [zE]
  exact List.map_id hs
 have e2:(qI hs).all jZ=true:=by
  unfold qI
  rw [uB,uF]
  exact fun _ _=>rfl
 unfold qIo
 rw [e1,e2,yB,show (qI hs).length=hs.length from wA _]
def qAk (m:Nat):PV:=fun as Φ=>∃(n:Nat) (ts:List Tie) (k:Int) (hs:List Int) (p:Pap),as=[.d (QP n ts),.d (.int k),.d (.tup (qI hs)),.d (QK p)]/\qJ5 n ts/\hs.length<=30/\p.deep<m/\m<=12/\p.slim/\Φ (.d (.bl (qHm k hs p n ts))) as
theorem YD:qR ["web","k","hues","paper"] ["web","k","hues","paper"] (qH (top 17)):=by walk_at "sc"
theorem YZ {m:Nat} {f:Addr} {fd:FuncData} (F:Fun K "fewest_right" "fewest_right" (top 17) f fd) (T:Txt mg) (XAa:Has P w K mg base "is_whole" (top 1) ["thing"] 1 (spV qBV)) (XAd:Has P w K mg base "is_hues" (top 10) ["web","thing"] 2 (spV qKu)) (XAY:Has P w K mg base "is_paper" (top 16) ["web","k","thing"] (2*m+4) (spV (qBU m))):jo P w K mg base CX0 (2*m+5) f fd ["web","k","hues","paper"] (spV (qAk m)):=by
 refine jR F YD [0,1,2,3] (fun as Φ h=>?_) (fun cdv A outer s H E hr=>?_)
 ·obtain ⟨n,ts,k,hs,p,rfl,_⟩:=h
  rfl
 ·have hu:=hr.units
  refine ⟨_,(qD (jm (PW.pt (JI (QM (qo (K:=K) rfl (qf XAa hr (qA (pv 1) qB)) (fun _=>rfl))) (Qk (QM (qo (K:=K) rfl (qf XAd hr (qA (pv 0) (qA (pv 2) qB))) (fun _=>rfl))))))
   (qG (qP JA))
   qi)
   (qG (qP (Qw (qF (jj rfl) (by rfl) T.n_all vY (qA (jF rfl (own:=["number"]) (fr:=[("k",1)]) (by walk_at "cs") (qz (K:=K) rfl (pv 2)) (fun cl C s0 H0 fp=>⟨(JG 0),jk,(qAz qE8 Yi qC (pv 0) (pv 1))⟩)) qB)) (Qq (qf XAY hr (qA (pv 0) (qA (pv 1) (qA (pv 3) qB))))))))),?_⟩
  rintro as Φ ⟨n,ts,c,hs,p,rfl,W,hl,hd,hm,sl,k⟩
  have tl:=W.len
  have pos:=W.pos
  let S0:Sl:=.d (QP n ts)
  let S1:Sl:=.d (.int c)
  let S2:Sl:=.d (.tup (qI hs))
  let S3:Sl:=.d (QK p)
  unfold qHm at k
  rw [<- qGA] at k
  walk_at "st"
  refine qc (fun ρ=>qGq n ts (.tup (qI hs))=true/\ρ=[S0,S1,S2,S3]) ?_ ?_
  ·refine Yv (qCm ?_)
   walk_at "vc"
   refine ⟨.int c,rfl,⟨⟨_,rfl⟩,?_⟩⟩
   walk_at "sv"
   refine ite_no ?_
   walk_at "v"
   refine qX ?_
   walk_at "v"
   refine ⟨of_decide_eq_true rfl,?_⟩
   walk_at "st"
   refine ⟨n,ts,_,rfl,W,⟨⟨_,rfl⟩,?_⟩⟩
   walk_at "sv"
   refine QH (fun h1=>?_) (fun h1=>?_)
   ·walk_at "v"
    rw [jH h1,yJ] at k
    exact ⟨⟨_,rfl⟩,k⟩
   exact qw ⟨jc h1,rfl⟩
  rintro ρ ⟨e1,rfl⟩
  rw [e1,yB] at k
  refine Y7 (v_and ?_)
  walk_at "v"
  refine ja D.int hs (fun _=>true) (fun h=>D.bl (decide (0<=h) && decide (h<c))) (Qp ?_)
  walk_at "v"
  refine ⟨_,_,rfl,rfl,rfl,qL (by omega),qb rfl,of_decide_eq_true rfl,?_,?_⟩
  ·rintro h _ os hos
   obtain ⟨z0,rfl⟩:=qCT hos
   walk_at "v"
   refine ⟨⟨[_],rfl,rfl⟩,QG ⟨rfl,rfl⟩,fun _=>?_⟩
   walk_at "vJ"
   exact ⟨rfl,rfl⟩
  rw [qg,show hs.map (fun h=>D.bl (decide (0<=h) && decide (h<c)))=(hs.map fun h=>decide (0<=h) && decide (h<c)).map D.bl from by rw [zE]; rfl]
  walk_at "v"
  refine qCC rfl ?_
  rw [show (hs.map fun h=>decide (0<=h) && decide (h<c)).all id=hs.all (fun h=>decide (0<=h) && decide (h<c)) from by rw [uB]; rfl]
  walk_at "v"
  refine QH (fun h2=>?_) (fun h2=>?_)
  ·rw [h2,yB] at k
   refine qX ?_
   walk_at "v"
   refine ⟨of_decide_eq_true rfl,?_⟩
   walk_at "st"
   exact ⟨n,ts,c,p,rfl,hd,hm,sl,pos,by omega,⟨⟨_,rfl⟩,⟨_,rfl⟩,k⟩⟩
  ·rw [gE.mpr h2,yJ] at k
   exact ⟨⟨_,rfl⟩,k⟩
theorem qCr:qR ["web","k","hues","paper"] ["web","k","hues","paper"] (qH (top 34)):=by walk_at "sc"
theorem qCw {m:Nat} {f:Addr} {fd:FuncData} (F:Fun K "_law_due" "_law_due" (top 34) f fd) (T:Txt mg) (XAL:Has P w K mg base "_law_shown" (top 30) ["web","k","paper"] (m+2) (spV (qCQ m))):jo P w K mg base CX0 (m+3) f fd ["web","k","hues","paper"] (spV (qAk m)):=by
 refine jR F qCr [0,1,2,3] (fun as Φ h=>?_) (fun cdv A outer s H E hr=>?_)
 ·obtain ⟨n,ts,k,hs,p,rfl,_⟩:=h
  rfl
 ·have hu:=hr.units
  refine ⟨_,(qD (jm (PW.pt (JI (qO (qD9 hu) (qF (qBu (K:=K) rfl) (by rfl) T.n_len yX (qA (pv 2) qB)) (jD (pv 0) qC) (qY _)) (Qk (qo (K:=K) rfl (qF (qFP rfl) (by rfl) T.n_any PyProof.Rows.boot_any (qA (jF rfl (own:=["a","b"]) (fr:=[("hues",2)]) (by walk_at "cs") (qz (K:=K) rfl (jD (pv 0) qC)) (fun cl C s0 H0 fp=>⟨(jX (K:=K) (n:=2) rfl rfl (qM (JG 0) (qM (JG 1) jU))),jk,(QR (qBB hu) (jD (pv 2) (pv 0)) (jD (pv 2) (pv 1)) (qY _))⟩)) qB)) (fun _=>rfl)))))
   (qG (qP JA))
   qi)
   (qG (qP (Qw (qF (jj rfl) (by rfl) T.n_all vY (qA (jF rfl (own:=["number"]) (fr:=[("k",1)]) (by walk_at "cs") (qz (K:=K) rfl (pv 2)) (fun cl C s0 H0 fp=>⟨(JG 0),jk,(qAz qE8 Yi qC (pv 0) (pv 1))⟩)) qB)) (Qq (qf XAL hr (qA (pv 0) (qA (pv 1) (qA (pv 3) qB))))))))),?_⟩
  rintro as Φ ⟨n,ts,c,hs,p,rfl,W,hl,hd,hm,sl,k⟩
  have tl:=W.len
  have pos:=W.pos
  have n9:=W.few
  have el:(qI hs).length=hs.length:=wA _
  let S0:Sl:=.d (QP n ts)
  let S1:Sl:=.d (.int c)
  let S2:Sl:=.d (.tup (qI hs))
  let S3:Sl:=.d (QK p)
  unfold qHm at k
  walk_at "st"
  refine qc (fun ρ=>(decide (hs.length=n) && ts.all fun t=>!decide (hs.getD t.1.toNat 0=hs.getD t.2.toNat 0))=true/\ρ=[S0,S1,S2,S3]) ?_ ?_
  ·refine Yv (qCm ?_)
   walk_at "v"
   refine QH (fun h1=>?_) (fun h1=>?_)
   ·rw [if_pos rfl]
    walk_at "v"
    have e:=qEo h1
    rw [el] at e
    rw [decide_eq_false e,yJ,yJ] at k
    exact ⟨⟨_,rfl⟩,k⟩
   have e:=qFR h1
   rw [el] at e
   rw [decide_eq_true e,yB]
   rw [decide_eq_true e,yB] at k
   walk_at "v"
   refine ja qu ts (fun _=>true) (fun t=>D.bl (decide (hs.getD t.1.toNat 0=hs.getD t.2.toNat 0))) (Qp ?_)
   walk_at "v"
   refine ⟨_,_,rfl,rfl,rfl,qL (by omega),qb rfl,of_decide_eq_true rfl,?_,?_⟩
   ·rintro ⟨a,b⟩ ht os hos
    obtain ⟨z0,z1,rfl⟩:=qLR hos
    obtain ⟨a0,ab,bn⟩:=W.ok _ ht
    have a0':0<=a:=a0
    have ab':a<b:=ab
    have bn':b<(n:Int):=bn
    have a1:atI (qI hs) a=some (.int (hs.getD a.toNat 0)):=at_getD a0' (by omega)
    have a2:atI (qI hs) b=some (.int (hs.getD b.toNat 0)):=at_getD (by omega) (by omega)
    rw [show qu (a,b)=D.tup [.int a,.int b] from rfl]
    walk_at "v"
    refine ⟨⟨[_,_],rfl,rfl⟩,QG ⟨rfl,rfl⟩,fun _=>?_⟩
    walk_at "v"
    exact ⟨rfl,rfl⟩
   rw [qg,show ts.map (fun t=>D.bl (decide (hs.getD t.1.toNat 0=hs.getD t.2.toNat 0)))=(ts.map fun t=>decide (hs.getD t.1.toNat 0=hs.getD t.2.toNat 0)).map D.bl from by rw [zE]; rfl]
   walk_at "v"
   refine qLK rfl ?_
   walk_at "v"
   have en:(ts.map fun t=>decide (hs.getD t.1.toNat 0=hs.getD t.2.toNat 0)).any id = !(ts.all fun t=>!decide (hs.getD t.1.toNat 0=hs.getD t.2.toNat 0)):=by
    rw [List.any_map,List.not_all_eq_any_not]
    exact congrArg (fun f=>ts.any f) (funext fun t=>(Bool.not_not _).symm)
   rw [en]
   refine QH (fun h2=>?_) (fun h2=>?_)
   ·walk_at "v"
    rw [jH h2,yJ] at k
    exact ⟨⟨_,rfl⟩,k⟩
   exact qw ⟨jc h2,rfl⟩
  rintro ρ ⟨e1,rfl⟩
  rw [e1,yB] at k
  refine Y7 (v_and ?_)
  walk_at "v"
  refine ja D.int hs (fun _=>true) (fun h=>D.bl (decide (0<=h) && decide (h<c))) (Qp ?_)
  walk_at "v"
  refine ⟨_,_,rfl,rfl,rfl,qL (by omega),qb rfl,of_decide_eq_true rfl,?_,?_⟩
  ·rintro h _ os hos
   obtain ⟨z0,rfl⟩:=qCT hos
   walk_at "v"
   refine ⟨⟨[_],rfl,rfl⟩,QG ⟨rfl,rfl⟩,fun _=>?_⟩
   walk_at "vJ"
   exact ⟨rfl,rfl⟩
  rw [qg,show hs.map (fun h=>D.bl (decide (0<=h) && decide (h<c)))=(hs.map fun h=>decide (0<=h) && decide (h<c)).map D.bl from by rw [zE]; rfl]
  walk_at "v"
  refine qCC rfl ?_
  rw [show (hs.map fun h=>decide (0<=h) && decide (h<c)).all id=hs.all (fun h=>decide (0<=h) && decide (h<c)) from by rw [uB]; rfl]
  walk_at "v"
  refine QH (fun h2=>?_) (fun h2=>?_)
  ·rw [h2,yB] at k
   refine qX ?_
   walk_at "v"
   refine ⟨of_decide_eq_true rfl,?_⟩
   walk_at "st"
   exact ⟨n,ts,c,p,rfl,hd,hm,sl,pos,n9,by omega,W.ok,⟨⟨_,rfl⟩,⟨_,rfl⟩,k⟩⟩
  ·rw [gE.mpr h2,yJ] at k
   exact ⟨⟨_,rfl⟩,k⟩
theorem qFn {b:Bool} (h:¬ b=true):b=false:=by cases b with | false=>rfl | true=>exact absurd rfl h
def qEP (ts:List Tie) (p:Int):List Int->Bool
 | []=>true
 | a::r=>decide ((a::r).getLast (gP a r)<p) && (a::r).all fun y=>decide (mk y p∈ts)
theorem qGw {ts:List Tie} {p:Int}:∀{ps:List Int} (ne:ps≠[]),qEP ts p ps=(decide (ps.getLast ne<p) && ps.all fun y=>decide (mk y p∈ts))
 | [],ne=>absurd rfl ne
 | _::_,_=>rfl
def qDw:PV:=fun as Φ=>∃(n:Nat) (ts:List Tie) (ps:List Int) (p:Int),as=[.d (QP n ts),.d (.tup (qI ps)),.d (.int p)]/\ps.length<=30/\Φ (.d (.bl (qEP ts p ps))) as
theorem qAs:qR ["web","some","place"] ["web","some","place"] (qH (top 32)):=by walk_at "sc"
theorem qAx (F:Fun K "_law_meets" "_law_meets" (top 32) f fd) (T:Txt mg) (XAR:Has P w K mg base "_law_tied" (top 27) ["web","a","b"] 1 (spV Qj)):jo P w K mg base CX0 2 f fd ["web","some","place"] (spV qDw):=by
 refine jR F qAs [0,1,2] (fun as Φ h=>?_) (fun cdv A outer s H E hr=>?_)
 ·obtain ⟨n,ts,ps,p,rfl,_⟩:=h
  rfl
 ·have hu:=hr.units
  refine ⟨_,(qG (qP (qMD (QR (qBB hu) (pv 1) (qS qB) (qY _)) (Qq (Qw (QR Yi (jD (pv 1) (qEK qAK qC)) (pv 2) (qY _)) (Qq (qF (jj rfl) (by rfl) T.n_all vY (qA (jF rfl (own:=["other"]) (fr:=[("web",0),("place",2)]) (by walk_at "cs") (qz (K:=K) rfl (pv 1)) (fun cl C s0 H0 fp=>⟨(JG 0),jk,(qx XAR hr (qA (pv 1) (qA (pv 0) (qA (pv 2) qB))))⟩)) qB)))))))),?_⟩
  rintro as Φ ⟨n,ts,ps,p,rfl,hl,k⟩
  have dp:qK (qI ps)<=50:=zC (jt (f:=D.int) (k:=0) (fun a=>wK _) ps) (by decide)
  walk_at "st"
  refine Y7 (v_or ?_)
  walk_at "v"
  refine OpV.r (qMP rfl rfl dp ?_)
  refine ⟨_,rfl,?_⟩
  refine QH (fun h1=>?_) (fun h1=>?_)
  ·cases ps with
   | nil=>exact ⟨⟨_,rfl⟩,k⟩
   | cons a r=>cases h1
  have ne:ps≠[]:=fun z=>h1 (by rw [z]; rfl)
  rw [qGw ne] at k
  refine v_and ?_
  have hq:atI (qI ps) (-1)=some (.int (ps.getLast ne)):=by
   have e:=congrArg qI (List.dropLast_concat_getLast ne)
   rw [<- e]
   unfold qI
   rw [zI]
   exact qG3 _ _
  generalize ps.getLast ne=q at hq k
  walk_at "v"
  refine QH (fun h2=>?_) (fun h2=>?_)
  rotate_left
  ·have h3:=qFn h2
   rw [h3] at k
   exact ⟨⟨_,rfl⟩,k⟩
  rw [h2] at k
  walk_at "v"
  refine ja D.int ps (fun _=>true) (fun y=>D.bl (decide (mk y p∈ts))) (Qp ?_)
  walk_at "v"
  refine ⟨_,_,rfl,rfl,rfl,qL (by omega),qb rfl,of_decide_eq_true rfl,?_,?_⟩
  ·rintro y _ os hos
   obtain ⟨z0,rfl⟩:=qCT hos
   walk_at "v"
   refine ⟨⟨[_],rfl,rfl⟩,QG ⟨rfl,rfl⟩,fun _=>?_⟩
   refine qX ?_
   walk_at "v"
   refine ⟨of_decide_eq_true rfl,?_⟩
   walk_at "st"
   exact ⟨n,ts,y,p,rfl,fun g hg=>⟨⟨_,rfl⟩,congrArg (fun z=>some (D.bl z)) (uJ.mpr (hg.trans qAb.symm)),rfl⟩⟩
  rw [qg,show ps.map (fun y=>D.bl (decide (mk y p∈ts)))=(ps.map fun y=>decide (mk y p∈ts)).map D.bl from by rw [zE]; rfl]
  walk_at "v"
  refine qCC rfl ?_
  walk_at "v"
  rw [uB]
  exact ⟨⟨_,rfl⟩,k⟩
def Pap.wide (r:Nat):Pap->Prop
 | .crowd ps=>ps.length<=r
 | .part _ _ x y=>x.wide r/\y.wide r
theorem Qr {r:Nat} (h:r<=30):∀{p:Pap},p.wide r->p.slim
 | .crowd _,z=>zC z h
 | .part _ _ _ _,z=>⟨Qr h z.1,Qr h z.2⟩
theorem Qg {r s:Nat} (h:r<=s):∀{p:Pap},p.wide r->p.wide s
 | .crowd _,z=>zC z h
 | .part _ _ _ _,z=>⟨Qg h z.1,Qg h z.2⟩
local macro_rules | `(tactic| walk_at "v1")=>`(tactic| with_reducible refine qKM ?_)
def crD (cs:List (List Int)):List D:=cs.map Qa
theorem qJT (cs:List (List Int)):qK (crD cs)<=50:=zC (jt (f:=Qa) (k:=1) (fun ns=>VA (jt (f:=D.int) (k:=0) (fun _=>wK _) ns)) cs) (by decide)
theorem qBK (cs:List Tie):qK (cs.map qu)<=50:=zC (jt (f:=qu) (k:=1) (fun _=>zG rfl) cs) (by decide)
theorem qMH (ls:List (List Int)):cutD (crD ls) none (some 60)=crD (ls.take 60):=by
 show cutD (crD ls) none (some ((60:Nat):Int))=_
 unfold cutD crD
 rw [HT.sIx_none,HT.sIx_nat,ZT,WW,wA,fU]
 rcases Nat.le_total 60 ls.length with z | z
 ·rw [gS z]
 ·rw [ZD z,xO (by rw [wA]; exact wK _),xO (by rw [wA]; exact z)]
theorem Yu (n:Nat):qF6 0 n=(places n).map fun p:Int=>D.int p:=by
 unfold qF6 places
 rw [zE]
 exact vV fun i _=>by rw [kS]; rfl
def qE2 (m:Nat):PV:=fun as Φ=>∃(q:Int×Int×Int) (n:Nat) (ts:List Tie) (c d:Nat),as=[.l (qe q),.d (QP n ts),.d (.int c),.d (.int d)]/\d<m/\m<=12/\c<=20/\1<=n/\n<=9/\ts.length+d<=40/\(∀ t∈ts,okp n t)/\
 ∀(p:Pap) q',p.deep<=d->p.wide 20->Φ (.d (QK p)) [.l (qe q'),.d (QP n ts),.d (.int c),.d (.int d)]
theorem qU:qR ["pool","web","k","deep","crowds","size","longer","some","loose","b","a","one"] ["pool","web","k","deep"] (qH (top 31)):=by walk_at "sc"
theorem Y5 {m:Nat} {f:Addr} {fd:FuncData} (F:Fun K "_law_paper" "_law_paper" (top 31) f fd) (T:Txt mg) (XAQ:Has P w K mg base "_law_next" (top 21) ["pool","base"] 1 (spV YL)) (XAR:Has P w K mg base "_law_tied" (top 27) ["web","a","b"] 1 (spV Qj)) (XAI:Has P w K mg base "_law_meets" (top 32) ["web","some","place"] 2 (spV qDw)) (XAH:Has P w K mg base "_law_drawn" (top 28) ["web","a","b"] 1 (spV JO)) (XAP:Has P w K mg base "_law_more" (top 29) ["web","a","b"] 1 (spV Yf)) (XAK:Has P w K mg base "_law_paper" (top 31) ["pool","web","k","deep"] (m+3) (spV (qE2 m))):jo P w K mg base CX0 (m+4) f fd ["pool","web","k","deep"] (spV (qE2 (m+1))):=by
 refine jR F qU [0,1,2,3] (fun as Φ h=>?_) (fun cdv A outer s H E hr=>?_)
 ·obtain ⟨q,n,ts,c,d,rfl,_⟩:=h
  rfl
 ·have hu:=hr.units
  refine ⟨_,(qD (QJ 4 qU (jM (qA (qS qB) qB)))
   (qD (Qh vK rfl (qq (by rfl) T.n_range (qA (pv 2) qB)) (JF 5 qU)
   (qD (QJ 6 qU (jM qB))
    (qD (Qh vK rfl (qz (K:=K) rfl (pv 4)) (JF 7 qU)
    (qG (QJ 6 qU (qQ (j4 (K:=K) rfl) (pv 6) (jF rfl (own:=["place"]) (fr:=[("web",1),("some",7)]) (by walk_at "cs") (qq (by rfl) T.n_range (qA (jD (pv 1) qC) qB)) (fun cl C s0 H0 fp=>⟨(JG 0),J2 (qo (K:=K) rfl (qf XAI hr (qA (pv 1) (qA (pv 2) (qA (pv 0) qB)))) (fun _=>rfl)),(qQ (j4 (K:=K) rfl) (pv 2) (qS (qA (pv 0) qB)))⟩))))))
    (qG (QJ 4 qU (qv (qCW (K:=K) rfl) (pv 6) jO (jG qC)))))))
   (qD (QJ 8 qU (jM qB))
   (qD (Qh vK rfl (qq (by rfl) T.n_range (qA (jD (pv 1) qC) qB)) (JF 9 qU)
   (qG (QJ 8 qU (qQ (j4 (K:=K) rfl) (pv 8) (jF rfl (own:=["a"]) (fr:=[("web",1),("b",9)]) (by walk_at "cs") (qq (by rfl) T.n_range (qA (pv 9) qB)) (fun cl C s0 H0 fp=>⟨(JG 0),J2 (QM (qo (K:=K) rfl (qf XAR hr (qA (pv 1) (qA (pv 0) (qA (pv 2) qB)))) (fun _=>rfl))),(qS (qA (pv 0) (qA (pv 2) qB)))⟩))))))
   (qD (jm (PW.pt (qB4 (qO (qD9 hu) (pv 4) (jM qB) (qY _)) (YW (PW.pt (JI (qO (qBB hu) (pv 3) qC (qY _)) (JI (qO (qBB hu) (pv 8) (jM qB) (qY _)) (Qk (qO (qBB hu) (qf XAQ hr (qA (pv 0) (qA qC qB))) qC (qY _)))))))))
   (qG (qP (qS (qA JD (qA (jD (pv 4) (qf XAQ hr (qA (pv 0) (qA (qF (qBu (K:=K) rfl) (by rfl) T.n_len yX (qA (pv 4) qB)) qB)))) qB)))))
   qi)
   (qD (jm (PW.pt (JI (qO (qBB hu) (pv 3) qC (qY _)) (Qk (qO (qBB hu) (pv 8) (jM qB) (qY _)))))
   (qG (qP (qS (qA JD (qA (qp (qDK rfl) (by rfl) T.n_tuple zU (qA (qp YN (by rfl) T.n_range TB (qA (qF (QA rfl) (by rfl) T.n_min vX (qA (pv 2) (qA (jD (pv 1) qC) qB))) qB)) qB)) qB)))))
   qi)
   (qD (JC (jD (pv 8) (qf XAQ hr (qA (pv 0) (qA (qF (qBu (K:=K) rfl) (by rfl) T.n_len yX (qA (pv 8) qB)) qB)))) (jX (K:=K) (n:=2) rfl rfl (qM (JF 10 qU) (qM (JF 9 qU) jU))))
   (qD (QJ 11 qU (qf XAK hr (qA (pv 0) (qA (qf XAH hr (qA (pv 1) (qA (pv 10) (qA (pv 9) qB)))) (qA (pv 2) (qA (qQ Jb (pv 3) qC) qB))))))
   (qG (qP (qS (qA JD (qA (pv 10) (qA (pv 9) (qA (pv 11) (qA (qf XAK hr (qA (pv 0) (qA (qf XAP hr (qA (pv 1) (qA (pv 10) (qA (pv 9) qB)))) (qA (pv 2) (qA (qQ Jb (pv 3) qC) qB))))) qB)))))))))))))))),?_⟩
  rintro as Φ ⟨q,n,ts,c,d,rfl,dm,hm,c20,hn,n9,hl,ok,k⟩
  let S0:Sl:=.l (qe q)
  let S1:Sl:=.d (QP n ts)
  let S2:Sl:=.d (.int c)
  let S3:Sl:=.d (.int d)
  walk_at "st"
  refine qc (fun ρ=>ρ=[S0,S1,S2,S3,.l (crD [[]]),.u,.u,.u,.u,.u,.u,.u]) ?_ ?_
  ·walk_at "v"
   show _=_
   rfl
  rintro ρ rfl
  refine qc (fun ρ=>∃ cs:List (List Int),Le ρ [S0,S1,S2,S3,.l (crD cs),.u,.u,.u,.u,.u,.u,.u]/\cs.length<=60/\∀ r∈cs,r.length<=c) ?_ ?_
  ·walk_at "nf"
   refine Yj (qDx ?_)
   walk_at "v"
   refine ⟨(c:Int),⟨_,rfl,rfl⟩,by omega,by omega,fun i ρ=>∃ cs:List (List Int),Le ρ [S0,S1,S2,S3,.l (crD cs),.u,.u,.u,.u,.u,.u,.u]/\cs.length<=60/\∀ r∈cs,r.length<=i,⟨[[]],⟨rfl,rfl,rfl,rfl,rfl,trivial⟩,by decide,fun r hr=>by rw [zB.mp hr]; exact zP _⟩,?_,?_⟩
   ·rintro i x ρ hx ⟨cs,hle,cl,cw⟩
    have hin:i<c:=by
     have:=(wL.mp hx).1
     rw [jI] at this
     omega
    rw [QT (by omega),kS] at hx
    cases hx
    refine qHj hle ?_
    refine qm rfl ?_
    walk_at "st"
    let S5:Sl:=.d (.int i)
    refine qc (fun ρ=>ρ=[S0,S1,S2,S3,.l (crD cs),S5,.l (crD []),.u,.u,.u,.u,.u]) ?_ ?_
    ·walk_at "v"
     show _=_
     rfl
    rintro ρ rfl
    refine qAt (i:=4) rfl ?_
    walk_at "st"
    let S4:Sl:=.d (.lst (crD cs))
    refine qc (fun ρ=>∃ ls:List (List Int),Le ρ [S0,S1,S2,S3,S4,S5,.l (crD ls),.u,.u,.u,.u,.u]/\ls.length<=60*9/\∀ r∈ls,r.length<=i+1) ?_ ?_
    ·walk_at "nf"
     refine Yj (Qp ?_)
     walk_at "v"
     refine ⟨_,_,rfl,rfl,fun j ρ=>∃ ls:List (List Int),Le ρ [S0,S1,S2,S3,S4,S5,.l (crD ls),.u,.u,.u,.u,.u]/\ls.length<=j*9/\∀ r∈ls,r.length<=i+1,⟨[],⟨rfl,rfl,rfl,rfl,rfl,rfl,rfl,trivial⟩,zP _,fun r hr=>absurd hr yM⟩,?_,?_⟩
     rotate_left
     ·rintro ρ ⟨ls,hle,ll,lw⟩
      rw [show (crD cs).length=cs.length from wA _] at ll
      exact ⟨ls,hle,by omega,lw⟩
     rintro j x ρ hx ⟨ls,hle,ll,lw⟩
     rw [show crD cs=cs.map Qa from rfl,wI] at hx
     obtain ⟨ps,hp,rfl⟩:=gD.mp hx
     have hj:=(wL.mp hp).1
     have pw:=cw ps (yT hp)
     refine qHj hle ?_
     refine qm rfl ?_
     walk_at "st"
     let S7:Sl:=.d (Qa ps)
     walk_at "v"
     refine ja (fun p:Int=>D.int p) (places n) (fun p=>qEP ts p ps) (fun p=>Qa (ps++[p])) (qDx ?_)
     walk_at "v"
     refine ⟨_,⟨_,rfl,rfl⟩,by omega,by omega,?_,qL (by rw [places_len]; omega),qb rfl,of_decide_eq_true rfl,?_,?_⟩
     ·rw [yG]
      exact Yu n
     ·rintro p _ os hos
      obtain ⟨z0,rfl⟩:=qCT hos
      walk_at "v"
      refine ⟨⟨[_],rfl,rfl⟩,?_,fun _=>?_⟩
      ·walk_at "v"
       refine qX ?_
       walk_at "v"
       refine ⟨of_decide_eq_true rfl,?_⟩
       walk_at "st"
       refine ⟨n,ts,ps,p,rfl,by omega,⟨⟨_,rfl⟩,?_⟩⟩
       walk_at "sv"
       exact ⟨rfl,rfl⟩
      ·walk_at "v"
       refine OpV.r (OpV.r (jn rfl rfl (szl (by rw [wA]; show ps.length+1<=1000; omega)) ?_))
       refine ⟨?_,rfl⟩
       show some (D.tup (ps.map D.int++[.int p]))=some (Qa (ps++[p]))
       rw [show Qa (ps++[p])=.tup ((ps++[p]).map D.int) from rfl,zI]
       rfl
     have fl:((places n).filter fun p=>qEP ts p ps).length<=9:=by
      refine zC (vC _ _) ?_
      rw [places_len]
      exact n9
     have e:crD ls++((places n).filter fun p=>qEP ts p ps).map (fun p=>Qa (ps++[p]))=crD (ls++((places n).filter fun p=>qEP ts p ps).map fun p=>ps++[p]):=by
      unfold crD
      rw [zI,zE]
      rfl
     refine OpV.r (OpV.l (Jz rfl rfl (szl (by rw [wA,show (crD ls).length=ls.length from wA _]; omega)) ?_))
     rw [e]
     walk_at "v"
     refine ⟨_,⟨rfl,rfl,rfl,rfl,rfl,rfl,rfl,trivial⟩,by rw [wM,wA]; omega,fun r hr=>?_⟩
     rcases zK.mp hr with z | z
     ·exact lw r z
     ·obtain ⟨p,_,rfl⟩:=zJ.mp z
      rw [wM]
      exact VA pw
    rintro ρ ⟨ls,hle,ll,lw⟩
    refine qIs hle ?_
    walk_at "v"
    refine SlV.l (qMe rfl ?_)
    walk_at "v"
    rw [qMH]
    exact ⟨ls.take 60,⟨rfl,rfl,rfl,rfl,rfl,trivial⟩,by rw [yW]; omega,fun r hr=>lw r (ZU hr)⟩
   ·rintro ρ ⟨cs,hle,cl,cw⟩
    rw [jI,yG] at cw
    exact ⟨cs,hle,cl,cw⟩
  rintro ρ ⟨cs,hle,cl,cw⟩
  refine qIs hle ?_
  refine qc (fun ρ=>ρ=[S0,S1,S2,S3,.l (crD cs),.u,.u,.u,.l (([]:List Tie).map qu),.u,.u,.u]) ?_ ?_
  ·walk_at "v"
   show _=_
   rfl
  rintro ρ rfl
  refine qc (fun ρ=>∃ ls:List Tie,Le ρ [S0,S1,S2,S3,.l (crD cs),.u,.u,.u,.l (ls.map qu),.u,.u,.u]/\ls.length<=9*9/\∀ t∈ls,okp n t) ?_ ?_
  ·walk_at "nf"
   refine Yj (qDx ?_)
   walk_at "v"
   refine ⟨(n:Int),⟨_,rfl,rfl⟩,by omega,by omega,fun i ρ=>∃ ls:List Tie,Le ρ [S0,S1,S2,S3,.l (crD cs),.u,.u,.u,.l (ls.map qu),.u,.u,.u]/\ls.length<=i*9/\∀ t∈ls,okp n t,⟨[],⟨rfl,rfl,rfl,rfl,rfl,rfl,trivial⟩,zP _,fun t ht=>absurd ht yM⟩,?_,?_⟩
   rotate_left
   ·rintro ρ ⟨ls,hle,ll,lw⟩
    rw [jI,yG] at ll
    exact ⟨ls,hle,by omega,lw⟩
   rintro i x ρ hx ⟨ls,hle,ll,lw⟩
   have hin:i<n:=by
    have:=(wL.mp hx).1
    rw [jI] at this
    omega
   rw [QT (by omega),kS] at hx
   cases hx
   refine qHj hle ?_
   refine qm rfl ?_
   walk_at "sv"
   refine ja (fun p:Int=>D.int p) (places i) (fun p=>!decide (mk p i∈ts)) (fun p=>qu (p,(i:Int))) (qDx ?_)
   walk_at "v"
   refine ⟨_,⟨_,rfl,rfl⟩,by omega,by omega,?_,qL (by rw [places_len]; omega),qb rfl,of_decide_eq_true rfl,?_,?_⟩
   ·rw [yG]
    exact Yu i
   ·rintro p _ os hos
    obtain ⟨z0,rfl⟩:=qCT hos
    walk_at "v"
    refine ⟨⟨[_],rfl,rfl⟩,?_,fun _=>?_⟩
    ·walk_at "v"
     refine qX ?_
     walk_at "v"
     refine ⟨of_decide_eq_true rfl,?_⟩
     walk_at "st"
     refine ⟨n,ts,p,(i:Int),rfl,fun g hg=>⟨⟨_,rfl⟩,?_⟩⟩
     walk_at "sv"
     exact ⟨congrArg not (uJ.mpr (hg.trans qAb.symm)),rfl⟩
    ·walk_at "v"
     exact ⟨rfl,rfl⟩
   have fl:((places i).filter fun p=>!decide (mk p (i:Int)∈ts)).length<=9:=by
    refine zC (vC _ _) ?_
    rw [places_len]
    omega
   have e:ls.map qu++((places i).filter fun p=>!decide (mk p (i:Int)∈ts)).map (fun p=>qu (p,(i:Int)))=(ls++((places i).filter fun p=>!decide (mk p (i:Int)∈ts)).map fun p=>(p,(i:Int))).map qu:=by
    rw [zI,zE]
    rfl
   refine OpV.r (OpV.l (Jz rfl rfl (szl (by rw [wA,wA]; omega)) ?_))
   rw [e]
   walk_at "v"
   refine ⟨_,⟨rfl,rfl,rfl,rfl,rfl,rfl,trivial⟩,by rw [wM,wA]; omega,fun t ht=>?_⟩
   rcases zK.mp ht with z | z
   ·exact lw t z
   ·obtain ⟨p,hp,rfl⟩:=zJ.mp z
    obtain ⟨p0,p1⟩:=Qz.mp (vZ.mp hp).1
    exact ⟨p0,p1,by show (i:Int)<n; omega⟩
  rintro ρ ⟨ls,hle,ll,lw⟩
  refine qIs hle ?_
  refine qc (fun ρ=>∃ q',ρ=[.l (qe q'),S1,S2,S3,.l (crD cs),.u,.u,.u,.l (ls.map qu),.u,.u,.u]) ?_ ?_
  ·refine Yv (wpT.mono (Ψ:=fun b ρ1=>∃ q',ρ1=[.l (qe q'),S1,S2,S3,.l (crD cs),.u,.u,.u,.l (ls.map qu),.u,.u,.u]/\(b=true->cs≠[])) ?_ ?_)
   ·refine qFY ?_
    walk_at "v"
    refine OpV.r (qEr rfl rfl (qJT cs) ?_)
    rw [if_pos rfl]
    refine ⟨_,rfl,?_⟩
    refine QH (fun h1=>?_) (fun h1=>?_)
    rotate_left
    ·exact ⟨q,rfl,fun z=>by cases z⟩
    have ne:cs≠[]:=fun z=>by
     rw [z] at h1
     cases h1
    refine qCm ?_
    walk_at "v"
    refine QH (fun _=>⟨q,rfl,fun _=>ne⟩) (fun _=>?_)
    refine qCm ?_
    walk_at "v"
    refine OpV.r (qEr rfl rfl (qBK ls) ?_)
    refine ⟨_,rfl,?_⟩
    refine QH (fun _=>⟨q,rfl,fun _=>ne⟩) (fun _=>?_)
    walk_at "vc"
    refine ⟨q,3,rfl,by decide,by decide,fun r q' r0 r1=>⟨⟨_,rfl⟩,?_⟩⟩
    walk_at "sv"
    exact ⟨q',rfl,fun _=>ne⟩
   ·rintro b ρ ⟨q',rfl,ne⟩
    refine QH (fun h=>?_) (fun _=>?_)
    ·have ne:=ne h
     have cl0:0<cs.length:=gW.mpr ne
     walk_at "v"
     refine qX ?_
     walk_at "v"
     refine ⟨of_decide_eq_true rfl,?_⟩
     walk_at "st"
     refine ⟨q',(cs.length:Int),by rw [<- show (crD cs).length=cs.length from wA _],by omega,by omega,fun r q2 r0 r1=>⟨⟨_,rfl⟩,?_⟩⟩
     obtain ⟨i,rfl⟩:∃ i:Nat,r=(i:Int):=⟨r.toNat,by omega⟩
     have hi:i<cs.length:=by omega
     have ea:atI (crD cs) (i:Int)=some (Qa cs[i]):=jz (by unfold crD; rw [wI,wC hi]; rfl)
     have wi:=cw _ (uG hi)
     generalize cs[i]=ps at ea wi
     walk_at "st"
     refine YO rfl rfl ea ?_
     walk_at "v"
     exact ⟨⟨_,rfl⟩,k (.crowd ps) q2 (zP _) (zC wi c20)⟩
    ·exact qw ⟨q',rfl⟩
  rintro ρ ⟨q1,rfl⟩
  refine qc (fun ρ=>(1<=d/\ls≠[])/\ρ=[.l (qe q1),S1,S2,S3,.l (crD cs),.u,.u,.u,.l (ls.map qu),.u,.u,.u]) ?_ ?_
  ·refine Yv (wpT.mono (Ψ:=fun b ρ1=>ρ1=[.l (qe q1),S1,S2,S3,.l (crD cs),.u,.u,.u,.l (ls.map qu),.u,.u,.u]/\(b=false->1<=d/\ls≠[])) ?_ ?_)
   ·refine qCm ?_
    walk_at "v"
    refine QH (fun _=>⟨rfl,fun z=>by cases z⟩) (fun d0=>?_)
    have d1:1<=d:=by
     have:=qLr d0
     omega
    walk_at "v"
    refine OpV.r (qEr rfl rfl (qBK ls) ?_)
    refine ⟨_,rfl,rfl,fun z=>⟨d1,fun y=>?_⟩⟩
    rw [y] at z
    cases z
   ·rintro b ρ ⟨rfl,ne⟩
    refine QH (fun h=>?_) (fun h=>?_)
    ·walk_at "v"
     generalize hj:(if (n:Int)<(c:Int) then (n:Int) else (c:Int))=j
     have hj2:0<=j/\j<=9:=by
      rw [<- hj]
      split <;> omega
     refine ⟨j,⟨_,rfl,rfl⟩,by omega,by omega,?_⟩
     walk_at "v"
     have e:(wO j.toNat).map (fun k:Nat=>D.int k)=qI ((wO j.toNat).map fun k:Nat=>(k:Int)):=by
      unfold qI
      rw [zE]
      rfl
     rw [e]
     exact ⟨⟨_,rfl⟩,k (.crowd _) q1 (zP _) (by show ((wO j.toNat).map fun k:Nat=>(k:Int)).length<=20; rw [wA,zR]; omega)⟩
    ·exact qw ⟨ne (VD _ ▸ h),rfl⟩
  rintro ρ ⟨⟨d1,ne⟩,rfl⟩
  have ll0:0<ls.length:=gW.mpr ne
  refine qc (fun ρ=>∃(q':Int×Int×Int) (a b:Int),okp n (a,b)/\Le ρ [.l (qe q'),S1,S2,S3,.u,.u,.u,.u,.u,.d (.int b),.d (.int a),.u]) ?_ ?_
  ·walk_at "v"
   refine qX ?_
   walk_at "v"
   refine ⟨of_decide_eq_true rfl,?_⟩
   walk_at "st"
   refine ⟨q1,(ls.length:Int),by rw [<- show (ls.map qu).length=ls.length from wA _],by omega,by omega,fun r q2 r0 r1=>⟨⟨_,rfl⟩,?_⟩⟩
   obtain ⟨i,rfl⟩:∃ i:Nat,r=(i:Int):=⟨r.toNat,by omega⟩
   have hi:i<ls.length:=by omega
   have ea:atI (ls.map qu) (i:Int)=some (qu ls[i]):=jz (by rw [wI,wC hi]; rfl)
   have wi:=lw _ (uG hi)
   generalize ls[i]=t at ea wi
   obtain ⟨a,b⟩:=t
   walk_at "st"
   refine YO rfl rfl ea ?_
   refine qB3 rfl rfl ?_
   walk_at "v"
   exact ⟨q2,a,b,wi,rfl,rfl,rfl,rfl,rfl,rfl,trivial⟩
  rintro ρ ⟨q2,a,b,⟨a0,ab,bn⟩,hle⟩
  refine qIs hle ?_
  have a0':0<=a:=a0
  have ab':a<b:=ab
  have bn':b<(n:Int):=bn
  have dd:(d:Int) - 1=((d - 1:Nat):Int):=by omega
  refine qc (fun ρ=>∃(q':Int×Int×Int) (x:Pap),x.deep<=d - 1/\x.wide 20/\ρ=[.l (qe q'),S1,S2,S3,.u,.u,.u,.u,.u,.d (.int b),.d (.int a),.d (QK x)]) ?_ ?_
  ·walk_at "v"
   refine qX ?_
   walk_at "v"
   refine qX ?_
   walk_at "v"
   refine ⟨of_decide_eq_true rfl,?_⟩
   walk_at "st"
   refine ⟨n,ts,a,b,rfl,a0,ab,bn',n9,by omega,ok,fun us inn few=>⟨⟨_,rfl⟩,?_⟩⟩
   walk_at "sv"
   rw [dd]
   refine ⟨of_decide_eq_true rfl,?_⟩
   walk_at "st"
   refine ⟨q2,n - 1,us,c,d - 1,rfl,by omega,by omega,c20,by omega,by omega,by omega,fun t ht=>qDp ok a0 ab bn t ((inn t).mp ht),fun x q' xd xw=>⟨⟨_,rfl⟩,?_⟩⟩
   walk_at "sv"
   exact ⟨q',x,xd,xw,rfl⟩
  rintro ρ ⟨q3,x,xd,xw,rfl⟩
  walk_at "v"
  refine qX ?_
  walk_at "v"
  refine qX ?_
  walk_at "v"
  refine ⟨of_decide_eq_true rfl,?_⟩
  walk_at "st"
  refine ⟨n,ts,a,b,rfl,by omega,fun us pm=>⟨⟨_,rfl⟩,?_⟩⟩
  have lu:=pm.length_eq
  rw [wM] at lu
  have lu':us.length=ts.length+1:=lu
  walk_at "sv"
  rw [dd]
  refine ⟨of_decide_eq_true rfl,?_⟩
  walk_at "st"
  refine ⟨q3,n,us,c,d - 1,rfl,by omega,by omega,c20,hn,n9,by omega,fun t ht=>?_,fun y q' yd yw=>⟨⟨_,rfl⟩,?_⟩⟩
  ·exact (zK.mp (pm.mem_iff.mp ht)).elim (ok t) fun z=>zB.mp z ▸ ⟨a0,ab,bn⟩
  walk_at "sv"
  exact ⟨⟨_,rfl⟩,k (.part a b x y) q' (by show max x.deep y.deep+1<=d; omega) ⟨xw,yw⟩⟩
theorem JE (F:Fun K "_law_paper" "_law_paper" (top 31) f fd) (T:Txt mg) (D:YC K mg "_law_paper" (top 31) ["pool","web","k","deep"] f fd) (XAQ:Has P w K mg base "_law_next" (top 21) ["pool","base"] 1 (spV YL)) (XAR:Has P w K mg base "_law_tied" (top 27) ["web","a","b"] 1 (spV Qj)) (XAI:Has P w K mg base "_law_meets" (top 32) ["web","some","place"] 2 (spV qDw)) (XAH:Has P w K mg base "_law_drawn" (top 28) ["web","a","b"] 1 (spV JO)) (XAP:Has P w K mg base "_law_more" (top 29) ["web","a","b"] 1 (spV Yf)) :
  ∀ m:Nat,jo P w K mg base CX0 (m+3) f fd ["pool","web","k","deep"] (spV (qE2 m))
 | 0=>⟨fun vs H Q E ⟨_,_,_,_,z,_⟩=>(by obtain ⟨q,n,ts,c,d,_,h,_⟩:=z; omega),fun A outer s H args us vs Q E _ _ _ _ ⟨_,_,_,_,z,_⟩=>(by obtain ⟨q,n,ts,c,d,_,h,_⟩:=z; omega)⟩
 | m+1=>Y5 F T XAQ XAR XAI XAH XAP ⟨f,fd,D,JE F T D XAQ XAR XAI XAH XAP m⟩
def qE3 (m:Nat):PV:=fun as Φ=>∃(q:Int×Int×Int) (p:Pap) (r:Nat) (c:Int),as=[.l (qe q),.d (QK p),.d (.int c)]/\p.deep<m/\m<=12/\p.wide r/\r<=29/\0<=c/\c<=1000/\
 ∀(p':Pap) q',p'.deep<=p.deep->p'.wide (r+1)->Φ (.d (QK p')) [.l (qe q'),.d (QK p),.d (.int c)]
theorem QV (o:List Int) (j:Nat):cutD (qI o) (some (j:Int)) none=qI (o.drop j):=by
 unfold cutD qI
 rw [HT.sIx_none,HT.sIx_nat,wA,<- UR,<- fU]
 congr 1
 rcases Nat.le_total j o.length with z | z
 ·rw [gS z]
  exact xO (by rw [yI]; exact wK _)
 ·rw [ZD z,List.drop_eq_nil_of_le z,Nat.sub_self]
  rfl
theorem QS (p q:List Int):qI p++qI q=qI (p++q):=zI.symm
theorem qk:qR ["pool","paper","many","at","a","b","far","some","places","number"] ["pool","paper","many"] (qH (top 33)):=by walk_at "sc"
theorem qA5 {m:Nat} {f:Addr} {fd:FuncData} (F:Fun K "_law_bent" "_law_bent" (top 33) f fd) (T:Txt mg) (XAQ:Has P w K mg base "_law_next" (top 21) ["pool","base"] 1 (spV YL)) (XAV:Has P w K mg base "_law_far" (top 22) ["pool"] 2 (spV qKA)) (XAN:Has P w K mg base "_law_bent" (top 33) ["pool","paper","many"] (m+3) (spV (qE3 m))):jo P w K mg base CX0 (m+4) f fd ["pool","paper","many"] (spV (qE3 (m+1))):=by
 refine jR F qk [0,1,2] (fun as Φ h=>?_) (fun cdv A outer s H E hr=>?_)
 ·obtain ⟨q,p,r,c,rfl,_⟩:=h
  rfl
 ·have hu:=hr.units
  refine ⟨_,(qD (jm (PW.pt (qB4 (qO (qBB hu) (jD (pv 1) qC) JD (qY _)) (YW (qO qC3 (qf XAQ hr (qA (pv 0) (qA qC qB))) qC (qY _)))))
   (qD (QJ 3 qk (qQ (j4 (K:=K) rfl) qC (qf XAQ hr (qA (pv 0) (qA qC qB)))))
    (qG (qP (qQ (j4 (K:=K) rfl) (qQ (j4 (K:=K) rfl) (qv (qCW (K:=K) rfl) (pv 1) jO (jG (pv 3))) (qS (qA (qf XAN hr (qA (pv 0) (qA (jD (pv 1) (pv 3)) (qA (pv 2) qB)))) qB))) (qv (qCW (K:=K) rfl) (pv 1) (jG (qQ (j4 (K:=K) rfl) (pv 3) qC)) jO)))))
   qi)
   (qD (jm (qO (qBB hu) (jD (pv 1) qC) JD (qY _))
   (qD (JC (qv (qCW (K:=K) rfl) (pv 1) (jG qC) (jG qC)) (jX (K:=K) (n:=2) rfl rfl (qM (JF 4 qk) (qM (JF 5 qk) jU))))
    (qD (QJ 6 qk (qQ JS (qf XAV hr (qA (pv 0) qB)) (qQ qCE qC qC)))
    (qD (qF0 (i:=7) qk.nd rfl (Or.inl rfl) (by (refine' jM ?l; (case l=>(refine' qA ?a ?b; (case a=>exact (qS (qA (pv 5) (qA (pv 4) qB)))); (case b=>(refine' qA ?a ?b; (case a=>exact (qS (qA (pv 4) (qA (pv 4) qB)))); (case b=>(refine' qA ?a ?b; (case a=>exact (qS (qA (qQ Jb (pv 4) qC) (qA (pv 5) qB)))); (case b=>(refine' qA ?a ?b; (case a=>exact (qS (qA (qQ (j4 (K:=K) rfl) (pv 4) qC) (qA (pv 5) qB)))); (case b=>(refine' qA ?a ?b; (case a=>exact (qS (qA (pv 4) (qA (qQ (j4 (K:=K) rfl) (pv 5) qC) qB)))); (case b=>(refine' qA ?a ?b; (case a=>exact (qS (qA (pv 4) (qA (pv 2) qB)))); (case b=>(refine' qA ?a ?b; (case a=>exact (qS (qA (qEK qAK qC) (qA (pv 5) qB)))); (case b=>(refine' qA ?a ?b; (case a=>exact (qS (qA (pv 4) (qA (qQ (j4 (K:=K) rfl) (pv 5) (pv 6)) qB)))); (case b=>exact qB))))))))))))))))))) (hs:=swL))
    (qG (qP (qQ (j4 (K:=K) rfl) (qQ (j4 (K:=K) rfl) (qS (qA JD qB)) (jD (pv 7) (qf XAQ hr (qA (pv 0) (qA qC qB))))) (jD (jM (qA (qv (qCW (K:=K) rfl) (pv 1) (jG qC) jO) (qA (qI2 (K:=K) rfl (pv 1) qC (qEK qAK qC)) qB))) (qf XAQ hr (qA (pv 0) (qA qC qB))))))))))
   qi)
   (qD (QJ 8 qk (jD (pv 1) qC))
   (qD (QJ 3 qk (qf XAQ hr (qA (pv 0) (qA (qQ (j4 (K:=K) rfl) (qF (qBu (K:=K) rfl) (by rfl) T.n_len yX (qA (pv 8) qB)) qC) qB))))
   (qD (QJ 9 qk (jD (jM (qA (qf XAQ hr (qA (pv 0) (qA (qQ (j4 (K:=K) rfl) (pv 2) qC) qB))) (qA (qEK qAK qC) (qA (pv 2) (qA (qf XAV hr (qA (pv 0) qB)) qB))))) (qf XAQ hr (qA (pv 0) (qA qC qB)))))
   (qD (QJ 7 qk (jM (qA (qQ (j4 (K:=K) rfl) (qQ (j4 (K:=K) rfl) (qv (qCW (K:=K) rfl) (pv 8) jO (jG (pv 3))) (qS (qA (pv 9) qB))) (qv (qCW (K:=K) rfl) (pv 8) (jG (qQ (j4 (K:=K) rfl) (pv 3) qC)) jO)) (qA (qQ (j4 (K:=K) rfl) (qQ (j4 (K:=K) rfl) (qv (qCW (K:=K) rfl) (pv 8) jO (jG (pv 3))) (qS (qA (pv 9) qB))) (qv (qCW (K:=K) rfl) (pv 8) (jG (pv 3)) jO)) (qA (qv (qCW (K:=K) rfl) (pv 8) (jG qC) jO) (qA (qJQ (K:=K) rfl (pv 8) (qEK qAK qC)) qB))))))
   (qG (qP (qS (qA JD (qA (jD (pv 7) (qf XAQ hr (qA (pv 0) (qA qC qB)))) qB))))))))))),?_⟩
  rintro as Φ ⟨q,p,r,c,rfl,pm,hm,pw,r9,c0,c9,k⟩
  let S1:Sl:=.d (QK p)
  let S2:Sl:=.d (.int c)
  cases p with
  | crowd ps=>
   have pw':ps.length<=r:=pw
   have el:(qI ps).length=ps.length:=wA _
   walk_at "st"
   refine qc (fun ρ=>ρ=[.l (qe q),S1,S2,.u,.u,.u,.u,.u,.u,.u]) ?_ ?_
   ·refine Yv (qFY ?_)
    walk_at "v"
    refine OpV.l (qBw rfl rfl rfl rfl rfl ?_)
    refine ⟨_,rfl,?_⟩
    refine QH (fun z=>absurd (of_decide_eq_true z) (by intro y; cases y)) (fun _=>?_)
    exact qw rfl
   rintro ρ rfl
   refine qc (fun ρ=>ρ=[.l (qe q),S1,S2,.u,.u,.u,.u,.u,.u,.u]) ?_ ?_
   ·refine Yv ?_
    walk_at "v"
    refine OpV.l (qBw rfl rfl rfl rfl rfl ?_)
    refine ⟨_,rfl,?_⟩
    refine QH (fun z=>absurd (of_decide_eq_true z) (by intro y; cases y)) (fun _=>?_)
    exact qw rfl
   rintro ρ rfl
   let S8:Sl:=.d (.tup (qI ps))
   refine qc (fun ρ=>ρ=[.l (qe q),S1,S2,.u,.u,.u,.u,.u,S8,.u]) ?_ ?_
   ·walk_at "v"
    show _=_
    rfl
   rintro ρ rfl
   refine qc (fun ρ=>∃(q':Int×Int×Int) (a:Nat),a<=ps.length/\ρ=[.l (qe q'),S1,S2,.d (.int a),.u,.u,.u,.u,S8,.u]) ?_ ?_
   ·walk_at "v"
    refine qX ?_
    walk_at "v"
    refine ⟨of_decide_eq_true rfl,?_⟩
    walk_at "st"
    refine ⟨q,(ps.length:Int)+1,by rw [<- el],by omega,by omega,fun i q1 i0 i1=>⟨⟨_,rfl⟩,?_⟩⟩
    obtain ⟨a,rfl⟩:∃ a:Nat,i=(a:Int):=⟨i.toNat,by omega⟩
    walk_at "sv"
    exact ⟨q1,a,by omega,rfl⟩
   rintro ρ ⟨q1,a,al,rfl⟩
   let S3:Sl:=.d (.int a)
   refine qc (fun ρ=>∃(q':Int×Int×Int) (z:Int),ρ=[.l (qe q'),S1,S2,S3,.u,.u,.u,.u,S8,.d (.int z)]) ?_ ?_
   ·walk_at "v"
    refine qX ?_
    walk_at "v"
    refine ⟨of_decide_eq_true rfl,?_⟩
    walk_at "st"
    refine ⟨q1,c+1,rfl,by omega,by omega,fun y q2 y0 y1=>⟨⟨_,rfl⟩,?_⟩⟩
    walk_at "sv"
    walk_at "call"
    refine ⟨q2,rfl,fun v q3=>⟨⟨_,rfl⟩,?_⟩⟩
    walk_at "sv"
    walk_at "call"
    refine ⟨q3,4,rfl,by decide,by decide,fun i q4 i0 i1=>⟨⟨_,rfl⟩,?_⟩⟩
    walk_at "st"
    have pick:∃ z:Int,atI [D.int y,.int (-1),.int c,.int v] i=some (.int z):=by
     have:i=0\/i=1\/i=2\/i=3:=by omega
     rcases this with e | e | e | e <;> rw [e] <;> exact ⟨_,rfl⟩
    obtain ⟨z,ez⟩:=pick
    refine YO rfl rfl ez ?_
    walk_at "v"
    exact ⟨q4,z,rfl⟩
   rintro ρ ⟨q2,z,rfl⟩
   let S9:Sl:=.d (.int z)
   have ea:(a:Int)+1=((a+1:Nat):Int):=by omega
   have c1:cutD (qI ps) none (some (a:Int))=qI (ps.take a):=qAV ps al
   have tl:(ps.take a).length<=a:=List.length_take_le _ _
   have d1:(ps.drop (a+1)).length=ps.length - (a+1):=yI
   have d0:(ps.drop a).length=ps.length - a:=yI
   have d3:(ps.drop 1).length=ps.length - 1:=yI
   have z1 : [D.int z]=qI [z]:=rfl
   have sz:∀ p q:List Int,p.length+q.length<=1000->(qI p).length+(qI q).length<=sizeLine:=fun p q h=>szl (by unfold qI; rw [wA,wA]; exact h)
   have lz : [z].length=1:=rfl
   have l1:(ps.take a++[z]).length<=a+1:=by rw [wM]; omega
   refine qc (fun ρ=>∃(us:List (List Int)),us.length=4/\(∀ u∈us,u.length<=r+1)/\ρ=[.l (qe q2),S1,S2,S3,.u,.u,.u,.l (us.map Qa),S8,S9]) ?_ ?_
   ·walk_at "v"
    refine SlV.r (qCx rfl ?_)
    rw [c1]
    walk_at "v"
    rw [z1]
    refine OpV.r (OpV.r (jn rfl rfl (sz _ _ (by omega)) ?_))
    rw [QS]
    walk_at "v"
    rw [ea]
    refine SlV.r (qCx rfl ?_)
    rw [QV]
    walk_at "v"
    refine OpV.r (OpV.r (jn rfl rfl (sz _ _ (by omega)) ?_))
    rw [QS]
    walk_at "v"
    refine SlV.r (qCx rfl ?_)
    rw [c1]
    walk_at "v"
    rw [z1]
    refine OpV.r (OpV.r (jn rfl rfl (sz _ _ (by omega)) ?_))
    rw [QS]
    walk_at "v"
    refine SlV.r (qCx rfl ?_)
    rw [QV]
    walk_at "v"
    refine OpV.r (OpV.r (jn rfl rfl (sz _ _ (by omega)) ?_))
    rw [QS]
    walk_at "v"
    refine SlV.r (qCx rfl ?_)
    rw [show cutD (qI ps) (some 1) none=qI (ps.drop 1) from QV ps 1]
    walk_at "v"
    refine qLX ?_
    walk_at "v"
    refine ⟨rfl,_,rfl,?_⟩
    rw [show (qI ps).reverse=qI ps.reverse from List.map_reverse.symm]
    walk_at "v"
    refine ⟨[ps.take a++[z]++ps.drop (a+1),ps.take a++[z]++ps.drop a,ps.drop 1,ps.reverse],rfl,fun u hu=>?_,rfl⟩
    have h1:(ps.take a++[z]++ps.drop (a+1)).length<=r+1:=by rw [wM]; omega
    have h2:(ps.take a++[z]++ps.drop a).length<=r+1:=by rw [wM]; omega
    have h4:ps.reverse.length<=r+1:=by rw [xX]; omega
    rcases wZ.mp hu with e | hu
    ·rw [e]; exact h1
    rcases wZ.mp hu with e | hu
    ·rw [e]; exact h2
    rcases wZ.mp hu with e | hu
    ·rw [e]; omega
    rw [zB.mp hu]
    exact h4
   rintro ρ ⟨us,ul,uw,rfl⟩
   walk_at "vc"
   refine ⟨q2,4,rfl,by decide,by decide,fun i q3 i0 i1=>⟨⟨_,rfl⟩,?_⟩⟩
   obtain ⟨j,rfl⟩:∃ j:Nat,i=(j:Int):=⟨i.toNat,by omega⟩
   have hj:j<us.length:=by omega
   have eu:atI (us.map Qa) (j:Int)=some (Qa us[j]):=jz (by rw [wI,wC hj]; rfl)
   have wi:=uw _ (uG hj)
   generalize us[j]=u at eu wi
   walk_at "st"
   refine YO rfl rfl eu ?_
   walk_at "v"
   exact ⟨⟨_,rfl⟩,k (.crowd u) q3 (wK _) wi⟩
  | part a b x y=>
   have xw:x.wide r:=pw.1
   have yw:y.wide r:=pw.2
   have dx:x.deep<m:=by
    have:max x.deep y.deep+1<m+1:=pm
    omega
   have dy:y.deep<m:=by
    have:max x.deep y.deep+1<m+1:=pm
    omega
   walk_at "st"
   refine qc (fun ρ=>∃ q',ρ=[.l (qe q'),S1,S2,.u,.u,.u,.u,.u,.u,.u]) ?_ ?_
   ·refine Yv (wpT.mono (Ψ:=fun b ρ1=>∃ q',ρ1=[.l (qe q'),S1,S2,.u,.u,.u,.u,.u,.u,.u]) ?_ ?_)
    ·refine qFY ?_
     walk_at "v"
     refine OpV.l (qBw rfl rfl rfl rfl rfl ?_)
     rw [decide_eq_true rfl]
     refine ⟨_,rfl,?_⟩
     rw [if_pos rfl]
     walk_at "vc"
     refine ⟨q,3,rfl,by decide,by decide,fun r q' r0 r1=>⟨⟨_,rfl⟩,?_⟩⟩
     walk_at "sv"
     exact ⟨q',rfl⟩
    ·rintro bb ρ ⟨q',rfl⟩
     refine QH (fun h=>?_) (fun _=>?_)
     rotate_left
     ·exact qw ⟨q',rfl⟩
     refine qc (fun ρ=>∃(q':Int×Int×Int) (v:Int),(v=3\/v=4)/\ρ=[.l (qe q'),S1,S2,.d (.int v),.u,.u,.u,.u,.u,.u]) ?_ ?_
     ·walk_at "v"
      walk_at "call"
      refine ⟨q',2,rfl,by decide,by decide,fun i q2 i0 i1=>⟨⟨_,rfl⟩,?_⟩⟩
      walk_at "sv"
      exact ⟨q2,3+i,by omega,rfl⟩
     rintro ρ ⟨q2,v,hv,rfl⟩
     have s5:∀ l m:List D,l.length+m.length<=1000->l.length+m.length<=sizeLine:=fun l m h=>szl h
     rcases hv with rfl | rfl
     ·walk_at "v"
      refine SlV.r (qCx rfl ?_)
      walk_at "v"
      refine qX ?_
      walk_at "v"
      refine ⟨of_decide_eq_true rfl,?_⟩
      walk_at "st"
      refine ⟨q2,x,r,c,rfl,dx,by omega,xw,r9,c0,c9,fun x' q3 xd xw'=>⟨⟨_,rfl⟩,?_⟩⟩
      walk_at "sv"
      refine OpV.r (OpV.r (jn rfl rfl (szl (zG rfl)) ?_))
      walk_at "v"
      refine SlV.r (qCx rfl ?_)
      walk_at "v"
      refine OpV.r (OpV.r (jn rfl rfl (szl (zG rfl)) ?_))
      walk_at "v"
      exact ⟨⟨_,rfl⟩,k (.part a b x' y) q3 (by show max x'.deep y.deep+1<=max x.deep y.deep+1; omega) ⟨xw',Qg (uN r) yw⟩⟩
     ·walk_at "v"
      refine SlV.r (qCx rfl ?_)
      walk_at "v"
      refine qX ?_
      walk_at "v"
      refine ⟨of_decide_eq_true rfl,?_⟩
      walk_at "st"
      refine ⟨q2,y,r,c,rfl,dy,by omega,yw,r9,c0,c9,fun y' q3 yd yw'=>⟨⟨_,rfl⟩,?_⟩⟩
      walk_at "sv"
      refine OpV.r (OpV.r (jn rfl rfl (szl (zG rfl)) ?_))
      walk_at "v"
      refine SlV.r (qCx rfl ?_)
      walk_at "v"
      refine OpV.r (OpV.r (jn rfl rfl (szl (zG rfl)) ?_))
      walk_at "v"
      exact ⟨⟨_,rfl⟩,k (.part a b x y') q3 (by show max x.deep y'.deep+1<=max x.deep y.deep+1; omega) ⟨Qg (uN r) xw,yw'⟩⟩
   rintro ρ ⟨q1,rfl⟩
   refine qc (fun ρ=>False) ?_ ?_
   rotate_left
   ·exact fun _ h=>h.elim
   refine Yv ?_
   walk_at "v"
   refine OpV.l (qBw rfl rfl rfl rfl rfl ?_)
   rw [decide_eq_true rfl]
   refine ⟨_,rfl,?_⟩
   rw [if_pos rfl]
   refine qc (fun ρ=>ρ=[.l (qe q1),S1,S2,.u,.d (.int a),.d (.int b),.u,.u,.u,.u]) ?_ ?_
   ·walk_at "v"
    refine SlV.r (qCx rfl ?_)
    rw [show cutD [D.str (xB "part"),D.int a,D.int b,QK x,QK y] (some 1) (some 3)=[D.int a,D.int b] from rfl]
    refine qB3 rfl rfl ?_
    walk_at "v"
    show _=_
    rfl
   rintro ρ rfl
   refine qc (fun ρ=>∃(q':Int×Int×Int) (v:Int),ρ=[.l (qe q'),S1,S2,.u,.d (.int a),.d (.int b),.d (.int v),.u,.u,.u]) ?_ ?_
   ·walk_at "v"
    walk_at "call"
    refine ⟨q1,rfl,fun v q2=>⟨⟨_,rfl⟩,?_⟩⟩
    walk_at "sv"
    refine Ye rfl rfl ⟨by decide,by decide,by decide⟩ ?_
    refine Ye rfl rfl (by show (0:Int)<_; decide) ?_
    walk_at "v"
    exact ⟨q2,_,rfl⟩
   rintro ρ ⟨q2,v,rfl⟩
   refine qc (fun ρ=>∃(us:List Tie),us.length=8/\Le ρ [.l (qe q2),S1,S2,.u,.u,.u,.u,.l (us.map qu),.u,.u]) ?_ ?_
   ·walk_at "v"
    exact ⟨[(b,a),(a,a),(a - 1,b),(a+1,b),(a,b+1),(a,c),(-1,b),(a,b+v)],rfl,rfl,rfl,rfl,rfl,trivial⟩
   rintro ρ ⟨us,ul,hle⟩
   refine qIs hle ?_
   walk_at "vc"
   refine ⟨q2,8,rfl,by decide,by decide,fun i q3 i0 i1=>⟨⟨_,rfl⟩,?_⟩⟩
   obtain ⟨j,rfl⟩:∃ j:Nat,i=(j:Int):=⟨i.toNat,by omega⟩
   have hj:j<us.length:=by omega
   have eu:atI (us.map qu) (j:Int)=some (qu us[j]):=jz (by rw [wI,wC hj]; rfl)
   generalize us[j]=u at eu
   obtain ⟨a',b'⟩:=u
   walk_at "st"
   refine YO rfl rfl eu ?_
   refine OpV.r (OpV.r (jn rfl rfl (szl (zG rfl)) ?_))
   walk_at "v"
   refine SlV.r (qCx rfl ?_)
   rw [show cutD [D.str (xB "part"),D.int a,D.int b,QK x,QK y] (some 3) none=[QK x,QK y] from rfl]
   walk_at "v"
   refine qLa ?_
   walk_at "v"
   refine ⟨rfl,_,rfl,?_⟩
   rw [show ([D.str (xB "part"),D.int a,D.int b,QK x,QK y].drop (2+1)).reverse=[QK y,QK x] from rfl]
   walk_at "vc"
   refine ⟨q3,2,rfl,by decide,by decide,fun i q4 i0 i1=>⟨⟨_,rfl⟩,?_⟩⟩
   walk_at "st"
   have hi:i=0\/i=1:=by omega
   rcases hi with rfl | rfl
   ·refine YO rfl rfl rfl ?_
    refine OpV.r (OpV.r (jn rfl rfl (szl (zG rfl)) ?_))
    exact ⟨⟨_,rfl⟩,k (.part a' b' x y) q4 (wK _) ⟨Qg (uN r) xw,Qg (uN r) yw⟩⟩
   ·refine YO rfl rfl rfl ?_
    refine OpV.r (OpV.r (jn rfl rfl (szl (zG rfl)) ?_))
    exact ⟨⟨_,rfl⟩,k (.part a' b' y x) q4 (by show max y.deep x.deep+1<=max x.deep y.deep+1; omega) ⟨Qg (uN r) yw,Qg (uN r) xw⟩⟩
theorem JW (F:Fun K "_law_bent" "_law_bent" (top 33) f fd) (T:Txt mg) (D:YC K mg "_law_bent" (top 33) ["pool","paper","many"] f fd) (XAQ:Has P w K mg base "_law_next" (top 21) ["pool","base"] 1 (spV YL)) (XAV:Has P w K mg base "_law_far" (top 22) ["pool"] 2 (spV qKA)) :
  ∀ m:Nat,jo P w K mg base CX0 (m+3) f fd ["pool","paper","many"] (spV (qE3 m))
 | 0=>⟨fun vs H Q E ⟨_,_,_,_,z,_⟩=>(by obtain ⟨q,p,r,c,_,h,_⟩:=z; omega),fun A outer s H args us vs Q E _ _ _ _ ⟨_,_,_,_,z,_⟩=>(by obtain ⟨q,p,r,c,_,h,_⟩:=z; omega)⟩
 | m+1=>qA5 F T XAQ XAV ⟨f,fd,D,JW F T D XAQ XAV m⟩
def qLP (K:wG):PV:=fun as Φ=>∃(ns:List Int) (k:Int),as=[.f K (ns.map D.int),.d (.int k)]/\0<=k/\k<100/\∀ c,Φ (.d (.int c)) as
theorem qBb:qR ["script","k"] ["script","k"] (qH (top 19)):=by walk_at "sc"
theorem qCO (F:Fun K "_law_cell" "_law_cell" (top 19) f fd) (T:Txt mg):jo P w K mg base CX0 1 f fd ["script","k"] (spV (qLP K)):=by
 refine jR F qBb [0,1] (fun as Φ h=>?_) (fun cdv A outer s H E hr=>?_)
 ·obtain ⟨ns,k,rfl,_⟩:=h
  rfl
 ·have hu:=hr.units
  refine ⟨_,(qD (jm (qO Yi (pv 1) (qF (qBu (K:=K) rfl) (by rfl) T.n_len yX (qA (pv 0) qB)) (qY _))
   (qG (qP (jD (pv 0) (pv 1))))
   qi)
   (qG (qP (qQ (j4 (K:=K) rfl) (qQ opM (qQ opM qC (pv 1)) (pv 1)) (qQ opM qC (pv 1)))))),?_⟩
  rintro as Φ ⟨ns,i,rfl,h0,h1,k⟩
  walk_at "sv"
  refine qIN rfl ?_
  walk_at "v"
  refine QH (fun hc=>?_) (fun hc=>?_)
  ·have hc':=ofd hc
   rw [wA] at hc'
   have hin:i.toNat<ns.length:=by omega
   have e:i=((i.toNat:Nat):Int):=by omega
   have hat:atI (ns.map D.int) i=some (.int ns[i.toNat]):=by
    conv=>lhs; rw [e]
    exact jz (by rw [wI,wC hin]; rfl)
   walk_at "v"
   refine qL4 rfl rfl hat ?_
   exact ⟨⟨_,rfl⟩,k _⟩
  ·refine qw ?_
   walk_at "v"
   refine OpV.l (Ye rfl rfl (.inl ⟨by omega,by omega⟩) ?_)
   walk_at "v"
   refine OpV.l (Ye rfl rfl (.inl ⟨by omega,by omega⟩) ?_)
   walk_at "v"
   refine OpV.l (Ye rfl rfl (.inl ⟨by omega,by omega⟩) ?_)
   walk_at "v"
   exact ⟨⟨_,rfl⟩,k _⟩
theorem qJ7 {n:Nat} {ts:List Tie} {o:List Int} {p:Int} (nd:o.Nodup) (h:p∈o):hue n ts o p<=(n:Int):=by
 obtain ⟨l,r,rfl⟩:=List.append_of_mem h
 rw [qIY (qHC nd)]
 have h1:=qFe (qI6 (bar n ts (j6 n ts l) p)).2
 have h2:(bar n ts (j6 n ts l) p).length<=n:=by
  unfold bar qDJ
  rw [wA]
  refine zC (vC _ _) (zC (vC _ _) ?_)
  rw [places_len]
  exact wK n
 omega
abbrev Try:=Int×List Int×Pap
def tryD (t:Try):D:=.tup [.int t.1,.tup (qI t.2.1),QK t.2.2]
structure qGj (t:Try):Prop where
 few:t.2.1.length<=30
 deep:t.2.2.deep<5
 slim:t.2.2.slim
theorem Jy {t:Try} (h:qGj t) {l:List Try} (hl:∀ t∈l,qGj t):∀ u∈l++[t],qGj u:=fun u hu=>(zK.mp hu).elim (hl u) fun e=>zB.mp e ▸ h
theorem QF:qR ["script","cell","pool","web","hues","k","paper","tries","at","number","best","handed","found"] ["script"] (qH (top 35)):=by walk_at "sc"
theorem qKp (F:Fun K "law" "law" (top 35) f fd) (T:Txt mg)
  (XAT:Has P w K mg base "_law_dig" (top 20) ["cell"] 1 (spV qLB))
  (XAO:Has P w K mg base "_law_cell" (top 19) ["script","k"] 1 (spV (qLP K)))
  (XAW:Has P w K mg base "_law_web" (top 23) ["pool","most","cap"] 3 (spV qM4))
  (XAJ:Has P w K mg base "_law_order" (top 24) ["pool","many"] 2 (spV qGe))
  (XAh:Has P w K mg base "laid" (top 12) ["web","order"] 3 (spV qKY))
  (XAQ:Has P w K mg base "_law_next" (top 21) ["pool","base"] 1 (spV YL))
  (XAV:Has P w K mg base "_law_far" (top 22) ["pool"] 2 (spV qKA))
  (XAK:Has P w K mg base "_law_paper" (top 31) ["pool","web","k","deep"] 8 (spV (qE2 5)))
  (XAN:Has P w K mg base "_law_bent" (top 33) ["pool","paper","many"] 8 (spV (qE3 5)))
  (XAC:Has P w K mg base "fewest_right" (top 17) ["web","k","hues","paper"] 15 (spV (qAk 5)))
  (XAU:Has P w K mg base "_law_due" (top 34) ["web","k","hues","paper"] 8 (spV (qAk 5))):jo P w K mg base CX0 16 f fd ["script"] (qGG K):=by
 refine qKZ F QF (fun cdv A outer s H E hr=>?_)
 have hu:=hr.units
 refine ⟨_,(qD (Qh vK rfl (qq (by rfl) T.n_range (qA (qF (j9 rfl) (by rfl) T.n_max vD (qA qC (qA (qF (QA rfl) (by rfl) T.n_min vX (qA qC (qA (qF (qBu (K:=K) rfl) (by rfl) T.n_len yX (qA (pv 0) qB)) qB))) qB))) qB)) (JF 1 QF)
   (qD (QJ 2 QF (qx XAT hr (qA (qx XAO hr (qA (pv 0) (qA (pv 1) qB))) qB)))
    (qD (QJ 3 QF (qx XAW hr (qA (pv 2) (qA qC (qA qC qB)))))
    (qD (QJ 4 QF (qx XAh hr (qA (pv 3) (qA (qx XAJ hr (qA (pv 2) (qA (jD (pv 3) qC) qB))) qB))))
    (qD (QJ 5 QF (qQ (j4 (K:=K) rfl) (qF (Yk (K:=K) rfl rfl) (by rfl) T.n_max vD (qA (pv 4) qB)) (jD (jM (qA qC (qA qC (qA qC (qA qC (qA qC qB)))))) (qx XAQ hr (qA (pv 2) (qA qC qB))))))
    (qD (QJ 6 QF (qx XAK hr (qA (pv 2) (qA (pv 3) (qA (pv 5) (qA (qx XAQ hr (qA (pv 2) (qA qC qB))) qB))))))
    (qD (QJ 7 QF (jM (qA (qS (qA (pv 5) (qA (pv 4) (qA (pv 6) qB)))) (qA (qS (qA (qQ (j4 (K:=K) rfl) (pv 5) qC) (qA (pv 4) (qA (pv 6) qB)))) (qA (qS (qA (pv 5) (qA (pv 4) (qA (qx XAN hr (qA (pv 2) (qA (pv 6) (qA (jD (pv 3) qC) qB)))) qB)))) qB)))))
    (qD (QJ 7 QF (qQ (j4 (K:=K) rfl) (pv 7) (jM (qA (qS (qA (pv 5) (qA (pv 4) (qA (qx XAN hr (qA (pv 2) (qA (pv 6) (qA (jD (pv 3) qC) qB)))) qB)))) (qA (qS (qA (pv 5) (qA (qv (qCW (K:=K) rfl) (pv 4) (jG qC) jO) (qA (pv 6) qB)))) (qA (qS (qA (pv 5) (qA (qQ (j4 (K:=K) rfl) (pv 4) (qS (qA qC qB))) (qA (pv 6) qB)))) qB))))))
    (qD (QJ 8 QF (qx XAQ hr (qA (pv 2) (qA (jD (pv 3) qC) qB))))
    (qD (Qh vK rfl (qz (K:=K) rfl (jM (qA (qEK qAK qC) (qA (pv 5) (qA (qQ (j4 (K:=K) rfl) (jD (pv 4) (pv 8)) qC) (qA (qQ Jb (jD (pv 4) (pv 8)) qC) (qA (qx XAV hr (qA (pv 2) qB)) qB))))))) (JF 9 QF)
    (qG (qCo (qDa (K:=K) rfl gB UV UW JQ (pv 7) (qA (qS (qA (pv 5) (qA (qQ (j4 (K:=K) rfl) (qQ (j4 (K:=K) rfl) (qv (qCW (K:=K) rfl) (pv 4) jO (jG (pv 8))) (qS (qA (pv 9) qB))) (qv (qCW (K:=K) rfl) (pv 4) (jG (qQ (j4 (K:=K) rfl) (pv 8) qC)) jO)) (qA (pv 6) qB)))) qB)))))
    (qD (QJ 10 QF (qQ (j4 (K:=K) rfl) (qF (Yk (K:=K) rfl rfl) (by rfl) T.n_max vD (qA (pv 4) qB)) qC))
    (qD (qCo (qDa (K:=K) rfl gB UV UW JQ (pv 7) (qA (qS (qA (pv 10) (qA (pv 4) (qA (qx XAK hr (qA (pv 2) (qA (pv 3) (qA (pv 10) (qA qC qB))))) qB)))) qB)))
    (qG (Qh vK rfl (qz (K:=K) rfl (pv 7)) (JF 11 QF)
    (qD (QJ 12 QF (qx XAC hr (qA (pv 3) (qA (jD (pv 11) qC) (qA (jD (pv 11) qC) (qA (jD (pv 11) qC) qB))))))
     (qG (jm (PW.pt (JI (QM (qo (K:=K) rfl (qF (JK (K:=K) rfl) (by rfl) T.n_isinstance vI (qA (pv 12) (qA (JJ (v:=.ty "bool") (by rfl) T.n_bool PyProof.Rows.boot_bool rfl) qB))) (fun _=>rfl))) (Qk (qO (qD9 hu) (pv 12) (qx XAU hr (qA (pv 3) (qA (jD (pv 11) qC) (qA (jD (pv 11) qC) (qA (jD (pv 11) qC) qB))))) (qY _)))))
     (qG (qP JA))
     qi)))))))))))))))))
   (qG (qP JA))),?_⟩
 intro ns hns
 walk_at "st"
 refine Yz ?_
 walk_at "nf"
 refine Yj (qDx ?_)
 walk_at "v"
 refine qIN rfl ?_
 walk_at "v"
 rw [wA]
 generalize hJ:(if (if (ns.length:Int)<24 then (ns.length:Int) else 24) > 4 then (if (ns.length:Int)<24 then (ns.length:Int) else 24) else 4)=J
 have hJ2:0<=J/\J<=24:=by
  rw [<- hJ]
  split <;> split <;> omega
 clear hJ
 let S0:Sl:=.f K (ns.map D.int)
 refine ⟨J,⟨_,rfl,rfl⟩,by omega,by omega,fun i ρ=>Le ρ [S0,.u,.u,.u,.u,.u,.u,.u,.u,.u,.u,.u,.u],VG rfl trivial,?_,?_⟩
 rotate_left
 ·intro ρ hle
  refine qIs hle ?_
  walk_at "v"
  rfl
 intro i x ρ hx hle
 have hin:i<J.toNat:=by
  have:=(wL.mp hx).1
  rw [jI] at this
  exact this
 rw [QT hin] at hx
 cases hx
 have hi0:(0:Int)<=0+(i:Int)/\(0:Int)+(i:Int)<100:=by omega
 generalize (0:Int)+(i:Int)=cell at hi0
 refine qHj hle ?_
 refine qm rfl ?_
 walk_at "st"
 let S1:Sl:=.d (.int cell)
 refine qc (fun ρ=>∃ q,ρ=[S0,S1,.l (qe q),.u,.u,.u,.u,.u,.u,.u,.u,.u,.u]) ?_ ?_
 ·walk_at "v"
  refine qX ?_
  walk_at "vc"
  refine ⟨ns,cell,rfl,hi0.1,hi0.2,fun c=>⟨⟨_,rfl⟩,?_⟩⟩
  walk_at "sv"
  refine ⟨of_decide_eq_true rfl,?_⟩
  walk_at "st"
  refine ⟨c,rfl,fun q=>⟨⟨_,rfl⟩,?_⟩⟩
  walk_at "st"
  refine qm rfl ?_
  exact ⟨q,rfl⟩
 rintro ρ ⟨q,rfl⟩
 refine qc (fun ρ=>∃(q:Int×Int×Int) (n:Nat) (ts:List Tie),ρ=[S0,S1,.l (qe q),.d (QP n ts),.u,.u,.u,.u,.u,.u,.u,.u,.u]/\qJ2 n ts) ?_ ?_
 ·walk_at "v"
  walk_at "call"
  refine ⟨q,7,20,rfl,by decide,by decide,by decide,fun n ts q2 W _ tl=>⟨⟨_,rfl⟩,?_⟩⟩
  walk_at "st"
  refine qm rfl ?_
  exact ⟨q2,n,ts,rfl,W⟩
 rintro ρ ⟨q1,n,ts,rfl,W⟩
 let S3:Sl:=.d (QP n ts)
 have W0:qJ5 n ts:=⟨W.pos,W.few,W.len,W.ok⟩
 have n1:=W.pos
 have n9:=W.few
 have tl:=W.len
 refine qc (fun ρ=>∃(q:Int×Int×Int) (o:List Int),ρ=[S0,S1,.l (qe q),S3,.d (.tup (qI (qIH n ts o))),.u,.u,.u,.u,.u,.u,.u,.u]/\Q8 n o) ?_ ?_
 ·walk_at "v"
  refine qX ?_
  walk_at "vc"
  refine ⟨q1,n,rfl,n9,fun o q2 O=>⟨⟨_,rfl⟩,?_⟩⟩
  walk_at "sv"
  refine ⟨of_decide_eq_true rfl,?_⟩
  walk_at "st"
  refine ⟨n,ts,o,rfl,W0,O,⟨⟨_,rfl⟩,?_⟩⟩
  walk_at "sv"
  exact ⟨q2,o,rfl,O⟩
 rintro ρ ⟨q2,o,rfl,O⟩
 have hlen:=qG8 n ts o
 have hin:∀ h∈qIH n ts o,0<=h/\h<=9:=fun h hh=>by
  obtain ⟨p,hp,rfl⟩:=zJ.mp hh
  have hp':=O.mem.mpr (Qz.mp hp)
  have:=qJ7 (n:=n) (ts:=ts) O.nd hp'
  exact ⟨qER O.nd hp',by omega⟩
 generalize qIH n ts o=hs at hlen hin
 clear O
 let S4:Sl:=.d (.tup (qI hs))
 have hne:hs≠[]:=fun z=>by
  rw [z] at hlen
  have:0=n:=hlen
  omega
 refine qc (fun ρ=>∃(q:Int×Int×Int) (c:Nat),ρ=[S0,S1,.l (qe q),S3,S4,.d (.int c),.u,.u,.u,.u,.u,.u,.u]/\c<=11) ?_ ?_
 ·walk_at "v"
  refine qFT rfl hne ?_
  have mm:=hin _ (qC8 hne)
  generalize mx0 hs=M at mm
  walk_at "vc"
  refine ⟨q2,5,rfl,by decide,by decide,fun i q3 i0 i1=>⟨⟨_,rfl⟩,?_⟩⟩
  walk_at "st"
  have pick:∃ e:Int,(0<=e/\e<=2)/\atI [D.int 0,.int 0,.int 0,.int 1,.int 2] i=some (.int e):=by
   have:i=0\/i=1\/i=2\/i=3\/i=4:=by omega
   rcases this with e | e | e | e | e <;> rw [e]
   ·exact ⟨0,by decide,rfl⟩
   ·exact ⟨0,by decide,rfl⟩
   ·exact ⟨0,by decide,rfl⟩
   ·exact ⟨1,by decide,rfl⟩
   ·exact ⟨2,by decide,rfl⟩
  obtain ⟨e,e2,ez⟩:=pick
  refine YO rfl rfl ez ?_
  walk_at "v"
  obtain ⟨c,hc⟩:∃ c:Nat,M+e=(c:Int):=⟨(M+e).toNat,by omega⟩
  rw [hc]
  exact ⟨q3,c,rfl,by omega⟩
 rintro ρ ⟨q3,c,rfl,c11⟩
 let S5:Sl:=.d (.int c)
 refine qc (fun ρ=>∃(q:Int×Int×Int) (p:Pap),ρ=[S0,S1,.l (qe q),S3,S4,S5,.d (QK p),.u,.u,.u,.u,.u,.u]/\p.deep<=4/\p.wide 20) ?_ ?_
 ·walk_at "v"
  refine qX ?_
  walk_at "vc"
  refine ⟨q3,5,rfl,by decide,by decide,fun i q4 i0 i1=>⟨⟨_,rfl⟩,?_⟩⟩
  obtain ⟨d,rfl⟩:∃ d:Nat,i=(d:Int):=⟨i.toNat,by omega⟩
  walk_at "sv"
  refine ⟨of_decide_eq_true rfl,?_⟩
  walk_at "st"
  refine ⟨q4,n,ts,c,d,rfl,by omega,by decide,by omega,n1,n9,by omega,W.ok,fun p q5 pd pw=>⟨⟨_,rfl⟩,?_⟩⟩
  walk_at "sv"
  exact ⟨q5,p,rfl,by omega,pw⟩
 rintro ρ ⟨q4,p,rfl,pd,pw⟩
 let S6:Sl:=.d (QK p)
 have hsl:hs.length<=9:=by omega
 have pok:∀(k:Int) (ms:List Int),ms.length<=30->qGj (k,ms,p):=fun k ms hm=>⟨hm,by show p.deep<5; omega,Qr (by decide) pw⟩
 have pok':∀(k:Int) (ms:List Int) (p':Pap),ms.length<=30->p'.deep<=p.deep->p'.wide (20+1)->qGj (k,ms,p'):=fun k ms p' hm h1 h2=>⟨hm,by show p'.deep<5; omega,Qr (by decide) h2⟩
 refine qc (fun ρ=>∃(q:Int×Int×Int) (tr:List Try),ρ=[S0,S1,.l (qe q),S3,S4,S5,S6,.l (tr.map tryD),.u,.u,.u,.u,.u]/\tr.length=3/\∀ t∈tr,qGj t) ?_ ?_
 ·walk_at "v"
  refine qX ?_
  walk_at "v"
  refine ⟨of_decide_eq_true rfl,?_⟩
  walk_at "st"
  refine ⟨q4,p,20,n,rfl,by omega,by decide,pw,by decide,by omega,by omega,fun p' q5 pd' pw'=>⟨⟨_,rfl⟩,?_⟩⟩
  walk_at "sv"
  exact ⟨q5,[(c,hs,p),((c:Int)+1,hs,p),(c,hs,p')],rfl,rfl,Jy (pok' _ _ _ (by omega) pd' pw') (l:=[(c,hs,p),((c:Int)+1,hs,p)]) (Jy (pok _ _ (by omega)) (l:=[(c,hs,p)]) (Jy (pok _ _ (by omega)) (l:=[]) fun _ z=>absurd z yM))⟩
 rintro ρ ⟨q5,tr1,rfl,tl1,to1⟩
 refine qc (fun ρ=>∃(q:Int×Int×Int) (tr:List Try),ρ=[S0,S1,.l (qe q),S3,S4,S5,S6,.l (tr.map tryD),.u,.u,.u,.u,.u]/\tr.length=6/\∀ t∈tr,qGj t) ?_ ?_
 ·walk_at "v"
  refine qX ?_
  walk_at "v"
  refine ⟨of_decide_eq_true rfl,?_⟩
  walk_at "st"
  refine ⟨q5,p,20,n,rfl,by omega,by decide,pw,by decide,by omega,by omega,fun p' q6 pd' pw'=>⟨⟨_,rfl⟩,?_⟩⟩
  walk_at "sv"
  refine SlV.r (qCx rfl ?_)
  rw [show cutD (qI hs) (some 1) none=qI (hs.drop 1) from QV hs 1]
  walk_at "v"
  refine OpV.r (OpV.r (jn rfl rfl (szl (by show (qI hs).length+1<=1000; rw [show (qI hs).length=hs.length from wA _]; omega)) ?_))
  rw [show qI hs++[D.int 0]=qI (hs++[0]) from QS hs [0]]
  walk_at "v"
  refine OpV.r (OpV.l (Jz rfl rfl (szl (by rw [wA,tl1]; exact zG rfl)) ?_))
  walk_at "v"
  refine ⟨q6,tr1++[((c:Int),hs,p')]++[((c:Int),hs.drop 1,p)]++[((c:Int),hs++[0],p)],?_,?_,Jy (pok _ _ (by rw [wM]; show hs.length+1<=30; omega)) (Jy (pok _ _ (by rw [yI]; omega)) (Jy (pok' _ _ _ (by omega) pd' pw') to1))⟩
  ·rw [vR,vR,zI]
   rfl
  ·rw [vR,vR,wM,tl1]
   rfl
 rintro ρ ⟨q6,tr2,rfl,tl2,to2⟩
 refine qc (fun ρ=>∃(q:Int×Int×Int) (a:Nat),ρ=[S0,S1,.l (qe q),S3,S4,S5,S6,.l (tr2.map tryD),.d (.int a),.u,.u,.u,.u]/\a<n) ?_ ?_
 ·walk_at "v"
  refine qX ?_
  walk_at "v"
  refine ⟨of_decide_eq_true rfl,?_⟩
  walk_at "st"
  refine ⟨q6,(n:Int),rfl,by omega,by omega,fun i q7 i0 i1=>⟨⟨_,rfl⟩,?_⟩⟩
  obtain ⟨a,rfl⟩:∃ a:Nat,i=(a:Int):=⟨i.toNat,by omega⟩
  walk_at "sv"
  exact ⟨q7,a,rfl,by omega⟩
 rintro ρ ⟨q7,at',rfl,an⟩
 let S8:Sl:=.d (.int at')
 refine qc (fun ρ=>∃(q:Int×Int×Int) (tr:List Try),Le ρ [S0,S1,.l (qe q),S3,S4,S5,S6,.l (tr.map tryD),.u,.u,.u,.u,.u]/\tr.length=11/\∀ t∈tr,qGj t) ?_ ?_
 ·refine Yj (Qp ?_)
  obtain ⟨hv,eh⟩:∃ hv:Int,atI (qI hs) (at':Int)=some (.int hv):=⟨hs[at'],jz (by unfold qI; rw [wI,wC (by omega)]; rfl)⟩
  walk_at "vc"
  refine ⟨q7,rfl,fun v q8=>⟨⟨_,rfl⟩,?_⟩⟩
  walk_at "sv"
  refine ⟨_,_,rfl,rfl,fun j ρ=>∃(tr:List Try) (s:Sl),ρ=[S0,S1,.l (qe q8),S3,S4,S5,S6,.l (tr.map tryD),S8,s,.u,.u,.u]/\tr.length=6+j/\∀ t∈tr,qGj t,⟨tr2,_,rfl,tl2,to2⟩,?_,?_⟩
  rotate_left
  ·rintro ρ ⟨tr,s,rfl,tl,to⟩
   exact ⟨q8,tr,⟨rfl,rfl,rfl,rfl,rfl,rfl,rfl,rfl,trivial⟩,tl,to⟩
  rintro j x ρ hx ⟨tr,s,rfl,tl,to⟩
  have hj:=(wL.mp hx).1
  have hj5:j<5:=hj
  obtain ⟨z,rfl⟩:∃ z:Int,x=.int z:=by
   have five:j=0\/j=1\/j=2\/j=3\/j=4:=by omega
   rcases five with e | e | e | e | e <;> (rw [e] at hx; exact ⟨_,(zF hx).symm⟩)
  clear hx hj
  refine qm rfl ?_
  walk_at "st"
  have c1:cutD (qI hs) none (some (at':Int))=qI (hs.take at'):=qAV hs (by omega)
  have ea:(at':Int)+1=((at'+1:Nat):Int):=by omega
  have l1:(hs.take at').length<=at':=List.length_take_le _ _
  have sz:∀ p q:List Int,p.length+q.length<=1000->(qI p).length+(qI q).length<=sizeLine:=fun p q h=>szl (by unfold qI; rw [wA,wA]; exact h)
  have z1 : [D.int z]=qI [z]:=rfl
  have lz : [z].length=1:=rfl
  have l2:(hs.take at'++[z]).length<=at'+1:=by rw [wM]; omega
  have l3:(hs.drop (at'+1)).length<=9:=by rw [yI]; omega
  walk_at "v"
  refine SlV.r (qCx rfl ?_)
  rw [c1]
  walk_at "v"
  rw [z1]
  refine OpV.r (OpV.r (jn rfl rfl (sz _ _ (by omega)) ?_))
  rw [QS]
  walk_at "v"
  rw [ea]
  refine SlV.r (qCx rfl ?_)
  rw [QV]
  walk_at "v"
  refine OpV.r (OpV.r (jn rfl rfl (sz _ _ (by omega)) ?_))
  rw [QS]
  walk_at "v"
  refine qDW rfl rfl (qL (by rw [wA]; omega)) ?_
  walk_at "v"
  refine ⟨tr++[((c:Int),hs.take at'++[z]++hs.drop (at'+1),p)],.d (.int z),?_,by rw [wM,tl]; rfl,Jy (pok _ _ (by rw [wM]; omega)) to⟩
  rw [zI]
  rfl
 rintro ρ ⟨q8,tr3,hle,tl3,to3⟩
 refine qIs hle ?_
 refine qc (fun ρ=>∃(q:Int×Int×Int) (b:Nat),ρ=[S0,S1,.l (qe q),S3,S4,S5,S6,.l (tr3.map tryD),.u,.u,.d (.int b),.u,.u]/\b<=10) ?_ ?_
 ·walk_at "v"
  refine qFT rfl hne ?_
  have mm:=hin _ (qC8 hne)
  generalize mx0 hs=M at mm
  walk_at "v"
  obtain ⟨b,hb⟩:∃ b:Nat,M+1=(b:Int):=⟨(M+1).toNat,by omega⟩
  rw [hb]
  exact ⟨q8,b,rfl,by omega⟩
 rintro ρ ⟨q9,b,rfl,b10⟩
 refine qc (fun ρ=>∃(q:Int×Int×Int) (tr:List Try),ρ=[S0,S1,.l (qe q),S3,S4,S5,S6,.l (tr.map tryD),.u,.u,.d (.int b),.u,.u]/\tr.length=12/\∀ t∈tr,qGj t) ?_ ?_
 ·walk_at "v"
  walk_at "call"
  refine ⟨q9,n,ts,b,3,rfl,by decide,by decide,by omega,n1,n9,by omega,W.ok,fun p' q10 pd' pw'=>⟨⟨_,rfl⟩,?_⟩⟩
  walk_at "sv"
  refine qDW rfl rfl (qL (by rw [wA]; omega)) ?_
  walk_at "v"
  refine ⟨q10,tr3++[((b:Int),hs,p')],?_,by rw [wM,tl3]; rfl,Jy ⟨by show hs.length<=30; omega,by show p'.deep<5; omega,Qr (by decide) pw'⟩ to3⟩
  rw [zI]
  rfl
 rintro ρ ⟨q10,tr4,rfl,tl4,to4⟩
 refine qAt (i:=7) rfl ?_
 walk_at "st"
 let S7:Sl:=.d (.lst (tr4.map tryD))
 refine Yj (Qp ?_)
 walk_at "v"
 refine ⟨_,_,rfl,rfl,fun _ ρ=>∃ s t:Sl,ρ=[S0,S1,.l (qe q10),S3,S4,S5,S6,S7,.u,.u,.d (.int b),s,t],⟨_,_,rfl⟩,?_,?_⟩
 rotate_left
 ·rintro ρ ⟨s,t,rfl⟩
  exact ⟨rfl,trivial⟩
 rintro j x ρ hx ⟨s,t,rfl⟩
 obtain ⟨t,ht,rfl⟩:=zJ.mp (yT hx)
 have ok:=to4 t ht
 obtain ⟨k,ms,p'⟩:=t
 refine qm rfl ?_
 walk_at "st"
 let S11:Sl:=.d (.tup [.int k,.tup (qI ms),QK p'])
 refine qc (fun ρ=>ρ=[S0,S1,.l (qe q10),S3,S4,S5,S6,S7,.u,.u,.d (.int b),S11,.d (.bl (qHm k ms p' n ts))]) ?_ ?_
 ·walk_at "v"
  refine qX ?_
  walk_at "v"
  refine ⟨of_decide_eq_true rfl,?_⟩
  walk_at "st"
  refine ⟨n,ts,k,ms,p',rfl,W0,ok.few,ok.deep,by decide,ok.slim,⟨⟨_,rfl⟩,?_⟩⟩
  walk_at "sv"
  rfl
 rintro ρ rfl
 refine Yv (qCm ?_)
 walk_at "v"
 refine ite_no ?_
 walk_at "v"
 refine qX ?_
 walk_at "v"
 refine ⟨of_decide_eq_true rfl,?_⟩
 walk_at "st"
 refine ⟨n,ts,k,ms,p',rfl,W0,ok.few,ok.deep,by decide,ok.slim,⟨⟨_,rfl⟩,?_⟩⟩
 walk_at "st"
 refine OpV.l (qJA rfl rfl rfl rfl rfl ?_)
 rw [decide_eq_true rfl]
 refine ⟨_,rfl,?_⟩
 refine ite_no ?_
 exact qw ⟨_,_,rfl⟩
theorem qEL {g f:Addr} {gd fd:FuncData} (F:Fun K "is_part" "is_part" (top 15) g gd) (T:Txt mg) (XAS:YC K mg "is_paper" (top 16) ["web","k","thing"] f fd) (XAc:YC K mg "is_part" (top 15) ["web","k","thing"] g gd)
  (XAX:Has P w K mg base "is_crowd" (top 14) ["web","k","thing"] 3 (spV qBt)) (XAE:Has P w K mg base "is_tie_form" (top 2) ["many","thing"] 2 (spV qDe)) (XAg:Has P w K mg base "drawn" (top 7) ["web","a","b"] 2 (spV qDz)) (XAb:Has P w K mg base "with_tie" (top 8) ["web","a","b"] 2 (spV qDu)):jo P w K mg base CX0 13 g gd ["web","k","thing"] (spV (qHX 5)):=by
 exact Yr F T XAE XAg XAb ⟨f,fd,XAS,qBn XAS.1 F T XAS XAc XAX XAE XAg XAb 4⟩
theorem qDM (F:Fun K "is_paper" "is_paper" (top 16) f fd) (T:Txt mg) (XAX:Has P w K mg base "is_crowd" (top 14) ["web","k","thing"] 3 (spV qBt)) (XAe:Has P w K mg base "is_part" (top 15) ["web","k","thing"] 13 (spV (qHX 5))):jo P w K mg base CX0 (2*5+4) f fd ["web","k","thing"] (spV (qBU 5)):=by
 exact Jw (m:=4) F T XAX XAe
theorem qAa (F:Fun K "_law_shown" "_law_shown" (top 30) f fd) (T:Txt mg) (XAG:YC K mg "_law_shown" (top 30) ["web","k","paper"] f fd) (XAR:Has P w K mg base "_law_tied" (top 27) ["web","a","b"] 1 (spV Qj)) (XAH:Has P w K mg base "_law_drawn" (top 28) ["web","a","b"] 1 (spV JO)) (XAP:Has P w K mg base "_law_more" (top 29) ["web","a","b"] 1 (spV Yf)):jo P w K mg base CX0 7 f fd ["web","k","paper"] (spV (qCQ 5)):=by
 exact JB F T XAG XAR XAH XAP 5
theorem qAZ (F:Fun K "_law_paper" "_law_paper" (top 31) f fd) (T:Txt mg) (XAF:YC K mg "_law_paper" (top 31) ["pool","web","k","deep"] f fd) (XAQ:Has P w K mg base "_law_next" (top 21) ["pool","base"] 1 (spV YL)) (XAR:Has P w K mg base "_law_tied" (top 27) ["web","a","b"] 1 (spV Qj)) (XAI:Has P w K mg base "_law_meets" (top 32) ["web","some","place"] 2 (spV qDw)) (XAH:Has P w K mg base "_law_drawn" (top 28) ["web","a","b"] 1 (spV JO)) (XAP:Has P w K mg base "_law_more" (top 29) ["web","a","b"] 1 (spV Yf)):jo P w K mg base CX0 8 f fd ["pool","web","k","deep"] (spV (qE2 5)):=by
 exact JE F T XAF XAQ XAR XAI XAH XAP 5
theorem qBo (F:Fun K "_law_bent" "_law_bent" (top 33) f fd) (T:Txt mg) (XAM:YC K mg "_law_bent" (top 33) ["pool","paper","many"] f fd) (XAQ:Has P w K mg base "_law_next" (top 21) ["pool","base"] 1 (spV YL)) (XAV:Has P w K mg base "_law_far" (top 22) ["pool"] 2 (spV qKA)):jo P w K mg base CX0 8 f fd ["pool","paper","many"] (spV (qE3 5)):=by
 exact JW F T XAM XAQ XAV 5
end
theorem us0 {P:List Value->Prop} (h:P []):∀ us:List Value,us.length=0->P us:=fun _ e=>(VI e) ▸ h
theorem usS {k:Nat} {P:List Value->Prop} (h:∀(a:Value) (us:List Value),us.length=k->P (a::us)):∀ us:List Value,us.length=k+1->P us:=fun us e=>by
 cases us with
 | nil=>cases e
 | cons a us=>exact h a us (Nat.succ.inj e)
theorem us1 {P:List Value->Prop} (h:∀ a0,P [a0]):∀ us:List Value,us.length=1->P us:=usS (k:=0) (P:=fun us=>P (us)) fun a0=>us0 (P:=fun us=>P (a0::us)) (h a0)
theorem us2 {P:List Value->Prop} (h:∀ a0 a1,P [a0,a1]):∀ us:List Value,us.length=2->P us:=usS (k:=1) (P:=fun us=>P (us)) fun a0=>usS (k:=0) (P:=fun us=>P (a0::us)) fun a1=>us0 (P:=fun us=>P (a0::a1::us)) (h a0 a1)
theorem us3 {P:List Value->Prop} (h:∀ a0 a1 a2,P [a0,a1,a2]):∀ us:List Value,us.length=3->P us:=usS (k:=2) (P:=fun us=>P (us)) fun a0=>usS (k:=1) (P:=fun us=>P (a0::us)) fun a1=>usS (k:=0) (P:=fun us=>P (a0::a1::us)) fun a2=>us0 (P:=fun us=>P (a0::a1::a2::us)) (h a0 a1 a2)
theorem us4 {P:List Value->Prop} (h:∀ a0 a1 a2 a3,P [a0,a1,a2,a3]):∀ us:List Value,us.length=4->P us:=usS (k:=3) (P:=fun us=>P (us)) fun a0=>usS (k:=2) (P:=fun us=>P (a0::us)) fun a1=>usS (k:=1) (P:=fun us=>P (a0::a1::us)) fun a2=>usS (k:=0) (P:=fun us=>P (a0::a1::a2::us)) fun a3=>us0 (P:=fun us=>P (a0::a1::a2::a3::us)) (h a0 a1 a2 a3)
def At (K:wG) (x:Str) (st:Stmt) (f:Addr) (fd:FuncData):Prop:=PySem.W.nsIn K mainGlobals x=some (some (.ref f))/\Fun K x x st f fd
def Zs (K:wG):List Str->Prop
 | []=>True
 | x::r=>PySem.W.nsIn K mainGlobals x=some none/\Zs K r
structure Car (P:Program) (w:World) (K:wG) (mg:Str->Option Value) (base h:Heap):Prop where
 X:K.In h
 G:h.Ns mainGlobals mg
theorem At.h {P:Program} {w:World} {K:wG} {h base:Heap} {mg:Str->Option Value} {x:Str} {st:Stmt} {f:Addr} {fd:FuncData} {k:Nat} {sp:Sp} {ps:List Str} (a:At K x st f fd) (Z:Car P w K mg base h) (F:jo P w K mg base CX0 k f fd ps sp) (b:∀(kV doc pm:Value) (an:Option Addr) (cdv ct:Value) (us:List Value),us.length=ps.length->bindArgs (kO x x (Jp st) (QQ st) (qH st) .none kV doc pm an cdv ct) ⟨us,[]⟩=pure (ps.zip us)):Has P w K mg base x st ps k sp:=⟨f,fd,⟨a.2,a.2.binds b,hU Z.X Z.G a.1⟩,F⟩
local macro_rules | `(tactic| walk_at "d")=>`(tactic| first | exact fun _ _ _ _ _ _=>us1 fun _=>rfl | exact fun _ _ _ _ _ _=>us2 fun _ _=>rfl | exact fun _ _ _ _ _ _=>us3 fun _ _ _=>rfl | exact fun _ _ _ _ _ _=>us4 fun _ _ _ _=>rfl)
theorem all_mk {l:ZN} {w:World} {K:wG} {h:Heap} {mg:Str->Option Value} {fa f0 f1 f2 f3 f4 f5 f6 f7 f8 f9 f10 f11 f12 f13 f14 f15 f16 f17 f18 f19 f20 f21 f22 f23 f24 f25 f26 f27 f28 f29 f30:Addr} {e0 e1 e2 e3 e4 e5 e6 e7 e8 e9 e10 e11 e12 e13 e14 e15 e16 e17 e18 e19 e20 e21 e22 e23 e24 e25 e26 e27 e28 e29 e30:FuncData} (X:K.In h) (G:h.Ns mainGlobals mg) (hfa:mg "law" = some (.ref fa))
  (x0:At K "is_whole" (top 1) f0 e0)
  (x1:At K "is_tie_form" (top 2) f1 e1)
  (x2:At K "is_place" (top 3) f2 e2)
  (x3:At K "tie_of" (top 4) f3 e3)
  (x4:At K "near" (top 5) f4 e4)
  (x5:At K "number_drawn" (top 6) f5 e5)
  (x6:At K "drawn" (top 7) f6 e6)
  (x7:At K "with_tie" (top 8) f7 e7)
  (x8:At K "is_hues" (top 10) f8 e8)
  (x9:At K "least_without" (top 11) f9 e9)
  (x10:At K "laid" (top 12) f10 e10)
  (x11:At K "is_crowd" (top 14) f11 e11)
  (x12:At K "is_part" (top 15) f12 e12)
  (x13:At K "is_paper" (top 16) f13 e13)
  (x14:At K "fewest_right" (top 17) f14 e14)
  (x15:At K "_law_cell" (top 19) f15 e15)
  (x16:At K "_law_dig" (top 20) f16 e16)
  (x17:At K "_law_next" (top 21) f17 e17)
  (x18:At K "_law_far" (top 22) f18 e18)
  (x19:At K "_law_web" (top 23) f19 e19)
  (x20:At K "_law_order" (top 24) f20 e20)
  (x21:At K "_law_renamed" (top 25) f21 e21)
  (x22:At K "_law_tied" (top 27) f22 e22)
  (x23:At K "_law_drawn" (top 28) f23 e23)
  (x24:At K "_law_more" (top 29) f24 e24)
  (x25:At K "_law_shown" (top 30) f25 e25)
  (x26:At K "_law_paper" (top 31) f26 e26)
  (x27:At K "_law_meets" (top 32) f27 e27)
  (x28:At K "_law_bent" (top 33) f28 e28)
  (x29:At K "_law_due" (top 34) f29 e29)
  (x30:At K "law" (top 35) f30 e30)
  (z:Zs K ["min","max","tuple","range","len","zip","int","list","sorted","all","any","isinstance","bool","set","enumerate"]) :
  ∃ fd:FuncData,(∀(s:Shared) (v:Value),BindsTo s fd ⟨[v],[]⟩ [("script",v)])/\∀ base:Heap,K.In base->base.Ns mainGlobals mg->jo l.prog w K mg base CX0 16 fa fd ["script"] (qGG K):=by
 have e:=hfa.symm.trans (hU X G x30.1)
 cases e
 have m:∀{x:Str},PySem.W.nsIn K mainGlobals x=some none->mg x=none:=fun z=>PySem.W.mg_none_of X G z
 obtain ⟨z0,z1,z2,z3,z4,z5,z6,z7,z8,z9,z10,z11,z12,z13,z14,_⟩:=z
 have T:Txt mg:=⟨m z0,m z1,m z2,m z3,m z4,m z5,m z6,m z7,m z8,m z9,m z10,m z11,m z12,m z13,m z14⟩
 refine ⟨e30,fun s v=>?b,fun base _ _=>?_⟩
 case b=>
  obtain ⟨_,_,_,_,_,_,_,_,_,rfl,_,_⟩:=x30.2.ex
  exact .of_eq rfl
 have Z:Car l.prog w K mg base h:=⟨X,G⟩
 have XAT:=x16.h Z (qC2 x16.2 T) (by walk_at "d")
 have XAO:=x15.h Z (qCO x15.2 T) (by walk_at "d")
 have XAQ:=x17.h Z (qCI x17.2 T) (by walk_at "d")
 have XAJ:=x20.h Z (qA6 x20.2 T XAQ) (by walk_at "d")
 have XAB:=x21.h Z (YS x21.2 T) (by walk_at "d")
 have XAW:=x19.h Z (qC7 x19.2 T XAQ XAJ XAB) (by walk_at "d")
 have XAf:=x3.h Z (qFd x3.2 T) (by walk_at "d")
 have XAi:=x4.h Z (qI7 x4.2 T XAf) (by walk_at "d")
 have XAA:=x9.h Z (J4 x9.2 T) (by walk_at "d")
 have XAh:=x10.h Z (qIy x10.2 T XAi XAA) (by walk_at "d")
 have XAV:=x18.h Z (qDO x18.2 T XAQ) (by walk_at "d")
 have XAR:=x22.h Z (qBs x22.2 T) (by walk_at "d")
 have XAI:=x27.h Z (qAx x27.2 T XAR) (by walk_at "d")
 have XAH:=x23.h Z (qAj x23.2 T) (by walk_at "d")
 have XAP:=x24.h Z (qB2 x24.2 T) (by walk_at "d")
 have XAK:=x26.h Z (qAZ x26.2 T ⟨x26.2,x26.2.binds (by walk_at "d"),hU X G x26.1⟩ XAQ XAR XAI XAH XAP) (by walk_at "d")
 have XAN:=x28.h Z (qBo x28.2 T ⟨x28.2,x28.2.binds (by walk_at "d"),hU X G x28.1⟩ XAQ XAV) (by walk_at "d")
 have XAa:=x0.h Z (qC9 x0.2 T) (by walk_at "d")
 have XAd:=x8.h Z (qES x8.2 T XAa) (by walk_at "d")
 have XAZ:=x2.h Z (qC5 x2.2 T XAa) (by walk_at "d")
 have XAX:=x11.h Z (qCj x11.2 T XAZ) (by walk_at "d")
 have XAE:=x1.h Z (Y8 x1.2 T XAa) (by walk_at "d")
 have XAD:=x5.h Z (YY x5.2 T) (by walk_at "d")
 have XAg:=x6.h Z (qHu x6.2 T XAD XAf) (by walk_at "d")
 have XAb:=x7.h Z (qDF x7.2 T XAf) (by walk_at "d")
 have XAe:=x12.h Z (qEL x12.2 T ⟨x13.2,x13.2.binds (by walk_at "d"),hU X G x13.1⟩ ⟨x12.2,x12.2.binds (by walk_at "d"),hU X G x12.1⟩ XAX XAE XAg XAb) (by walk_at "d")
 have XAY:=x13.h Z (qDM x13.2 T XAX XAe) (by walk_at "d")
 have XAC:=x14.h Z (YZ x14.2 T XAa XAd XAY) (by walk_at "d")
 have XAL:=x25.h Z (qAa x25.2 T ⟨x25.2,x25.2.binds (by walk_at "d"),hU X G x25.1⟩ XAR XAH XAP) (by walk_at "d")
 have XAU:=x29.h Z (qCw x29.2 T XAL) (by walk_at "d")
 exact qKp x30.2 T XAT XAO XAW XAJ XAh XAQ XAV XAK XAN XAC XAU
theorem walk {l:ZN} {q:Program} {loose:List Str} {XP:(Str->Option Value)->Heap->Prop} {YP:World->Heap->Prop} {d:DefRec} {K:Params->wG} (hn:l.most=some 63) (hdf:d.params.defaults=[])
  (hY:∀(w:World) (h:Heap),YP w h->(K w.params).In h)
  (F:∀(w:World) (mg:Str->Option Value) (fa:Addr) (h:Heap),(K w.params).In h->h.Ns mainGlobals mg->mg d.name=some (.ref fa)->
   ∃ fd:FuncData,(∀(s:Shared) (u:Value),BindsTo s fd ⟨[u],[]⟩ [("script",u)])/\∀ base:Heap,(K w.params).In base->base.Ns mainGlobals mg->jo l.prog w (K w.params) mg base CX0 16 fa fd ["script"] (qGG (K w.params))) :
  PySem.W.WalkO q loose XP YP l.row.toRowW d [] (fun f vs=>PySem.call f vs):=
 L2.qIt (n:=63) (k:=16) (x:="script") (CX:=fun _=>CX0) (sp:=fun w=>qGG (K w.params)) hn (by decide) hdf ⟨rfl,by decide,by decide⟩ hY F (fun _ _ a ns hl _ hS=>⟨a,ns,rfl,hS,hl,fun _=>rfl⟩) fun _ _ _ _ _ z=>z
def pwo:Program:={ main:={ body:=[top 0,top 1,top 2,top 3,top 4,top 5,top 6,top 7,top 8,top 9,top 10,top 11,top 12,top 13,top 14,top 15,top 16,top 17,top 18,top 19,top 20,top 21,top 22,top 23,top 24,top 25,top 26,top 27,top 28,top 29,top 30,top 31,top 32,top 33,top 34,top 35],scope:=PySem.Challenge.pw_rillturn_k15_fewest_hues_judged.main.scope,futureAnnotations:=false,file:="/claim/cut.py",more:=[] },modules:=[],parses:=[],absent:=[],harvested:=[],given:={ argv:=[],stdin:=[],environ:=(some [([76,67,95,65,76,76],[67,46,85,84,70,45,56])]) } }
def rwo:ZN:={ PySem.Challenge.rw_rillturn_k15_fewest_hues_judged with prog:=pwo }
def QN (P:Params) (n:Str) (t:Nat) (v:Value):DictEntry:=⟨PyData.keyHash P n,.str n t,v⟩
def jK (s:Stmt):Str:=match s with
 | .FunctionDef n _ _ _ _ _ _ _ _ _=>n
 | _=>""
def jP (n:Str) (t:Nat) (l a b:Int) (c:Nat) (x y:Value) (z:Nat) (u:Int) (u':Nat):Obj:={ cls:=.type "code",data:=.fields #[.str n t,.str n (t+1),.str "/claim/cut.py" (t+2),.int l 0,.int a 0,.int 0 0,.int 0 0,.int b 0,.ref c,.bool true,.int 181 0,.ref (c+1),.none,x,y,.ref z,.int u 0,.int l 0,.str "/claim/cut.py" u'] }
def JN (i:Nat) (m:Str) (mt c:Nat):Obj:={ cls:=.type "function",data:=.func (kO (jK (top i)) (jK (top i)) (Jp (top i)) (QQ (top i)) (qH (top i)) .none .none .none (.str m mt) none (.ref c) .none) }
def kE0 (P:Params):List DictEntry:=[QN P "__name__" 165 (.str "law_rillturn_k15_fewest_hues_judged" 313),QN P "__doc__" 166 .none,QN P "__package__" 167 .none,QN P "__loader__" 168 (.builtin "__main__.__loader__#opaque"),QN P "__spec__" 169 .none,QN P "__annotations__" 170 (.ref 6),QN P "__builtins__" 171 (.ref 4),QN P "__file__" 173 (.str "/claim/cut.py" 172)]
def kE1 (P:Params):List DictEntry:=[QN P "__cached__" 174 .none,QN P "is_whole" 195 (.ref 21),QN P "is_tie_form" 205 (.ref 28),QN P "is_place" 213 (.ref 35),QN P "tie_of" 221 (.ref 42),QN P "near" 227 (.ref 47),QN P "number_drawn" 236 (.ref 54),QN P "drawn" 242 (.ref 59)]
def kE2 (P:Params):List DictEntry:=[QN P "with_tie" 253 (.ref 66),QN P "is_hues" 261 (.ref 71),QN P "least_without" 269 (.ref 78),QN P "laid" 275 (.ref 83),QN P "is_crowd" 283 (.ref 88),QN P "is_part" 297 (.ref 95),QN P "is_paper" 306 (.ref 102),QN P "fewest_right" 312 (.ref 107)]
def kE3 (P:Params):List DictEntry:=[QN P "_law_cell" 322 (.ref 114),QN P "_law_dig" 329 (.ref 121),QN P "_law_next" 340 (.ref 128),QN P "_law_far" 349 (.ref 135),QN P "_law_web" 355 (.ref 140),QN P "_law_order" 361 (.ref 145),QN P "_law_renamed" 367 (.ref 150),QN P "_law_near" 373 (.ref 155)]
def kE4 (P:Params):List DictEntry:=[QN P "_law_tied" 382 (.ref 162),QN P "_law_drawn" 388 (.ref 167),QN P "_law_more" 397 (.ref 174),QN P "_law_shown" 403 (.ref 179),QN P "_law_paper" 409 (.ref 184),QN P "_law_meets" 415 (.ref 189),QN P "_law_bent" 431 (.ref 196),QN P "_law_due" 437 (.ref 201)]
def kE5 (P:Params):List DictEntry:=[QN P "law" 456 (.ref 208)]
def qNJ (P:Params):List DictEntry:=kE0 P++kE1 P++kE2 P++kE3 P++kE4 P++kE5 P
def qMG (P:Params):Obj:={ cls:=.type "dict",data:=.dict ⟨qNJ P⟩ 41 }
def KF:Params->wG:=fun P=>(nat_lit 3,qMG P)::(nat_lit 20,jP (jK (top 1)) 189 2 1 3 15 (.ref 17) (.ref 18) 19 193 194)::(nat_lit 21,JN 1 "rillturn.webs" 187 20)::(nat_lit 27,jP (jK (top 2)) 196 4 2 3 22 (.ref 24) (.ref 25) 26 203 204)::(nat_lit 28,JN 2 "rillturn.webs" 187 27)::(nat_lit 34,jP (jK (top 3)) 206 9 2 3 29 (.ref 31) (.ref 32) 33 211 212)::(nat_lit 35,JN 3 "rillturn.webs" 187 34)::(nat_lit 41,jP (jK (top 4)) 214 11 2 3 36 (.ref 38) (.ref 39) 40 219 220)::(nat_lit 42,JN 4 "rillturn.webs" 187 41)::(nat_lit 46,jP (jK (top 5)) 222 13 2 3 43 .none .none 45 225 226)::(nat_lit 47,JN 5 "rillturn.webs" 187 46)::(nat_lit 53,jP (jK (top 6)) 228 15 3 3 48 (.ref 50) (.ref 51) 52 234 235)::(nat_lit 54,JN 6 "rillturn.webs" 187 53)::(nat_lit 58,jP (jK (top 7)) 237 19 3 3 55 .none .none 57 240 241)::(nat_lit 59,JN 7 "rillturn.webs" 187 58)::(nat_lit 65,jP (jK (top 8)) 243 23 3 3 60 (.ref 62) (.ref 63) 64 251 252)::(nat_lit 66,JN 8 "rillturn.webs" 187 65)::(nat_lit 70,jP (jK (top 10)) 256 27 2 3 67 .none .none 69 259 260)::(nat_lit 71,JN 10 "rillturn.hues" 254 70)::(nat_lit 77,jP (jK (top 11)) 262 33 1 3 72 (.ref 74) (.ref 75) 76 267 268)::(nat_lit 78,JN 11 "rillturn.hues" 254 77)::(nat_lit 82,jP (jK (top 12)) 270 38 2 3 79 .none .none 81 273 274)::(nat_lit 83,JN 12 "rillturn.hues" 254 82)::(nat_lit 87,jP (jK (top 14)) 278 44 3 3 84 .none .none 86 281 282)::(nat_lit 88,JN 14 "rillturn.fewest" 276 87)::(nat_lit 94,jP (jK (top 15)) 284 50 3 3 89 (.ref 91) (.ref 92) 93 295 296)::(nat_lit 95,JN 15 "rillturn.fewest" 276 94)::(nat_lit 101,jP (jK (top 16)) 298 55 3 3 96 (.ref 98) (.ref 99) 100 304 305)::(nat_lit 102,JN 16 "rillturn.fewest" 276 101)::(nat_lit 106,jP (jK (top 17)) 307 61 4 3 103 .none .none 105 310 311)::(nat_lit 107,JN 17 "rillturn.fewest" 276 106)::(nat_lit 113,jP (jK (top 19)) 315 66 2 3 108 (.ref 110) (.ref 111) 112 320 321)::(nat_lit 114,JN 19 "law_rillturn_k15_fewest_hues_judged" 313 113)::(nat_lit 120,jP (jK (top 20)) 323 70 1 3 115 (.ref 117) (.ref 118) 119 327 328)::(nat_lit 121,JN 20 "law_rillturn_k15_fewest_hues_judged" 313 120)::(nat_lit 127,jP (jK (top 21)) 330 72 2 3 122 (.ref 124) (.ref 125) 126 338 339)::(nat_lit 128,JN 21 "law_rillturn_k15_fewest_hues_judged" 313 127)::(nat_lit 134,jP (jK (top 22)) 341 81 1 3 129 (.ref 131) (.ref 132) 133 347 348)::(nat_lit 135,JN 22 "law_rillturn_k15_fewest_hues_judged" 313 134)::(nat_lit 139,jP (jK (top 23)) 350 86 3 3 136 .none .none 138 353 354)::(nat_lit 140,JN 23 "law_rillturn_k15_fewest_hues_judged" 313 139)::(nat_lit 144,jP (jK (top 24)) 356 105 2 3 141 .none .none 143 359 360)::(nat_lit 145,JN 24 "law_rillturn_k15_fewest_hues_judged" 313 144)::(nat_lit 149,jP (jK (top 25)) 362 108 2 3 146 .none .none 148 365 366)::(nat_lit 150,JN 25 "law_rillturn_k15_fewest_hues_judged" 313 149)::(nat_lit 161,jP (jK (top 27)) 374 113 3 3 156 (.ref 158) (.ref 159) 160 380 381)::(nat_lit 162,JN 27 "law_rillturn_k15_fewest_hues_judged" 313 161)::(nat_lit 166,jP (jK (top 28)) 383 115 3 3 163 .none .none 165 386 387)::(nat_lit 167,JN 28 "law_rillturn_k15_fewest_hues_judged" 313 166)::(nat_lit 173,jP (jK (top 29)) 389 123 3 3 168 (.ref 170) (.ref 171) 172 395 396)::(nat_lit 174,JN 29 "law_rillturn_k15_fewest_hues_judged" 313 173)::(nat_lit 178,jP (jK (top 30)) 398 125 3 3 175 .none .none 177 401 402)::(nat_lit 179,JN 30 "law_rillturn_k15_fewest_hues_judged" 313 178)::(nat_lit 183,jP (jK (top 31)) 404 138 4 3 180 .none .none 182 407 408)::(nat_lit 184,JN 31 "law_rillturn_k15_fewest_hues_judged" 313 183)::(nat_lit 188,jP (jK (top 32)) 410 155 3 3 185 .none .none 187 413 414)::(nat_lit 189,JN 32 "law_rillturn_k15_fewest_hues_judged" 313 188)::(nat_lit 195,jP (jK (top 33)) 416 157 3 3 190 (.ref 192) (.ref 193) 194 429 430)::(nat_lit 196,JN 33 "law_rillturn_k15_fewest_hues_judged" 313 195)::(nat_lit 200,jP (jK (top 34)) 432 171 4 3 197 .none .none 199 435 436)::(nat_lit 201,JN 34 "law_rillturn_k15_fewest_hues_judged" 313 200)::(nat_lit 207,jP (jK (top 35)) 438 175 1 3 202 (.ref 204) (.ref 205) 206 454 455)::(nat_lit 208,JN 35 "law_rillturn_k15_fewest_hues_judged" 313 207)::[]
def kAt:List Addr:=[3,20,21,27,28,34,35,41,42,46,47,53,54,58,59,65,66,70,71,77,78,82,83,87,88,94,95,101,102,106,107,113,114,120,121,127,128,134,135,139,140,144,145,149,150,161,162,166,167,173,174,178,179,183,184,188,189,195,196,200,201,207,208]
end K15
open PySem PySem.W PyProof.Rows
set_option maxRecDepth 100000 in
set_option maxHeartbeats 0 in
theorem K15.oh:K15.rwo.Holds:=by
 w_on; refine PySem.W.holds_law (by decide +kernel) fun said=>?_; o_head (PySem.W.kHook K15.KF K15.kAt (fun _=>by kernel_rfl)); (case hw=>w_witness2)
 k_fill
 refine K15.walk (l:=K15.rwo) rfl rfl (fun w h Y=>PySem.W.kIn_of Y) ?F
 case F=>
  intro w mg fa h KX G hmg
  refine' K15.all_mk KX G hmg ?x0 ?x1 ?x2 ?x3 ?x4 ?x5 ?x6 ?x7 ?x8 ?x9 ?x10 ?x11 ?x12 ?x13 ?x14 ?x15 ?x16 ?x17 ?x18 ?x19 ?x20 ?x21 ?x22 ?x23 ?x24 ?x25 ?x26 ?x27 ?x28 ?x29 ?x30 ?z
  case x0 | x1 | x2 | x3 | x4 | x5 | x6 | x7 | x8 | x9 | x10 | x11 | x12 | x13 | x14 | x15 | x16 | x17 | x18 | x19 | x20 | x21 | x22 | x23 | x24 | x25 | x26 | x27 | x28 | x29 | x30=>exact ⟨by k_is,L2.qKg (by k_is) (by k_is) (by k_is)⟩
  case z=>repeat' (first | exact trivial | refine ⟨by k_is,?_⟩)
theorem PySem.Challenge.cw_rillturn_k15_fewest_hues_judged_holds : PySem.Challenge.rw_rillturn_k15_fewest_hues_judged.Holds :=
 K15.oh
