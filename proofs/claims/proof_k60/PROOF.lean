import PyProof.Rows.All
import Wide.All
import OpenK.AllK
import Wide.FinOn
import Lean
import PyProof.EqAt
import PyProof.EqKinds
import PyProof.TupleCall
import PyProof.NeKinds
import PyProof.ForAny
import PyProof.ZipIter
import PyProof.Draws
import PyProof.ListRange
import PyProof.TupleOfGen
import KE.KRevIter
import KE.KMinKey
import PyProof.ConsumeWalk
import OpenK.KOwn
import KE.KTryMore
import KE.KIsAll
import PyProof.ExcArgs
import PyProof.NsDelKeeps
import PyProof.TupleOfSeq
import PyProof.Rows.SetFrom
import PyProof.WalksMore
import PyProof.ListNew
import KE.IntBitsLaws
import PyProof.EnumMake
import KE.KDictOf
import PyProof.AttrMissHeap
import PyProof.Rows.EnumRows
import KE.KDictSum
import PyProof.SumAny
import PyProof.DictValues
import PySem.Challenge.RW_rillturn_k60_pointings_written
set_option Elab.async false
set_option linter.all false
set_option maxRecDepth 100000
noncomputable section
namespace L2
open PySem PySem.Spec PyProof.Rows
abbrev Key:=Sum Int Str
def keyIs:Key→Value→Bool
 | .inl k,v=>Value.isInt k v
 | .inr x,v=>Value.isStrOf x v
def keyH (w:World):Key→Int
 | .inl k=>hashInt k
 | .inr x=>hashStr w x
theorem keyIs_shape:∀{k:Key} {v:Value},keyIs k v=true→(∃ i t,k=Sum.inl i∧v=Value.int i t)∨(∃ x t,k=Sum.inr x∧v=Value.str x t)
 | .inl i,v,h=>by
  obtain ⟨t,e⟩:=Value.isInt_shape (k:=i) (v:=v) h
  exact .inl ⟨i,t,rfl,e⟩
 | .inr x,v,h=>by
  obtain ⟨t,e⟩:=Value.isStrOf_shape (x:=x) (v:=v) h
  exact .inr ⟨x,t,rfl,e⟩
theorem key_ll (a b:Int):decide ((Sum.inl a:Key)=Sum.inl b)=(a == b):=by
 by_cases e:a=b
 ·subst e; simp
 ·have h:¬ (Sum.inl a:Key)=Sum.inl b:=fun q=>e (Sum.inl.inj q)
  rw [decide_eq_false h]
  exact (beq_eq_false_iff_ne.mpr e).symm
theorem key_rr (a b:Str):decide ((Sum.inr a:Key)=Sum.inr b)=decide (a=b):=by
 by_cases e:a=b
 ·subst e; simp
 ·have h:¬ (Sum.inr a:Key)=Sum.inr b:=fun q=>e (Sum.inr.inj q)
  rw [decide_eq_false h,decide_eq_false e]
theorem key_lr (a:Int) (b:Str):decide ((Sum.inl a:Key)=Sum.inr b)=false:=decide_eq_false (fun q=>nomatch q)
theorem key_rl (a:Str) (b:Int):decide ((Sum.inr a:Key)=Sum.inl b)=false:=decide_eq_false (fun q=>nomatch q)
def mixKind (prog:Program) (w:World):PySem.KeyKind prog w Key where
 is:=keyIs
 hash:=keyH w
 inj:=fun v a b ha hb=>by
  rcases keyIs_shape ha with ⟨i,t,rfl,rfl⟩ | ⟨x,t,rfl,rfl⟩
  ·rcases keyIs_shape hb with ⟨j,u,rfl,e⟩ | ⟨y,u,rfl,e⟩
   ·injection e with e1 _; rw [e1]
   ·exact nomatch e
  ·rcases keyIs_shape hb with ⟨j,u,rfl,e⟩ | ⟨y,u,rfl,e⟩
   ·exact nomatch e
   ·injection e with e1 _; rw [e1]
 byValue:=fun k v h=>by
  rcases keyIs_shape h with ⟨i,t,rfl,rfl⟩ | ⟨x,t,rfl,rfl⟩ <;> rfl
 pyHash:=fun hv h=>by
  rcases keyIs_shape hv with ⟨i,t,rfl,rfl⟩ | ⟨x,t,rfl,rfl⟩
  ·exact wpAny_pyHash_int h
  ·exact wpAny_pyHash_str h
 eqBool:=fun hu hv h=>by
  rcases keyIs_shape hu with ⟨i,t,rfl,rfl⟩ | ⟨x,t,rfl,rfl⟩
  ·rcases keyIs_shape hv with ⟨j,u,rfl,rfl⟩ | ⟨y,u,rfl,rfl⟩
   ·rw [key_ll] at h; exact wpAny_eqBool_int h
   ·rw [key_lr] at h; exact SeqAt.EqAt.int_str i t y u _ _ _ _ h
  ·rcases keyIs_shape hv with ⟨j,u,rfl,rfl⟩ | ⟨y,u,rfl,rfl⟩
   ·rw [key_rl] at h; exact SeqAt.EqAt.str_int x t j u _ _ _ _ h
   ·rw [key_rr] at h; exact wpAny_eqBool_str h
 «strs»:=fun k x t v h=>by
  rcases keyIs_shape h with ⟨i,u,rfl,e⟩ | ⟨y,u,rfl,e⟩
  ·exact nomatch e
  ·injection e with e1 _
   subst e1
   cases v <;> rfl
inductive V where
 | non | bl (b:Bool) | int (i:Int) | str (x:Str) | byt (b:Array UInt8) | flt (b:UInt64) | ref (a:Addr) | ty (n:String)
 deriving DecidableEq
def RelV:V→Value→Prop
 | .non,u=>u=Value.none
 | .bl b,u=>u=Value.bool b
 | .int i,u=>∃ t,u=Value.int i t
 | .str x,u=>∃ t,u=Value.str x t
 | .byt b,u=>∃ t,u=Value.bytes b t
 | .flt b,u=>∃ t,u=Value.float b t
 | .ref a,u=>u=Value.ref a
 | .ty n,u=>u=Value.type n
abbrev Vals:List V→List Value→Prop:=Paired RelV
theorem Vals.length {xs:List V} {us:List Value} (r:Vals xs us):xs.length=us.length:=Paired.length r
theorem Vals.get:∀{xs:List V} {us:List Value} {i:Nat} {x:V},Vals xs us→xs[i]? = some x→∃ u,us[i]? = some u∧RelV x u
 | _,_,_,_,.nil,e=>by simp at e
 | _,_,0,_,.cons r _,e=>by simp at e; subst e; exact ⟨_,rfl,r⟩
 | _,_,i+1,x,.cons _ t,e=>by
  obtain ⟨u,h1,h2⟩:=Vals.get (i:=i) (x:=x) t (by simpa using e)
  exact ⟨u,by simpa using h1,h2⟩
theorem Vals.set {x:V} {u:Value} (r:RelV x u):∀{xs:List V} {us:List Value} (i:Nat),Vals xs us→Vals (xs.set i x) (us.set i u)
 | _,_,_,.nil=>.nil
 | _,_,0,.cons _ t=>.cons r t
 | _,_,i+1,.cons q t=>.cons q (Vals.set r i t)
theorem Vals.append:∀{xs ys:List V} {us ws:List Value},Vals xs us→Vals ys ws→Vals (xs++ys) (us++ws)
 | _,_,_,_,.nil,s=>s
 | _,_,_,_,.cons r t,s=>.cons r (Vals.append t s)
theorem Vals.take:∀{xs:List V} {us:List Value} (n:Nat),Vals xs us→Vals (xs.take n) (us.take n)
 | _,_,0,_=>.nil
 | _,_,_+1,.nil=>.nil
 | _,_,n+1,.cons r t=>.cons r (Vals.take n t)
theorem Vals.drop:∀{xs:List V} {us:List Value} (n:Nat),Vals xs us→Vals (xs.drop n) (us.drop n)
 | _,_,0,r=>r
 | _,_,_+1,.nil=>.nil
 | _,_,n+1,.cons _ t=>Vals.drop n t
def RelO:Option V→Option Value→Prop
 | some v,some u=>RelV v u
 | none,none=>True
 | _,_=>False
def KV {κ:Type}:List (κ×V)→List (κ×Value)→Prop:=Paired fun (p:κ×V) (q:κ×Value)=>p.1=q.1∧RelV p.2 q.2
def kV:Key→V
 | .inl i=>.int i
 | .inr x=>.str x
def NoD (h:Heap) (a:Addr):Prop:=∀ o,h.get? a=some o→o.dict=none
theorem NoD.new {h:Heap} {o:Obj} (hd:o.dict=none) (hf:o.isFreed=false:=by rfl):NoD (h.push o) h.objs.size:=fun u e=>by
 rw [Heap.get?_push_size _ hf] at e
 cases e
 exact hd
inductive HO where
 /-- a list -/
 | lst (xs:List V)
 /-- a tuple (never changes) -/
 | tup (xs:List V)
 /-- a dict whose keys are ints and texts; one whose keys are tuples of ints and texts (the empty one is both) -/
 | dK (kvs:List (Key×V)) | dT (kvs:List (List Key×V))
 /-- a set of ints: its members, its size -/
 | set (S:Int→Bool) (n:Nat)
 /-- an instance of the class at C, its dict at dx, its attributes -/
 | ins (C dx:Addr) (fs:List (Str×V))
 /-- the dict of the instance at x -/
 | own (x:Addr)
 /-- the dict of an exception -/
 | xd (fs:List (Str×V))
 /-- a bound method, f of x -/
 | met (f x:Addr)
 /-- a range object lo, lo + 1, .. below hi -/
 | rng (lo hi:Int)
 /-- a thing that is known to the object (the script; a dict while a loop walks it): read, never written while it is so -/
 | frz (o:Obj) (u:HO)
 /-- a code object's table -/
 | tbl (ps:Array Value)
 /-- any other thing, by what is true of its one object (a def of one's own: SetO a S n := HO.ext fun h => ..) -/
 | ext (φ:Heap→Prop)
abbrev Hp:=Addr→Option HO
def upd (H:Hp) (a:Addr) (o:HO):Hp:=fun b=>if b=a then some o else H b
theorem upd_same {H:Hp} {a:Addr} {o:HO}:upd H a o a=some o:=by unfold upd; rw [if_pos rfl]
theorem upd_ne {H:Hp} {a b:Addr} {o:HO} (h:b≠a):upd H a o b=H b:=by unfold upd; rw [if_neg h]
theorem ne_of_none {H:Hp} {a b:Addr} {o:HO} (h:H a=some o) (h':H b=none):a≠b:=by
 intro e; subst e; rw [h] at h'; cases h'
section
variable (P:Program) (w:World)
def ObjOk (H:Hp) (h:Heap) (a:Addr):HO→Prop
 | .lst xs=>xs.length≤sizeLine∧∃(its:List Value) (n:Nat),Vals xs its∧h.get? a=some { cls:=.type "list",data:=.seq its.toArray n }
 | .tup xs=>xs.length≤sizeLine∧∃ its:List Value,Vals xs its∧IsTup h a its.toArray∧NoD h a
 | .dK kvs=>kvs.length≤sizeLine∧(a == sysModules)=false∧∃ vs,KV kvs vs∧h.DictOf (mixKind P w) a vs
 | .dT kvs=>kvs.length≤sizeLine∧(a == sysModules)=false∧∃ xs:List (List Key×Addr×Value),
   Paired (fun (p:List Key×V) (q:List Key×Addr×Value)=>p.1=q.1∧H q.2.1=some (.tup (p.1.map kV))∧RelV p.2 q.2.2) kvs xs∧
   ∃ o es ep,h.get? a=some o∧o.ExactDict∧o.data=.dict es ep∧es.toList=xs.map (entryOfKey (tupleKind (mixKind P w)))∧(xs.map (·.1)).Nodup
 | .set S n=>h.SetOf (intKind P w) a S n
 | .ins C dx fs=>H dx=some (.own a)∧fs.length≤1000∧dx≠a∧h.get? a=some (PySem.W.instObj C dx)∧
   ∃ mA,h.Ns1 dx mA∧(∀ f,RelO (fs.lookup f) (mA f))∧PySem.Within mA (fs.map (·.1))
 | .own _=>∃ o,h.get? a=some o
 | .xd fs=>∃ mA,h.Ns1 a mA∧∀ f,RelO (fs.lookup f) (mA f)
 | .rng lo hi=>∃ t u v,h.get? a=some { cls:=.type "range",data:=.fields #[.int lo t,.int hi u,.int 1 v] }
 | .frz o u=>h.get? a=some o∧ObjOk H h a u
 | .tbl ps=>h.get? a=some { cls:=.none,data:=.fields ps }
 | .met f x=>h.get? a=some (PySem.W.methodObj (.ref f) (.ref x))
 | .ext φ=>φ h∧(∃ o,h.get? a=some o)∧∀ h1 h2:Heap,φ h1→(∀ o,h1.get? a=some o→h2.get? a=some o)→φ h2
def HOk (H:Hp) (h:Heap):Prop:=∀ a o,H a=some o→ObjOk P w H h a o
end
section
variable {P:Program} {w:World} {H H':Hp} {h h':Heap} {a:Addr} {o:HO}
theorem ObjOk.lt (x:ObjOk P w H h a o):a<h.objs.size:=by
 cases o with
 | lst xs=>obtain ⟨_,_,_,_,e⟩:=x; exact Heap.lt_size e
 | tup xs=>obtain ⟨_,_,_,p,_⟩:=x; exact p.lt
 | dK kvs=>obtain ⟨_,_,_,_,o,_,_,e,_⟩:=x; exact Heap.lt_size e
 | dT kvs=>obtain ⟨_,_,_,_,o,_,_,e,_⟩:=x; exact Heap.lt_size e
 | set S n=>obtain ⟨o,_,_,_,e,_⟩:=x; exact Heap.lt_size e
 | ins C dx fs=>obtain ⟨_,_,_,e,_⟩:=x; exact Heap.lt_size e
 | own y=>obtain ⟨_,e⟩:=x; exact Heap.lt_size e
 | xd fs=>obtain ⟨_,⟨_,_,_,e,_⟩,_⟩:=x; exact Heap.lt_size e
 | rng lo hi=>obtain ⟨_,_,_,e⟩:=x; exact Heap.lt_size e
 | frz ob u=>obtain ⟨e,_⟩:=x; exact Heap.lt_size e
 | tbl ps=>exact Heap.lt_size (show h.get? a=some _ from x)
 | met f y=>exact Heap.lt_size (show h.get? a=some _ from x)
 | ext φ=>obtain ⟨_,⟨_,e⟩,_⟩:=x; exact Heap.lt_size e
theorem Paired.mapP {α β:Type} {F G:α→β→Prop}:∀{l₁:List α} {l₂:List β},Paired F l₁ l₂→(∀ a b,F a b→G a b)→Paired G l₁ l₂
 | _,_,.nil,_=>.nil
 | _,_,.cons r t,f=>.cons (f _ _ r) (Paired.mapP t f)
theorem ObjOk.stay (x:ObjOk P w H h a o) (k:∀ b u,(b=a∨H b=some (.own a))→h.get? b=some u→h'.get? b=some u)
  (ho:∀ b,H b=some (.own a)→H' b=some (.own a)) (ht:∀ b xs,H b=some (.tup xs)→H' b=some (.tup xs)):ObjOk P w H' h' a o:=by
 induction o with
 | lst xs=>obtain ⟨z,its,n,r,e⟩:=x; exact ⟨z,its,n,r,k _ _ (.inl rfl) e⟩
 | tup xs=>obtain ⟨z,its,r,⟨ob,e,c⟩,nd⟩:=x; exact ⟨z,its,r,⟨ob,k _ _ (.inl rfl) e,c⟩,fun o' e'=>by rw [k _ _ (.inl rfl) e] at e'; cases e'; exact nd _ e⟩
 | dK kvs=>obtain ⟨z,y,vs,r,ob,es,ep,e,c⟩:=x; exact ⟨z,y,vs,r,ob,es,ep,k _ _ (.inl rfl) e,c⟩
 | dT kvs=>
  obtain ⟨z,y,xs,r,ob,es,ep,e,c⟩:=x
  exact ⟨z,y,xs,Paired.mapP r fun p q z=>⟨z.1,ht _ _ z.2.1,z.2.2⟩,ob,es,ep,k _ _ (.inl rfl) e,c⟩
 | set S n=>obtain ⟨ob,es,ep,t,e,c⟩:=x; exact ⟨ob,es,ep,t,k _ _ (.inl rfl) e,c⟩
 | ins C dx fs=>
  obtain ⟨d,z,ne,e,mA,⟨od,es,ep,e2,c⟩,r⟩:=x
  exact ⟨ho _ d,z,ne,k _ _ (.inl rfl) e,mA,⟨od,es,ep,k _ _ (.inr d) e2,c⟩,r⟩
 | own y=>obtain ⟨ob,e⟩:=x; exact ⟨ob,k _ _ (.inl rfl) e⟩
 | xd fs=>obtain ⟨mA,⟨od,es,ep,e,c⟩,r⟩:=x; exact ⟨mA,⟨od,es,ep,k _ _ (.inl rfl) e,c⟩,r⟩
 | rng lo hi=>obtain ⟨t,u,v,e⟩:=x; exact ⟨t,u,v,k _ _ (.inl rfl) e⟩
 | frz ob u ih=>obtain ⟨e,q⟩:=x; exact ⟨k _ _ (.inl rfl) e,ih q⟩
 | tbl ps=>
  have e:h.get? a=some { cls:=.none,data:=.fields ps }:=x
  show h'.get? a=some { cls:=.none,data:=.fields ps }
  exact k a _ (.inl rfl) e
 | met f y=>
  have e:h.get? a=some (PySem.W.methodObj (.ref f) (.ref y)):=x
  show h'.get? a=some (PySem.W.methodObj (.ref f) (.ref y))
  exact k a _ (.inl rfl) e
 | ext φ=>obtain ⟨p,⟨o,e⟩,st⟩:=x; exact ⟨st _ _ p fun o q=>k _ _ (.inl rfl) q,⟨o,k _ _ (.inl rfl) e⟩,st⟩
theorem HOk.lt (x:HOk P w H h) (e:H a=some o):a<h.objs.size:=(x a o e).lt
theorem HOk.fresh (x:HOk P w H h) (e:h.objs.size≤a):H a=none:=by
 cases q:H a with
 | none=>rfl
 | some u=>exact absurd (Nat.lt_of_lt_of_le (x.lt q) e) (Nat.lt_irrefl _)
theorem HOk.kept (x:HOk P w H h) (k:∀ b u,h.get? b=some u→h'.get? b=some u):HOk P w H h':=fun a o e=>
 (x a o e).stay (fun b u _ q=>k b u q) (fun _ q=>q) fun _ _ q=>q
theorem HOk.laid (x:HOk P w H h) (k:∀ b u,h.get? b=some u→h'.get? b=some u) (hp:h.objs.size≤a) (new:ObjOk P w (upd H a o) h' a o):HOk P w (upd H a o) h':=fun b u e=>by
 have hn:=x.fresh hp
 by_cases hb:b=a
 ·subst hb; rw [upd_same] at e; cases e; exact new
 ·rw [upd_ne hb] at e
  exact (x b u e).stay (fun c v _ q=>k c v q) (fun c q=>by rw [upd_ne (ne_of_none q hn)]; exact q) fun c xs q=>by rw [upd_ne (ne_of_none q hn)]; exact q
end
def Rd (H:Hp) (a:Addr) (u:HO):Prop:=H a=some u∨∃ o,H a=some (.frz o u)
theorem Rd.ok {P:Program} {w:World} {H:Hp} {h:Heap} {a:Addr} {u:HO} (r:Rd H a u) (x:HOk P w H h):ObjOk P w H h a u:=by
 rcases r with r | ⟨o,r⟩
 ·exact x a u r
 ·obtain ⟨_,q⟩:=x a _ r
  exact q
def Mut:Option HO→Prop
 | some (.lst _)=>True
 | some (.dK _)=>True
 | some (.dT _)=>True
 | some (.set _ _)=>True
 | some (.ins _ _ _)=>True
 | some (.ext _)=>True
 | _=>False
section
variable {P:Program} {w:World} {H:Hp} {h h':Heap} {x e:Addr} {o':HO}
theorem HOk.write (ok:HOk P w H h) (mu:Mut (H x)) (he:e=x∨H e=some (.own x)) (k:∀ b u,b≠e→h.get? b=some u→h'.get? b=some u) (heo:∃ u,h'.get? e=some u)
  (new:ObjOk P w (upd H x o') h' x o'):HOk P w (upd H x o') h':=fun b u q=>by
 have nown:∀ c y,H c=some (.own y)→c≠x:=fun c y r z=>by subst z; rw [r] at mu; exact mu
 have ntup:∀ c xs,H c=some (.tup xs)→c≠x:=fun c xs r z=>by subst z; rw [r] at mu; exact mu
 by_cases hb:b=x
 ·subst hb; rw [upd_same] at q; cases q; exact new
 ·rw [upd_ne hb] at q
  by_cases hbe:b=e
  ·have q':H b=some (.own x):=by
    rcases he with z | z
    ·exact absurd (hbe.trans z) hb
    ·rw [hbe]; exact z
   rw [q] at q'; cases q'
   obtain ⟨v,hv⟩:=heo
   exact ⟨v,by rw [hbe]; exact hv⟩
  ·refine (ok b u q).stay (fun c v hc r=>k c v ?_ r) (fun c r=>by rw [upd_ne (nown c b r)]; exact r) fun c xs r=>by rw [upd_ne (ntup c xs r)]; exact r
   rcases hc with rfl | hc
   ·exact hbe
   ·rintro rfl
    rcases he with z | z
    ·exact nown c b hc z
    ·rw [hc] at z; cases z; exact hb rfl
end
structure Un (fs ex:List Addr) (H H':Hp) (h h':Heap):Prop where
 keep:∀ b o,h.get? b=some o→H b=none→b∉fs→b∉ex→h'.get? b=some o
 slot:∀ b o,h.get? b=some o→H b=none→b∈fs→b∉ex→∃ sl,h'.get? b=some { o with slots:=sl }
 free:∀ b o,h.get? b=some o→H b=none→b∉ex→H' b=none
 there:∀ b o,h.get? b=some o→b∉ex→∃ o',h'.get? b=some o'
 tups:∀ b xs,H b=some (.tup xs)→H' b=some (.tup xs)
 frzs:∀ b o u,H b=some (.frz o u)→H' b=some (.frz o u)
 tbls:∀ b ps,H b=some (.tbl ps)→∃ more,H' b=some (.tbl (ps++more))
section
variable {fs fs' ex ex':List Addr} {H H1 H2:Hp} {h h1 h2 h':Heap} {a x e:Addr} {o:HO}
theorem Un.any (u:Un fs ex H H1 h h1) {b:Addr} {ob:Obj} (q:h.get? b=some ob) (n:H b=none) (hx:b∉ex):∃ sl,h1.get? b=some { ob with slots:=sl }:=by
 by_cases hb:b∈fs
 ·exact u.slot b ob q n hb hx
 ·exact ⟨ob.slots,u.keep b ob q n hb hx⟩
theorem Un.kept (k:∀ b u,h.get? b=some u→h'.get? b=some u):Un fs ex H H h h':=
 ⟨fun b ob q _ _ _=>k b ob q,fun b ob q _ _ _=>⟨ob.slots,k b ob q⟩,fun _ _ _ n _=>n,fun b ob q _=>⟨ob,k b ob q⟩,fun _ _ q=>q,fun _ _ _ q=>q,fun _ ps q=>⟨#[],by rw [q]; simp⟩⟩
theorem Un.refl:Un fs ex H H h h:=Un.kept fun _ _ q=>q
theorem Un.laid (k:∀ b u,h.get? b=some u→h'.get? b=some u) (hp:h.objs.size≤a) (hn:H a=none):Un fs ex H (upd H a o) h h' where
 keep:=fun b u q _ _ _=>k b u q
 slot:=fun b u q _ _ _=>⟨u.slots,k b u q⟩
 free:=fun b u q n _=>by rw [upd_ne (Nat.ne_of_lt (Nat.lt_of_lt_of_le (Heap.lt_size q) hp))]; exact n
 there:=fun b u q _=>⟨u,k b u q⟩
 tups:=fun b xs q=>by rw [upd_ne (ne_of_none q hn)]; exact q
 frzs:=fun b u xs q=>by rw [upd_ne (ne_of_none q hn)]; exact q
 tbls:=fun b ps q=>⟨#[],by rw [upd_ne (ne_of_none q hn),q]; simp⟩
theorem Un.write (mu:Mut (H x)) (he:e=x∨H e=some (.own x)) (k:∀ b u,b≠e→h.get? b=some u→h'.get? b=some u) (heo:∃ u,h'.get? e=some u):Un fs ex H (upd H x o) h h':=by
 have hx:∀ b,H b=none→b≠x:=fun b n z=>by subst z; rw [n] at mu; exact mu
 have hb:∀ b,H b=none→b≠e:=fun b n z=>by
  subst z
  rcases he with r | r
  ·exact hx b n r
  ·rw [n] at r; cases r
 have hm:∀ b u,H b=some u→¬ Mut (some u)→b≠x:=fun b u q nm z=>by subst z; rw [q] at mu; exact nm mu
 refine ⟨fun b u q n _ _=>k b u (hb b n) q,fun b u q n _ _=>⟨u.slots,k b u (hb b n) q⟩,fun b u q n _=>by rw [upd_ne (hx b n)]; exact n,fun b u q _=>?_,
  fun b xs q=>by rw [upd_ne (hm b _ q fun z=>z)]; exact q,fun b u xs q=>by rw [upd_ne (hm b _ q fun z=>z)]; exact q,fun b ps q=>⟨#[],by rw [upd_ne (hm b _ q fun z=>z),q]; simp⟩⟩
 by_cases hbe:b=e
 ·subst hbe; exact heo
 ·exact ⟨u,k b u hbe q⟩
end
def trk (h:Heap) (H:Hp):List Addr:=(List.range h.objs.size).filter fun a=>(H a).isSome
def hidT (h:Heap) (H:Hp):Heap:=PySem.W.hideAll h (trk h H)
theorem hidT_size (h:Heap) (H:Hp):(hidT h H).objs.size=h.objs.size:=PySem.W.hideAll_size _ _
theorem hidT_get {h:Heap} {H:Hp} {b:Addr} {o:Obj} (e:h.get? b=some o) (n:H b=none):(hidT h H).get? b=some o:=
 PySem.W.hideAll_get _ e fun hm=>by
  have q:(H b).isSome=true:=(List.mem_filter.mp hm).2
  rw [n] at q; simp at q
theorem of_hidT {h:Heap} {H:Hp} {b:Addr} {o:Obj} (e:(hidT h H).get? b=some o):h.get? b=some o∧H b=none:=by
 have e':h.get? b=some o:=PySem.W.of_hideAll (trk h H) e
 refine ⟨e',?_⟩
 cases q:H b with
 | none=>rfl
 | some x=>
  have hm:b∈trk h H:=List.mem_filter.mpr ⟨List.mem_range.mpr (Heap.lt_size e'),by simp [q]⟩
  have z:(hidT h H).get? b=none:=PySem.W.hideAll_none (trk h H) hm
  rw [z] at e; cases e
def allNews (g h:Heap) (L:Addr):List (Addr×Obj):=(List.range h.objs.size).filterMap fun a=>if a=L∨(g.get? a).isSome=true then none else (h.get? a).map fun o=>(a,o)
def rest (g h:Heap) (L d:Addr):List (Addr×Obj):=(allNews g h L).filter fun p=>decide (p.1≠d)
structure Mod (K:PySem.W.Frag) (mg:Str→Option Value) (base:Heap):Prop where
 kin:K.In base
 glob:base.Ns mainGlobals mg
 blt:∃ mb,base.Ns builtinsNs mb∧∀ x:Str,x≠"__name__"→mb x=bootBuiltins x
 nolimit:base.NoLimit
structure Cx where
 prog:Program
 w:World
 K:PySem.W.Frag
 mg:Str→Option Value
 base:Heap
 A:Around
 N:List Str
 s₀:Shared
 H₀:Hp
 env:Env
 outer:List Env
 stack:List Env
 ex:List Addr
 fn:Str→Bool
 calm:Bool
 pn:List (Addr×Obj)
 xe:Value→Shared→Prop
def frs (l:List Env):List Addr:=l.filterMap (·.frame)
abbrev Cx.fs (X:Cx):List Addr:=frs X.outer
def Vis (sc:Scope) (x:Str):Prop:=sc.names.lookup x=some .local∨sc.names.lookup x=some .cell∨sc.names.lookup x=some .free
def Loc (sc:Scope) (x:Str):Prop:=sc.names.lookup x=some .local∨sc.names.lookup x=some .cell
def Look (env:Env) (h:Heap) (m:Str→Option Value) (x:Str) (u:Value):Prop:=
 (env.kindOf x=some .local∧m x=some u)∨((env.kindOf x=some .cell∨env.kindOf x=some .free)∧∃ c,env.cells.lookup x=some c∧h.IsCell c (some u))
structure Cx.Ok (X:Cx):Prop where
 mod:Mod X.K X.mg X.base
 kind:X.env.scope.kind=.function
 glob:X.env.globals=mainGlobals
 blt:X.env.builtins=builtinsNs
 above:X.s₀.heap.objs.size≤X.env.locals
 inj:∀ x y c,X.env.cells.lookup x=some c→X.env.cells.lookup y=some c→x=y
 has:∀ x,(X.env.kindOf x=some .cell∨X.env.kindOf x=some .free)→∃ c,X.env.cells.lookup x=some c
 cab:∀ x c,X.fn x=true→X.env.cells.lookup x=some c→X.s₀.heap.objs.size≤c
 hd:X.calm=true→X.A.handled=none
 frames:X.A.frames=some X.stack
 stk:X.stack=X.outer∨(X.stack=X.env::X.outer∧X.env.frame=some X.env.locals)
 exf:∀ b∈X.ex,b≠X.env.locals∧∀ x c,X.env.cells.lookup x=some c→c≠b
 bs:∀ b o,X.base.get? b=some o→X.s₀.heap.get? b=some o∧X.H₀ b=none
 bsz:X.base.objs.size≤X.s₀.heap.objs.size
 noex:∀ b o,X.base.get? b=some o→b∉X.ex
 exfs:∀ b∈X.ex,b∉X.fs
 funs:X.s₀.heap.FunFrames X.base X.outer
 frf:∀ b∈X.fs,X.H₀ b=none
structure Inv (X:Cx) (pins:List (Addr×Obj)) (σ:List (Option V)) (H:Hp) (s:Shared):Prop where
 ok:X.Ok
 os:s.os=X.s₀.os
 bare:AllBare s.gens
 base:Un X.fs X.ex X.H₀ H X.s₀.heap s.heap
 loc:∃ m,s.heap.Ns X.env.locals m∧∀(i:Nat) (x:Str) (v:V),X.N[i]? = some x→σ[i]? = some (some v)→Vis X.env.scope x→∃ u,RelV v u∧Look X.env s.heap m x u
 cell:∀ x c,X.env.cells.lookup x=some c→∃ v,s.heap.IsCell c v
 free:H X.env.locals=none
 freeC:∀ x c,X.env.cells.lookup x=some c→H c=none
 pin:∀ p∈X.pn++pins,s.heap.get? p.1=some p.2∧H p.1=none∧p.1≠X.env.locals∧p.1∉X.fs∧∀ v,p.2.data≠.cell v
 hok:HOk X.prog X.w H s.heap
 len:σ.length=X.N.length
section
variable {X:Cx} {pins:List (Addr×Obj)} {σ:List (Option V)} {H H':Hp} {s:Shared} {h':Heap}
theorem Cx.Ok.nofr (ok:X.Ok) {b:Addr} {o:Obj} (e:X.base.get? b=some o):b∉X.fs:=fun hb=>by
 have:=(ok.funs.mem hb).1
 rw [e] at this; cases this
theorem Inv.bs (I:Inv X pins σ H s):∀ b o,X.base.get? b=some o→s.heap.get? b=some o∧H b=none:=fun b o e=>
 ⟨I.base.keep b o (I.ok.bs b o e).1 (I.ok.bs b o e).2 (I.ok.nofr e) (I.ok.noex b o e),I.base.free b o (I.ok.bs b o e).1 (I.ok.bs b o e).2 (I.ok.noex b o e)⟩
theorem Inv.bk (I:Inv X pins σ H s):∀ b o,X.base.get? b=some o→s.heap.get? b=some o:=fun b o e=>(I.bs b o e).1
theorem Inv.mod (I:Inv X pins σ H s):Mod X.K X.mg X.base:=I.ok.mod
theorem Inv.kIn (I:Inv X pins σ H s):X.K.In s.heap:=I.ok.mod.kin.keeps I.bk
theorem Inv.lt (I:Inv X pins σ H s):X.env.locals<s.heap.objs.size:=let ⟨_,hn,_⟩:=I.loc; hn.lt
theorem Inv.sz (I:Inv X pins σ H s):X.s₀.heap.objs.size≤s.heap.objs.size:=Nat.le_trans I.ok.above (Nat.le_of_lt I.lt)
theorem Inv.nofs (I:Inv X pins σ H s) {a:Addr} (h:s.heap.objs.size≤a):a∉X.fs:=fun hb=>by
 obtain ⟨_,o,ho,_⟩:=I.ok.funs.mem hb
 exact absurd (Nat.lt_of_lt_of_le (Heap.lt_size ho) (Nat.le_trans I.sz h)) (Nat.lt_irrefl _)
theorem Inv.cne (I:Inv X pins σ H s):∀ x c,X.env.cells.lookup x=some c→c≠X.env.locals:=fun x c e z=>by
 obtain ⟨v,o,ho,hd⟩:=I.cell x c e
 obtain ⟨m,⟨o',es,ep,ho',hd',_⟩,_⟩:=I.loc
 rw [z,ho'] at ho; cases ho; rw [hd'] at hd; cases hd
theorem Inv.funs (I:Inv X pins σ H s):s.heap.FunFrames X.base X.outer:=by
 have all:∀(l:List Env),(∀ b∈frs l,b∈X.fs)→X.s₀.heap.FunFrames X.base l→s.heap.FunFrames X.base l:=by
  intro l
  induction l with
  | nil=>intro _ _; trivial
  | cons env r ih=>
   intro hs hl
   obtain ⟨hk,⟨L,o,hf,hn,ho,hd⟩,hr⟩:=hl
   have hL:L∈X.fs:=hs L (by unfold frs; rw [List.filterMap_cons,hf]; exact List.mem_cons_self)
   obtain ⟨sl,e⟩:=I.base.slot L o ho (I.ok.frf L hL) hL fun z=>I.ok.exfs L z hL
   exact ⟨hk,⟨L,_,hf,hn,e,hd⟩,ih (fun b hb=>hs b (by unfold frs; rw [List.filterMap_cons,hf]; exact List.mem_cons_of_mem _ hb)) hr⟩
 exact all X.outer (fun _ hb=>hb) I.ok.funs
theorem Inv.stack (I:Inv X pins σ H s):s.heap.FunFrames X.base X.stack:=by
 rcases I.ok.stk with e | ⟨e,hf⟩
 ·rw [e]; exact I.funs
 ·rw [e]
  obtain ⟨m,hn,_⟩:=I.loc
  refine .cons (by rw [I.ok.kind]; decide) hf hn ?_ I.funs
  exact Heap.get?_none_of_le (Nat.le_trans I.ok.bsz I.ok.above)
theorem Inv.stkSub (I:Inv X pins σ H s):∀ b∈frs X.stack,b∈X.env.locals::X.fs:=fun b hb=>by
 rcases I.ok.stk with e | ⟨e,hf⟩
 ·rw [e] at hb; exact List.mem_cons_of_mem _ hb
 ·rw [e] at hb
  unfold frs at hb
  rw [List.filterMap_cons,hf] at hb
  exact hb
theorem Inv.stkFree (I:Inv X pins σ H s):∀ b∈frs X.stack,H b=none:=fun b hb=>by
 rcases List.mem_cons.mp (I.stkSub b hb) with e | hb
 ·rw [e]; exact I.free
 ·obtain ⟨_,o,ho,_⟩:=I.ok.funs.mem hb
  exact I.base.free b o ho (I.ok.frf b hb) fun z=>I.ok.exfs b z hb
theorem Inv.step {g':Array GenState} {t':Nat} {d':Drawn} {ch:List Addr} (I:Inv X pins σ H s)
  (hch:∀ b∈ch,(b∈X.ex∨X.s₀.heap.objs.size≤b)∧b≠X.env.locals∧(∀ x c,X.env.cells.lookup x=some c→c≠b)∧∀ p∈X.pn++pins,p.1≠b)
  (keep:∀ b o,b≠X.env.locals→b∉X.fs→b∉ch→s.heap.get? b=some o→H b=none→h'.get? b=some o)
  (slot:∀ b o,b≠X.env.locals→b∈X.fs→b∉ch→s.heap.get? b=some o→H b=none→∃ sl,h'.get? b=some { o with slots:=sl }) (free:∀ b o,b∉ch→s.heap.get? b=some o→H b=none→H' b=none)
  (there:∀ b o,b∉ch→s.heap.get? b=some o→∃ o',h'.get? b=some o')
  (tups:∀ b xs,H b=some (.tup xs)→H' b=some (.tup xs)) (frzs:∀ b o u,H b=some (.frz o u)→H' b=some (.frz o u)) (tbls:∀ b ps,H b=some (.tbl ps)→∃ more,H' b=some (.tbl (ps++more)))
  (ns:∀ m,s.heap.Ns X.env.locals m→h'.Ns X.env.locals m) (hok:HOk X.prog X.w H' h') (hg:AllBare g') :
  Inv X pins σ H' { s with heap:=h',gens:=g',drawn:=d',toks:=t' }:=by
 have neL:∀ b o,X.s₀.heap.get? b=some o→b≠X.env.locals:=fun b o e=>Nat.ne_of_lt (Nat.lt_of_lt_of_le (Heap.lt_size e) I.ok.above)
 have neC:∀ b o,X.s₀.heap.get? b=some o→b∉X.ex→b∉ch:=fun b o e hx hb=>by
  rcases (hch b hb).1 with z | z
  ·exact hx z
  ·exact absurd (Nat.lt_of_lt_of_le (Heap.lt_size e) z) (Nat.lt_irrefl _)
 have cellK:∀ x c,X.env.cells.lookup x=some c→∀ v,s.heap.IsCell c v→h'.IsCell c v:=fun x c e v ⟨o,ho,hd⟩=>by
  have nch:c∉ch:=fun z=>(hch c z).2.2.1 x c e rfl
  by_cases hc:c∈X.fs
  ·obtain ⟨sl,q⟩:=slot c o (I.cne x c e) hc nch ho (I.freeC x c e)
   exact ⟨_,q,hd⟩
  ·exact ⟨o,keep c o (I.cne x c e) hc nch ho (I.freeC x c e),hd⟩
 refine ⟨I.ok,I.os,hg,⟨fun b o e n hb hx=>?_,fun b o e n hb hx=>?_,fun b o e n hx=>?_,fun b o e hx=>?_,fun b xs e=>tups b xs (I.base.tups b xs e),fun b o xs e=>frzs b o xs (I.base.frzs b o xs e),fun b ps e=>?_⟩,?_,fun x c e=>?_,?_,fun x c e=>?_,fun p hp=>?_,hok,I.len⟩
 ·exact keep b o (neL b o e) hb (neC b o e hx) (I.base.keep b o e n hb hx) (I.base.free b o e n hx)
 ·obtain ⟨sl,e1⟩:=I.base.slot b o e n hb hx
  obtain ⟨sl',e2⟩:=slot b _ (neL b o e) hb (neC b o e hx) e1 (I.base.free b o e n hx)
  exact ⟨sl',e2⟩
 ·obtain ⟨o',e1⟩:=I.base.there b o e hx
  exact free b o' (neC b o e hx) e1 (I.base.free b o e n hx)
 ·obtain ⟨o',e1⟩:=I.base.there b o e hx
  exact there b o' (neC b o e hx) e1
 ·obtain ⟨m1,e1⟩:=I.base.tbls b ps e
  obtain ⟨m2,e2⟩:=tbls b _ e1
  exact ⟨m1++m2,by rw [e2,Array.append_assoc]⟩
 ·obtain ⟨m,hn,hl⟩:=I.loc
  refine ⟨m,ns m hn,fun i x v e1 e2 e3=>?_⟩
  obtain ⟨u,r,l⟩:=hl i x v e1 e2 e3
  refine ⟨u,r,?_⟩
  rcases l with l | ⟨k,c,e,z⟩
  ·exact .inl l
  ·exact .inr ⟨k,c,e,cellK x c e _ z⟩
 ·obtain ⟨v,z⟩:=I.cell x c e
  exact ⟨v,cellK x c e v z⟩
 ·obtain ⟨m,⟨o,_,_,ho,_⟩,_⟩:=I.loc
  exact free _ o (fun z=>(hch _ z).2.1 rfl) ho I.free
 ·obtain ⟨v,o,ho,hd⟩:=I.cell x c e
  exact free c o (fun z=>(hch c z).2.2.1 x c e rfl) ho (I.freeC x c e)
 ·obtain ⟨e,n,ne,nf,d⟩:=I.pin p hp
  have nch:p.1∉ch:=fun z=>(hch p.1 z).2.2.2 p hp rfl
  exact ⟨keep p.1 p.2 ne nf nch e n,free p.1 p.2 nch e n,ne,nf,d⟩
theorem Inv.un {t':Nat} (I:Inv X pins σ H s) (u:Un X.fs [] H H' s.heap h') (hok:HOk X.prog X.w H' h'):Inv X pins σ H' { s with heap:=h',toks:=t' }:=by
 obtain ⟨m,⟨o,es,ep,ho,r⟩,_⟩:=id I.loc
 obtain ⟨sl,hL⟩:=u.any ho I.free (by simp)
 exact I.step (g':=s.gens) (d':=s.drawn) (ch:=[]) (fun _ z=>nomatch z) (fun b o _ hb _ e n=>u.keep b o e n hb (by simp)) (fun b o _ hb _ e n=>u.slot b o e n hb (by simp)) (fun b o _ e n=>u.free b o e n (by simp)) (fun b o _ e=>u.there b o e (by simp)) u.tups u.frzs u.tbls (fun m' hm=>by
  obtain ⟨o',es',ep',ho',r'⟩:=hm
  rw [ho] at ho'; cases ho'
  exact ⟨_,es',ep',hL,r'⟩) hok I.bare
theorem Inv.call {g':Array GenState} {t':Nat} {d':Drawn} {ch:List Addr} (I:Inv X pins σ H s) (u:Un (frs X.stack) ch H H' s.heap h') (hok:HOk X.prog X.w H' h') (hg:AllBare g')
  (hch:∀ b∈ch,(b∈X.ex∨X.s₀.heap.objs.size≤b)∧b≠X.env.locals∧(∀ x c,X.env.cells.lookup x=some c→c≠b)∧∀ p∈X.pn++pins,p.1≠b) :
  Inv X pins σ H' { s with heap:=h',gens:=g',drawn:=d',toks:=t' }:=by
 obtain ⟨m,⟨o,es,ep,ho,r⟩,_⟩:=id I.loc
 obtain ⟨sl,hL⟩:=u.any ho I.free fun z=>(hch _ z).2.1 rfl
 exact I.step (ch:=ch) hch (fun b o hL hb hc e n=>u.keep b o e n (fun z=>(List.mem_cons.mp (I.stkSub b z)).elim hL hb) hc) (fun b o _ _ hc e n=>u.any e n hc) (fun b o hc e n=>u.free b o e n hc) (fun b o hc e=>u.there b o e hc) u.tups u.frzs u.tbls (fun m' hm=>by
  obtain ⟨o',es',ep',ho',r'⟩:=hm
  rw [ho] at ho'; cases ho'
  exact ⟨_,es',ep',hL,r'⟩) hok hg
theorem Inv.turned {t':Nat} {it:Addr} (I:Inv X pins σ H s) (k:∀ b o,b≠it→s.heap.get? b=some o→h'.get? b=some o) (hn:H it=none) (hL:it≠X.env.locals)
  (h1:it∈X.ex∨X.s₀.heap.objs.size≤it) (h2:∀ x c,X.env.cells.lookup x=some c→c≠it) (h3:∀ p∈X.pn++pins,p.1≠it):Inv X pins σ H { s with heap:=h',toks:=t' }:=by
 have nit:∀ b u,H b=some u→b≠it:=fun b u e z=>by rw [z,hn] at e; cases e
 refine I.step (g':=s.gens) (d':=s.drawn) (ch:=[it]) (fun b hb=>?_) (fun b o _ _ hc e _=>k b o (fun z=>hc (by simp [z])) e) (fun b o _ _ hc e _=>⟨o.slots,k b o (fun z=>hc (by simp [z])) e⟩) (fun _ _ _ _ n=>n)
  (fun b o hc e=>⟨o,k b o (fun z=>hc (by simp [z])) e⟩) (fun _ _ e=>e) (fun _ _ _ e=>e) (fun b ps e=>⟨#[],by rw [e]; simp⟩) (fun m hm=>?_) (fun b u e=>?_) I.bare
 ·have e:b=it:=by simpa using hb
  subst e
  exact ⟨h1,hL,h2,h3⟩
 ·obtain ⟨o,es,ep,ho,r⟩:=hm
  exact ⟨o,es,ep,k _ o (Ne.symm hL) ho,r⟩
 ·refine (I.hok b u e).stay (fun c v hc q=>k c v ?_ q) (fun _ q=>q) fun _ _ q=>q
  rcases hc with z | z
  ·rw [z]; exact nit b u e
  ·exact nit c _ z
theorem Inv.tok (I:Inv X pins σ H s) (t:Nat):Inv X pins σ H { s with toks:=t }:=I.un (h':=s.heap) (t':=t) Un.refl I.hok
theorem Inv.kept {t':Nat} (I:Inv X pins σ H s) (k:∀ b u,s.heap.get? b=some u→h'.get? b=some u):Inv X pins σ H { s with heap:=h',toks:=t' }:=I.un (Un.kept k) (I.hok.kept k)
theorem Inv.laid {a:Addr} {o:HO} {t':Nat} (I:Inv X pins σ H s) (k:∀ b u,s.heap.get? b=some u→h'.get? b=some u) (hp:s.heap.objs.size≤a) (new:ObjOk X.prog X.w (upd H a o) h' a o) :
  Inv X pins σ (upd H a o) { s with heap:=h',toks:=t' }:=I.un (Un.laid k hp (I.hok.fresh hp)) (I.hok.laid k hp new)
theorem Inv.write {x e:Addr} {o:HO} {t':Nat} (I:Inv X pins σ H s) (mu:Mut (H x)) (he:e=x∨H e=some (.own x)) (k:∀ b u,b≠e→s.heap.get? b=some u→h'.get? b=some u) (heo:∃ u,h'.get? e=some u)
  (new:ObjOk X.prog X.w (upd H x o) h' x o):Inv X pins σ (upd H x o) { s with heap:=h',toks:=t' }:=I.un (Un.write mu he k heo) (I.hok.write mu he k heo new)
theorem Inv.pins_of {pins':List (Addr×Obj)} (I:Inv X pins σ H s) (h:∀ p∈pins',s.heap.get? p.1=some p.2∧H p.1=none∧p.1≠X.env.locals∧p.1∉X.fs∧∀ v,p.2.data≠.cell v):Inv X pins' σ H s:=
 ⟨I.ok,I.os,I.bare,I.base,I.loc,I.cell,I.free,I.freeC,fun p hp=>(List.mem_append.mp hp).elim (fun z=>I.pin p (List.mem_append_left _ z)) (h p),I.hok,I.len⟩
theorem nodup_ix {N:List Str} (hN:N.Nodup) {i j:Nat} {x:Str} (a:N[i]? = some x) (b:N[j]? = some x):i=j:=by
 obtain ⟨h1,e1⟩:=List.getElem?_eq_some_iff.mp a
 obtain ⟨h2,e2⟩:=List.getElem?_eq_some_iff.mp b
 exact (List.getElem_inj hN).mp (e1.trans e2.symm)
theorem store_ok2 {M:Model} {A:Around} {E:Value→Shared→Prop} {i:Nat} {x:Str} {v:V} {u:Value} {Q:Unit→Shared→Prop} (I:Inv X pins σ H s) (hN:X.N.Nodup) (hi:X.N[i]? = some x) (hx:Loc X.env.scope x) (r:RelV v u)
  (h:∀ s',Inv X pins (σ.set i (some v)) H s'→(∃ a,Heap.SameBut a s.heap s'.heap∧(a=X.env.locals∨X.env.cells.lookup x=some a))→Q () s') (hf:X.fn x=true∨X.env.scope.names.lookup x=some .local:=by first | exact .inl rfl | exact .inr rfl | assumption):wpAny M A (storeName X.env x u) Q E s:=by
 obtain ⟨m,hn,hl⟩:=id I.loc
 have hcls:(X.env.scope.kind == .class || (X.env.scope.kind == .module && X.env.locals != X.env.globals))=false:=by rw [I.ok.kind]; rfl
 have hiσ:i<σ.length:=by rw [I.len]; exact (List.getElem?_eq_some_iff.mp hi).1
 have cne:=I.cne
 have tracked:∀{a:Addr} {h':Heap},(∃ o,s.heap.get? a=some o∧H a=none)→Heap.SameBut a s.heap h'→HOk X.prog X.w H h':=fun {a h'} ha hs b ob e=>by
  obtain ⟨_,_,hfree⟩:=ha
  refine (I.hok b ob e).stay (fun c w' hc q=>(hs.2 c ?_).trans q) (fun _ q=>q) fun _ _ q=>q
  rintro rfl
  rcases hc with rfl | hc
  ·rw [hfree] at e; cases e
  ·rw [hfree] at hc; cases hc
 rcases hx with hk | hk
 ·refine wpAny_storeName_local hk hn (fun h' hn' hs=>?_) hcls
  obtain ⟨oL,_,_,hoL,_⟩:=id hn
  refine h _ ⟨I.ok,I.os,I.bare,⟨fun b o e n hb hx=>?_,fun b o e n hb hx=>?_,I.base.free,fun b o e hx=>?_,I.base.tups,I.base.frzs,I.base.tbls⟩,⟨_,hn',fun j y v' e1 e2 e3=>?_⟩,fun y c e=>?_,I.free,I.freeC,fun p hp=>?_,tracked ⟨oL,hoL,I.free⟩ hs,by simpa using I.len⟩ ⟨_,hs,.inl rfl⟩
  ·exact (hs.2 b (Nat.ne_of_lt (Nat.lt_of_lt_of_le (Heap.lt_size e) I.ok.above))).trans (I.base.keep b o e n hb hx)
  ·obtain ⟨sl,e1⟩:=I.base.slot b o e n hb hx
   exact ⟨sl,(hs.2 b (Nat.ne_of_lt (Nat.lt_of_lt_of_le (Heap.lt_size e) I.ok.above))).trans e1⟩
  ·obtain ⟨o',e1⟩:=I.base.there b o e hx
   exact ⟨o',(hs.2 b (Nat.ne_of_lt (Nat.lt_of_lt_of_le (Heap.lt_size e) I.ok.above))).trans e1⟩
  ·by_cases hj:j=i
   ·subst hj
    rw [hi] at e1; cases e1
    rw [List.getElem?_set_self hiσ] at e2
    cases e2
    exact ⟨u,r,.inl ⟨hk,by simp⟩⟩
   ·rw [List.getElem?_set_ne (Ne.symm hj)] at e2
    obtain ⟨u',r',q⟩:=hl j y v' e1 e2 e3
    refine ⟨u',r',?_⟩
    rcases q with ⟨k,e⟩ | ⟨k,c,e,z⟩
    ·refine .inl ⟨k,?_⟩
     have:y≠x:=fun e=>hj (nodup_ix hN e1 (e ▸ hi))
     simp [this,e]
    ·exact .inr ⟨k,c,e,z.sameBut hs (cne y c e)⟩
  ·obtain ⟨w',z⟩:=I.cell y c e
   exact ⟨w',z.sameBut hs (cne y c e)⟩
  ·obtain ⟨e,n,ne,nf,d⟩:=I.pin p hp
   exact ⟨(hs.2 p.1 ne).trans e,n,ne,nf,d⟩
 ·have hfn:X.fn x=true:=by
   rcases hf with z | z
   ·exact z
   ·rw [z] at hk; cases hk
  obtain ⟨c,hc⟩:=I.ok.has x (.inl hk)
  obtain ⟨w',z⟩:=I.cell x c hc
  refine wpAny_storeName_cell I.ok.kind hk hc z (fun h' hc' hs=>?_)
  obtain ⟨oc,hoc,hocd⟩:=id z
  refine h { s with heap:=h' } ⟨I.ok,I.os,I.bare,⟨fun b o e n hb hx=>?_,fun b o e n hb hx=>?_,I.base.free,fun b o e hx=>?_,I.base.tups,I.base.frzs,I.base.tbls⟩,⟨m,hn.sameBut hs (Ne.symm (cne x c hc)),fun j y v' e1 e2 e3=>?_⟩,fun y c' e=>?_,I.free,I.freeC,fun p hp=>?_,tracked ⟨oc,hoc,I.freeC x c hc⟩ hs,by simpa using I.len⟩ ⟨c,hs,.inr hc⟩
  ·exact (hs.2 b (Nat.ne_of_lt (Nat.lt_of_lt_of_le (Heap.lt_size e) (I.ok.cab x c hfn hc)))).trans (I.base.keep b o e n hb hx)
  ·obtain ⟨sl,e1⟩:=I.base.slot b o e n hb hx
   exact ⟨sl,(hs.2 b (Nat.ne_of_lt (Nat.lt_of_lt_of_le (Heap.lt_size e) (I.ok.cab x c hfn hc)))).trans e1⟩
  ·obtain ⟨o',e1⟩:=I.base.there b o e hx
   exact ⟨o',(hs.2 b (Nat.ne_of_lt (Nat.lt_of_lt_of_le (Heap.lt_size e) (I.ok.cab x c hfn hc)))).trans e1⟩
  ·by_cases hj:j=i
   ·subst hj
    rw [hi] at e1; cases e1
    rw [List.getElem?_set_self hiσ] at e2
    cases e2
    exact ⟨u,r,.inr ⟨.inl hk,c,hc,hc'⟩⟩
   ·rw [List.getElem?_set_ne (Ne.symm hj)] at e2
    obtain ⟨u',r',q⟩:=hl j y v' e1 e2 e3
    refine ⟨u',r',?_⟩
    rcases q with q | ⟨k,c',e,z'⟩
    ·exact .inl q
    ·refine .inr ⟨k,c',e,z'.sameBut hs ?_⟩
     rintro rfl
     exact hj (nodup_ix hN e1 (I.ok.inj _ _ _ e hc ▸ hi))
  ·by_cases hcc:c'=c
   ·subst hcc; exact ⟨_,hc'⟩
   ·obtain ⟨w2,z2⟩:=I.cell y c' e
    exact ⟨w2,z2.sameBut hs hcc⟩
  ·obtain ⟨e,n,ne,nf,d⟩:=I.pin p hp
   refine ⟨(hs.2 p.1 ?_).trans e,n,ne,nf,d⟩
   intro q
   rw [q,hoc] at e
   have q':oc=p.2:=Option.some.inj e
   exact d w' (by rw [← q']; exact hocd)
theorem store_ok {M:Model} {A:Around} {E:Value→Shared→Prop} {i:Nat} {x:Str} {v:V} {u:Value} {Q:Unit→Shared→Prop} (I:Inv X pins σ H s) (hN:X.N.Nodup) (hi:X.N[i]? = some x) (hx:Loc X.env.scope x) (r:RelV v u)
  (h:∀ s',Inv X pins (σ.set i (some v)) H s'→Q () s') (hf:X.fn x=true∨X.env.scope.names.lookup x=some .local:=by first | exact .inl rfl | exact .inr rfl | assumption):wpAny M A (storeName X.env x u) Q E s:=
 store_ok2 I hN hi hx r (fun s' I' _=>h s' I') hf
theorem Inv.call' {s':Shared} {ch:List Addr} (I:Inv X pins σ H s) (ho:s'.os=s.os) (u:Un (frs X.stack) ch H H' s.heap s'.heap) (hok:HOk X.prog X.w H' s'.heap) (hg:AllBare s'.gens)
  (hch:∀ b∈ch,(b∈X.ex∨X.s₀.heap.objs.size≤b)∧b≠X.env.locals∧(∀ x c,X.env.cells.lookup x=some c→c≠b)∧∀ p∈X.pn++pins,p.1≠b):Inv X pins σ H' s':=by
 obtain ⟨h',g',d',t',o'⟩:=s'
 have e:o'=s.os:=ho
 subst e
 exact I.call (g':=g') (t':=t') (d':=d') u hok hg hch
end
abbrev XK:=Value→Option Addr→Hp→Prop
abbrev St:=List (Option V)
abbrev VK:=V→Hp→Prop
abbrev TE:=St→Hp→VK→Prop
abbrev TT:=St→Hp→(Bool→Hp→Prop)→Prop
abbrev TA:=St→Hp→(List V→Hp→Prop)→Prop
structure Ends where
 nx:St→Hp→Prop
 rt:VK
 bk:St→Hp→Prop:=fun _ _=>False
 ct:St→Hp→Prop:=fun _ _=>False
abbrev TS:=Ends→St→Hp→Prop
def EP (X:Cx) (pins:List (Addr×Obj)) (σ:St) (Q:VK) (u:Value) (s':Shared):Prop:=∃ v H',Inv X pins σ H' s'∧RelV v u∧Q v H'
def TP (X:Cx) (pins:List (Addr×Obj)) (σ:St) (Q:Bool→Hp→Prop) (b:Bool) (s':Shared):Prop:=∃ H',Inv X pins σ H' s'∧Q b H'
def AP (X:Cx) (pins:List (Addr×Obj)) (σ:St) (Q:List V→Hp→Prop) (us:List Value) (s':Shared):Prop:=∃ vs H',Inv X pins σ H' s'∧Vals vs us∧Q vs H'
def SP (X:Cx) (pins:List (Addr×Obj)) (D:Ends) (f:Flow) (s':Shared):Prop:=
 match f with
 | .next=>∃ σ' H',Inv X pins σ' H' s'∧D.nx σ' H'
 | .brk=>∃ σ' H',Inv X pins σ' H' s'∧D.bk σ' H'
 | .cont=>∃ σ' H',Inv X pins σ' H' s'∧D.ct σ' H'
 | .ret u=>∃ v σ' H',Inv X pins σ' H' s'∧RelV v u∧D.rt v H'
def PE (X:Cx) (e:Expr) (t:TE):Prop:=
 ∀(pins:List (Addr×Obj)) (s:Shared) (σ:St) (H:Hp) (Q:VK),Inv X pins σ H s→t σ H Q→wpAny (model X.prog X.w) X.A (eval e X.env) (EP X pins σ Q) X.xe s
def PT (X:Cx) (e:Expr) (t:TT):Prop:=
 ∀(pins:List (Addr×Obj)) (s:Shared) (σ:St) (H:Hp) (Q:Bool→Hp→Prop),Inv X pins σ H s→t σ H Q→wpAny (model X.prog X.w) X.A (isTrue e X.env (eval e X.env)) (TP X pins σ Q) X.xe s
def PW (X:Cx) (e:Expr) (t:TT):Prop:=
 ∀(whole:Sem Value) (pins:List (Addr×Obj)) (s:Shared) (σ:St) (H:Hp) (Q:Bool→Hp→Prop),Inv X pins σ H s→t σ H Q→wpAny (model X.prog X.w) X.A (isTrue e X.env whole) (TP X pins σ Q) X.xe s
theorem PW.pt {X:Cx} {e:Expr} {t:TT} (h:PW X e t):PT X e t:=h _
def PA (X:Cx) (es:List Expr) (t:TA):Prop:=
 ∀(pos:Pos) (pins:List (Addr×Obj)) (s:Shared) (σ:St) (H:Hp) (Q:List V→Hp→Prop),Inv X pins σ H s→t σ H Q→wpAny (model X.prog X.w) X.A (spliced (backTo pos (starEach es X.env))) (AP X pins σ Q) X.xe s
def PS (X:Cx) (st:Stmt) (t:TS):Prop:=
 ∀(pins:List (Addr×Obj)) (s:Shared) (σ:St) (H:Hp) (D:Ends),Inv X pins σ H s→t D σ H→wpAny (model X.prog X.w) X.A (exec st X.env) (SP X pins D) X.xe s
def PSs (X:Cx) (st:List Stmt) (t:TS):Prop:=
 ∀(pins:List (Addr×Obj)) (s:Shared) (σ:St) (H:Hp) (D:Ends),Inv X pins σ H s→t D σ H→wpAny (model X.prog X.w) X.A (execs st X.env) (SP X pins D) X.xe s
theorem thn {α:Type} {t:Sem α} {Q Q':α→Shared→Prop} {M:Model} {A:Around} {E:Value→Shared→Prop} {s:Shared} (h:wpAny M A t Q E s) (hQ:∀ a s,Q a s→Q' a s):wpAny M A t Q' E s:=wpAny_mono h hQ fun _ _ x=>x
section
variable {X:Cx}
theorem bin {a b:Expr} {ta tb:TE} (ha:PE X a ta) (hb:PE X b tb) {pins:List (Addr×Obj)} {s:Shared} {σ:St} {H:Hp} {R:V→V→Hp→Prop} (I:Inv X pins σ H s) (h:ta σ H fun x H1=>tb σ H1 fun y H2=>R x y H2)
  {α:Type} {Q:α→Shared→Prop} {f:Value→Value→Sem α}
  (hf:∀ v u s2 x y H2,Inv X pins σ H2 s2→RelV x v→RelV y u→R x y H2→wpAny (model X.prog X.w) X.A (f v u) Q X.xe s2) :
  wpAny (model X.prog X.w) X.A (eval a X.env) (fun v s₁=>wpAny (model X.prog X.w) X.A (eval b X.env) (fun u s₂=>wpAny (model X.prog X.w) X.A (f v u) Q X.xe s₂) X.xe s₁) X.xe s:=by
 refine thn (ha pins s σ H _ I h) fun v s1 ⟨x,H1,I1,r1,q1⟩=>?_
 refine thn (hb pins s1 σ H1 _ I1 q1) fun u s2 ⟨y,H2,I2,r2,q2⟩=>?_
 exact hf v u s2 x y H2 I2 r1 r2 q2
def tVar (i:Nat):TE:=fun σ H Q=>∃ v,σ[i]? = some (some v)∧Q v H
def tC (v:V):TE:=fun _ H Q=>Q v H
theorem pe_var {i:Nat} {x:Str} {pos:Pos} (hN:X.N[i]? = some x) (hv:Vis X.env.scope x) (hd:(x == ("__debug__" : Str))=false:=by decide) (hcd:(x == ("__classdict__" : Str))=false:=by decide):PE X (.Name x pos) (tVar i):=by
 intro pins s σ H Q I h
 obtain ⟨v,e,h⟩:=h
 obtain ⟨m,hn,hl⟩:=I.loc
 obtain ⟨u,r,l⟩:=hl i x v hN e hv
 have fin:EP X pins σ Q u s:=⟨v,H,I,r,h⟩
 rcases l with ⟨hk,hm⟩ | ⟨hk,c,hc,hcell⟩
 ·exact wpAny_Name (wpAny_loadName_local I.ok.kind hk hn hm fin) hd
 ·rcases hk with hk | hk
  ·exact wpAny_Name (wpAny_loadName_cell I.ok.kind hk hc hcell fin) hd
  ·exact wpAny_Name (wpAny_loadName_free I.ok.kind hk hc hcell fin hcd) hd
theorem pe_int {i j pos}:PE X (.Constant (.int i) j pos) (tC (.int i)):=fun _ _ _ H _ I h=>wpAny_Constant_int ⟨.int i,H,I.tok _,⟨_,rfl⟩,h⟩
theorem pe_bl {b j pos}:PE X (.Constant (.bool b) j pos) (tC (.bl b)):=fun _ _ _ H _ I h=>Constant_bool ⟨.bl b,H,I,rfl,h⟩
theorem pe_non {j pos}:PE X (.Constant .none j pos) (tC .non):=fun _ _ _ H _ I h=>Constant_none ⟨.non,H,I,rfl,h⟩
theorem pe_str {x j pos}:PE X (.Constant (.str x) j pos) (tC (.str x)):=fun _ _ _ H _ I h=>Calls.Constant_str ⟨.str x,H,I.tok _,⟨_,rfl⟩,h⟩
def Gl (X:Cx) (x:Str):Prop:=X.env.kindOf x=some .globalImplicit
theorem ld_glob {E:Value→Shared→Prop} {pins:List (Addr×Obj)} {s:Shared} {σ:St} {H:Hp} {x:Str} {u:Value} {pos:Pos} {Q:Value→Shared→Prop} (I:Inv X pins σ H s) (hg:Gl X x) (hm:X.mg x=some u) (h:Q u s)
  (hd:(x == ("__debug__" : Str))=false:=by decide):wpAny (model X.prog X.w) X.A (eval (.Name x pos) X.env) Q E s:=
 Calls.Name_function_global I.ok.kind hg (Calls.loadGlobal_global (by rw [I.ok.glob]; exact I.mod.glob.keeps I.bk) hm h) hd
theorem ld_blt {E:Value→Shared→Prop} {pins:List (Addr×Obj)} {s:Shared} {σ:St} {H:Hp} {x:Str} {u:Value} {pos:Pos} {Q:Value→Shared→Prop} (I:Inv X pins σ H s) (hg:Gl X x) (hm:X.mg x=none) (hv:bootBuiltins x=some u) (h:Q u s)
  (hn:x≠"__name__":=by decide) (hd:(x == ("__debug__" : Str))=false:=by decide):wpAny (model X.prog X.w) X.A (eval (.Name x pos) X.env) Q E s:=by
 obtain ⟨mb,h1,h2⟩:=I.mod.blt
 exact Calls.Name_function_global I.ok.kind hg (Calls.loadGlobal_builtin (by rw [I.ok.glob]; exact I.mod.glob.keeps I.bk) hm (by rw [I.ok.blt]; exact h1.keeps I.bk) ((h2 x hn).trans hv) h) hd
theorem pe_glob {x:Str} {v:V} {u:Value} {pos:Pos} (hg:Gl X x) (hm:X.mg x=some u) (r:RelV v u) (hd:(x == ("__debug__" : Str))=false:=by decide):PE X (.Name x pos) (tC v):=
 fun _ _ _ H _ I h=>ld_glob I hg hm ⟨v,H,I,r,h⟩ hd
theorem pe_bltn {x:Str} {v:V} {u:Value} {pos:Pos} (hg:Gl X x) (hm:X.mg x=none) (hv:bootBuiltins x=some u) (r:RelV v u) (hn:x≠"__name__":=by decide) (hd:(x == ("__debug__" : Str))=false:=by decide):PE X (.Name x pos) (tC v):=
 fun _ _ _ H _ I h=>ld_blt I hg hm hv ⟨v,H,I,r,h⟩ hn hd
variable {a b:Expr} {ta tb:TE} {pos:Pos}
variable {tA tB':TT} {rest:List Expr}
def tAnd (t u:TT):TT:=fun σ H Q=>t σ H fun c H1=>if c=true then u σ H1 Q else Q false H1
def tOr (t u:TT):TT:=fun σ H Q=>t σ H fun c H1=>if c=true then Q true H1 else u σ H1 Q
def tNot (t:TT):TT:=fun σ H Q=>t σ H fun c H1=>Q (!c) H1
theorem pw_and1 (ha:PT X a tA):PW X (.BoolOp .And [a] pos) tA:=by
 intro wh pins s σ H Q I h
 refine isTrue_and (thn (ha pins s σ H Q I h) fun c s1 e=>?_)
 cases c with
 | true=>exact isTrue_and_nil e
 | false=>exact e
theorem pw_or1 (ha:PT X a tA):PW X (.BoolOp .Or [a] pos) tA:=by
 intro wh pins s σ H Q I h
 refine isTrue_or (thn (ha pins s σ H Q I h) fun c s1 e=>?_)
 cases c with
 | false=>exact isTrue_or_nil e
 | true=>exact e
theorem pw_and (ha:PT X a tA) (hb:PW X (.BoolOp .And (b::rest) pos) tB'):PW X (.BoolOp .And (a::b::rest) pos) (tAnd tA tB'):=by
 intro wh pins s σ H Q I h
 refine isTrue_and (thn (ha pins s σ H _ I h) fun c s1 ⟨H1,I1,q1⟩=>?_)
 cases c with
 | true=>exact hb wh pins s1 σ H1 Q I1 q1
 | false=>exact ⟨H1,I1,q1⟩
theorem pw_or (ha:PT X a tA) (hb:PW X (.BoolOp .Or (b::rest) pos) tB'):PW X (.BoolOp .Or (a::b::rest) pos) (tOr tA tB'):=by
 intro wh pins s σ H Q I h
 refine isTrue_or (thn (ha pins s σ H _ I h) fun c s1 ⟨H1,I1,q1⟩=>?_)
 cases c with
 | true=>exact ⟨H1,I1,q1⟩
 | false=>exact hb wh pins s1 σ H1 Q I1 q1
theorem pt_not (ha:PT X a tA):PT X (.UnaryOp .Not a pos) (tNot tA):=by
 intro pins s σ H Q I h
 exact isTrue_not (ha pins s σ H (fun c H1=>Q (!c) H1) I h)
def tAndV (ta tb:TE):TE:=fun σ H Q=>ta σ H fun x H1=>∃ c,x=.bl c∧if c=true then tb σ H1 Q else Q (.bl false) H1
def tOrV (ta tb:TE):TE:=fun σ H Q=>ta σ H fun x H1=>∃ c,x=.bl c∧if c=true then Q (.bl true) H1 else tb σ H1 Q
theorem pe_one {op} {t:TE} (h:PE X a t):PE X (.BoolOp op [a] pos) t:=fun pins s σ H Q I hw=>BoolOp_one (h pins s σ H Q I hw)
theorem pe_and (ha:PE X a ta) (hb:PE X (.BoolOp .And (b::rest) pos) tb):PE X (.BoolOp .And (a::b::rest) pos) (tAndV ta tb):=by
 intro pins s σ H Q I h
 refine BoolOp_and (thn (ha pins s σ H _ I h) fun v s1 ⟨x,H1,I1,r1,q1⟩=>?_)
 obtain ⟨c,rfl,q1⟩:=q1
 cases r1
 refine wpAny_truthy_bool ?_
 cases c with
 | true=>exact hb pins s1 σ H1 Q I1 q1
 | false=>exact ⟨.bl false,H1,I1,rfl,q1⟩
theorem pe_or (ha:PE X a ta) (hb:PE X (.BoolOp .Or (b::rest) pos) tb):PE X (.BoolOp .Or (a::b::rest) pos) (tOrV ta tb):=by
 intro pins s σ H Q I h
 refine BoolOp_or (thn (ha pins s σ H _ I h) fun v s1 ⟨x,H1,I1,r1,q1⟩=>?_)
 obtain ⟨c,rfl,q1⟩:=q1
 cases r1
 refine wpAny_truthy_bool ?_
 cases c with
 | false=>exact hb pins s1 σ H1 Q I1 q1
 | true=>exact ⟨.bl true,H1,I1,rfl,q1⟩
def tIf (t:TT) (ta tb:TE):TE:=fun σ H Q=>t σ H fun c H1=>if c=true then ta σ H1 Q else tb σ H1 Q
theorem pe_ifExp {c:Expr} (hc:PT X c tA) (ha:PE X a ta) (hb:PE X b tb):PE X (.IfExp c a b pos) (tIf tA ta tb):=by
 intro pins s σ H Q I h
 refine wpAny_IfExp (thn (hc pins s σ H _ I h) fun d s1 ⟨H1,I1,q1⟩=>?_)
 cases d with
 | true=>exact ha pins s1 σ H1 Q I1 q1
 | false=>exact hb pins s1 σ H1 Q I1 q1
end
def SqL (K:PySem.W.Frag) (H:Hp) (a:Addr) (xs:List V):Prop:=
 Rd H a (.lst xs)∨
  ∃(o:Obj) (its:Array Value) (n:Nat),K.lookup a=some o∧o.cls=.type "list"∧o.dict=none∧o.data=.seq its n∧its.size≤sizeLine∧Vals xs its.toList
def SqT (K:PySem.W.Frag) (H:Hp) (a:Addr) (xs:List V):Prop:=
 Rd H a (.tup xs)∨
  ∃(o:Obj) (its:Array Value) (n:Nat),K.lookup a=some o∧o.cls=.type "tuple"∧o.data=.seq its n∧its.size≤sizeLine∧Vals xs its.toList
def absV:Value→Option V
 | .none=>some .non
 | .bool b=>some (.bl b)
 | .int i _=>some (.int i)
 | .str x _=>some (.str x)
 | .bytes b _=>some (.byt b)
 | .float b _=>some (.flt b)
 | .ref a=>some (.ref a)
 | .type n=>some (.ty n)
 | _=>none
theorem RelV.abs {x:V} {u:Value} (r:RelV x u):absV u=some x:=by
 cases x with
 | non=>cases r; rfl
 | bl _=>cases r; rfl
 | int _=>obtain ⟨t,rfl⟩:=r; rfl
 | str _=>obtain ⟨t,rfl⟩:=r; rfl
 | byt _=>obtain ⟨t,rfl⟩:=r; rfl
 | flt _=>obtain ⟨t,rfl⟩:=r; rfl
 | ref _=>cases r; rfl
 | ty _=>cases r; rfl
theorem RelV.inj {x y:V} {u:Value} (r:RelV x u) (q:RelV y u):x=y:=Option.some.inj (r.abs.symm.trans q.abs)
theorem Vals.inj:∀{xs ys:List V} {us:List Value},Vals xs us→Vals ys us→xs=ys
 | _,_,_,.nil,.nil=>rfl
 | _,_,_,.cons r t,.cons r' t'=>by rw [r.inj r',Vals.inj t t']
section
variable {X:Cx} {pins:List (Addr×Obj)} {σ:St} {H:Hp} {s:Shared} {a:Addr} {xs ys:List V}
theorem SqL.of {K:PySem.W.Frag} (h:H a=some (.lst xs)):SqL K H a xs:=.inl (.inl h)
theorem SqT.of {K:PySem.W.Frag} (h:H a=some (.tup xs)):SqT K H a xs:=.inl (.inl h)
theorem Inv.list (I:Inv X pins σ H s) (h:SqL X.K H a xs):∃ its:List Value,Vals xs its∧PlainL s.heap a its.toArray∧xs.length≤sizeLine:=by
 rcases h with h | ⟨o,its,n,hk,hc,hd,hs,hz,r⟩
 ·obtain ⟨z,its,n,r,e⟩:=h.ok I.hok
  exact ⟨its,r,⟨_,n,e,rfl,rfl,rfl⟩,z⟩
 ·refine ⟨its.toList,r,⟨o,n,I.kIn a o hk,hc,hd,by simpa using hs⟩,?_⟩
  have e:=r.length
  simp only [Array.length_toList] at e
  omega
theorem Inv.tuple (I:Inv X pins σ H s) (h:SqT X.K H a xs):∃ its:List Value,Vals xs its∧IsTup s.heap a its.toArray∧xs.length≤sizeLine:=by
 rcases h with h | ⟨o,its,n,hk,hc,hs,hz,r⟩
 ·obtain ⟨z,its,r,p⟩:=h.ok I.hok
  exact ⟨its,r,p.1,z⟩
 ·refine ⟨its.toList,r,⟨o,I.kIn a o hk,hc,n,by simpa using hs⟩,?_⟩
  have e:=r.length
  simp only [Array.length_toList] at e
  omega
theorem Inv.list_inj (I:Inv X pins σ H s) (h:SqL X.K H a xs) (h':SqL X.K H a ys):xs=ys:=by
 obtain ⟨its,r,⟨o,n,e,_,_,d⟩,_⟩:=I.list h
 obtain ⟨its',r',⟨o',n',e',_,_,d'⟩,_⟩:=I.list h'
 rw [e] at e'; cases e'
 rw [d] at d'
 injection d' with d1 _
 have:its=its':=by simpa using congrArg Array.toList d1
 subst this
 exact r.inj r'
theorem Inv.tuple_inj (I:Inv X pins σ H s) (h:SqT X.K H a xs) (h':SqT X.K H a ys):xs=ys:=by
 obtain ⟨its,r,⟨o,e,_,n,d⟩,_⟩:=I.tuple h
 obtain ⟨its',r',⟨o',e',_,n',d'⟩,_⟩:=I.tuple h'
 rw [e] at e'; cases e'
 rw [d] at d'
 injection d' with d1 _
 have:its=its':=by simpa using congrArg Array.toList d1
 subst this
 exact r.inj r'
end
abbrev Cx.wish (X:Cx) (E:Value→Shared→Prop):Cx:={ X with xe:=E }
abbrev Cx.nox (X:Cx):Cx:=X.wish fun _ _=>False
theorem Cx.Ok.wish {X:Cx} (ok:X.Ok) (E:Value→Shared→Prop):(X.wish E).Ok:=
 ⟨ok.mod,ok.kind,ok.glob,ok.blt,ok.above,ok.inj,ok.has,ok.cab,ok.hd,ok.frames,ok.stk,ok.exf,ok.bs,ok.bsz,ok.noex,ok.exfs,ok.funs,ok.frf⟩
theorem Cx.Ok.unwish {X:Cx} {E:Value→Shared→Prop} (ok:(X.wish E).Ok):X.Ok:=
 ⟨ok.mod,ok.kind,ok.glob,ok.blt,ok.above,ok.inj,ok.has,ok.cab,ok.hd,ok.frames,ok.stk,ok.exf,ok.bs,ok.bsz,ok.noex,ok.exfs,ok.funs,ok.frf⟩
section
variable {X:Cx} {pins:List (Addr×Obj)} {σ:St} {H:Hp} {s:Shared} {E:Value→Shared→Prop}
theorem Inv.wish (I:Inv X pins σ H s) (E:Value→Shared→Prop):Inv (X.wish E) pins σ H s:=⟨I.ok.wish E,I.os,I.bare,I.base,I.loc,I.cell,I.free,I.freeC,I.pin,I.hok,I.len⟩
theorem Inv.unwish (I:Inv (X.wish E) pins σ H s):Inv X pins σ H s:=⟨I.ok.unwish,I.os,I.bare,I.base,I.loc,I.cell,I.free,I.freeC,I.pin,I.hok,I.len⟩
theorem SP.unwish {D:Ends} {f:Flow} {s':Shared} (h:SP (X.wish E) pins D f s'):SP X pins D f s':=by
 cases f with
 | next=>obtain ⟨σ',H',I,q⟩:=h; exact ⟨σ',H',I.unwish,q⟩
 | brk=>obtain ⟨σ',H',I,q⟩:=h; exact ⟨σ',H',I.unwish,q⟩
 | cont=>obtain ⟨σ',H',I,q⟩:=h; exact ⟨σ',H',I.unwish,q⟩
 | ret u=>obtain ⟨v,σ',H',I,r,q⟩:=h; exact ⟨v,σ',H',I.unwish,r,q⟩
theorem PSs.nox {st:List Stmt} {t:TS} (h:PSs X.nox st t):PSs X st t:=fun pins s σ H D I hw=>
 wpAny_mono (h pins s σ H D (I.wish _) hw) (fun _ _ q=>q.unwish) fun _ _ z=>False.elim z
end
section
variable {X:Cx} {st:Stmt} {rest:List Stmt} {t u:TS} {e:Expr} {te:TE} {pos:Pos}
def tNext:TS:=fun D σ H=>D.nx σ H
def tSeq (t u:TS):TS:=fun D σ H=>t { D with nx:=u D } σ H
theorem pss_nil:PSs X [] tNext:=fun _ _ σ H _ I h=>wpAny_execs_nil ⟨σ,H,I,h⟩
theorem pss_cons (h1:PS X st t) (h2:PSs X rest u):PSs X (st::rest) (tSeq t u):=by
 intro pins s σ H D I h
 refine wpAny_execs_cons (thn (h1 pins s σ H { D with nx:=u D } I h) fun f s1 q=>?_)
 cases f with
 | next=>
  obtain ⟨σ',H',I',q⟩:=q
  exact h2 pins s1 σ' H' D I' q
 | ret v=>exact q
 | brk=>exact q
 | cont=>exact q
theorem pss_one (h1:PS X st t):PSs X [st] t:=by
 intro pins s σ H D I h
 refine wpAny_execs_cons (thn (h1 pins s σ H D I h) fun f s1 q=>?_)
 cases f with
 | next=>exact wpAny_execs_nil q
 | ret v=>exact q
 | brk=>exact q
 | cont=>exact q
theorem Inv.quiet {pins:List (Addr×Obj)} {σ:St} {H:Hp} {s:Shared} (I:Inv X pins σ H s):interactive X.env=false:=by simp [interactive,I.ok.kind]
def tDrop (te:TE):TS:=fun D σ H=>te σ H fun _ H1=>D.nx σ H1
theorem ps_expr (he:PE X e te) (hs:swapsWith e none pos.line X.env=pure false:=by rfl):PS X (.Expr e pos) (tDrop te):=by
 intro pins s σ H D I h
 exact wpAny_Expr_any (thn (he pins s σ H _ I h) fun v s1 ⟨x,H1,I1,r1,q1⟩=>⟨σ,H1,I1,q1⟩) I.quiet hs
def tRet (te:TE):TS:=fun D σ H=>te σ H D.rt
theorem ps_ret (he:PE X e te):PS X (.Return (some e) pos) (tRet te):=by
 intro pins s σ H D I h
 exact wpAny_Return_some (thn (he pins s σ H _ I h) fun v s1 ⟨x,H1,I1,r1,q1⟩=>⟨x,σ,H1,I1,r1,q1⟩)
def tIfS (c:TT) (t u:TS):TS:=fun D σ H=>c σ H fun b H1=>if b=true then t D σ H1 else u D σ H1
theorem ps_if {c:Expr} {a b:List Stmt} {tc:TT} (hc:PT X c tc) (ha:PSs X a t) (hb:PSs X b u):PS X (.If c a b pos) (tIfS tc t u):=by
 intro pins s σ H D I h
 refine wpAny_If (thn (hc pins s σ H _ I h) fun d s1 ⟨H1,I1,q1⟩=>?_)
 cases d with
 | true=>exact ha pins s1 σ H1 D I1 q1
 | false=>exact hb pins s1 σ H1 D I1 q1
end
abbrev TG:=V→St→Hp→(St→Hp→Prop)→Prop
abbrev TGs:=List V→St→Hp→(St→Hp→Prop)→Prop
def PG (X:Cx) (target:Expr) (t:TG):Prop:=
 ∀(pins:List (Addr×Obj)) (s:Shared) (σ:St) (H:Hp) (v:V) (u:Value) (Q:St→Hp→Prop),Inv X pins σ H s→RelV v u→t v σ H Q→
  wpAny (model X.prog X.w) X.A (assign target X.env u) (fun _ s'=>∃ σ' H',Inv X pins σ' H' s'∧Q σ' H') X.xe s
def PGs (X:Cx) (ts:List Expr) (t:TGs):Prop:=
 ∀(pins:List (Addr×Obj)) (s:Shared) (σ:St) (H:Hp) (vs:List V) (us:List Value) (Q:St→Hp→Prop),Inv X pins σ H s→Vals vs us→t vs σ H Q→
  wpAny (model X.prog X.w) X.A (assignInOrder ((assignEach ts X.env).map (·.2)) us) (fun _ s'=>∃ σ' H',Inv X pins σ' H' s'∧Q σ' H') X.xe s
abbrev TSet:=V→V→V→Hp→(Hp→Prop)→Prop
def PSet (X:Cx) (t:TSet):Prop:=
 ∀(pins:List (Addr×Obj)) (s:Shared) (σ:St) (H:Hp) (o i v:V) (ov iv u:Value) (Q:Hp→Prop),Inv X pins σ H s→RelV o ov→RelV i iv→RelV v u→t o i v H Q→
  wpAny (model X.prog X.w) X.A (setItem ov iv u) (fun _ s'=>∃ H',Inv X pins σ H' s'∧Q H') X.xe s
section
variable {X:Cx} {pos:Pos}
def gName (i:Nat):TG:=fun v σ H Q=>Q (σ.set i (some v)) H
theorem pg_name {i:Nat} {x:Str} (hN:X.N.Nodup) (hi:X.N[i]? = some x) (hx:Loc X.env.scope x) (hf:X.fn x=true∨X.env.scope.names.lookup x=some .local:=by first | exact .inl rfl | exact .inr rfl | assumption):PG X (.Name x pos) (gName i):=by
 intro pins s σ H v u Q I r h
 exact wpAny_assign_Name (store_ok I hN hi hx r (fun s' I'=>⟨_,H,I',h⟩) hf)
def gNil:TGs:=fun vs σ H Q=>vs=[]∧Q σ H
def gCons (t:TG) (u:TGs):TGs:=fun vs σ H Q=>∃ v r,vs=v::r∧t v σ H fun σ' H'=>u r σ' H' Q
theorem pgs_nil:PGs X [] gNil:=by
 intro pins s σ H vs us Q I r h
 obtain ⟨e,h⟩:=h
 subst e
 cases r
 exact assignInOrder_nil ⟨σ,H,I,h⟩
theorem pgs_cons {e:Expr} {es:List Expr} {t:TG} {u:TGs} (h1:PG X e t) (h2:PGs X es u)
  (hs:(assignEach (e::es) X.env).map (·.2)=assign e X.env::(assignEach es X.env).map (·.2):=by rfl):PGs X (e::es) (gCons t u):=by
 intro pins s σ H vs us Q I r h
 obtain ⟨v,vr,e1,h⟩:=h
 subst e1
 cases r with
 | cons r rr=>
  rw [hs]
  refine assignInOrder_cons (thn (h1 pins s σ H _ _ _ I r h) fun _ s1 ⟨σ1,H1,I1,q1⟩=>?_)
  exact h2 pins s1 σ1 H1 _ _ Q I1 rr q1
def gTup (K:PySem.W.Frag) (n:Nat) (t:TGs):TG:=fun v σ H Q=>∃ a xs,v=.ref a∧SqT K H a xs∧xs.length=n∧t xs σ H Q
theorem pg_tup {es:List Expr} {k:Nat} {t:TGs} {n:Nat} (hc:X.calm=true) (h:PGs X es t)
  (hn:(assignEach es X.env).length=n:=by rfl) (hst:(assignEach es X.env).findIdx? (·.1)=none:=by rfl):PG X (.Tuple es k pos) (gTup X.K n t):=by
 intro pins s σ H v u Q I r hw
 obtain ⟨a,xs,e1,hq,hl,hw⟩:=hw
 subst e1
 cases r
 obtain ⟨its,rv,ht,hz⟩:=I.tuple hq
 refine assign_Tuple_tuple (I.ok.hd hc) ht (by simp [hn,← hl,rv.length]) hst fun h' hx=>?_
 have I1:Inv X pins σ H { s with heap:=h' }:=I.kept (t':=s.toks) fun b o e=>hx b o (Nat.ne_of_lt (Heap.lt_size e)) e
 exact h pins _ σ H xs _ Q I1 (by simpa using rv) hw
def gSub (to ti:TE) (t:TSet):TG:=fun v σ H Q=>to σ H fun o H1=>ti σ H1 fun i H2=>t o i v H2 fun H3=>Q σ H3
theorem pg_sub {o i:Expr} {to ti:TE} {t:TSet} (ho:PE X o to) (hi:PE X i ti) (hs:PSet X t)
  (ha:∀ v,assign (.Subscript o i pos) X.env v=(do
   let ov ← holding [v] (eval o X.env)
   let iv ← holding [v,ov] (eval i X.env)
   standAt pos
   holding [v,ov,iv] (setItem ov iv v)
   release [v,ov,iv] []):=by intro _; rfl):PG X (.Subscript o i pos) (gSub to ti t):=by
 intro pins s σ H v u Q I r h
 rw [ha]
 refine wpAny_bind (wpAny_holding (thn (ho pins s σ H _ I h) fun ov s1 ⟨x,H1,I1,r1,q1⟩=>?_))
 refine wpAny_bind (wpAny_holding (thn (hi pins s1 σ H1 _ I1 q1) fun iv s2 ⟨y,H2,I2,r2,q2⟩=>?_))
 refine wpAny_bind (wpAny_standAt (wpAny_bind (wpAny_holding (thn (hs pins s2 σ H2 x y v ov iv u _ I2 r1 r2 r q2) fun _ s3 ⟨H3,I3,q3⟩=>?_))))
 exact wpAny_release ⟨σ,H3,I3,q3⟩
def tAsg (te:TE) (g:TG):TS:=fun D σ H=>te σ H fun x H1=>g x σ H1 D.nx
theorem ps_asg {tg e:Expr} {te:TE} {g:TG} (he:PE X e te) (hg:PG X tg g) (hs:swapsWithSole [tg] e pos.line X.env=pure false:=by rfl) (hw:swappedStores [tg] e X.env=pure none:=by rfl)
  (h1:(assignEach [tg] X.env).map (·.2)=[assign tg X.env]:=by rfl):PS X (.Assign [tg] e pos) (tAsg te g):=by
 intro pins s σ H D I h
 refine wpAny_Assign_stores (thn (he pins s σ H _ I h) fun v s1 ⟨x,H1,I1,r1,q1⟩=>?_) hs hw
 rw [h1]
 exact thn (hg pins s1 σ H1 x v _ I1 r1 q1) fun _ s2 q=>q
theorem ps_set {i:Nat} {x:Str} {e:Expr} {te:TE} {pos':Pos} (hN:X.N.Nodup) (hi:X.N[i]? = some x) (hx:Loc X.env.scope x) (he:PE X e te) (hs:swapsWith e (some (.Name x pos')) pos.line X.env=pure false:=by rfl) (hf:X.fn x=true∨X.env.scope.names.lookup x=some .local:=by first | exact .inl rfl | exact .inr rfl | assumption) :
  PS X (.Assign [.Name x pos'] e pos) (tAsg te (gName i)):=by
 intro pins s σ H D I h
 refine wpAny_Assign_Name (thn (he pins s σ H _ I h) fun v s1 ⟨y,H1,I1,r1,q1⟩=>?_) hs
 exact store_ok I1 hN hi hx r1 (fun s2 I2=>⟨_,H1,I2,q1⟩) hf
end
section
variable {X:Cx} {pos:Pos}
end
structure It where
 go:Nat→Hp→Prop
 yld:Nat→Hp→V→Hp→Prop
 stop:Nat→Hp→Prop
def FpOk (X:Cx) (pins:List (Addr×Obj)) (H:Hp) (b:Addr):Prop:=
 H b=none∧b≠X.env.locals∧b∉X.fs∧(b∈X.ex∨X.s₀.heap.objs.size≤b)∧(∀ x c,X.env.cells.lookup x=some c→c≠b)∧∀ p∈X.pn++pins,p.1≠b
theorem Inv.fpOk {X:Cx} {pins:List (Addr×Obj)} {σ:St} {H H':Hp} {s:Shared} {b:Addr} (I:Inv X pins σ H s) (hb:s.heap.objs.size≤b) (hn:H' b=none):FpOk X pins H' b:=by
 refine ⟨hn,Nat.ne_of_gt (Nat.lt_of_lt_of_le I.lt hb),I.nofs hb,.inr (Nat.le_trans I.sz hb),fun x c e z=>?_,fun p hp z=>?_⟩
 ·obtain ⟨v,q⟩:=I.cell x c e
  exact absurd (Nat.lt_of_lt_of_le q.lt (by rw [z]; exact hb)) (Nat.lt_irrefl _)
 ·exact absurd (Nat.lt_of_lt_of_le (Heap.lt_size (I.pin p hp).1) (by rw [z]; exact hb)) (Nat.lt_irrefl _)
structure Turn (P:Program) (w:World) (K:PySem.W.Frag) (tg:Expr) (J:It) (fp:List Addr) (it:Addr) (tn:Nat→Heap→Prop):Prop where
 mem:it∈fp
 obj:∀ i h,tn i h→∀ b∈fp,∃ o,h.get? b=some o∧∀ v,o.data≠.cell v
 keep:∀ i h h',tn i h→(∀ b∈fp,∀ o,h.get? b=some o→h'.get? b=some o)→tn i h'
 item:∀(X:Cx),X.prog=P→X.w=w→X.K=K→X.calm=true→∀(i:Nat) (pins:List (Addr×Obj)) (s:Shared) (σ:St) (H:Hp) (E:Value→Shared→Prop),Inv X pins σ H s→(∀ b∈fp,FpOk X pins H b)→tn i s.heap→J.go i H→
  wpAny (model P w) X.A (pyNext (.ref it)) (fun r s1=>∃ u,r=some u∧
   wpAny (model P w) X.A (letOwnedTupleGo tg (.ref it) u) (fun _ s2=>∃ x H',Inv X pins σ H' s2∧RelV x u∧J.yld i H x H'∧tn (i+1) s2.heap∧∀ b∈fp,H' b=none) E s1) E s
 done:∀(X:Cx),X.prog=P→X.w=w→X.K=K→X.calm=true→∀(i:Nat) (pins:List (Addr×Obj)) (s:Shared) (σ:St) (H:Hp) (E:Value→Shared→Prop),Inv X pins σ H s→(∀ b∈fp,FpOk X pins H b)→tn i s.heap→J.stop i H→
  wpAny (model P w) X.A (pyNext (.ref it)) (fun r s1=>r=none∧Inv X pins σ H s1) E s
 self:∀(A:Around) (i:Nat) (s:Shared) (Q:Value→Shared→Prop) (E:Value→Shared→Prop),tn i s.heap→Q (.ref it) s→wpAny (model P w) A (pyIter (.ref it)) Q E s
abbrev TI:=St→Hp→(It→Hp→Prop)→Prop
def PIE (X:Cx) (pins:List (Addr×Obj)) (σ:St) (tg:Expr) (R:It→Hp→Prop) (itv:Value) (s2:Shared):Prop:=
 ∃(it:Addr) (fp:List Addr) (tn:Nat→Heap→Prop) (J:It) (H':Hp),itv=.ref it∧Inv X pins σ H' s2∧Turn X.prog X.w X.K tg J fp it tn∧tn 0 s2.heap∧(∀ b∈fp,FpOk X pins H' b)∧R J H'
def PI (X:Cx) (tg iter:Expr) (wi:TI):Prop:=
 ∀(pins:List (Addr×Obj)) (s:Shared) (σ:St) (H:Hp) (R:It→Hp→Prop),Inv X pins σ H s→wi σ H R→
  wpAny (model X.prog X.w) X.A (eval iter X.env) (fun v s1=>wpAny (model X.prog X.w) X.A (pyIter v) (PIE X pins σ tg R) X.xe s1) X.xe s
theorem go_of {M:Model} {A:Around} {E:Value→Shared→Prop} {s:Shared} {tg:Expr} {it:Addr} {u:Value} {o:Obj} {n:String} {vs:Array Value} {Q:Unit→Shared→Prop} (ho:s.heap.get? it=some o) (hc:o.cls=.type n) (hd:o.data=.fields vs)
  (hn : ["enumerate","zip","dict_itemiterator","dict_reverseitemiterator","odict_iterator","itertools.zip_longest","itertools.pairwise"].contains n=false) (hQ:Q () s):wpAny M A (letOwnedTupleGo tg (.ref it) u) Q E s:=by
 unfold letOwnedTupleGo
 cases tg <;> first
  | exact wpAny_pure hQ
  | (cases u <;> first
    | exact wpAny_pure hQ
    | (refine wpAny_bind (wpAny_load ho ?_)
       rw [hc,hd]
       show wpAny M A (if (["enumerate","zip","dict_itemiterator","dict_reverseitemiterator","odict_iterator","itertools.zip_longest","itertools.pairwise"].contains n && vs[0]? == some (rawInt _))=true then _ else _) Q E s
       rw [if_neg (by intro h; rw [hn,Bool.false_and] at h; cases h)]
       exact wpAny_pure hQ))
def Itl (K:PySem.W.Frag) (a:Addr):It:=
 ⟨fun i H=>∃ xs x,SqL K H a xs∧xs[i]? = some x,fun i H x H'=>H'=H∧∀ xs,SqL K H a xs→xs[i]? = some x,fun i H=>∃ xs,SqL K H a xs∧xs.length≤i⟩
def Itt (K:PySem.W.Frag) (a:Addr):It:=
 ⟨fun i H=>∃ xs x,SqT K H a xs∧xs[i]? = some x,fun i H x H'=>H'=H∧∀ xs,SqT K H a xs→xs[i]? = some x,fun i H=>∃ xs,SqT K H a xs∧xs.length≤i⟩
def Itr (lo:Int) (n:Nat):It:=⟨fun i _=>i<n,fun i H x H'=>H'=H∧x=.int (lo+i),fun i _=>n≤i⟩
theorem turn_list {P:Program} {w:World} {K:PySem.W.Frag} {tg:Expr} (a it:Addr):Turn P w K tg (Itl K a) [it] it (fun i h=>h.IsListIter it a i) where
 mem:=by simp
 obj:=fun i h st b hb=>by
  have e:b=it:=by simpa using hb
  subst e
  obtain ⟨o,e,c,d⟩:=st
  exact ⟨o,e,fun v z=>by rw [d] at z; cases z⟩
 keep:=fun i h h' st k=>st.at fun o e=>k it (by simp) o e
 item:=by
  intro X hP hw hK hc i pins s σ H E I hf st hg
  subst hP hw hK
  obtain ⟨xs,x,hq,hx⟩:=hg
  obtain ⟨its,rv,p,hz⟩:=I.list hq
  obtain ⟨u,hu,ru⟩:=rv.get hx
  obtain ⟨f0,f1,f2,f3,f4,f5⟩:=hf it (by simp)
  refine wpAny_pyNext_list_item st p.isList (x:=u) (by simpa using hu) fun h' st' sb=>?_
  have I1:Inv X pins σ H { s with heap:=h' }:=I.turned (t':=s.toks) (fun b o hb e=>(sb.2 b hb).trans e) f0 f1 f3 f4 f5
  obtain ⟨o,e,c,d⟩:=id st'
  exact ⟨u,rfl,go_of (s:={ s with heap:=h' }) e c d (by decide) ⟨x,H,I1,ru,⟨rfl,fun ys hy=>by rw [I.list_inj hy hq]; exact hx⟩,st',fun b hb=>(hf b hb).1⟩⟩
 done:=by
  intro X hP hw hK hc i pins s σ H E I hf st hg
  subst hP hw hK
  obtain ⟨xs,hq,hx⟩:=hg
  obtain ⟨its,rv,p,hz⟩:=I.list hq
  obtain ⟨f0,f1,f2,f3,f4,f5⟩:=hf it (by simp)
  have hl:=rv.length
  exact wpAny_pyNext_list_end (I.ok.hd hc) st p.isList (by simp; omega) fun h' eb=>⟨rfl,I.turned (t':=s.toks) (fun b o hb e=>eb b o hb e) f0 f1 f3 f4 f5⟩
 self:=fun _ _ _ _ _ st h=>wpAny_pyIter_listiter st h
theorem turn_tuple {P:Program} {w:World} {K:PySem.W.Frag} {tg:Expr} (a it:Addr):Turn P w K tg (Itt K a) [it] it (fun i h=>h.IsTupleIter it a i) where
 mem:=by simp
 obj:=fun i h st b hb=>by
  have e:b=it:=by simpa using hb
  subst e
  obtain ⟨o,e,c,d⟩:=st
  exact ⟨o,e,fun v z=>by rw [d] at z; cases z⟩
 keep:=fun i h h' st k=>st.at fun o e=>k it (by simp) o e
 item:=by
  intro X hP hw hK hc i pins s σ H E I hf st hg
  subst hP hw hK
  obtain ⟨xs,x,hq,hx⟩:=hg
  obtain ⟨its,rv,p,hz⟩:=I.tuple hq
  obtain ⟨u,hu,ru⟩:=rv.get hx
  obtain ⟨f0,f1,f2,f3,f4,f5⟩:=hf it (by simp)
  refine wpAny_pyNext_tuple_item st (show s.heap.IsTuple a its.toArray from p) (x:=u) (by simpa using hu) fun h' st' sb=>?_
  have I1:Inv X pins σ H { s with heap:=h' }:=I.turned (t':=s.toks) (fun b o hb e=>(sb.2 b hb).trans e) f0 f1 f3 f4 f5
  obtain ⟨o,e,c,d⟩:=id st'
  exact ⟨u,rfl,go_of (s:={ s with heap:=h' }) e c d (by decide) ⟨x,H,I1,ru,⟨rfl,fun ys hy=>by rw [I.tuple_inj hy hq]; exact hx⟩,st',fun b hb=>(hf b hb).1⟩⟩
 done:=by
  intro X hP hw hK hc i pins s σ H E I hf st hg
  subst hP hw hK
  obtain ⟨xs,hq,hx⟩:=hg
  obtain ⟨its,rv,p,hz⟩:=I.tuple hq
  obtain ⟨f0,f1,f2,f3,f4,f5⟩:=hf it (by simp)
  have hl:=rv.length
  exact wpAny_pyNext_tuple_end (I.ok.hd hc) st (show s.heap.IsTuple a its.toArray from p) (by simp; omega) fun h' eb=>⟨rfl,I.turned (t':=s.toks) (fun b o hb e=>eb b o hb e) f0 f1 f3 f4 f5⟩
 self:=fun _ _ _ _ _ st h=>wpAny_pyIter_tupleiter st h
theorem turn_range {P:Program} {w:World} {K:PySem.W.Frag} {tg:Expr} (it:Addr) (lo:Int) (n:Nat):Turn P w K tg (Itr lo n) [it] it (fun i h=>IsRangeIter h it (lo+(i:Nat)*1) ((n:Int) - (i:Nat)) 1) where
 mem:=by simp
 obj:=fun i h st b hb=>by
  have e:b=it:=by simpa using hb
  subst e
  exact ⟨_,st,fun v z=>by
   have z':Data.fields _=Data.cell v:=z
   cases z'⟩
 keep:=fun i h h' st k=>k it (by simp) _ st
 item:=by
  intro X hP hw hK hc i pins s σ H E I hf st hg
  subst hP hw hK
  obtain ⟨f0,f1,f2,f3,f4,f5⟩:=hf it (by simp)
  have W:=Walks.range (prog:=X.prog) (w:=X.w) (I.ok.hd hc) it lo 1 n
  refine W.item i s _ _ hg st fun v h' tk hv st' kk=>?_
  obtain ⟨t,rfl⟩:=hv
  have I1:Inv X pins σ H { s with heap:=h',toks:=tk }:=I.turned (fun b o hb e=>kk b o (by simpa using hb) e) f0 f1 f3 f4 f5
  refine ⟨_,rfl,go_of (s:={ s with heap:=h',toks:=tk }) (n:="range_iterator") st' rfl rfl (by decide) ⟨.int (lo+i),H,I1,⟨t,?_⟩,⟨rfl,rfl⟩,st',fun b hb=>(hf b hb).1⟩⟩
  rw [Int.mul_one]
 done:=by
  intro X hP hw hK hc i pins s σ H E I hf st hg
  subst hP hw hK
  obtain ⟨f0,f1,f2,f3,f4,f5⟩:=hf it (by simp)
  exact wpAny_pyNext_range_end (I.ok.hd hc) st (by have:n≤i:=hg; omega) fun h' eb=>⟨rfl,I.turned (t':=s.toks) (fun b o hb e=>eb b o hb e) f0 f1 f3 f4 f5⟩
 self:=fun _ _ _ _ _ st h=>wpAny_pyIter_rangeiter st h
section
variable {X:Cx} {tg:Expr}
theorem range_it {pins:List (Addr×Obj)} {σ:St} {H:Hp} {s:Shared} {R:It→Hp→Prop} {E:Value→Shared→Prop} {lo hi:Int} {t u v:Tok} {tk:Nat} (I:Inv X pins σ H s) (h1 : -(2 ^ 62)≤lo) (h2:lo<2 ^ 62) (h3 : -(2 ^ 62)≤hi) (h4:hi<2 ^ 62)
  (q:R (Itr lo (hi - lo).toNat) H):wpAny (model X.prog X.w) X.A (pyIter (.ref s.heap.objs.size)) (PIE X pins σ tg R) E { s with heap:=s.heap.push { cls:=.type "range",data:=.fields #[.int lo t,.int hi u,.int 1 v] },toks:=tk }:=by
 refine wpAny_pyIter_range (IsRange.new ..) (small_one h1 h2 h3 h4) ?_
 have I1:Inv X pins σ H { s with heap:=s.heap.push { cls:=.type "range",data:=.fields #[.int lo t,.int hi u,.int 1 v] },toks:=tk }:=I.kept fun b o e=>Heap.get?_push_of_some _ e
 refine ⟨(s.heap.push { cls:=.type "range",data:=.fields #[.int lo t,.int hi u,.int 1 v] }).objs.size,[(s.heap.push { cls:=.type "range",data:=.fields #[.int lo t,.int hi u,.int 1 v] }).objs.size],_,_,H,rfl,
  I1.kept (t':=tk) fun b o e=>Heap.get?_push_of_some _ e,turn_range _ lo (hi - lo).toNat,?_,fun b hb=>?_,q⟩
 ·have e1:lo+((0:Nat):Int)*1=lo:=by simp
  have e2:(((hi - lo).toNat:Nat):Int) - ((0:Nat):Int)=Builtin.Range.rangeSize lo hi 1:=by rw [rangeSize_one]; split <;> omega
  show IsRangeIter _ _ (lo+((0:Nat):Int)*1) ((((hi - lo).toNat:Nat):Int) - ((0:Nat):Int)) 1
  rw [e1,e2]
  exact Heap.get?_push_size _ rfl
 ·have e:b=(s.heap.push { cls:=.type "range",data:=.fields #[.int lo t,.int hi u,.int 1 v] }).objs.size:=by simpa using hb
  subst e
  exact I1.fpOk (Nat.le_refl _) (I1.hok.fresh (Nat.le_refl _))
def iRng1 (ta:TA):TI:=fun σ H R=>ta σ H fun vs H1=>∃ j:Int,vs=[.int j]∧-(2 ^ 62)≤j∧j<2 ^ 62∧R (Itr 0 j.toNat) H1
def iRng2 (ta:TA):TI:=fun σ H R=>ta σ H fun vs H1=>∃ i j:Int,vs=[.int i,.int j]∧(-(2 ^ 62)≤i∧i<2 ^ 62∧-(2 ^ 62)≤j∧j<2 ^ 62)∧R (Itr i (j - i).toNat) H1
theorem pi_range1 {a:Expr} {ta:TA} {p pos:Pos} (hg:Gl X "range") (hm:X.mg "range" = none) (ha:PA X [a] ta) (hs:starEach [a] X.env=[(false,eval a X.env)]:=by rfl):PI X tg (.Call (.Name "range" p) [a] [] pos) (iRng1 ta):=by
 intro pins s σ H R I h
 refine Call_ (ld_blt I hg hm boot_range (PyProof.Rows.callWith_type1 (thn (ha pos pins s σ H _ I h) fun us s1 ⟨vs,H1,I1,r1,q1⟩=>?_) hs rfl))
 obtain ⟨j,e,q1,q2,q⟩:=q1
 subst e
 cases r1 with
 | cons r rr=>
  cases rr
  obtain ⟨t,rfl⟩:=r
  exact call_range_1 (range_it I1 (by omega) (by omega) q1 q2 (by simpa using q))
theorem pi_range2 {a b:Expr} {ta:TA} {p pos:Pos} (hg:Gl X "range") (hm:X.mg "range" = none) (ha:PA X [a,b] ta) (hs:starEach [a,b] X.env=[(false,eval a X.env),(false,eval b X.env)]:=by rfl) (hs2:starEach [b] X.env=[(false,eval b X.env)]:=by rfl) :
  PI X tg (.Call (.Name "range" p) [a,b] [] pos) (iRng2 ta):=by
 intro pins s σ H R I h
 refine Call_ (ld_blt I hg hm boot_range (PyProof.Rows.callWith_type1 (thn (ha pos pins s σ H _ I h) fun us s1 ⟨vs,H1,I1,r1,q1⟩=>?_) (by rw [hs,hs2]) (by rw [hs2]; rfl)))
 obtain ⟨i,j,e,⟨q1,q2,q3,q4⟩,q⟩:=q1
 subst e
 cases r1 with
 | cons r rr=>
  cases rr with
  | cons r' rr=>
   cases rr
   obtain ⟨t,rfl⟩:=r
   obtain ⟨t',rfl⟩:=r'
   exact call_range_2 (range_it I1 q1 q2 q3 q4 q)
def tFor (wi:TI) (g:TG) (tb:TS):TS:=fun D σ H=>wi σ H fun J H1=>∃ W:Nat→Nat→St→Hp→Prop,(∃ m,W 0 m σ H1)∧∀ i m σ H,W i m σ H→
 (J.stop i H∧D.nx σ H)∨(J.go i H∧∃ N:St→Hp→Prop,(∀ σ' H',N σ' H'→∃ m',m'<m∧W (i+1) m' σ' H')∧∀ x H',J.yld i H x H'→g x σ H' fun σ2 H2=>tb { D with nx:=N,ct:=N,bk:=D.nx } σ2 H2)
def pinsAt (fp:List Addr) (h:Heap):List (Addr×Obj):=fp.filterMap fun b=>(h.get? b).map fun o=>(b,o)
theorem mem_pinsAt {fp:List Addr} {h:Heap} {b:Addr} {o:Obj} (hb:b∈fp) (e:h.get? b=some o):(b,o)∈pinsAt fp h:=List.mem_filterMap.mpr ⟨b,hb,by rw [e]; rfl⟩
theorem of_pinsAt {fp:List Addr} {h:Heap} {p:Addr×Obj} (hp:p∈pinsAt fp h):p.1∈fp∧h.get? p.1=some p.2:=by
 obtain ⟨b,hb,e⟩:=List.mem_filterMap.mp hp
 cases q:h.get? b with
 | none=>rw [q] at e; cases e
 | some o=>
  rw [q] at e
  have e':(b,o)=p:=Option.some.inj e
  subst e'
  exact ⟨hb,q⟩
theorem Inv.pinned {pins:List (Addr×Obj)} {σ:St} {H:Hp} {s:Shared} {fp:List Addr} (I:Inv X pins σ H s) (hf:∀ b∈fp,FpOk X pins H b) (ho:∀ b∈fp,∃ o,s.heap.get? b=some o∧∀ v,o.data≠.cell v):Inv X (pins++pinsAt fp s.heap) σ H s:=
 I.pins_of fun p hp=>(List.mem_append.mp hp).elim (fun z=>I.pin p (List.mem_append_right _ z)) fun z=>by
  obtain ⟨hb,e⟩:=of_pinsAt z
  obtain ⟨f0,f1,f2,_⟩:=hf p.1 hb
  obtain ⟨o,e',d⟩:=ho p.1 hb
  rw [e] at e'; cases e'
  exact ⟨e,f0,f1,f2,d⟩
theorem Inv.unpinned {pins pl:List (Addr×Obj)} {σ:St} {H:Hp} {s:Shared} (I:Inv X (pins++pl) σ H s):Inv X pins σ H s:=I.pins_of fun p hp=>I.pin p (List.mem_append_right _ (List.mem_append_left _ hp))
theorem ps_for {iter:Expr} {body:List Stmt} {wi:TI} {g:TG} {tb:TS} {pos:Pos} (hp:PassesOwn (model X.prog X.w) X.A X.env X.xe) (hc:X.calm=true) (hi:PI X tg iter wi) (hg:PG X tg g) (hb:PSs X body tb)
  (hs:∀ x,foldedSetIterable iter X.env x=pure x:=by intro _; rfl):PS X (.For tg iter body [] pos) (tFor wi g tb):=by
 intro pins s σ H D I h
 refine wpAny_For (thn (hi pins s σ H _ I h) fun v s1 h1=>thn h1 fun itv s2 h2=>?_) hs
 obtain ⟨it,fp,tn,J,H2,e,I2,T,st2,f2,W,⟨m0,w0⟩,turn⟩:=h2
 subst e
 have stat:∀{H':Hp},(∀ b∈fp,H' b=none)→∀ b∈fp,FpOk X pins H' b:=fun hn b hb=>⟨hn b hb,(f2 b hb).2⟩
 refine codeAny_forLoop_any (fun n s'=>∃ i σ' H',Inv X pins σ' H' s'∧tn i s'.heap∧(∀ b∈fp,H' b=none)∧W i n σ' H') ?_ m0 ⟨0,σ,H2,I2,st2,fun b hb=>(f2 b hb).1,w0⟩
 rintro n s3 ⟨i,σ3,H3,I3,st3,fr3,w3⟩
 rcases turn i n σ3 H3 w3 with ⟨stop,qn⟩ | ⟨go,N,hN,step⟩
 ·refine wpAny_passesOwn hp (thn (T.done X rfl rfl rfl hc i pins s3 σ3 H3 X.xe I3 (stat fr3) st3 stop) fun r s4 ⟨hr,I4⟩=>?_)
  subst hr
  exact wpAny_execs_nil ⟨σ3,H3,I4,qn⟩
 ·refine wpAny_passesOwn hp (thn (T.item X rfl rfl rfl hc i pins s3 σ3 H3 X.xe I3 (stat fr3) st3 go) fun r s4 ⟨u,hr,h4⟩=>?_)
  subst hr
  refine wpAny_passesOwn hp (thn h4 fun _ s5 ⟨x,H5,I5,r5,y5,st5,fr5⟩=>?_)
  have I5':=I5.pinned (stat fr5) (T.obj _ _ st5)
  refine wpAny_passesOwn hp (thn (hg _ s5 σ3 H5 x u _ I5' r5 (step x H5 y5)) fun _ s6 ⟨σ6,H6,I6,q6⟩=>?_)
  refine wpAny_passesOwn hp (thn (hb _ s6 σ6 H6 _ I6 q6) fun f s7 q7=>?_)
  have again:∀{σ7:St} {H7:Hp},Inv X (pins++pinsAt fp s5.heap) σ7 H7 s7→N σ7 H7→∃ m,m<n∧∃ i σ' H',Inv X pins σ' H' s7∧tn i s7.heap∧(∀ b∈fp,H' b=none)∧W i m σ' H':=fun {σ7 H7} I7 n7=>by
   obtain ⟨m',hm,w7⟩:=hN σ7 H7 n7
   refine ⟨m',hm,i+1,σ7,H7,I7.unpinned,T.keep _ _ _ st5 fun b hb o e=>(I7.pin (b,o) (List.mem_append_right _ (List.mem_append_right _ (mem_pinsAt hb e)))).1,fun b hb=>?_,w7⟩
   obtain ⟨o,e,d⟩:=T.obj _ _ st5 b hb
   exact (I7.pin (b,o) (List.mem_append_right _ (List.mem_append_right _ (mem_pinsAt hb e)))).2.1
  cases f with
  | next=>obtain ⟨σ7,H7,I7,n7⟩:=q7; exact again I7 n7
  | cont=>obtain ⟨σ7,H7,I7,n7⟩:=q7; exact again I7 n7
  | brk=>obtain ⟨σ7,H7,I7,q7⟩:=q7; exact ⟨σ7,H7,I7.unpinned,q7⟩
  | ret v=>obtain ⟨x7,σ7,H7,I7,r7,q7⟩:=q7; exact ⟨x7,σ7,H7,I7.unpinned,r7,q7⟩
end
abbrev R2:=V→V→Hp→VK→Prop
def OpR (X:Cx) (f:Value→Value→Sem Value) (r:R2):Prop:=
 ∀(pins:List (Addr×Obj)) (s:Shared) (σ:St) (H:Hp) (x y:V) (v u:Value) (Q:VK),Inv X pins σ H s→RelV x v→RelV y u→r x y H Q→
  wpAny (model X.prog X.w) X.A (f v u) (EP X pins σ Q) X.xe s
def UnR (X:Cx) (f:Value→Sem Value) (r:V→Hp→VK→Prop):Prop:=
 ∀(pins:List (Addr×Obj)) (s:Shared) (σ:St) (H:Hp) (x:V) (v:Value) (Q:VK),Inv X pins σ H s→RelV x v→r x H Q→
  wpAny (model X.prog X.w) X.A (f v) (EP X pins σ Q) X.xe s
def CallR (X:Cx) (f:Value) (r:List V→Hp→VK→Prop):Prop:=
 ∀(pins:List (Addr×Obj)) (s:Shared) (σ:St) (H:Hp) (xs:List V) (us:List Value) (Q:VK),Inv X pins σ H s→Vals xs us→r xs H Q→
  wpAny (model X.prog X.w) X.A (call f us) (EP X pins σ Q) X.xe s
def TruR (X:Cx) (r:V→Hp→(Bool→Hp→Prop)→Prop):Prop:=
 ∀(pins:List (Addr×Obj)) (s:Shared) (σ:St) (H:Hp) (x:V) (v:Value) (Q:Bool→Hp→Prop),Inv X pins σ H s→RelV x v→r x H Q→
  wpAny (model X.prog X.w) X.A (truthy v) (TP X pins σ Q) X.xe s
def tOp (r:R2) (ta tb:TE):TE:=fun σ H Q=>ta σ H fun x H1=>tb σ H1 fun y H2=>r x y H2 Q
def tUn (r:V→Hp→VK→Prop) (ta:TE):TE:=fun σ H Q=>ta σ H fun x H1=>r x H1 Q
def rI (C:Int→Int→Prop) (g:Int→Int→V):R2:=fun x y H Q=>∃ i j,x=.int i∧y=.int j∧C i j∧Q (g i j) H
def rI0 (g:Int→Int→V):R2:=fun x y H Q=>∃ i j,x=.int i∧y=.int j∧Q (g i j) H
def rU (g:Int→V):V→Hp→VK→Prop:=fun x H Q=>∃ i,x=.int i∧Q (g i) H
section
variable {X:Cx} {a b c:Expr} {ta tb tc:TE} {pos:Pos}
theorem binT (ha:PE X a ta) (hb:PE X b tb) {pins:List (Addr×Obj)} {s:Shared} {σ:St} {H:Hp} {R:V→V→Hp→Prop} (I:Inv X pins σ H s)
  (h:ta σ H fun x H1=>tb σ H1 fun y H2=>R x y H2) {Q:Value→Shared→Prop} {f:Value→Value→Sem Value}
  (hf:∀ v u s2 x y H2,Inv X pins σ H2 s2→RelV x v→RelV y u→R x y H2→wpAny (model X.prog X.w) X.A (f v u) Q X.xe s2) :
  wpAny (model X.prog X.w) X.A (eval a X.env) (fun v s₁=>wpAny (model X.prog X.w) X.A (eval b X.env) (fun u s₂=>wpAny (model X.prog X.w) X.A (f v u) Q X.xe s₂) X.xe s₁) X.xe s:=by
 refine thn (ha pins s σ H _ I h) fun v s1 ⟨x,H1,I1,r1,q1⟩=>?_
 refine thn (hb pins s1 σ H1 _ I1 q1) fun u s2 ⟨y,H2,I2,r2,q2⟩=>?_
 exact hf v u s2 x y H2 I2 r1 r2 q2
theorem pe_op {op:Operator} {r:R2} (ho:OpR X (binaryOp op) r) (ha:PE X a ta) (hb:PE X b tb):PE X (.BinOp a op b pos) (tOp r ta tb):=by
 intro pins s σ H Q I h
 exact wpAny_BinOp (binT ha hb I h fun v u s2 x y H2 I2 rx ry q=>ho pins s2 σ H2 x y v u Q I2 rx ry q)
theorem pe_un {op:UnaryOp} {r:V→Hp→VK→Prop} (ho:UnR X (unaryOp op) r) (ha:PE X a ta):PE X (.UnaryOp op a pos) (tUn r ta):=by
 intro pins s σ H Q I h
 exact UnaryOp_ (thn (ha pins s σ H _ I h) fun v s1 ⟨x,H1,I1,r1,q1⟩=>ho pins s1 σ H1 x v Q I1 r1 q1)
theorem opI {f:Value→Value→Sem Value} {C:Int→Int→Prop} {g:Int→Int→Int}
  (rule:∀(i j:Int) (t u:Tok) (s:Shared) (Q:Value→Shared→Prop) (E:Value→Shared→Prop),C i j→Q (.int (g i j) s.toks) { s with toks:=s.toks+1 }→wpAny (model X.prog X.w) X.A (f (.int i t) (.int j u)) Q E s) :
  OpR X f (rI C fun i j=>.int (g i j)):=by
 intro pins s σ H x y v u Q I rx ry h
 obtain ⟨i,j,rfl,rfl,hc,q⟩:=h
 obtain ⟨t,rfl⟩:=rx
 obtain ⟨t',rfl⟩:=ry
 exact rule i j t t' s _ _ hc ⟨.int (g i j),H,I.tok _,⟨_,rfl⟩,q⟩
theorem opI0 {f:Value→Value→Sem Value} {g:Int→Int→Int}
  (rule:∀(i j:Int) (t u:Tok) (s:Shared) (Q:Value→Shared→Prop) (E:Value→Shared→Prop),Q (.int (g i j) s.toks) { s with toks:=s.toks+1 }→wpAny (model X.prog X.w) X.A (f (.int i t) (.int j u)) Q E s) :
  OpR X f (rI0 fun i j=>.int (g i j)):=by
 intro pins s σ H x y v u Q I rx ry h
 obtain ⟨i,j,rfl,rfl,q⟩:=h
 obtain ⟨t,rfl⟩:=rx
 obtain ⟨t',rfl⟩:=ry
 exact rule i j t t' s _ _ ⟨.int (g i j),H,I.tok _,⟨_,rfl⟩,q⟩
theorem opB0 {f:Value→Value→Sem Value} {g:Int→Int→Bool}
  (rule:∀(i j:Int) (t u:Tok) (s:Shared) (Q:Value→Shared→Prop) (E:Value→Shared→Prop),Q (.bool (g i j)) s→wpAny (model X.prog X.w) X.A (f (.int i t) (.int j u)) Q E s) :
  OpR X f (rI0 fun i j=>.bl (g i j)):=by
 intro pins s σ H x y v u Q I rx ry h
 obtain ⟨i,j,rfl,rfl,q⟩:=h
 obtain ⟨t,rfl⟩:=rx
 obtain ⟨t',rfl⟩:=ry
 exact rule i j t t' s _ _ ⟨.bl (g i j),H,I,rfl,q⟩
def CDiv (i j:Int):Prop:=0<j∧j<1073741824
def CPow (i j:Int):Prop:=0≤j∧j≤1000000∧i.natAbs<2 ^ 64
def CMul (i j:Int):Prop:=(-(2 ^ 64)<i∧i<2 ^ 64)∨(-(2 ^ 64)<j∧j<2 ^ 64)
theorem CMul.ok {i j:Int} (h:CMul i j):IntMulOk i j:=by
 rcases h with ⟨h1,h2⟩ | ⟨h1,h2⟩
 ·exact .of_left (intBits_le_64 h1 h2)
 ·exact .of_right (intBits_le_64 h1 h2)
theorem op_add:OpR X (binaryOp .Add) (rI0 fun i j=>.int (i+j)):=opI0 fun _ _ _ _ _ _ _ q=>add_int q
theorem op_sub:OpR X (binaryOp .Sub) (rI0 fun i j=>.int (i - j)):=opI0 fun _ _ _ _ _ _ _ q=>sub_int q
theorem op_mul:OpR X (binaryOp .Mult) (rI CMul fun i j=>.int (i*j)):=opI fun _ _ _ _ _ _ _ hc q=>mul_int q hc.ok
theorem op_fdiv:OpR X (binaryOp .FloorDiv) (rI CDiv fun i j=>.int (i / j)):=opI fun i j _ _ _ _ _ hc q=>by
 have h1:(0:Int)<j:=hc.1
 have h2:j<1073741824:=hc.2
 exact floordiv_int (by omega) (by rw [Int.fdiv_eq_ediv_of_nonneg i (by omega)]; exact q) (.inl (PyProof.noPylong_small (by omega)))
theorem op_mod:OpR X (binaryOp .Mod) (rI (fun _ j=>0<j) fun i j=>.int (i % j)):=opI fun i j _ _ _ _ _ hc q=>by
 have h1:(0:Int)<j:=hc
 exact mod_int' (by omega) (by rw [Int.fmod_eq_emod_of_nonneg i (by omega)]; exact q)
theorem op_pow:OpR X (binaryOp .Pow) (rI CPow fun i j=>.int (i ^ j.toNat)):=opI fun _ _ _ _ _ _ _ hc q=>pow_int_small hc.1 hc.2.1 hc.2.2 q
theorem unI {f:Value→Sem Value} {g:Int→Int}
  (rule:∀(i:Int) (t:Tok) (s:Shared) (Q:Value→Shared→Prop) (E:Value→Shared→Prop),Q (.int (g i) s.toks) { s with toks:=s.toks+1 }→wpAny (model X.prog X.w) X.A (f (.int i t)) Q E s) :
  UnR X f (rU fun i=>.int (g i)):=by
 intro pins s σ H x v Q I rx h
 obtain ⟨i,rfl,q⟩:=h
 obtain ⟨t,rfl⟩:=rx
 exact rule i t s _ _ ⟨.int (g i),H,I.tok _,⟨_,rfl⟩,q⟩
theorem un_neg:UnR X (unaryOp .USub) (rU fun i=>.int (-i)):=unI fun _ _ _ _ _ q=>neg_int q
end
def scal:V→V→Bool
 | .non,.non=>true | .non,.int _=>true | .int _,.non=>true | .non,.bl _=>true | .bl _,.non=>true | .non,.str _=>true | .str _,.non=>true
 | .int _,.int _=>true | .bl _,.bl _=>true | .str _,.str _=>true | .byt _,.byt _=>true
 | .int _,.str _=>true | .str _,.int _=>true | .bl _,.str _=>true | .str _,.bl _=>true
 | _,_=>false
def rEq:R2:=fun x y H Q=>scal x y=true∧Q (.bl (decide (x=y))) H
def rNe:R2:=fun x y H Q=>scal x y=true∧Q (.bl (!decide (x=y))) H
theorem dec_int {i j:Int}:decide (V.int i=V.int j)=(i == j):=by
 rw [Bool.eq_iff_iff]
 simp
theorem dec_bl {i j:Bool}:decide (V.bl i=V.bl j)=(i == j):=by
 rw [Bool.eq_iff_iff]
 simp
theorem dec_str {i j:Str}:decide (V.str i=V.str j)=(i == j):=by
 rw [Bool.eq_iff_iff]
 simp
theorem dec_byt {i j:Array UInt8}:decide (V.byt i=V.byt j)=(i.toList == j.toList):=by
 rw [Bool.eq_iff_iff]
 cases i
 cases j
 simp
section
variable {X:Cx} {a b c:Expr} {ta tb tc:TE} {pos:Pos}
theorem fin_bl {pins:List (Addr×Obj)} {σ:St} {H:Hp} {s:Shared} {Q:VK} {k k':Bool} (I:Inv X pins σ H s) (q:Q (.bl k) H) (e:k=k'):EP X pins σ Q (.bool k') s:=by
 subst e
 exact ⟨.bl k,H,I,rfl,q⟩
theorem op_eq:OpR X (compareOp .Eq) rEq:=by
 intro pins s σ H x y v u Q I rx ry h
 obtain ⟨hs,q⟩:=h
 cases x with
 | non=>
  cases rx
  cases y with
  | non=>cases ry; exact PySem.EqNone.eq_none_none (fin_bl I q (by simp))
  | bl j=>cases ry; exact PySem.EqNone.eq_none_bool (fin_bl I q (by simp))
  | int j=>obtain ⟨t',rfl⟩:=ry; exact PySem.EqNone.eq_none_int (fin_bl I q (by simp))
  | str j=>obtain ⟨t',rfl⟩:=ry; exact PySem.EqNone.eq_none_str (fin_bl I q (by simp))
  | _=>exact absurd (show false=true from hs) Bool.false_ne_true
 | bl i=>
  cases rx
  cases y with
  | non=>cases ry; exact PySem.EqNone.eq_bool_none (fin_bl I q (by simp))
  | bl j=>cases ry; exact eq_bool (fin_bl I q dec_bl)
  | str j=>obtain ⟨t',rfl⟩:=ry; exact PySem.EqMixed.eq_bool_str (fin_bl I q (by simp))
  | _=>exact absurd (show false=true from hs) Bool.false_ne_true
 | int i=>
  obtain ⟨t,rfl⟩:=rx
  cases y with
  | non=>cases ry; exact PySem.EqNone.eq_int_none (fin_bl I q (by simp))
  | int j=>obtain ⟨t',rfl⟩:=ry; exact eq_int (fin_bl I q dec_int)
  | str j=>obtain ⟨t',rfl⟩:=ry; exact PySem.EqMixed.eq_int_str (fin_bl I q (by simp))
  | _=>exact absurd (show false=true from hs) Bool.false_ne_true
 | str i=>
  obtain ⟨t,rfl⟩:=rx
  cases y with
  | non=>cases ry; exact PySem.EqNone.eq_str_none (fin_bl I q (by simp))
  | bl j=>cases ry; exact PySem.EqMixed.eq_str_bool (fin_bl I q (by simp))
  | int j=>obtain ⟨t',rfl⟩:=ry; exact PySem.EqMixed.eq_str_int (fin_bl I q (by simp))
  | str j=>obtain ⟨t',rfl⟩:=ry; exact eq_str (fin_bl I q dec_str)
  | _=>exact absurd (show false=true from hs) Bool.false_ne_true
 | byt i=>
  obtain ⟨t,rfl⟩:=rx
  cases y with
  | byt j=>obtain ⟨t',rfl⟩:=ry; exact PySem.W.eq_bytes (fin_bl I q dec_byt)
  | _=>exact absurd (show false=true from hs) Bool.false_ne_true
 | _=>cases y <;> exact absurd (show false=true from hs) Bool.false_ne_true
theorem op_ne:OpR X (compareOp .NotEq) rNe:=by
 intro pins s σ H x y v u Q I rx ry h
 obtain ⟨hs,q⟩:=h
 cases x with
 | non=>
  cases rx
  cases y with
  | non=>cases ry; exact PySem.EqNone.ne_none_none (fin_bl I q (by simp))
  | bl j=>cases ry; exact PySem.EqNone.ne_none_bool (fin_bl I q (by simp))
  | int j=>obtain ⟨t',rfl⟩:=ry; exact PySem.EqNone.ne_none_int (fin_bl I q (by simp))
  | str j=>obtain ⟨t',rfl⟩:=ry; exact PySem.EqNone.ne_none_str (fin_bl I q (by simp))
  | _=>exact absurd (show false=true from hs) Bool.false_ne_true
 | bl i=>
  cases rx
  cases y with
  | non=>cases ry; exact PySem.EqNone.ne_bool_none (fin_bl I q (by simp))
  | bl j=>cases ry; exact ne_bool (fin_bl I q (congrArg not dec_bl))
  | str j=>obtain ⟨t',rfl⟩:=ry; exact PySem.EqMixed.ne_bool_str (fin_bl I q (by simp))
  | _=>exact absurd (show false=true from hs) Bool.false_ne_true
 | int i=>
  obtain ⟨t,rfl⟩:=rx
  cases y with
  | non=>cases ry; exact PySem.EqNone.ne_int_none (fin_bl I q (by simp))
  | int j=>obtain ⟨t',rfl⟩:=ry; exact ne_int (fin_bl I q (congrArg not dec_int))
  | str j=>obtain ⟨t',rfl⟩:=ry; exact PySem.EqMixed.ne_int_str (fin_bl I q (by simp))
  | _=>exact absurd (show false=true from hs) Bool.false_ne_true
 | str i=>
  obtain ⟨t,rfl⟩:=rx
  cases y with
  | non=>cases ry; exact PySem.EqNone.ne_str_none (fin_bl I q (by simp))
  | bl j=>cases ry; exact PySem.EqMixed.ne_str_bool (fin_bl I q (by simp))
  | int j=>obtain ⟨t',rfl⟩:=ry; exact PySem.EqMixed.ne_str_int (fin_bl I q (by simp))
  | str j=>obtain ⟨t',rfl⟩:=ry; exact ne_str (fin_bl I q (congrArg not dec_str))
  | _=>exact absurd (show false=true from hs) Bool.false_ne_true
 | byt i=>
  obtain ⟨t,rfl⟩:=rx
  cases y with
  | byt j=>obtain ⟨t',rfl⟩:=ry; exact PySem.W.ne_bytes (fin_bl I q (congrArg not dec_byt))
  | _=>exact absurd (show false=true from hs) Bool.false_ne_true
 | _=>cases y <;> exact absurd (show false=true from hs) Bool.false_ne_true
theorem op_lt:OpR X (compareOp .Lt) (rI0 fun i j=>.bl (decide (i<j))):=opB0 fun _ _ _ _ _ _ _ q=>lt_int q
theorem op_le:OpR X (compareOp .LtE) (rI0 fun i j=>.bl (decide (i≤j))):=opB0 fun _ _ _ _ _ _ _ q=>le_int q
theorem op_gt:OpR X (compareOp .Gt) (rI0 fun i j=>.bl (decide (j<i))):=opB0 fun _ _ _ _ _ _ _ q=>gt_int q
theorem op_isN:OpR X (compareOp .Is) (fun x y H Q=>y=.non∧Q (.bl (decide (x=.non))) H):=by
 intro pins s σ H x y v u Q I rx ry h
 obtain ⟨rfl,q⟩:=h
 cases ry
 refine is_none_gen (fin_bl I q ?_)
 cases x <;> first
  | (cases rx; rfl)
  | (obtain ⟨t,rfl⟩:=rx; rfl)
theorem op_notN:OpR X (compareOp .IsNot) (fun x y H Q=>y=.non∧Q (.bl (!decide (x=.non))) H):=by
 intro pins s σ H x y v u Q I rx ry h
 obtain ⟨rfl,q⟩:=h
 cases ry
 refine isnot_none_gen (fin_bl I q ?_)
 cases x <;> first
  | (cases rx; rfl)
  | (obtain ⟨t,rfl⟩:=rx; rfl)
theorem op_notin_str:OpR X (compareOp .NotIn) (fun x y H Q=>∃ i j,x=.str i∧y=.str j∧Q (.bl (!(!(Builtin.Str.occurrences j i 0 j.length 1).isEmpty))) H):=by
 intro pins s σ H x y v u Q I rx ry h
 obtain ⟨i,j,rfl,rfl,q⟩:=h
 obtain ⟨t,rfl⟩:=rx
 obtain ⟨t',rfl⟩:=ry
 exact notIn_str (fin_bl I q rfl)
theorem OpR.or {f:Value→Value→Sem Value} {r r':R2} (h:OpR X f r) (h':OpR X f r'):OpR X f (fun x y H Q=>r x y H Q∨r' x y H Q):=by
 intro pins s σ H x y v u Q I rx ry q
 rcases q with q | q
 ·exact h pins s σ H x y v u Q I rx ry q
 ·exact h' pins s σ H x y v u Q I rx ry q
theorem nomark (b:Expr) {op:CmpOp} (h:op≠.In:=by decide) (h2:op≠.NotIn:=by decide):behindInMarks op b=false:=by
 have e1:(op == CmpOp.In)=false:=by cases op <;> first | rfl | exact absurd rfl h
 have e2:(op == CmpOp.NotIn)=false:=by cases op <;> first | rfl | exact absurd rfl h2
 cases b <;> simp [behindInMarks,e1,e2]
theorem pe_cmpR {op:CmpOp} {r:R2} (ho:OpR X (compareOp op) r) (ha:PE X a ta) (hb:PE X b tb) (hm:behindInMarks op b=false):PE X (.Compare a [op] [b] pos) (tOp r ta tb):=by
 intro pins s σ H Q I h
 exact wpAny_Compare1 (binT ha hb I h fun v u s2 x y H2 I2 rx ry q=>ho pins s2 σ H2 x y v u Q I2 rx ry q) hm
def tTest (t:TE):TT:=fun σ H Q=>t σ H fun x H'=>∃ k,x=.bl k∧Q k H'
theorem pt_cmpR {op:CmpOp} {r:R2} (ho:OpR X (compareOp op) r) (ha:PE X a ta) (hb:PE X b tb) (hm:behindInMarks op b=false):PT X (.Compare a [op] [b] pos) (tTest (tOp r ta tb)):=by
 intro pins s σ H Q I h
 refine wpAny_isTrue_Compare1 (thn (ha pins s σ H _ I h) fun v s1 ⟨x,H1,I1,r1,q1⟩=>thn (hb pins s1 σ H1 _ I1 q1) fun u s2 ⟨y,H2,I2,r2,q2⟩=>
  thn (ho pins s2 σ H2 x y v u _ I2 r1 r2 q2) fun c s3 ⟨z,H3,I3,r3,k,e,q3⟩=>?_) hm
 subst e
 cases r3
 exact wpAny_truthy_bool ⟨H3,I3,q3⟩
def tChain (r r':R2) (ta tb tc:TE):TE:=fun σ H Q=>ta σ H fun x H1=>tb σ H1 fun y H2=>r x y H2 fun z H3=>∃ k,z=.bl k∧
 (if k=true then tc σ H3 fun w' H4=>r' y w' H4 Q else Q (.bl false) H3)
theorem pt_chain {op op':CmpOp} {r r':R2} (ho:OpR X (compareOp op) r) (ho':OpR X (compareOp op') r') (ha:PE X a ta) (hb:PE X b tb) (hc:PE X c tc)
  (hm:lastMarks [op,op'] [b,c]=false:=by with_unfolding_all rfl):PT X (.Compare a [op,op'] [b,c] pos) (tTest (tChain r r' ta tb tc)):=by
 intro pins s σ H Q I h
 refine isTrue_chain (thn (ha pins s σ H _ I h) fun v s1 ⟨x,H1,I1,r1,q1⟩=>test_link (thn (hb pins s1 σ H1 _ I1 q1) fun u s2 ⟨y,H2,I2,r2,q2⟩=>
  thn (ho pins s2 σ H2 x y v u _ I2 r1 r2 q2) fun d s3 ⟨z,H3,I3,r3,k,e,q3⟩=>?_)) hm
 subst e
 cases r3
 refine wpAny_truthy_bool ?_
 cases k with
 | false=>
  obtain ⟨k',e',q'⟩:=q3
  cases e'
  exact ite_ff ⟨H3,I3,q'⟩
 | true=>
  refine ite_tt (test_last (thn (hc pins s3 σ H3 _ I3 q3) fun w' s4 ⟨z',H4,I4,r4,q4⟩=>thn (ho' pins s4 σ H4 y z' u w' _ I4 r2 r4 q4) fun d' s5 ⟨z2,H5,I5,r5,k2,e2,q5⟩=>?_))
  subst e2
  cases r5
  exact wpAny_truthy_bool ⟨H5,I5,q5⟩
def TruV (K:PySem.W.Frag) (x:V) (H:Hp) (k:Bool):Prop:=
 match x with
 | .non=>k=false
 | .bl b=>k=b
 | .int i=>k=(i != 0)
 | .str y=>y.length≤sizeLine∧k=((y.length:Int) != 0)
 | .byt y=>y.size≤sizeLine∧k=((y.size:Int) != 0)
 | .ref p=>(∃ xs,SqL K H p xs∧k = !xs.isEmpty)∨(∃ xs,SqT K H p xs∧k = !xs.isEmpty)∨∃ kvs,H p=some (.dK kvs)∧k = !kvs.isEmpty
 | _=>False
theorem isEmpty_kv {κ:Type} {kvs:List (κ×V)} {vs:List (κ×Value)} (r:KV kvs vs):(!vs.isEmpty) = !kvs.isEmpty:=by
 cases r <;> rfl
theorem isEmpty_of {xs:List V} {its:List Value} (r:Vals xs its):(!its.toArray.isEmpty) = !xs.isEmpty:=by
 cases r <;> simp
theorem line63:(sizeLine:Nat)<2 ^ 63:=by rw [sizeLine_eq]; decide
theorem tru_ok:TruR X (fun x H Q=>∃ k,TruV X.K x H k∧Q k H):=by
 intro pins s σ H x v Q I rx h
 obtain ⟨k,e,q⟩:=h
 have hl:=line63
 have hs:sizeLine=16777216:=sizeLine_eq
 cases x with
 | non=>
  cases rx
  have e':k=false:=e
  subst e'
  exact truthy_none ⟨H,I,q⟩
 | bl b=>
  cases rx
  have e':k=b:=e
  subst e'
  exact wpAny_truthy_bool ⟨H,I,q⟩
 | int i=>
  obtain ⟨t,rfl⟩:=rx
  have e':k=(i != 0):=e
  subst e'
  exact PySem.P.truthy_int ⟨H,I,q⟩
 | str y=>
  obtain ⟨t,rfl⟩:=rx
  obtain ⟨hy,e'⟩:y.length≤sizeLine∧k=((y.length:Int) != 0):=e
  subst e'
  exact PySem.P.truthy_str (by omega) ⟨H,I.tok _,q⟩
 | byt y=>
  obtain ⟨t,rfl⟩:=rx
  obtain ⟨hy,e'⟩:y.size≤sizeLine∧k=((y.size:Int) != 0):=e
  subst e'
  exact PySem.W.truthy_bytes (by omega) ⟨H,I.tok _,q⟩
 | ref p=>
  cases rx
  have e':(∃ xs,SqL X.K H p xs∧k = !xs.isEmpty)∨(∃ xs,SqT X.K H p xs∧k = !xs.isEmpty)∨∃ kvs,H p=some (.dK kvs)∧k = !kvs.isEmpty:=e
  rcases e' with ⟨xs,hx,e'⟩ | ⟨xs,hx,e'⟩ | ⟨kvs,hx,e'⟩
  ·subst e'
   obtain ⟨its,r,pl,hz⟩:=I.list hx
   have hlen:=r.length
   exact wpAny_truthy_list pl.isList (by simp only [List.size_toArray]; omega) ⟨H,I.tok _,by rw [isEmpty_of r]; exact q⟩
  ·subst e'
   obtain ⟨its,r,pl,hz⟩:=I.tuple hx
   have hlen:=r.length
   exact truthy_tuple pl (by simp only [List.size_toArray]; omega) ⟨H,I.tok _,by rw [isEmpty_of r]; exact q⟩
  ·subst e'
   obtain ⟨hz,hS,vs,r,m⟩:kvs.length≤sizeLine∧(p == sysModules)=false∧∃ vs,KV kvs vs∧s.heap.DictOf (mixKind X.prog X.w) p vs:=I.hok p _ hx
   have hlen:kvs.length=vs.length:=Paired.length r
   exact wpAny_truthy_dict hS m (by omega) ⟨H,I.tok _,by rw [isEmpty_kv r]; exact q⟩
 | _=>exact (show False from e).elim
theorem pt_truth (ha:PE X a ta) (he:∀ whole,isTrue a X.env whole=(do let v ← whole; standAt a.pos; holding [v] (truthy v))) :
  PT X a (fun σ H Q=>ta σ H fun x H'=>∃ k,TruV X.K x H' k∧Q k H'):=by
 intro pins s σ H Q I h
 exact isTrue_plain (thn (ha pins s σ H _ I h) fun v s1 ⟨x,H1,I1,r1,q1⟩=>tru_ok pins s1 σ H1 x v Q I1 r1 q1) (he _)
theorem op_add_str:OpR X (binaryOp .Add) (fun x y H Q=>∃ i j,x=.str i∧y=.str j∧i.length+j.length≤sizeLine∧Q (.str (i++j)) H):=by
 intro pins s σ H x y v u Q I rx ry h
 obtain ⟨i,j,rfl,rfl,hz,q⟩:=h
 obtain ⟨t,rfl⟩:=rx
 obtain ⟨t',rfl⟩:=ry
 exact add_str (fun t' tk=>⟨.str (i++j),H,I.tok _,⟨_,rfl⟩,q⟩) hz
theorem vals1 {x:V} {us:List Value} (r:Vals [x] us):∃ u,us=[u]∧RelV x u:=by
 cases r with
 | cons r1 r2=>cases r2; exact ⟨_,rfl,r1⟩
theorem vals2 {x y:V} {us:List Value} (r:Vals [x,y] us):∃ u w',us=[u,w']∧RelV x u∧RelV y w':=by
 cases r with
 | cons r1 r2=>
  cases r2 with
  | cons r3 r4=>cases r4; exact ⟨_,_,rfl,r1,r3⟩
theorem call_max2 (hc:X.calm=true):CallR X (.builtin "max") (fun xs H Q=>∃ i j,xs=[.int i,.int j]∧Q (.int (if j > i then j else i)) H):=by
 intro pins s σ H xs us Q I r h
 obtain ⟨i,j,rfl,q⟩:=h
 obtain ⟨u,w',rfl,⟨t,rfl⟩,⟨t',rfl⟩⟩:=vals2 r
 refine max_two_ints (I.ok.hd hc) fun h' tk k=>⟨_,H,I.kept k,?_,q⟩
 by_cases hj:j > i
 ·rw [if_pos hj,if_pos hj]; exact ⟨_,rfl⟩
 ·rw [if_neg hj,if_neg hj]; exact ⟨_,rfl⟩
theorem call_min2 (hc:X.calm=true):CallR X (.builtin "min") (fun xs H Q=>∃ i j,xs=[.int i,.int j]∧Q (.int (if j<i then j else i)) H):=by
 intro pins s σ H xs us Q I r h
 obtain ⟨i,j,rfl,q⟩:=h
 obtain ⟨u,w',rfl,⟨t,rfl⟩,⟨t',rfl⟩⟩:=vals2 r
 refine min_two_ints (I.ok.hd hc) fun h' tk k=>⟨_,H,I.kept k,?_,q⟩
 by_cases hj:j<i
 ·rw [if_pos hj,if_pos hj]; exact ⟨_,rfl⟩
 ·rw [if_neg hj,if_neg hj]; exact ⟨_,rfl⟩
theorem call_int1:CallR X (.type "int") (fun xs H Q=>(∃ i,xs=[.int i]∧Q (.int i) H)∨∃ k,xs=[.bl k]∧Q (.int (if k then 1 else 0)) H):=by
 intro pins s σ H xs us Q I r h
 rcases h with ⟨i,rfl,q⟩ | ⟨k,rfl,q⟩
 ·obtain ⟨u,rfl,t,rfl⟩:=vals1 r
  exact call_int_int ⟨.int i,H,I,⟨_,rfl⟩,q⟩
 ·obtain ⟨u,rfl,r1⟩:=vals1 r
  cases r1
  exact call_int_bool ⟨.int (if k then 1 else 0),H,I.tok _,⟨_,rfl⟩,q⟩
theorem call_str_int:CallR X (.type "str") (fun xs H Q=>∃ i,xs=[.int i]∧i.natAbs.log2<1920∧Q (.str (toString i)) H):=by
 intro pins s σ H xs us Q I r h
 obtain ⟨i,rfl,hz,q⟩:=h
 obtain ⟨u,rfl,t,rfl⟩:=vals1 r
 exact PySem.P.str_of_int hz ⟨.str _,H,I.tok _,⟨_,rfl⟩,q⟩
theorem call_divmod:CallR X (.builtin "divmod") (fun xs H Q=>∃ i j,xs=[.int i,.int j]∧CDiv i j∧∀ p,H p=none→Q (.ref p) (upd H p (.tup [.int (i / j),.int (i % j)]))):=by
 intro pins s σ H xs us Q I r h
 obtain ⟨i,j,rfl,⟨h1,h2⟩,q⟩:=h
 obtain ⟨u,w',rfl,⟨t,rfl⟩,⟨t',rfl⟩⟩:=vals2 r
 refine divmod_int (by omega) ?_ (.inl (PyProof.noPylong_small (by omega)))
 rw [Int.fdiv_eq_ediv_of_nonneg i (by omega),Int.fmod_eq_emod_of_nonneg i (by omega)]
 have hn:H s.heap.objs.size=none:=I.hok.fresh (Nat.le_refl _)
 refine ⟨.ref s.heap.objs.size,_,?_,rfl,q _ hn⟩
 refine I.laid (fun b o e=>Heap.get?_push_of_some _ e) (Nat.le_refl _) ⟨by simp only [List.length_cons,List.length_nil]; rw [sizeLine_eq]; decide,[.int (i / j) s.toks,.int (i % j) (s.toks+1)],.cons ⟨_,rfl⟩ (.cons ⟨_,rfl⟩ .nil),?_⟩
 exact ⟨⟨_,Heap.get?_push_size s.heap rfl,rfl,0,rfl⟩,NoD.new rfl⟩
end
structure ObjM (h:Heap) (x dx C:Addr) (mA:Str→Option Value):Prop where
 obj:h.get? x=some (PySem.W.instObj C dx)
 ns:h.Ns1 dx mA
 ne:dx≠x
theorem lookIn_ns {h:Heap} {dx:Addr} {mA:Str→Option Value} (n:h.Ns1 dx mA):∃ od,h.get? dx=some od∧∀ name,PySem.W.lookIn name od=some (mA name):=by
 obtain ⟨o,es,ep,ho,hd,hk,_,hm⟩:=n
 refine ⟨o,ho,fun name=>?_⟩
 have e:=hm name
 unfold nsFind findBy at e
 rw [← Array.find?_toList] at e
 unfold PySem.W.lookIn
 rw [hd]
 dsimp only
 split
 ·rename_i y q
  rw [q] at e
  exact congrArg some e
 ·rename_i q
  rw [q] at e
  have a:es.toList.any (·.refKey)=false:=by
   rw [List.any_eq_false]
   intro y hy
   obtain ⟨z,t,hkey⟩:=hk y (Array.mem_toList_iff.mp hy)
   simp [DictEntry.refKey,hkey]
  have a':¬ es.toList.any (·.refKey)=true:=by rw [a]; exact Bool.false_ne_true
  rw [if_neg a']
  exact congrArg some e
theorem ObjM.look {h:Heap} {x dx C:Addr} {mA:Str→Option Value} (I:ObjM h x dx C mA):∃ od,PySem.W.InstAt h x (PySem.W.instObj C dx) C (some od)∧∀ name,PySem.W.lookIn name od=some (mA name):=
 let ⟨od,ho,hl⟩:=lookIn_ns I.ns
 ⟨od,⟨I.obj,rfl,rfl,ho⟩,hl⟩
section
variable {prog:Program} {w:World} {A:Around} {E:Value→Shared→Prop} {s:Shared} {K:PySem.W.Frag} {x dx C f:Addr} {mA:Str→Option Value} {name:Str} {v:Value}
end
section
variable {P:Program} {w:World} {H H':Hp} {h h':Heap} {a C dx:Addr} {fs fs':List (Str×V)}
theorem ins_get (hok:HOk P w H h) (e:H a=some (.ins C dx fs)):∃ mA,ObjM h a dx C mA∧(∀ f,RelO (fs.lookup f) (mA f))∧PySem.Within mA (fs.map (·.1))∧fs.length≤1000∧H dx=some (.own a):=by
 obtain ⟨d,z,ne,ob,mA,n,r,q⟩:=(show ObjOk P w H h a (.ins C dx fs) from hok a _ e)
 exact ⟨mA,⟨ob,n,ne⟩,r,q,z,d⟩
end
structure Cls (K:PySem.W.Frag) (C:Addr):Prop where
 pg:PySem.W.plainGet K C Str.empty=true
 hd:PySem.W.hasDictIn K C=true
 po:PySem.W.plainOver K C=true
 sa:PySem.W.findIn K (.ref C) "__setattr__" = some (some (.builtin "object.__setattr__"))
theorem Cls.get {K:PySem.W.Frag} {C:Addr} (c:Cls K C) (f:Str):PySem.W.plainGet K C f=true:=c.pg
section
variable {X:Cx} {pins:List (Addr×Obj)} {σ:St} {H:Hp} {s:Shared} {a C dx:Addr} {fs:List (Str×V)} {f:Str} {v:V} {A:Around} {E:Value→Shared→Prop}
end
section
variable {X:Cx} {o e value:Expr} {f:Str} {pos pos' tpos:Pos} {ta tv:TE}
end
section
variable {X:Cx} {pins:List (Addr×Obj)} {σ:St} {H:Hp} {s:Shared} {A:Around} {E:Value→Shared→Prop} {Q:Value→Shared→Prop} {c:Value} {b:Bool}
inductive TyOf (K:PySem.W.Frag) (H:Hp):V→Value→Prop where
 | non:TyOf K H .non (.type "NoneType")
 | bl (x:Bool):TyOf K H (.bl x) (.type "bool")
 | int (i:Int):TyOf K H (.int i) (.type "int")
 | str (x:Str):TyOf K H (.str x) (.type "str")
 | flt (x:UInt64):TyOf K H (.flt x) (.type "float")
 | lst {a:Addr} {xs:List V} (e:H a=some (.lst xs)):TyOf K H (.ref a) (.type "list")
 | frz {a:Addr} {o:Obj} {xs:List V} (e:H a=some (.frz o (.lst xs))):TyOf K H (.ref a) (.type "list")
 | tup {a:Addr} {xs:List V} (e:H a=some (.tup xs)):TyOf K H (.ref a) (.type "tuple")
 | dK {a:Addr} {kvs:List (Key×V)} (e:H a=some (.dK kvs)):TyOf K H (.ref a) (.type "dict")
 | dT {a:Addr} {kvs:List (List Key×V)} (e:H a=some (.dT kvs)):TyOf K H (.ref a) (.type "dict")
 | ins {a C dx:Addr} {fs:List (Str×V)} (e:H a=some (.ins C dx fs)) (cl:Cls K C) (ha:PySem.W.findIn K (.ref C) "__class__" = some (some (.builtin "object.__class__")))
   (hn:PySem.W.specialIn K (.builtin "object.__class__") "__get__" = some (some (.builtin "getset_descriptor.__get__"))) (htk:PySem.W.takesIn K (.builtin "object.__class__")=some true)
   (hm:PySem.W.mroIn K C (.type "object")=some true):TyOf K H (.ref a) (.ref C)
theorem isinst_ok {x:V} {u t:Value} (I:Inv X pins σ H s) (rx:RelV x u) (ty:TyOf X.K H x t) (e:PySem.W.kitOne X.K t c=some b) (h:∀ tk,Q (.bool b) { s with toks:=tk }) :
  wpAny (model X.prog X.w) A (call (.builtin "isinstance") [u,c]) Q E s:=by
 cases ty with
 | non=>cases (show u=Value.none from rx); exact PySem.W.kia_one PySem.W.kitx_none I.kIn True.intro e (fun z=>nomatch z) h
 | bl y=>cases (show u=Value.bool y from rx); exact PySem.W.kia_one PySem.W.kitx_bool I.kIn True.intro e (fun z=>nomatch z) h
 | int i=>obtain ⟨t,q⟩:=(show ∃ t,u=Value.int i t from rx); cases q; exact PySem.W.kia_one PySem.W.kitx_int I.kIn True.intro e (fun z=>nomatch z) h
 | str y=>obtain ⟨t,q⟩:=(show ∃ t,u=Value.str y t from rx); cases q; exact PySem.W.kia_one PySem.W.kitx_str I.kIn True.intro e (fun z=>nomatch z) h
 | flt y=>obtain ⟨t,q⟩:=(show ∃ t,u=Value.float y t from rx); cases q; exact PySem.W.kia_one PySem.W.kitx_float I.kIn True.intro e (fun z=>nomatch z) h
 | @lst a xs ea=>
  cases (show u=Value.ref a from rx)
  obtain ⟨_,_,n,_,h1⟩:=(show ObjOk X.prog X.w H s.heap a (.lst xs) from I.hok a _ ea)
  exact PySem.W.kia_one PySem.W.kitx_list I.kIn ⟨_,h1,rfl⟩ e (fun z=>nomatch z) h
 | @frz a ob xs ea=>
  cases (show u=Value.ref a from rx)
  obtain ⟨_,_,_,n,_,h1⟩:=(show ObjOk X.prog X.w H s.heap a (.frz ob (.lst xs)) from I.hok a _ ea)
  exact PySem.W.kia_one PySem.W.kitx_list I.kIn ⟨_,h1,rfl⟩ e (fun z=>nomatch z) h
 | @tup a xs ea=>
  cases (show u=Value.ref a from rx)
  obtain ⟨_,_,_,p⟩:=(show ObjOk X.prog X.w H s.heap a (.tup xs) from I.hok a _ ea)
  obtain ⟨⟨o,h1,h2,_⟩,_⟩:=p
  exact PySem.W.kia_one PySem.W.kitx_tuple I.kIn ⟨o,h1,h2⟩ e (fun z=>nomatch z) h
 | @dK a kvs ea=>
  cases (show u=Value.ref a from rx)
  obtain ⟨_,_,vs,_,p⟩:=(show ObjOk X.prog X.w H s.heap a (.dK kvs) from I.hok a _ ea)
  obtain ⟨o,es,ep,h1,h2,_⟩:=p
  exact PySem.W.kia_one PySem.W.kitx_dict I.kIn ⟨o,h1,h2.1⟩ e (fun z=>nomatch z) h
 | @dT a kvs ea=>
  cases (show u=Value.ref a from rx)
  obtain ⟨_,_,xs,_,o,es,ep,h1,h2,_⟩:=(show ObjOk X.prog X.w H s.heap a (.dT kvs) from I.hok a _ ea)
  exact PySem.W.kia_one PySem.W.kitx_dict I.kIn ⟨o,h1,h2.1⟩ e (fun z=>nomatch z) h
 | @ins a C dx fs ea cl ha hn htk hm=>
  cases (show u=Value.ref a from rx)
  obtain ⟨mA,O,_⟩:=ins_get I.hok ea
  obtain ⟨od,J,_⟩:=O.look
  exact PySem.W.kia_one (PySem.W.kitx_own (cl.get _) cl.hd ha hn htk hm) I.kIn J e (fun z=>nomatch z) h
end
structure Room (k:Nat) (A:Around):Prop where
 hd:A.handled=none
 dp:A.depth+3*k+5<recursionLimit
 un:A.units+16*k+200<cLine
theorem Room.mono {j k:Nat} {A:Around} (r:Room k A) (h:j≤k):Room j A:=⟨r.hd,by have:=r.dp; omega,by have:=r.un; omega⟩
theorem Room.deeper {k:Nat} {A:Around} (r:Room (k+1) A) (env:Env):Room k (A.deeper env):=
 ⟨r.hd,by have:=r.dp; show A.depth+1+3*k+5<_; omega,by have:=r.un; show A.units+3+16*k+200<_; omega⟩
theorem Room.depth {k:Nat} {A:Around} (r:Room k A):A.depth<recursionLimit:=by have:=r.dp; omega
theorem Room.units {k:Nat} {A:Around} (r:Room k A):A.units+64<cLine:=by have:=r.un; omega
def tNil:TA:=fun _ H Q=>Q [] H
def tCons (ta:TE) (tr:TA):TA:=fun σ H Q=>ta σ H fun x H1=>tr σ H1 fun xs H2=>Q (x::xs) H2
section
variable {X:Cx} {e:Expr} {es:List Expr} {te:TE} {t:TA} {pos:Pos}
theorem pa_nil:PA X [] tNil:=fun _ _ _ _ H Q I h=>Calls.spliced_nil ⟨[],H,I,.nil,h⟩
theorem pa_cons (ha:PE X e te) (hr:PA X es t) (hs:starEach (e::es) X.env=(false,eval e X.env)::starEach es X.env:=by rfl):PA X (e::es) (tCons te t):=by
 intro pos pins s σ H Q I h
 rw [hs]
 show wpAny _ _ (spliced ((false,eval e X.env)::backTo pos (starEach es X.env))) _ _ s
 refine Calls.spliced_cons (thn (ha pins s σ H _ I h) fun u s1 ⟨x,H1,I1,r1,q1⟩=>?_)
 exact thn (hr pos pins s1 σ H1 _ I1 q1) fun us s2 ⟨xs,H2,I2,r2,q2⟩=>⟨x::xs,H2,I2,.cons r1 r2,q2⟩
def tTup (t:TA):TE:=fun σ H Q=>t σ H fun xs H1=>xs.length≤sizeLine∧∀ p,H1 p=none→Q (.ref p) (upd H1 p (.tup xs))
def tLst (t:TA):TE:=fun σ H Q=>t σ H fun xs H1=>xs.length≤sizeLine∧∀ p,H1 p=none→Q (.ref p) (upd H1 p (.lst xs))
theorem pe_tup {x1} (h:PA X es t):PE X (.Tuple es x1 pos) (tTup t):=by
 intro pins s σ H Q I hq
 refine wpAny_Tuple_spliced (thn (h pos pins s σ H _ I hq) fun us s1 ⟨xs,H1,I1,r,z,q⟩=>⟨by rw [← r.length]; exact z,?_⟩)
 have hf:H1 s1.heap.objs.size=none:=I1.hok.fresh (Nat.le_refl _)
 refine ⟨.ref s1.heap.objs.size,upd H1 s1.heap.objs.size (.tup xs),I1.laid (t':=s1.toks) (fun b u e=>Heap.get?_push_of_some _ e) (Nat.le_refl _) ?_,rfl,q _ hf⟩
 exact ⟨z,us,r,⟨_,Heap.get?_push_size _ rfl,rfl,_,rfl⟩,NoD.new rfl⟩
theorem pe_lst (h:PA X es t):PE X (.List es pos) (tLst t):=by
 intro pins s σ H Q I hq
 refine wpAny_List_spliced (thn (h pos pins s σ H _ I hq) fun us s1 ⟨xs,H1,I1,r,z,q⟩=>⟨by rw [← r.length]; exact z,?_⟩)
 have hf:H1 s1.heap.objs.size=none:=I1.hok.fresh (Nat.le_refl _)
 refine ⟨.ref s1.heap.objs.size,upd H1 s1.heap.objs.size (.lst xs),I1.laid (t':=s1.toks) (fun b u e=>Heap.get?_push_of_some _ e) (Nat.le_refl _) ?_,rfl,q _ hf⟩
 exact ⟨z,us,0,r,Heap.get?_push_size _ rfl⟩
end
abbrev Sp:=List V→Hp→VK→XK→Prop
abbrev CXT:=List Env→Hp→Shared→XK→Value→Shared→Prop
structure Env0 (P:Program) (w:World) (K:PySem.W.Frag) (mg:Str→Option Value) (base:Heap) (A:Around) (outer:List Env) (s:Shared) (H:Hp):Prop where
 frames:A.frames=some outer
 mod:Mod K mg base
 bs:∀ b o,base.get? b=some o→s.heap.get? b=some o∧H b=none
 bsz:base.objs.size≤s.heap.objs.size
 funs:s.heap.FunFrames base outer
 frf:∀ b∈frs outer,H b=none
 hok:HOk P w H s.heap
 bare:AllBare s.gens
def CE (outer:List Env) (P:Program) (w:World) (H:Hp) (s:Shared) (Q:VK) (u:Value) (s':Shared):Prop:=
 ∃ v H',s'.os=s.os∧AllBare s'.gens∧Un (frs outer) [] H H' s.heap s'.heap∧HOk P w H' s'.heap∧RelV v u∧Q v H'
def CR (CX:CXT) (outer:List Env) (P:Program) (w:World) (H:Hp) (s:Shared) (Q:VK) (E:XK) (r:Result) (s':Shared):Prop:=
 match r with
 | .ok (.ret u)=>CE outer P w H s Q u s'
 | .ok _=>False
 | .error e=>CX outer H s E e s'
structure FnOk (P:Program) (w:World) (K:PySem.W.Frag) (mg:Str→Option Value) (base:Heap) (CX:CXT) (k:Nat) (f:Addr) (fd:FuncData) (ps:List Str) (sp:Sp):Prop where
 len:∀ vs H Q E,sp vs H Q E→vs.length=ps.length
 run:∀(A:Around) (outer:List Env) (s:Shared) (H:Hp) (args:Args) (us:List Value) (vs:List V) (Q:VK) (E:XK),Room k A→Env0 P w K mg base A outer s H→BindsTo s fd args (ps.zip us)→Vals vs us→sp vs H Q E→
  codeAny (model P w) A (.call (.ref f) args) (CR CX outer P w H s Q E) s
section
variable {X:Cx} {pins:List (Addr×Obj)} {σ:St} {H:Hp} {s s':Shared}
theorem Inv.env0 (I:Inv X pins σ H s):Env0 X.prog X.w X.K X.mg X.base X.A X.stack s H:=
 ⟨I.ok.frames,I.ok.mod,I.bs,Nat.le_trans I.ok.bsz I.sz,I.stack,I.stkFree,I.hok,I.bare⟩
theorem Inv.after {Q:VK} {u:Value} (I:Inv X pins σ H s) (h:CE X.stack X.prog X.w H s Q u s'):EP X pins σ Q u s':=by
 obtain ⟨v,H',os,bare,un,hok,r,q⟩:=h
 obtain ⟨hh,g,d,t,os'⟩:=s'
 obtain rfl:os'=s.os:=os
 exact ⟨v,H',I.call (h':=hh) (g':=g) (d':=d) (t':=t) (ch:=[]) un hok bare (fun b z=>absurd z (by simp)),r,q⟩
end
def tCall (sp:Sp) (dvs:List V) (E:XK) (t:TA):TE:=fun σ H Q=>t σ H fun vs H1=>sp (vs++dvs) H1 Q E
def Binds (K:PySem.W.Frag) (fd:FuncData) (ps:List Str) (ds:List Value):Prop:=
 ∀(s:Shared) (us:List Value),K.In s.heap→(us++ds).length=ps.length→BindsTo s fd ⟨us,[]⟩ (ps.zip (us++ds))
theorem Binds.all {K:PySem.W.Frag} {fd:FuncData} {ps:List Str} (h:∀ us:List Value,us.length=ps.length→bindArgs fd ⟨us,[]⟩=pure (ps.zip us)):Binds K fd ps []:=fun s us _ hl=>by
 rw [List.append_nil] at hl ⊢
 exact .of_eq (h us hl)
def Passes (CX:CXT) (X:Cx) (E:XK):Prop:=∀(pins:List (Addr×Obj)) (σ:St) (H:Hp) (s:Shared) (e:Value) (s':Shared),Inv X pins σ H s→CX X.stack H s E e s'→X.xe e s'
section
variable {X:Cx} {CX:CXT} {k:Nat} {f C:Addr} {fd:FuncData} {ps:List Str} {sp:Sp} {dvs:List V} {ds:List Value} {E:XK} {x m:Str} {p pos apos:Pos} {e o:Expr} {es:List Expr} {ta:TE} {t:TA}
theorem run_fn {pins:List (Addr×Obj)} {σ:St} {H:Hp} {s:Shared} {Q:VK} {us:List Value} {vs:List V} (F:FnOk X.prog X.w X.K X.mg X.base CX k f fd ps sp) (hr:Room k X.A) (hb:Binds X.K fd ps ds) (hd:Vals dvs ds) (hx:Passes CX X E)
  (I:Inv X pins σ H s) (r:Vals vs us) (h:sp (vs++dvs) H Q E):wpAny (model X.prog X.w) X.A (call (.ref f) us) (EP X pins σ Q) X.xe s:=by
 have r2:Vals (vs++dvs) (us++ds):=r.append hd
 have hl:(us++ds).length=ps.length:=by rw [← r2.length]; exact F.len _ _ _ _ h
 refine wpAny_call (codeAny_mono (F.run X.A X.stack s H ⟨us,[]⟩ (us++ds) (vs++dvs) Q E hr I.env0 (hb s us I.kIn hl) r2 h) fun r s' hq=>?_)
 cases r with
 | error e=>exact hx pins σ H s e s' I hq
 | ok fl=>
  cases fl with
  | ret u=>exact I.after hq
  | next=>exact False.elim hq
  | brk=>exact False.elim hq
  | cont=>exact False.elim hq
theorem pe_call (F:FnOk X.prog X.w X.K X.mg X.base CX k f fd ps sp) (hr:Room k X.A) (hg:Gl X x) (hm:X.mg x=some (.ref f)) (hk:PySem.W.keepIn X.K (.ref f)=true) (hb:Binds X.K fd ps ds) (hd:Vals dvs ds) (hx:Passes CX X E)
  (ha:PA X (e::es) t) (hdb:(x == ("__debug__" : Str))=false:=by decide) (he:starEach (e::es) X.env=(false,eval e X.env)::starEach es X.env:=by rfl) (hpl:(backTo pos (starEach es X.env)).any (·.1)=false:=by rfl) :
  PE X (.Call (.Name x p) (e::es) [] pos) (tCall sp dvs E t):=by
 intro pins s σ H Q I h
 refine wpAny_Call_Name_kw (ld_glob I hg hm ?_ hdb)
 refine PySem.W.callWith_K (h₀:=X.base) I.ok.mod.kin hk (thn (ha pos pins s σ H _ I h) fun us s1 ⟨vs,H1,I1,r,q⟩=>⟨I1.kIn,?_⟩) he hpl
 exact run_fn F hr hb hd hx I1 r q
end
section
variable {X:Cx} {CX:CXT} {k:Nat} {f C:Addr} {fd:FuncData} {ps ks:List Str} {sp:Sp} {E:XK} {x m:Str} {p pos apos kpos:Pos} {e o:Expr} {es:List Expr} {kws:List Keyword} {te ta:TE} {t tk:TA} {nm:Option Str}
variable {g:List Value→List Value→List Value} {gV:List V→List V→List V}
end
structure FnScope (N P:List Str) (sc:Scope):Prop where
 kind:sc.kind=.function
 co:sc.isCoroutine=false
 gen:sc.isGenerator=false
 nd:N.Nodup
 pre:N.take P.length=P
 par:∀ x∈P,sc.names.lookup x=some .local∨sc.names.lookup x=some .cell
 nofree:∀ y∈sc.names,y.2≠.free
theorem bindL_out {kindOf:Str→Option NameKind} {x:Str}:∀{binds:List (Str×Value)} {m:Str→Option Value},(∀ v,(x,v)∉binds)→bindL kindOf binds m x=m x
 | [],_,_=>rfl
 | (n,v)::r,m,h=>by
  unfold bindL
  rw [bindL_out fun w hw=>h w (List.mem_cons_of_mem _ hw)]
  split
  ·have:x≠n:=by rintro rfl; exact h v List.mem_cons_self
   simp [this]
  ·rfl
theorem bindC_out {kindOf:Str→Option NameKind} {x:Str}:∀{binds:List (Str×Value)} {m:Str→Option Value},(∀ v,(x,v)∉binds)→bindC kindOf binds m x=m x
 | [],_,_=>rfl
 | (n,v)::r,m,h=>by
  unfold bindC
  rw [bindC_out fun w hw=>h w (List.mem_cons_of_mem _ hw)]
  split
  ·rfl
  ·have:x≠n:=by rintro rfl; exact h v List.mem_cons_self
   simp [this]
theorem bindL_get {kindOf:Str→Option NameKind} {x:Str} {v:Value}:∀{P:List Str} {vs:List Value} {i:Nat} {m:Str→Option Value},P.Nodup→P[i]? = some x→vs[i]? = some v→kindOf x=some .local→
  bindL kindOf (P.zip vs) m x=some v
 | [],_,_,_,_,h,_,_=>by simp at h
 | _::_,[],_,_,_,_,h,_=>by simp at h
 | p::P,w::vs,0,m,nd,h1,h2,hk=>by
  simp at h1 h2; subst h1; subst h2
  show bindL kindOf ((p,w)::P.zip vs) m p=_
  unfold bindL
  rw [bindL_out fun v hv=>(List.nodup_cons.mp nd).1 (List.of_mem_zip hv).1,if_pos hk]
  simp
 | p::P,w::vs,i+1,m,nd,h1,h2,hk=>by
  show bindL kindOf ((p,w)::P.zip vs) m x=_
  unfold bindL
  exact bindL_get (i:=i) (List.nodup_cons.mp nd).2 (by simpa using h1) (by simpa using h2) hk
theorem bindC_get {kindOf:Str→Option NameKind} {x:Str} {v:Value}:∀{P:List Str} {vs:List Value} {i:Nat} {m:Str→Option Value},P.Nodup→P[i]? = some x→vs[i]? = some v→kindOf x≠some .local→
  bindC kindOf (P.zip vs) m x=some v
 | [],_,_,_,_,h,_,_=>by simp at h
 | _::_,[],_,_,_,_,h,_=>by simp at h
 | p::P,w::vs,0,m,nd,h1,h2,hk=>by
  simp at h1 h2; subst h1; subst h2
  show bindC kindOf ((p,w)::P.zip vs) m p=_
  unfold bindC
  rw [bindC_out fun v hv=>(List.nodup_cons.mp nd).1 (List.of_mem_zip hv).1,if_neg hk]
  simp
 | p::P,w::vs,i+1,m,nd,h1,h2,hk=>by
  show bindC kindOf ((p,w)::P.zip vs) m x=_
  unfold bindC
  exact bindC_get (i:=i) (List.nodup_cons.mp nd).2 (by simpa using h1) (by simpa using h2) hk
def start (N:List Str) (vs:List V):St:=vs.map some++List.replicate (N.length - vs.length) none
def cxOf (CX:CXT) (P:Program) (w:World) (K:PySem.W.Frag) (mg:Str→Option Value) (base:Heap) (N:List Str) (qual:Str) (scope:Scope) (f:Addr) (cd:Value) (A:Around) (outer:List Env) (s:Shared) (H:Hp) (E:XK):Cx where
 prog:=P
 w:=w
 K:=K
 mg:=mg
 base:=base
 A:=A.deeper (envOfC qual scope s.heap.objs.size f cd)
 N:=N
 s₀:=s
 H₀:=H
 env:=envOfC qual scope s.heap.objs.size f cd
 outer:=outer
 stack:=envOfC qual scope s.heap.objs.size f cd::outer
 ex:=[]
 calm:=true
 fn:=fun _=>true
 pn:=[]
 xe:=fun e s'=>wpAny (model P w) (A.deeper (envOfC qual scope s.heap.objs.size f cd)) (leaving (envOfC qual scope s.heap.objs.size f cd) e) (fun _ s''=>CX outer H s E e s'') (fun e' s''=>CX outer H s E e' s'') s'
theorem cell_has {sc:Scope} {n:Nat} {x:Str} (h:sc.names.lookup x=some .cell):∃ c,(cellsFrom n sc.names []).lookup x=some c:=by
 have q:=PySem.W.cellsFrom_some sc.names n [] (.inl h)
 exact Option.isSome_iff_exists.mp q
theorem inv_start {CX:CXT} {P:Program} {w:World} {K:PySem.W.Frag} {mg:Str→Option Value} {base:Heap} {N ps:List Str} {qual:Str} {scope:Scope} {f:Addr} {cd:Value} {A:Around} {outer:List Env} {s s1:Shared} {H:Hp} {E:XK} {us:List Value} {vs:List V}
  (S:FnScope N ps scope) (hd:A.handled=none) (e0:Env0 P w K mg base A outer s H) (hl:vs.length=ps.length) (r:Vals vs us)
  (x:InCallC s s.heap.objs.size (bindL (envOfC qual scope s.heap.objs.size f cd).kindOf (ps.zip us) fun _=>none) (cellsFrom (s.heap.objs.size+1) scope.names []) (bindC (envOfC qual scope s.heap.objs.size f cd).kindOf (ps.zip us) fun _=>none) s1) :
  Inv (cxOf CX P w K mg base N qual scope f cd A outer s H E) [] (start N vs) H s1:=by
 have hpl:ps.length≤N.length:=by have:=congrArg List.length S.pre; rw [List.length_take] at this; omega
 obtain ⟨h1,tk,rfl,hk⟩:=x.done
 have noA:∀ b:Addr,b∉(cxOf CX P w K mg base N qual scope f cd A outer s H E).ex:=fun b z=>absurd (show b∈([]:List Addr) from z) (by simp)
 refine ⟨⟨e0.mod,S.kind,rfl,rfl,Nat.le_refl _,fun y z c h1 h2=>?_,fun y hy=>?_,fun y c _ h=>?_,fun _=>hd,Around.frames_deeper e0.frames,.inr ⟨rfl,rfl⟩,fun b z=>absurd z (noA b),e0.bs,e0.bsz,fun b _ _=>noA b,fun b z=>absurd z (noA b),e0.funs,e0.frf⟩,
  rfl,e0.bare,Un.kept hk,⟨_,x.toInCall.ns,fun i y v h1 h2 h3=>?_⟩,fun y c h=>⟨_,x.cell y c h⟩,e0.hok.fresh (Nat.le_refl _),fun y c h=>?_,fun p hp=>absurd (show p∈([]:List (Addr×Obj)) from hp) (by simp),e0.hok.kept hk,?_⟩
 ·exact name_of_addr x.apart (PySem.mem_of_lookup h1) (PySem.mem_of_lookup h2)
 ·have hy:scope.names.lookup y=some .cell∨scope.names.lookup y=some .free:=hy
  rcases hy with hy | hy
  ·exact cell_has hy
  ·exact absurd rfl (S.nofree _ (PySem.mem_of_lookup hy))
 ·exact Nat.le_of_lt (x.above y c (PySem.mem_of_lookup h))
 ·have hi:i<vs.length:=by
   unfold start at h2
   by_cases hi:i<vs.length
   ·exact hi
   ·rw [List.getElem?_append_right (by simpa using hi)] at h2
    rw [List.getElem?_replicate] at h2
    split at h2 <;> cases h2
  have ha:vs[i]? = some v:=by
   unfold start at h2
   rw [List.getElem?_append_left (by simpa using hi),List.getElem?_map] at h2
   cases e:vs[i]? with
   | none=>rw [e] at h2; cases h2
   | some a=>rw [e] at h2; cases h2; rfl
  obtain ⟨u,hu,rv⟩:=r.get ha
  have hp:ps[i]? = some y:=by
   rw [← S.pre,List.getElem?_take_of_lt (by omega)]; exact h1
  have ndP:ps.Nodup:=by rw [← S.pre]; exact S.nd.sublist (List.take_sublist _ _)
  refine ⟨u,rv,?_⟩
  rcases S.par y (List.mem_of_getElem? hp) with k | k
  ·exact .inl ⟨k,bindL_get ndP hp hu k⟩
  ·obtain ⟨c,e⟩:=cell_has (n:=s.heap.objs.size+1) k
   refine .inr ⟨.inl k,c,e,?_⟩
   have q:=x.cell y c e
   rw [bindC_get ndP hp hu (by show scope.names.lookup y≠_; rw [k]; decide)] at q
   exact q
 ·exact e0.hok.fresh (Nat.le_of_lt (x.above y c (PySem.mem_of_lookup h)))
 ·unfold start
  show _=N.length
  rw [List.length_append,List.length_map,List.length_replicate]
  omega
theorem fn_of {CX:CXT} {P:Program} {w:World} {K:PySem.W.Frag} {mg:Str→Option Value} {base:Heap} {k:Nat} {f:Addr} {name qual:Str} {params:Arguments} {body:List Stmt} {scope:Scope} {dV kV doc pm cdv ct oc:Value} {an od:Option Addr}
  {osl:Array (Option Value)} {N ps:List Str} {sp:Sp} (lk:K.lookup f=some ⟨oc,od,.func (PySem.W.fnOf name qual params body scope dV kV doc pm an cdv ct),osl⟩) (hcd:PySem.W.codeIn K cdv qual=true) (S:FnScope N ps scope)
  (len:∀ vs H Q E,sp vs H Q E→vs.length=ps.length)
  (hbody:∀(A:Around) (outer:List Env) (s:Shared) (H:Hp) (vs:List V) (Q:VK) (E:XK),Room k (A.deeper (envOfC qual scope s.heap.objs.size f cdv))→sp vs H Q E→
   ∃ t,PSs (cxOf CX P w K mg base N qual scope f cdv A outer s H E) body t∧t { nx:=fun _ H'=>Q .non H',rt:=Q } (start N vs) H) :
  FnOk P w K mg base CX (k+1) f (PySem.W.fnOf name qual params body scope dV kV doc pm an cdv ct) ps sp:=by
 refine ⟨len,fun A outer s H args us vs Q E hr e0 hb r hsp=>?_⟩
 have hl:=len _ _ _ _ hsp
 have KX:K.In s.heap:=e0.mod.kin.keeps fun b o e=>(e0.bs b o e).1
 have lim:s.heap.NoLimit:=e0.mod.nolimit.keeps fun b o e=>(e0.bs b o e).1
 have hkind:∀ y∈ps.zip us,scope.names.lookup y.1=some .local∨(scope.names.lookup y.1=some .cell∧((cellsFrom (s.heap.objs.size+1) scope.names []).lookup y.1).isSome=true):=fun ⟨n,v⟩ hy=>by
  rcases S.par n (List.of_mem_zip hy).1 with q | q
  ·exact .inl q
  ·exact .inr ⟨q,PySem.W.cellsFrom_some _ _ _ (.inl q)⟩
 refine codeAny_call_function hr.depth (KX _ _ lk) rfl S.co S.gen rfl (PySem.W.codeRec_of KX hcd) (hb _ _ _ _ ?_)
 refine wpAny_newFunctionEnv_cells S.kind hkind fun env he s1 x=>?_
 subst he
 refine ⟨lim.keeps x.toInCall.keep,codeAny_func ?_⟩
 obtain ⟨t,ht,hq⟩:=hbody A outer s H vs Q E (hr.deeper _) hsp
 have I:Inv (cxOf CX P w K mg base N qual scope f cdv A outer s H E) [] (start N vs) H s1:=inv_start S hr.hd e0 hl r x
 refine wpAny_mono (ht [] s1 (start N vs) H _ I hq) (fun fl s' hs=>?_) fun e s' hs=>hs
 have fin:∀{σ':St} {H':Hp} {v:V} {u:Value},Inv (cxOf CX P w K mg base N qual scope f cdv A outer s H E) [] σ' H' s'→RelV v u→Q v H'→CE outer P w H s Q u s':=
  fun {σ' H' v u} J rv q=>⟨v,H',J.os,J.bare,J.base,J.hok,rv,q⟩
 cases fl with
 | ret u=>
  obtain ⟨v,σ',H',J,rv,q⟩:=hs
  exact fin J rv q
 | next=>
  obtain ⟨σ',H',J,q⟩:=hs
  exact fin (v:=V.non) (u:=Value.none) J rfl q
 | brk=>
  obtain ⟨_,_,_,q⟩:=hs
  exact False.elim q
 | cont=>
  obtain ⟨_,_,_,q⟩:=hs
  exact False.elim q
section
variable {X:Cx} {x:Str} {p pos:Pos} {e:Expr} {es:List Expr} {t:TA} {id T:String} {r:List V→Hp→VK→Prop}
def tCB (r:List V→Hp→VK→Prop) (t:TA):TE:=fun σ H Q=>t σ H fun vs H1=>r vs H1 Q
theorem pe_callB (hc:CallR X (.builtin id) r) (hg:Gl X x) (hm:X.mg x=none) (hv:bootBuiltins x=some (.builtin id)) (ha:PA X (e::es) t) (hn:x≠"__name__":=by decide) (hdb:(x == ("__debug__" : Str))=false:=by decide)
  (he:starEach (e::es) X.env=(false,eval e X.env)::starEach es X.env:=by rfl) (hpl:(backTo pos (starEach es X.env)).any (·.1)=false:=by rfl):PE X (.Call (.Name x p) (e::es) [] pos) (tCB r t):=by
 intro pins s σ H Q I h
 refine wpAny_Call_Name_kw (ld_blt I hg hm hv ?_ hn hdb)
 exact PyProof.Rows.callWith_builtin1 (thn (ha pos pins s σ H _ I h) fun us s1 ⟨vs,H1,I1,r1,q1⟩=>hc pins s1 σ H1 vs us Q I1 r1 q1) he hpl
theorem pe_callTy (hc:CallR X (.type T) r) (hg:Gl X x) (hm:X.mg x=none) (hv:bootBuiltins x=some (.type T)) (ha:PA X (e::es) t) (hn:x≠"__name__":=by decide) (hdb:(x == ("__debug__" : Str))=false:=by decide)
  (he:starEach (e::es) X.env=(false,eval e X.env)::starEach es X.env:=by rfl) (hpl:(backTo pos (starEach es X.env)).any (·.1)=false:=by rfl):PE X (.Call (.Name x p) (e::es) [] pos) (tCB r t):=by
 intro pins s σ H Q I h
 refine wpAny_Call_Name_kw (ld_blt I hg hm hv ?_ hn hdb)
 exact PyProof.Rows.callWith_type1 (thn (ha pos pins s σ H _ I h) fun us s1 ⟨vs,H1,I1,r1,q1⟩=>hc pins s1 σ H1 vs us Q I1 r1 q1) he hpl
end
end L2
namespace HT
open PySem PyProof.Rows
def lexLt:List Int→List Int→Bool
 | [],[]=>false
 | [],_::_=>true
 | _::_,[]=>false
 | x::xs,y::ys=>if x=y then lexLt xs ys else decide (x<y)
theorem lexLt_cons (x y:Int) (xs ys:List Int):lexLt (x::xs) (y::ys)=if x=y then lexLt xs ys else decide (x<y):=rfl
theorem lexLt_nil_nil:lexLt [] []=false:=rfl
theorem lexLt_nil_cons (y:Int) (ys:List Int):lexLt [] (y::ys)=true:=rfl
theorem lexLt_cons_nil (x:Int) (xs:List Int):lexLt (x::xs) []=false:=rfl
theorem eqAt_int (A:Around) (s:Shared) (a:Int) (t:Tok) (c:Int) (u:Tok):∃ e,SeqAt.EqAt A s (.int a t) (.int c u) e∧(e=true↔a=c):=
 ⟨(a == c),SeqAt.EqAt.int_int a t c u,by simp⟩
theorem rcLt_int (A:Around) (s:Shared) (a:Int) (t:Tok) (c:Int) (u:Tok) (prog:Program) (w:World) (E:Value→Shared→Prop) (Q:Value→Shared→Prop) (h:Q (.bool (decide (a<c))) s) :
  wpAny (model prog w) A (richCompare .Lt (.int a t) (.int c u)) Q E s:=
 (PyProof.Rows.lt_int h:wpAny (model prog w) A (compareOp .Lt (.int a t) (.int c u)) Q E s)
section
open PySem.SeqAt
open PySem.AutoSeq1 (wpAny_loadPart')
open PySem.MeetsSeq PySem.MeetsSeq2 PySem.MeetsSeq3
theorem tuple_lt_ints (l b:Addr) (items items2:Array Value) (n n2:Nat) (dd dd2:Option Addr) (sl sl2:Array (Option Value)) (ns ms:List Int) (hi:IntsAre items.toList ns) (hj:IntsAre items2.toList ms) :
  Meets (Builtin.«tuple.__lt__» ⟨[.ref l,.ref b],[]⟩)
   (fun _ R s=>s.heap.get? l=some { cls:=.type "tuple",dict:=dd,data:=.seq items n,slots:=sl }∧s.heap.get? b=some { cls:=.type "tuple",dict:=dd2,data:=.seq items2 n2,slots:=sl2 }∧
    R (.ok (.ret (.bool (lexLt ns ms)))) s):=
 .of_wp fun prog w A R s h=>by
  obtain ⟨hp,g,d,tk,os⟩:=s; obtain ⟨hl,hb,h⟩:=h
  have f2:=AutoSeq1.sub_tuple_tuple
  have z1:items.size=ns.length:=by rw [← hi.length]; simp
  have z2:items2.size=ms.length:=by rw [← hj.length]; simp
  wp_walk using wpAny_loadPart' hl,wpAny_loadPart' hb,wpAny_forIn_list _ (fun rest b s'=>b.1=none∧s'=⟨hp,g,d,tk,os⟩∧∃(vs ws:List Value) (ns' ms':List Int),rest=vs.zip ws∧
   IntsAre vs ns'∧IntsAre ws ms'∧ns'.length+items2.size=ms'.length+items.size∧R (.ok (.ret (.bool (lexLt ns' ms')))) ⟨hp,g,d,tk,os⟩) _
  case turn=>
   rintro ⟨y,x⟩ rest b s' ⟨hb',rfl,vs,ws,ns',ms',hz,hvi,hwi,hlen,hR⟩
   cases hvi with
   | nil=>rw [List.zip_nil_left] at hz; cases hz
   | cons a t hvi'=>
    cases hwi with
    | nil=>rw [List.zip_nil_right] at hz; cases hz
    | cons c u hwi'=>
     rw [List.zip_cons_cons] at hz
     injection hz with hyx hrest
     injection hyx with hy hx
     subst hy hx
     rw [lexLt_cons] at hR
     simp only [List.length_cons] at hlen
     obtain ⟨e,he,hiff⟩:=eqAt_int A.in1 ⟨hp,g,d,tk,os⟩ a t c u
     refine wpAny_bind (he prog w _ _ ?_)
     cases e with
     | true=>
      rw [if_pos (hiff.mp rfl)] at hR
      wp_walk
      exact ⟨rfl,rfl,_,_,_,_,hrest,hvi',hwi',by omega,hR⟩
     | false=>
      rw [if_neg (fun q=>absurd (hiff.mpr q) Bool.false_ne_true)] at hR
      have hri:=rcLt_int A.in1 ⟨hp,g,d,tk,os⟩ a t c u prog w
      wp_walk using hri
      exact ⟨_,rfl,by simpa using hR⟩
  case fin=>
   rintro ⟨b1,b2⟩ s' ⟨hb',rfl,vs,ws,ns',ms',hz,hvi,hwi,hlen,hR⟩
   simp only at hb'
   subst hb'
   have hv:lexLt ns' ms'=decide (items.size<items2.size):=by
    cases hvi with
    | nil=>
     cases hwi with
     | nil=>
      simp only [List.length_nil] at hlen
      rw [lexLt_nil_nil]
      exact (decide_eq_false (by omega)).symm
     | cons c u hw=>
      simp only [List.length_nil,List.length_cons] at hlen
      rw [lexLt_nil_cons]
      exact (decide_eq_true (by omega)).symm
    | cons a t hv=>
     cases hwi with
     | nil=>
      simp only [List.length_nil,List.length_cons] at hlen
      rw [lexLt_cons_nil]
      exact (decide_eq_false (by omega)).symm
     | cons c u hw=>
      rw [List.zip_cons_cons] at hz
      cases hz
   rw [hv] at hR
   wp_walk
   exact ⟨_,rfl,by simpa [Builtin.Tuple.tupleCompareSizes] using hR⟩
  case h=>
   exact ⟨rfl,rfl,items.toList,items2.toList,ns,ms,rfl,hi,hj,by omega,h⟩
end
section
variable {prog:Program} {w:World} {A:Around} {E:Value→Shared→Prop} {s:Shared}
theorem lt_tupInts {l b:Addr} {items items2:Array Value} {ns ms:List Int} {Q:Value→Shared→Prop} (hl:IsTup s.heap l items) (hb:IsTup s.heap b items2) (hi:IntsAre items.toList ns) (hj:IntsAre items2.toList ms)
  (hu:A.units<cLine) (h:Q (.bool (lexLt ns ms)) s):wpAny (model prog w) A (compareOp .Lt (.ref l) (.ref b)) Q E s:=by
 obtain ⟨⟨cls,dd,data,sl⟩,ho,hc,n,hd⟩:=id hl
 obtain ⟨⟨cls2,dd2,data2,sl2⟩,ho2,hc2,n2,hd2⟩:=id hb
 simp only at hc hd hc2 hd2
 subst hc hd hc2 hd2
 exact richCompare_meets_room (op:=.Lt) ⟨_,ho,rfl⟩ ⟨_,ho2,rfl⟩ PySem.F.slot_tuple_lt PySem.F.entry_tuple_lt (PySem.F.args_tuple_lt_2 _ _) (tuple_lt_ints l b items items2 n n2 dd dd2 sl sl2 ns ms hi hj)
  ⟨ho,ho2,show Value.bool (lexLt ns ms)≠Value.notImplemented∧Q (.bool (lexLt ns ms)) s from ⟨(fun x=>nomatch x),h⟩⟩ hu
theorem cat_tup {t b:Addr} {vs ws:List Value} {Q:Value→Shared→Prop} (ht:IsTup s.heap t vs.toArray) (hb:IsTup s.heap b ws.toArray) (hv:vs≠[])
  (h1:ws=[]→Q (.ref t) s) (h2:ws≠[]→Q (.ref s.heap.objs.size) { s with heap:=s.heap.push { cls:=.type "tuple",data:=.seq (vs++ws).toArray } })
  (hsz:vs.length+ws.length≤sizeLine):wpAny (model prog w) A (binaryOp .Add (.ref t) (.ref b)) Q E s:=by
 obtain ⟨⟨cls,dd,data,sl⟩,ho,hc,n,hd⟩:=id ht
 obtain ⟨⟨cls2,dd2,data2,sl2⟩,ho2,hc2,n2,hd2⟩:=id hb
 simp only at hc hd hc2 hd2
 subst hc hd hc2 hd2
 have e:vs.toArray++ws.toArray=(vs++ws).toArray:=by simp
 by_cases hw:ws=[]
 ·exact concat_meets ⟨_,ho,rfl⟩ ⟨_,ho2,rfl⟩ noFill_tuple_add seq_tuple_add PySem.F.slot_tuple_add PySem.F.entry_tuple_add (PySem.F.args_tuple_add_2 _ _)
   (tuple_addW1 t b vs.toArray ws.toArray n n2 dd dd2 sl sl2 (by simpa using hv) (by simp [hw])) ⟨ho,ho2,h1 hw⟩
 ·refine concat_meets ⟨_,ho,rfl⟩ ⟨_,ho2,rfl⟩ noFill_tuple_add seq_tuple_add PySem.F.slot_tuple_add PySem.F.entry_tuple_add (PySem.F.args_tuple_add_2 _ _)
   (tuple_addW2 t b vs.toArray ws.toArray n n2 dd dd2 sl sl2 (by simpa using hv) (by simpa using hw) (by rw [List.size_toArray,List.size_toArray]; exact hsz)) ⟨ho,ho2,?_⟩
  rw [e]
  exact h2 hw
def sIx (n d:Nat):Option Int→Nat
 | none=>d
 | some v=>if v<0 then (v+(n:Int)).toNat else min v.toNat n
theorem sIx_none (n d:Nat):sIx n d none=d:=rfl
theorem sIx_nat (n d k:Nat):sIx n d (some (k:Int))=min k n:=by
 show (if (k:Int)<0 then ((k:Int)+(n:Int)).toNat else min (k:Int).toNat n)=min k n
 rw [if_neg (by omega),Int.toNat_natCast]
theorem sIx_le (n d:Nat) (hd:d≤n) (o:Option Int):sIx n d o≤n:=by
 cases o with
 | none=>exact hd
 | some v=>
  show (if v<0 then (v+(n:Int)).toNat else min v.toNat n)≤n
  by_cases hv:v<0
  ·rw [if_pos hv]; omega
  ·rw [if_neg hv]; exact Nat.min_le_right _ _
theorem clip_eq (v:Int) (n d:Nat):(if v<0 then max (v+(n:Int)) 0 else min v (n:Int))=((sIx n d (some v):Nat):Int):=by
 show (if v<0 then max (v+(n:Int)) 0 else min v (n:Int))=(((if v<0 then (v+(n:Int)).toNat else min v.toNat n):Nat):Int)
 by_cases hv:v<0
 ·simp only [if_pos hv]; omega
 ·simp only [if_neg hv]; omega
theorem adjust_gen (lo hi:Option Int) (n:Nat):Builtin.Slice.sliceAdjust lo hi 1 (n:Int)=(((sIx n 0 lo:Nat):Int),((sIx n n hi:Nat):Int)):=by
 have h1:¬ ((1:Int)<0):=by omega
 unfold Builtin.Slice.sliceAdjust
 simp only [h1,if_false]
 refine Prod.ext ?_ ?_
 ·cases lo with
  | none=>rfl
  | some v=>exact clip_eq v n 0
 ·cases hi with
  | none=>rfl
  | some v=>exact clip_eq v n n
theorem places_gen (i j:Nat):Builtin.Slice.slicePlaces (i:Int) (j:Int) 1=j - i:=by
 unfold Builtin.Slice.slicePlaces
 have h1:(1:Int) > 0:=by omega
 simp only [h1,if_true,Int.ediv_one]
 split <;> omega
theorem slicePart_ {v:Value} {o:Option Int} {Q:Option Int→Shared→Prop} (p:IsPart v o) (h:Q o s):wpAny (model prog w) A (Builtin.Slice.slicePartIndex v) Q E s:=by
 cases p with
 | none=>exact slicePart_none h
 | int i t=>exact slicePart_int h
theorem sliceApplied_gen {sl:Addr} {vl vu:Value} {lo hi:Option Int} {n:Nat} {Q:Int×Int×Nat→Shared→Prop} (hs:s.heap.IsSliceOf sl vl vu .none) (pl:IsPart vl lo) (pu:IsPart vu hi)
  (h:Q (((sIx n 0 lo:Nat):Int),1,sIx n n hi - sIx n 0 lo) s):wpAny (model prog w) A (Builtin.Slice.sliceApplied (.ref sl) (pure (n:Int))) Q E s:=by
 obtain ⟨os,hos,hcs,hds⟩:=id hs
 unfold Builtin.Slice.sliceApplied Builtin.Slice.sliceFields
 refine wpAny_bind (wpAny_bind (wpAny_field hos hds (x:=vl) rfl (wpAny_bind (wpAny_field hos hds (x:=vu) rfl (wpAny_bind (wpAny_field hos hds (x:=.none) rfl (wpAny_pure ?_)))))))
 refine wpAny_bind (slicePart_none ?_)
 show wpAny _ _ (if ((1:Int) == 0)=true then _ else _) _ _ s
 rw [if_neg (by decide)]
 refine wpAny_bind (slicePart_ pl (wpAny_bind (slicePart_ pu (wpAny_bind (wpAny_pure ?_)))))
 show wpAny _ _ (match Builtin.Slice.sliceAdjust lo hi 1 (n:Int) with | (lo,hi)=>pure (lo,(1:Int),Builtin.Slice.slicePlaces lo hi 1)) _ _ s
 rw [adjust_gen lo hi n]
 show wpAny _ _ (pure (((sIx n 0 lo:Nat):Int),(1:Int),Builtin.Slice.slicePlaces ((sIx n 0 lo:Nat):Int) ((sIx n n hi:Nat):Int) 1)) _ _ s
 rw [places_gen]
 exact wpAny_pure h
theorem pick_gen (xs:Array Value) (i k:Nat):((List.range k).filterMap fun (m:Nat)=>xs[((i:Int)+(m:Int)*1).toNat]?).toArray=((xs.toList.drop i).take k).toArray:=by
 have e:(fun (m:Nat)=>xs[((i:Int)+(m:Int)*1).toNat]?)=fun m=>xs[i+m]?:=by
  funext m
  have:((i:Int)+(m:Int)*1).toNat=i+m:=by omega
  rw [this]
 rw [e]
 have:=pick_run xs i k
 rw [List.filterMap_map] at this
 have e2:((fun x=>xs[x]?)∘fun x=>i+x)=fun m=>xs[i+m]?:=rfl
 rw [e2] at this
 rw [this]
theorem getItem_tuple_cut {t sl:Addr} {items:Array Value} {vl vu:Value} {lo hi:Option Int} {Q:Value→Shared→Prop} (ht:IsTup s.heap t items) (hs:s.heap.IsSliceOf sl vl vu .none) (pl:IsPart vl lo) (pu:IsPart vu hi)
  (hw:¬ (sIx items.size 0 lo=0∧sIx items.size items.size hi=items.size))
  (h:Q (.ref s.heap.objs.size) { s with heap:=s.heap.push { cls:=.type "tuple",data:=.seq ((items.toList.drop (sIx items.size 0 lo)).take (sIx items.size items.size hi - sIx items.size 0 lo)).toArray } })
  (hsz:items.size≤sizeLine):wpAny (model prog w) A (getItem (.ref t) (.ref sl)) Q E s:=by
 have htake:sizeOk (.seq ((items.toList.drop (sIx items.size 0 lo)).take (sIx items.size items.size hi - sIx items.size 0 lo)).toArray):=by
  show ((items.toList.drop (sIx items.size 0 lo)).take (sIx items.size items.size hi - sIx items.size 0 lo)).toArray.size≤sizeLine
  rw [List.size_toArray,List.length_take,List.length_drop,Array.length_toList]
  omega
 have hj:sIx items.size items.size hi≤items.size:=sIx_le _ _ (Nat.le_refl _) hi
 obtain ⟨os,hos,hcs,hds⟩:=id hs
 have hTs:s.TypeIs (.ref sl) "slice":=⟨os,hos,hcs⟩
 unfold getItem
 try with_reducible refine wpAny_holding ?_
 first | refine wpAny_bind (wpAny_pure ?_) | skip
 refine wpAny_bind (wpAny_sequenceKey ht.typeIs (by decide) ?_)
 refine wpAny_bind (wpAny_callSpecial?_slot (name:=Str.ofString "__getitem__") ht.typeIs PyProof.Rows.slot_tuple_getitem
  (wpAny_call_entry PyProof.Rows.slot_tuple_getitem ht.typeIs entry_tuple_getitem ?_ (args_tuple_getitem _ _)))
 show wpAny _ _ (Builtin.Tuple.tupleItemsOf (.ref t) >>= _) _ _ s
 refine wpAny_bind (tupleItemsOf_ ht ?_)
 refine wpAny_bind (wpAny_typeOf hTs ?_)
 rw [if_pos (by decide)]
 refine wpAny_bind (sliceApplied_gen hs pl pu ?_)
 have hno:¬ ((((sIx items.size 0 lo:Nat):Int) == 0 && (1:Int) == 1 && (sIx items.size items.size hi - sIx items.size 0 lo) == items.size)=true):=by
  intro q
  rw [Bool.and_eq_true,Bool.and_eq_true] at q
  have q1:((sIx items.size 0 lo:Nat):Int)=0:=eq_of_beq q.1.1
  have q2:sIx items.size items.size hi - sIx items.size 0 lo=items.size:=eq_of_beq q.2
  exact hw ⟨by omega,by omega⟩
 show wpAny _ _ (if (((sIx items.size 0 lo:Nat):Int) == 0 && (1:Int) == 1 && (sIx items.size items.size hi - sIx items.size 0 lo) == items.size)=true then _ else _) _ _ s
 rw [if_neg hno,pick_gen]
 first
  | exact wpAny_bind (m:=Builtin.Tuple.tupleExact _) (wpAny_newObj_type (wpAny_pure ⟨_,rfl,wpAny_pure h⟩) htake)
  | exact wpAny_bind (m:=Builtin.Tuple.tupleExact _) (wpAny_newObj_type (wpAny_bind (wpAny_pure (wpAny_pure ⟨_,rfl,wpAny_pure h⟩))) htake)
  | exact wpAny_bind (wpAny_bind (m:=Builtin.Tuple.tupleExact _) (wpAny_newObj_type (wpAny_pure (wpAny_pure ⟨_,rfl,wpAny_pure h⟩)) htake))
  | exact wpAny_bind (wpAny_bind (m:=Builtin.Tuple.tupleExact _) (wpAny_newObj_type (wpAny_pure ⟨_,rfl,wpAny_pure h⟩) htake))
end
end HT
namespace L2
open PySem PySem.Spec PyProof.Rows
abbrev TO:=St→Hp→(Option Int→Hp→Prop)→Prop
def PO (X:Cx) (e:Option Expr) (t:TO):Prop:=
 ∀(pins:List (Addr×Obj)) (s:Shared) (σ:St) (H:Hp) (Q:Option Int→Hp→Prop),Inv X pins σ H s→t σ H Q→
  wpAny (model X.prog X.w) X.A (evalPart e X.env) (fun u s'=>∃ o H',Inv X pins σ H' s'∧IsPart u o∧Q o H') X.xe s
def tNoPart:TO:=fun _ H Q=>Q none H
def tPart (t:TE):TO:=fun σ H Q=>t σ H fun x H1=>∃ i,x=.int i∧Q (some i) H1
theorem intsAre_of {ns:List Int}:∀{us:List Value},Vals (ns.map V.int) us→IntsAre us ns:=by
 induction ns with
 | nil=>intro us r; rw [List.map_nil] at r; cases r; exact .nil
 | cons n ns ih=>
  intro us r
  rw [List.map_cons] at r
  cases r with
  | cons r1 r2=>
   obtain ⟨t,e⟩:=r1
   subst e
   exact .cons n t (ih r2)
section
variable {X:Cx} {e:Expr} {te:TE} {lo hi:Option Expr} {tl th:TO} {pos p2:Pos}
theorem po_none:PO X none tNoPart:=by
 intro pins s σ H Q I h
 rw [evalPart_none]
 exact wpAny_pure ⟨none,H,I,.none,h⟩
theorem po_some (h:PE X e te):PO X (some e) (tPart te):=by
 intro pins s σ H Q I hw
 rw [evalPart_some]
 refine thn (h pins s σ H _ I hw) fun u s1 ⟨x,H1,I1,r1,q1⟩=>?_
 obtain ⟨i,rfl,q⟩:=q1
 obtain ⟨t,rfl⟩:=r1
 exact ⟨some i,H1,I1,.int i t,q⟩
def SlR (X:Cx) (r:V→Option Int→Option Int→Hp→VK→Prop):Prop:=
 ∀(pins:List (Addr×Obj)) (s:Shared) (σ:St) (H:Hp) (x:V) (v vl vu:Value) (lo hi:Option Int) (sl:Addr) (Q:VK),Inv X pins σ H s→RelV x v→s.heap.IsSliceOf sl vl vu .none→IsPart vl lo→IsPart vu hi→r x lo hi H Q→
  ∃ T id,typeLookup (.type T) "__getitem__" = pure (some (.builtin id))∧s.TypeIs v T∧wpAny (model X.prog X.w) X.A (getItem v (.ref sl)) (EP X pins σ Q) X.xe s
theorem SlR.or {r r':V→Option Int→Option Int→Hp→VK→Prop} (h:SlR X r) (h':SlR X r'):SlR X (fun x lo hi H Q=>r x lo hi H Q∨r' x lo hi H Q):=by
 intro pins s σ H x v vl vu lo hi sl Q I rx hs pl pu q
 rcases q with q | q
 ·exact h pins s σ H x v vl vu lo hi sl Q I rx hs pl pu q
 ·exact h' pins s σ H x v vl vu lo hi sl Q I rx hs pl pu q
def tSl (r:V→Option Int→Option Int→Hp→VK→Prop) (te:TE) (tl th:TO):TE:=fun σ H Q=>te σ H fun x H1=>tl σ H1 fun l H2=>th σ H2 fun u H3=>r x l u H3 Q
theorem pe_slice {r:V→Option Int→Option Int→Hp→VK→Prop} (hr:SlR X r) (he:PE X e te) (hl:PO X lo tl) (hu:PO X hi th):PE X (.Subscript e (.Slice lo hi none p2) pos) (tSl r te tl th):=by
 intro pins s σ H Q I h
 refine Subscript_ (thn (he pins s σ H _ I h) fun v s1 ⟨x,H1,I1,r1,q1⟩=>?_)
 refine wpAny_Slice (thn (hl pins s1 σ H1 _ I1 q1) fun vl s2 ⟨l,H2,I2,pl,q2⟩=>thn (hu pins s2 σ H2 _ I2 q2) fun vu s3 ⟨u,H3,I3,pu,q3⟩=>?_)
 rw [evalPart_none]
 refine wpAny_pure ?_
 have I4:Inv X pins σ H3 { s3 with heap:=s3.heap.push { cls:=.type "slice",data:=.fields #[vl,vu,.none] } }:=I3.kept (t':=s3.toks) fun b ob q=>Heap.get?_push_of_some _ q
 obtain ⟨T,id,hT,ht,hg⟩:=hr pins { s3 with heap:=s3.heap.push { cls:=.type "slice",data:=.fields #[vl,vu,.none] } } σ H3 x v vl vu l u s3.heap.objs.size Q I4 r1 (Heap.IsSliceOf.new ..) pl pu q3
 show wpAny (model X.prog X.w) X.A (subscriptTail e (.Slice lo hi none p2) v (.ref s3.heap.objs.size)) (EP X pins σ Q) X.xe { s3 with heap:=s3.heap.push { cls:=.type "slice",data:=.fields #[vl,vu,.none] } }
 exact tail_any (ops:=[.ref s3.heap.objs.size,v]) ht hT hg (by with_unfolding_all rfl)
def cutV (xs:List V) (lo hi:Option Int):List V:=(xs.drop (HT.sIx xs.length 0 lo)).take (HT.sIx xs.length xs.length hi - HT.sIx xs.length 0 lo)
theorem cutV_length (xs:List V) (lo hi:Option Int):(cutV xs lo hi).length≤xs.length:=by
 unfold cutV
 rw [List.length_take,List.length_drop]
 omega
def rSlT (K:PySem.W.Frag):V→Option Int→Option Int→Hp→VK→Prop:=fun x lo hi H Q=>∃ a xs,x=.ref a∧SqT K H a xs∧
 ¬ (HT.sIx xs.length 0 lo=0∧HT.sIx xs.length xs.length hi=xs.length)∧∀ p,H p=none→Q (.ref p) (upd H p (.tup (cutV xs lo hi)))
theorem sl_tup:SlR X (rSlT X.K):=by
 intro pins s σ H x v vl vu lo hi sl Q I rx hs pl pu h
 obtain ⟨a,xs,rfl,hx,hw,q⟩:=h
 cases rx
 obtain ⟨its,r,ht,hz⟩:=I.tuple hx
 have hlen:its.toArray.size=xs.length:=by rw [List.size_toArray]; exact r.length.symm
 refine ⟨"tuple",_,PyProof.Rows.slot_tuple_getitem.lookup,ht.typeIs,?_⟩
 refine HT.getItem_tuple_cut ht hs pl pu (by rw [hlen]; exact hw) ?_ (by rw [hlen]; exact hz)
 rw [hlen]
 refine ⟨.ref s.heap.objs.size,_,I.laid (t':=s.toks) (o:=.tup (cutV xs lo hi)) (fun b ob q=>Heap.get?_push_of_some _ q) (Nat.le_refl _) ?_,rfl,q _ (I.hok.fresh (Nat.le_refl _))⟩
 exact ⟨Nat.le_trans (cutV_length xs lo hi) hz,_,(r.drop (HT.sIx xs.length 0 lo)).take (HT.sIx xs.length xs.length hi - HT.sIx xs.length 0 lo),IsTup.new _ _,NoD.new rfl⟩
def rLtT (K:PySem.W.Frag):R2:=fun x y H Q=>∃ a b ns ms,x=.ref a∧y=.ref b∧SqT K H a (ns.map V.int)∧SqT K H b (ms.map V.int)∧Q (.bl (HT.lexLt ns ms)) H
theorem op_ltT (hu:X.A.units<cLine):OpR X (compareOp .Lt) (rLtT X.K):=by
 intro pins s σ H x y v u Q I rx ry h
 obtain ⟨a,b,ns,ms,rfl,rfl,ha,hb,q⟩:=h
 cases rx
 cases ry
 obtain ⟨its,r1,p1,_⟩:=I.tuple ha
 obtain ⟨its2,r2,p2,_⟩:=I.tuple hb
 have i1:IntsAre its.toArray.toList ns:=intsAre_of r1
 have i2:IntsAre its2.toArray.toList ms:=intsAre_of r2
 exact HT.lt_tupInts p1 p2 i1 i2 hu ⟨.bl (HT.lexLt ns ms),H,I,rfl,q⟩
def rCatT (K:PySem.W.Frag):R2:=fun x y H Q=>∃ a b xs ys,x=.ref a∧y=.ref b∧SqT K H a xs∧SqT K H b ys∧xs≠[]∧xs.length+ys.length≤sizeLine∧
 (ys=[]→Q (.ref a) H)∧(ys≠[]→∀ p,H p=none→Q (.ref p) (upd H p (.tup (xs++ys))))
theorem Vals.nil_iff {xs:List V} {us:List Value} (r:Vals xs us):us=[]↔xs=[]:=by
 cases r with
 | nil=>simp
 | cons _ _=>simp
theorem op_catT:OpR X (binaryOp .Add) (rCatT X.K):=by
 intro pins s σ H x y v u Q I rx ry h
 obtain ⟨a,b,xs,ys,rfl,rfl,ha,hb,hx,hz,q1,q2⟩:=h
 cases rx
 cases ry
 obtain ⟨its,r1,p1,_⟩:=I.tuple ha
 obtain ⟨its2,r2,p2,_⟩:=I.tuple hb
 refine HT.cat_tup p1 p2 (fun z=>hx (r1.nil_iff.mp z)) (fun z=>⟨.ref a,H,I,rfl,q1 (r2.nil_iff.mp z)⟩) (fun z=>?_) (by rw [← r1.length,← r2.length]; exact hz)
 refine ⟨.ref s.heap.objs.size,_,I.laid (t':=s.toks) (o:=.tup (xs++ys)) (fun b ob q=>Heap.get?_push_of_some _ q) (Nat.le_refl _) ?_,rfl,q2 (fun w=>z (r2.nil_iff.mpr w)) _ (I.hok.fresh (Nat.le_refl _))⟩
 exact ⟨by rw [List.length_append]; exact hz,_,r1.append r2,IsTup.new _ _,NoD.new rfl⟩
end
def ixN (n:Nat) (i:Int):Option Nat:=if 0≤i then (if i<n then some i.toNat else none) else if -(n:Int)≤i then some (i+n).toNat else none
def atI {α:Type} (xs:List α) (i:Int):Option α:=(ixN xs.length i).bind fun j=>xs[j]?
theorem ixN_seq {n:Nat} {i:Int} {j:Nat} (h:ixN n i=some j):seqIndex? i n=some j∧j<n∧-(n:Int)≤i∧i<n:=by
 unfold ixN at h
 by_cases h0:0≤i
 ·rw [if_pos h0] at h
  by_cases h1:i<n
  ·rw [if_pos h1] at h
   have e:i.toNat=j:=Option.some.inj h
   exact ⟨by rw [seqIndex_of h0 h1,e],by omega,by omega,h1⟩
  ·rw [if_neg h1] at h; cases h
 ·rw [if_neg h0] at h
  by_cases h1 : -(n:Int)≤i
  ·rw [if_pos h1] at h
   have e:(i+n).toNat=j:=Option.some.inj h
   exact ⟨by rw [seqIndex_neg (by omega) h1,e],by omega,h1,by omega⟩
  ·rw [if_neg h1] at h; cases h
theorem atI_get {α:Type} {xs:List α} {i:Int} {v:α} (h:atI xs i=some v):∃ j,seqIndex? i xs.length=some j∧xs[j]? = some v∧j<xs.length∧-(xs.length:Int)≤i∧i<xs.length:=by
 unfold atI at h
 cases e:ixN xs.length i with
 | none=>rw [e] at h; cases h
 | some j=>
  rw [e] at h
  obtain ⟨h1,h2,h3,h4⟩:=ixN_seq e
  exact ⟨j,h1,h,h2,h3,h4⟩
theorem atI_nat {α:Type} {xs:List α} {j:Nat} {v:α} (h:xs[j]? = some v):atI xs (j:Int)=some v:=by
 have hj:j<xs.length:=(List.getElem?_eq_some_iff.mp h).1
 have e:ixN xs.length (j:Int)=some j:=by
  unfold ixN
  rw [if_pos (by omega),if_pos (by omega)]; simp
 unfold atI; rw [e]; exact h
def PlainIx (b:Expr):Prop:=∀ o i,subscripted b false o i=operate [o,i] (getItem o i)
def IxR (X:Cx) (r:R2):Prop:=
 ∀(value slice:Expr) (pins:List (Addr×Obj)) (s:Shared) (σ:St) (H:Hp) (x y:V) (v u:Value) (Q:VK),Inv X pins σ H s→RelV x v→RelV y u→r x y H Q→
  subscripted slice false v u=operate [v,u] (getItem v u)→wpAny (model X.prog X.w) X.A (subscriptTail value slice v u) (EP X pins σ Q) X.xe s
def MtR (X:Cx) (id:String) (r:V→List V→Hp→VK→Prop):Prop:=
 ∀(pins:List (Addr×Obj)) (s:Shared) (σ:St) (H:Hp) (x:V) (xs:List V) (v:Value) (us:List Value) (Q:VK),Inv X pins σ H s→RelV x v→Vals xs us→r x xs H Q→
  wpAny (model X.prog X.w) X.A (call (.builtin id) (v::us)) (EP X pins σ Q) X.xe s
section
variable {X:Cx} {a b:Expr} {ta tb:TE} {pos:Pos}
theorem IxR.or {r r':R2} (h:IxR X r) (h':IxR X r'):IxR X (fun x y H Q=>r x y H Q∨r' x y H Q):=by
 intro value slice pins s σ H x y v u Q I rx ry q hs
 rcases q with q | q
 ·exact h value slice pins s σ H x y v u Q I rx ry q hs
 ·exact h' value slice pins s σ H x y v u Q I rx ry q hs
theorem pe_ix {r:R2} (hr:IxR X r) (ha:PE X a ta) (hb:PE X b tb) (hs:PlainIx b):PE X (.Subscript a b pos) (tOp r ta tb):=by
 intro pins s σ H Q I h
 exact Subscript_ (binT ha hb I h fun v u s2 x y H2 I2 rx ry q=>hr a b pins s2 σ H2 x y v u Q I2 rx ry q (hs _ _))
def rIxL (K:PySem.W.Frag):R2:=fun x y H Q=>∃ p xs i v,x=.ref p∧y=.int i∧SqL K H p xs∧atI xs i=some v∧Q v H
def rIxT (K:PySem.W.Frag):R2:=fun x y H Q=>∃ p xs i v,x=.ref p∧y=.int i∧SqT K H p xs∧atI xs i=some v∧Q v H
def rIxS:R2:=fun x y H Q=>∃ z i c,x=.str z∧y=.int i∧z.length≤sizeLine∧atI z.cps.toList i=some c∧Q (.str ⟨#[c]⟩) H
theorem ix_list:IxR X (rIxL X.K):=by
 intro value slice pins s σ H x y v u Q I rx ry h hs
 obtain ⟨p,xs,i,z,rfl,rfl,hq,he,q⟩:=h
 cases rx
 obtain ⟨t,rfl⟩:=ry
 obtain ⟨its,r,pl,hz⟩:=I.list hq
 obtain ⟨j,h1,h2,h3,h4,h5⟩:=atI_get he
 obtain ⟨w,ew,rw'⟩:=r.get h2
 have hl:=r.length
 have hn:=line63
 have fin:EP X pins σ Q w s:=⟨z,H,I,rw',q⟩
 by_cases h0:0≤i
 ·have hj:i.toNat=j:=by
   rw [seqIndex_of h0 h5] at h1
   exact Option.some.inj h1
  exact item_listR pl.isList h0 (by omega) (by rw [hj]; simpa using ew) fin hs
 ·have hj:(i+(its.toArray.size:Int)).toNat=j:=by
   rw [seqIndex_neg (by omega) h4] at h1
   rw [List.size_toArray,← hl]
   exact Option.some.inj h1
  exact subscriptTail_builtinR (x:=w) pl.isList.typeIs slot_list_getitem.lookup
   (wpAny_getItem_list_neg (Q:=fun r s'=>r=w∧EP X pins σ Q r s') pl.isList (by omega) (by rw [List.size_toArray] <;> omega) (by omega) (by rw [hj]; simpa using ew) ⟨rfl,fin⟩) hs
theorem ix_tup:IxR X (rIxT X.K):=by
 intro value slice pins s σ H x y v u Q I rx ry h hs
 obtain ⟨p,xs,i,z,rfl,rfl,hq,he,q⟩:=h
 cases rx
 obtain ⟨t,rfl⟩:=ry
 obtain ⟨its,r,pl,hz⟩:=I.tuple hq
 obtain ⟨j,h1,h2,h3,h4,h5⟩:=atI_get he
 obtain ⟨w,ew,rw'⟩:=r.get h2
 have hl:=r.length
 have hn:=line63
 have fin:EP X pins σ Q w s:=⟨z,H,I,rw',q⟩
 exact subscriptTail_builtinR (x:=w) pl.typeIs slot_tuple_getitem.lookup
  (getItem_tuple (j:=j) (Q:=fun r s'=>r=w∧EP X pins σ Q r s') pl (by omega) (by omega) (by rw [List.size_toArray,← hl]; exact h1) (by simpa using ew) ⟨rfl,fin⟩) hs
theorem ix_str:IxR X rIxS:=by
 intro value slice pins s σ H x y v u Q I rx ry h hs
 obtain ⟨z,i,c,rfl,rfl,hz,he,q⟩:=h
 obtain ⟨t,rfl⟩:=rx
 obtain ⟨t',rfl⟩:=ry
 obtain ⟨j,h1,h2,h3,h4,h5⟩:=atI_get he
 have hl:z.cps.toList.length=z.length:=by simp [Str.length]
 rw [hl] at h1 h4 h5
 have hn:=line63
 exact tail_any (typeIs_str s z t) slot_str_getitem.lookup (getItem_str (c:=c) (by
  have e1:decide (i < -(2 ^ 63:Int))=false:=decide_eq_false (by omega)
  have e2:decide (i≥2 ^ 63)=false:=decide_eq_false (by omega)
  rw [e1,e2,Bool.or_false]) (by rw [h1]; simpa using h2) ⟨.str ⟨#[c]⟩,H,I.tok _,⟨_,rfl⟩,q⟩) hs
def rIx (K:PySem.W.Frag):R2:=fun x y H Q=>rIxL K x y H Q∨rIxT K x y H Q∨rIxS x y H Q
theorem ix_seq:IxR X (rIx X.K):=ix_list.or (ix_tup.or ix_str)
theorem mapSeq_set (its:List Value) (n j:Nat) (u:Value):Obj.mapSeq (·.setIfInBounds j u) { cls:=.type "list",data:=.seq its.toArray n } = { cls:=.type "list",data:=.seq (its.set j u).toArray n }:=by
 simp [Obj.mapSeq]
theorem Inv.lst {pins:List (Addr×Obj)} {σ:St} {H:Hp} {s:Shared} {p:Addr} {xs:List V} (I:Inv X pins σ H s) (h:H p=some (.lst xs)) :
  ∃(its:List Value) (n:Nat),Vals xs its∧s.heap.get? p=some { cls:=.type "list",data:=.seq its.toArray n }∧xs.length≤sizeLine:=by
 obtain ⟨z,its,n,r,e⟩:=I.hok p _ h
 exact ⟨its,n,r,e,z⟩
theorem Inv.lstUpd {pins:List (Addr×Obj)} {σ:St} {H:Hp} {s:Shared} {p:Addr} {xs ys:List V} {its its':List Value} {n n':Nat} {f:Obj→Obj} (I:Inv X pins σ H s) (h:H p=some (.lst xs))
  (ho:s.heap.get? p=some { cls:=.type "list",data:=.seq its.toArray n }) (hf:f { cls:=.type "list",data:=.seq its.toArray n } = { cls:=.type "list",data:=.seq its'.toArray n' }) (r:Vals ys its') (hz:ys.length≤sizeLine) (t:Nat) :
  Inv X pins σ (upd H p (.lst ys)) { s with heap:=s.heap.update p f,toks:=t }:=by
 have e:(s.heap.update p f).get? p=some { cls:=.type "list",data:=.seq its'.toArray n' }:=by
  rw [Heap.get?_update_self f ho (by rw [hf] <;> rfl),hf]
 refine I.write (x:=p) (e:=p) (by rw [h]; trivial) (.inl rfl) (fun b u hb q=>(Heap.get?_update_other _ _ (Ne.symm hb)).trans q) ⟨_,e⟩ ?_
 exact ⟨hz,its',n',r,e⟩
def rSetL:V→V→V→Hp→(Hp→Prop)→Prop:=fun o i v H Q=>∃ p xs k j,o=.ref p∧i=.int k∧H p=some (.lst xs)∧ixN xs.length k=some j∧Q (upd H p (.lst (xs.set j v)))
theorem set_list:PSet X rSetL:=by
 intro pins s σ H o i v ov iv u Q I ro ri rv h
 obtain ⟨p,xs,k,j,rfl,rfl,hp,hj,q⟩:=h
 cases ro
 obtain ⟨t,rfl⟩:=ri
 obtain ⟨its,n,r,ho,hz⟩:=I.lst hp
 obtain ⟨h1,h2,h3,h4⟩:=ixN_seq hj
 have hl:=r.length
 have hn:=line63
 have I':Inv X pins σ (upd H p (.lst (xs.set j v))) { s with heap:=s.heap.update p (Obj.mapSeq (·.setIfInBounds j u)) }:=
  I.lstUpd hp ho (mapSeq_set its n j u) (r.set rv j) (by rw [List.length_set]; exact hz) s.toks
 by_cases h0:0≤k
 ·have hk:k.toNat=j:=by
   rw [seqIndex_of h0 h4] at h1
   exact Option.some.inj h1
  exact PySem.W.ki_setAt ho h0 (by omega) (by rw [List.size_toArray,← hl]; exact h4) (by rw [hk]; exact ⟨_,I',q⟩)
 ·have hk:(k+(its.toArray.size:Int)).toNat=j:=by
   rw [seqIndex_neg (by omega) h3] at h1
   rw [List.size_toArray,← hl]
   exact Option.some.inj h1
  exact PySem.W.ki_setBack ho (by omega) (by rw [List.size_toArray,← hl]; exact h3) (by omega) (by rw [hk]; exact ⟨_,I',q⟩)
theorem slice_bounds (lo hi:Option Int) (n:Nat):(sliceBounds lo hi none n).1=((HT.sIx n 0 lo:Nat):Int)∧(sliceBounds lo hi none n).2.1=((HT.sIx n n hi:Nat):Int)∧(sliceBounds lo hi none n).2.2=1:=by
 refine ⟨?_,?_,rfl⟩
 ·cases lo with
  | none=>simp [sliceBounds,HT.sIx]
  | some i=>
   simp only [sliceBounds,HT.sIx,Option.getD_none,show (1:Int) > 0 by decide,if_true]
   by_cases h:i<0
   ·simp only [h,if_true] <;> omega
   ·simp only [h,if_false] <;> omega
 ·cases hi with
  | none=>simp [sliceBounds,HT.sIx]
  | some i=>
   simp only [sliceBounds,HT.sIx,Option.getD_none,show (1:Int) > 0 by decide,if_true]
   by_cases h:i<0
   ·simp only [h,if_true] <;> omega
   ·simp only [h,if_false] <;> omega
theorem slicePick_cut (its:List Value) (lo hi:Option Int):slicePick its.toArray lo hi none=((its.drop (HT.sIx its.length 0 lo)).take (HT.sIx its.length its.length hi - HT.sIx its.length 0 lo)).toArray:=by
 obtain ⟨h1,h2,h3⟩:=slice_bounds lo hi its.toArray.size
 unfold slicePick
 rw [h1,h2,h3]
 simp only [sliceRange_one,pick_run,List.size_toArray] <;> rfl
def rSlL (K:PySem.W.Frag):V→Option Int→Option Int→Hp→VK→Prop:=fun x lo hi H Q=>∃ a xs,x=.ref a∧SqL K H a xs∧∀ p,H p=none→Q (.ref p) (upd H p (.lst (cutV xs lo hi)))
theorem sl_list:SlR X (rSlL X.K):=by
 intro pins s σ H x v vl vu lo hi sl Q I rx hs pl pu h
 obtain ⟨a,xs,rfl,hx,q⟩:=h
 cases rx
 obtain ⟨its,r,ht,hz⟩:=I.list hx
 have hlen:=r.length
 refine ⟨"list",_,slot_list_getitem.lookup,ht.isList.typeIs,?_⟩
 refine wpAny_getItem_list_slice ht.isList hs pl pu .none (by simp) ?_ (by rw [List.size_toArray] <;> omega)
 rw [slicePick_cut,← hlen]
 refine ⟨.ref s.heap.objs.size,_,I.laid (t':=s.toks) (o:=.lst (cutV xs lo hi)) (fun b ob q=>Heap.get?_push_of_some _ q) (Nat.le_refl _) ?_,rfl,q _ (I.hok.fresh (Nat.le_refl _))⟩
 exact ⟨Nat.le_trans (cutV_length xs lo hi) hz,_,0,(r.drop (HT.sIx xs.length 0 lo)).take (HT.sIx xs.length xs.length hi - HT.sIx xs.length 0 lo),Heap.get?_push_size _ rfl⟩
theorem call_len_seq:CallR X (.builtin "len") (fun xs H Q=>∃ p ys,xs=[.ref p]∧(SqL X.K H p ys∨SqT X.K H p ys)∧Q (.int ys.length) H):=by
 intro pins s σ H xs us Q I r h
 obtain ⟨p,ys,rfl,hq,q⟩:=h
 obtain ⟨u,rfl,rx⟩:=vals1 r
 cases rx
 have hn:=line63
 rcases hq with hq | hq
 ·obtain ⟨its,r',pl,hz⟩:=I.list hq
  have hlen:=r'.length
  exact Calls.call_len_list pl.isList (by simp only [List.size_toArray] <;> omega) ⟨.int ys.length,H,I.tok _,⟨s.toks+1,by rw [List.size_toArray,hlen]⟩,q⟩
 ·obtain ⟨its,r',pl,hz⟩:=I.tuple hq
  have hlen:=r'.length
  exact len_tuple pl (by simp only [List.size_toArray] <;> omega) ⟨.int ys.length,H,I.tok _,⟨s.toks+1,by rw [List.size_toArray,hlen]⟩,q⟩
theorem call_len_str:CallR X (.builtin "len") (fun xs H Q=>∃ z,xs=[.str z]∧z.length≤sizeLine∧Q (.int z.length) H):=by
 intro pins s σ H xs us Q I r h
 obtain ⟨z,rfl,hz,q⟩:=h
 obtain ⟨u,rfl,t,rfl⟩:=vals1 r
 have hn:=line63
 exact len_str (by omega) ⟨.int z.length,H,I.tok _,⟨_,rfl⟩,q⟩
theorem call_list_of:CallR X (.type "list") (fun xs H Q=>∃ p ys,xs=[.ref p]∧(SqL X.K H p ys∨SqT X.K H p ys)∧∀ l,H l=none→Q (.ref l) (upd H l (.lst ys))):=by
 intro pins s σ H xs us Q I r h
 obtain ⟨p,ys,rfl,hq,q⟩:=h
 obtain ⟨u,rfl,rx⟩:=vals1 r
 cases rx
 have fin:∀(its:List Value),Vals ys its→ys.length≤sizeLine→∀(h':Heap) (c':Nat),(∀ b o',s.heap.get? b=some o'→h'.get? b=some o')→
   h'.get? s.heap.objs.size=some { cls:=.type "list",dict:=none,data:=.seq its.toArray c',slots:=#[] }→EP X pins σ Q (.ref s.heap.objs.size) { s with heap:=h' }:=fun its r' hz h' c' kp e=>
  ⟨.ref s.heap.objs.size,_,I.laid (t':=s.toks) kp (Nat.le_refl _) (show ObjOk X.prog X.w _ h' _ (.lst ys) from ⟨hz,its,c',r',e⟩),rfl,q _ (I.hok.fresh (Nat.le_refl _))⟩
 rcases hq with hq | hq
 ·obtain ⟨its,r',pl,hz⟩:=I.list hq
  have hlen:=r'.length
  obtain ⟨o,ho,hc,n,hd⟩:=pl.isList
  exact call_list_seq p (.inl rfl) ho hc hd (fun h' c' kp e=>fin its r' hz h' c' kp e) (by simp only [List.size_toArray] <;> omega)
 ·obtain ⟨its,r',pl,hz⟩:=I.tuple hq
  have hlen:=r'.length
  obtain ⟨o,ho,hc,n,hd⟩:=pl
  exact call_list_seq p (.inr rfl) ho hc hd (fun h' c' kp e=>fin its r' hz h' c' kp e) (by simp only [List.size_toArray] <;> omega)
theorem call_tuple_of:CallR X (.type "tuple") (fun xs H Q=>∃ p ys,xs=[.ref p]∧((SqL X.K H p ys∧∀ l,H l=none→Q (.ref l) (upd H l (.tup ys)))∨(SqT X.K H p ys∧Q (.ref p) H))):=by
 intro pins s σ H xs us Q I r h
 obtain ⟨p,ys,rfl,h⟩:=h
 obtain ⟨u,rfl,rx⟩:=vals1 r
 cases rx
 rcases h with ⟨hq,q⟩ | ⟨hq,q⟩
 ·obtain ⟨its,r',pl,hz⟩:=I.list hq
  have hlen:=r'.length
  refine call_tuple_list pl.isList (fun h' kp=>?_) (by simp only [List.size_toArray] <;> omega)
  have I1:Inv X pins σ H { s with heap:=h' }:=I.kept (t':=s.toks) kp
  have I2:Inv X pins σ (upd H h'.objs.size (.tup ys)) { s with heap:=h'.push { cls:=.type "tuple",data:=.seq its.toArray } }:=
   I1.laid (t':=s.toks) (fun b o e=>Heap.get?_push_of_some _ e) (Nat.le_refl _) (show ObjOk X.prog X.w _ _ _ (.tup ys) from ⟨hz,its,r',IsTup.new _ _,NoD.new rfl⟩)
  exact ⟨.ref h'.objs.size,_,I2,rfl,q _ (I1.hok.fresh (Nat.le_refl _))⟩
 ·obtain ⟨its,r',pl,hz⟩:=I.tuple hq
  exact call_tuple_same pl ⟨.ref p,H,I,rfl,q⟩
def tyV (K:PySem.W.Frag) (T:String) (x:V) (H:Hp):Prop:=match x with
 | .str _=>T = "str"
 | .int _=>T = "int"
 | .ref p=>(T = "list"∧∃ xs,SqL K H p xs)∨(T = "tuple"∧∃ o,K.lookup p=some o∧o.cls=.type "tuple"∧o.dict=none)∨
   (T = "dict"∧((∃ kvs,H p=some (.dK kvs))∨∃ kvs,H p=some (.dT kvs)))∨(T = "set"∧∃ S n,H p=some (.set S n))
 | _=>False
theorem tyV_is {pins:List (Addr×Obj)} {σ:St} {H:Hp} {s:Shared} {T:String} {x:V} {v:Value} (I:Inv X pins σ H s) (r:RelV x v) (ty:tyV X.K T x H) :
  s.TypeIs v T∧∀ a,v=.ref a→∃ ob,s.heap.get? a=some ob∧ob.dict=none:=by
 cases x with
 | str z=>
  obtain ⟨t,rfl⟩:=r
  cases (show T = "str" from ty)
  exact ⟨typeIs_str s z t,fun _ e=>nomatch e⟩
 | int i=>
  obtain ⟨t,rfl⟩:=r
  cases (show T = "int" from ty)
  exact ⟨typeIs_int s i t,fun _ e=>nomatch e⟩
 | ref p=>
  cases r
  rcases ty with ⟨rfl,xs,hq⟩ | ⟨rfl,o,hk,hc,hd⟩ | ⟨rfl,hk⟩ | ⟨rfl,S,n,hk⟩
  ·obtain ⟨its,_,pl,_⟩:=I.list hq
   refine ⟨pl.isList.typeIs,fun a e=>?_⟩
   cases e
   obtain ⟨o,n,e,c,hd,_⟩:=pl
   exact ⟨o,e,hd⟩
  ·refine ⟨⟨o,I.kIn p o hk,hc⟩,fun a e=>?_⟩
   cases e
   exact ⟨o,I.kIn _ o hk,hd⟩
  ·have z:∃ o,s.heap.get? p=some o∧o.ExactDict:=by
    rcases hk with ⟨kvs,hk⟩ | ⟨kvs,hk⟩
    ·obtain ⟨_,_,_,_,o,_,_,e,ex,_⟩:=I.hok p _ hk
     exact ⟨o,e,ex⟩
    ·obtain ⟨_,_,_,_,o,_,_,e,ex,_⟩:=I.hok p _ hk
     exact ⟨o,e,ex⟩
   obtain ⟨o,e,ex⟩:=z
   refine ⟨⟨o,e,ex.1⟩,fun a e2=>?_⟩
   cases e2
   exact ⟨o,e,ex.2.1⟩
  ·obtain ⟨o,_,_,_,e,ex,_⟩:=I.hok p _ hk
   refine ⟨⟨o,e,ex.1⟩,fun a e2=>?_⟩
   cases e2
   exact ⟨o,e,ex.2.1⟩
 | _=>exact False.elim ty
def tBM (K:PySem.W.Frag) (T:String) (r:V→List V→Hp→VK→Prop) (to:TE) (t:TA):TE:=fun σ H Q=>to σ H fun x H1=>tyV K T x H1∧t σ H1 fun xs H2=>r x xs H2 Q
variable {o e:Expr} {es:List Expr} {to:TE} {t:TA} {name:Str} {apos cpos:Pos} {T id:String} {r:V→List V→Hp→VK→Prop}
theorem pe_bm (pa:PlainAttrs T) (slot:Slot T name id) (hty:typeOf (.builtin id)=pure (.type "method_descriptor")) (hm:MtR X id r) (ho:PE X o to) (ha:PA X (e::es) t)
  (hbase:attributeBase o name X.env (eval o X.env)=eval o X.env:=by rfl)
  (hfew:((backTo cpos (starEach (e::es) X.env)).all (fun x=>!x.1) && (backToKw cpos (keywordEach [] X.env)).all (fun x=>x.1.isSome)
   && decide ((e::es).length+([]:List Keyword).length+(if ([]:List Keyword).isEmpty then 0 else 1)<30))=true:=by rfl)
  (hline:(apos.endLine == cpos.line)=true:=by rfl) (hs:starEach (e::es) X.env=(false,eval e X.env)::starEach es X.env:=by rfl) (hplain:(backTo cpos (starEach es X.env)).any (·.1)=false:=by rfl) :
  PE X (.Call (.Attribute o name apos) (e::es) [] cpos) (tBM X.K T r to t):=by
 intro pins s σ H Q I h
 refine wpAny_Call_method_late hbase hfew hline rfl (thn (ho pins s σ H _ I h) fun v s1 ⟨x,H1,I1,r1,ty,q1⟩=>?_)
 obtain ⟨h1,h2⟩:=tyV_is I1 r1 ty
 refine ⟨T,id,pa,slot,hty,h1,h2,?_⟩
 have hA:=ha cpos pins s1 σ H1 _ I1 q1
 rw [hs] at hA ⊢
 refine Calls.callWith_builtin (by show (false || (backTo cpos (starEach es X.env)).any (·.1))=false; rw [hplain] <;> rfl) (Calls.evalArgs_plain ?_)
 exact thn hA fun us s2 ⟨vs,H2,I2,r2,q2⟩=>hm pins s2 σ H2 x vs v us Q I2 r1 r2 q2
end
def MtM (X:Cx) (id:String) (r:V→List V→Hp→VK→Prop):Prop:=
 ∀(pins:List (Addr×Obj)) (s:Shared) (σ:St) (H:Hp) (x:V) (xs:List V) (v:Value) (us:List Value) (Q:VK),Inv X pins σ H s→RelV x v→Vals xs us→r x xs H Q→
  wpAny (model X.prog X.w) X.A (call (.builtin id) (v::us)) (EP X pins σ Q) X.xe s
theorem Vals.one:∀{x:V} {us:List Value},Vals [x] us→∃ u,us=[u]∧RelV x u
 | _,_,.cons r .nil=>⟨_,rfl,r⟩
theorem Vals.two:∀{x y:V} {us:List Value},Vals [x,y] us→∃ u v,us=[u,v]∧RelV x u∧RelV y v
 | _,_,_,.cons r (.cons q .nil)=>⟨_,_,rfl,r,q⟩
theorem Vals.rep {xs:List V} {us:List Value} (h:Vals xs us):∀ k:Nat,Vals (List.replicate k xs).flatten (List.replicate k us).flatten
 | 0=>.nil
 | k+1=>by
  rw [List.replicate_succ,List.replicate_succ,List.flatten_cons,List.flatten_cons]
  exact Vals.append h (Vals.rep h k)
theorem foldl_rep (its:List Value):∀(k:Nat) (acc:List Value),
  List.foldl (fun x1 x2=>x1++x2) acc.toArray (List.replicate k its.toArray)=(acc++(List.replicate k its).flatten).toArray
 | 0,acc=>by simp
 | k+1,acc=>by
  have e:acc.toArray++its.toArray=(acc++its).toArray:=by simp
  have e2:(acc++its)++(List.replicate k its).flatten=acc++(List.replicate (k+1) its).flatten:=by
   rw [List.replicate_succ,List.flatten_cons,List.append_assoc]
  rw [← e2,← foldl_rep its k (acc++its),← e,List.replicate_succ,List.foldl_cons]
section
variable {X:Cx} {pins:List (Addr×Obj)} {σ:St} {H:Hp} {s:Shared} {l b:Addr} {xs ys zs:List V}
theorem Inv.lset {its its':List Value} {n:Nat} {f:Array Value→Array Value} {t':Nat} (I:Inv X pins σ H s) (hH:H l=some (.lst xs))
  (e:s.heap.get? l=some { cls:=.type "list",data:=.seq its.toArray n }) (hf:f its.toArray=its'.toArray) (hv:Vals ys its') (hz:ys.length≤sizeLine) :
  Inv X pins σ (upd H l (.lst ys)) { s with heap:=s.heap.update l (Obj.mapSeq f),toks:=t' }:=by
 have q:=PySem.IsL.update e f
 rw [hf] at q
 refine I.write (x:=l) (e:=l) (by rw [hH]; exact trivial) (.inl rfl) (fun b' u hb hu=>(Heap.get?_update_other s.heap (Obj.mapSeq f) (Ne.symm hb)).trans hu) ⟨_,q⟩ ?_
 exact ⟨hz,its',_,hv,q⟩
theorem Inv.lnew {its:List Value} {t':Nat} (I:Inv X pins σ H s) (hv:Vals ys its) (hz:ys.length≤sizeLine) :
  Inv X pins σ (upd H s.heap.objs.size (.lst ys)) { s with heap:=s.heap.push { cls:=.type "list",data:=.seq its.toArray },toks:=t' }:=
 I.laid (fun _ _ q=>Heap.get?_push_of_some _ q) (Nat.le_refl _) ⟨hz,its,0,hv,Heap.get?_push_size _ rfl⟩
theorem Inv.fresh (I:Inv X pins σ H s):H s.heap.objs.size=none:=I.hok.fresh (Nat.le_refl _)
theorem Inv.lstM (I:Inv X pins σ H s) (hH:H l=some (.lst xs)):xs.length≤sizeLine∧∃(its:List Value) (n:Nat),Vals xs its∧xs.length=its.length∧s.heap.get? l=some { cls:=.type "list",data:=.seq its.toArray n }:=by
 obtain ⟨z,its,n,r,e⟩:=I.hok l _ hH
 exact ⟨z,its,n,r,r.length,e⟩
theorem notLongL {n:Nat} (h:n≤sizeLine):Builtin.List.listTooLong n=false:=by
 unfold Builtin.List.listTooLong
 exact decide_eq_false (by omega)
end
section
variable {X:Cx}
def rAppend:V→List V→Hp→VK→Prop:=fun x vs H Q=>∃ l xs y,x=.ref l∧vs=[y]∧H l=some (.lst xs)∧xs.length<sizeLine∧Q .non (upd H l (.lst (xs++[y])))
theorem mt_append:MtM X "list.append" rAppend:=by
 intro pins s σ H x vs v us Q I rx rv h
 obtain ⟨l,xs,y,rfl,rfl,hH,hz,q⟩:=h
 cases rx
 obtain ⟨u,rfl,ru⟩:=rv.one
 obtain ⟨z,its,n,r,hl,e⟩:=I.lstM hH
 refine call_meets F.slot_list_append ⟨_,e,rfl⟩ F.entry_list_append (F.args_list_append_2 _ _) (PySem.list_append l its.toArray n u (by rw [List.size_toArray]; omega)) ⟨e,?_⟩
 refine ⟨.non,_,I.lset (its':=its++[u]) hH e (by simp) (r.append (.cons ru .nil)) ?_,rfl,q⟩
 rw [List.length_append,List.length_singleton]
 omega
def rRep:R2:=fun x y H Q=>∃ l k xs,x=.ref l∧y=.int k∧H l=some (.lst xs)∧-(2 ^ 63)≤k∧k<2 ^ 63∧xs.length*k.toNat≤sizeLine∧
 ∀ p,H p=none→Q (.ref p) (upd H p (.lst (List.replicate k.toNat xs).flatten))
theorem len_rep {α:Type} (xs:List α) (k:Nat):(List.replicate k xs).flatten.length=k*xs.length:=by
 induction k with
 | zero=>simp
 | succ k ih=>rw [List.replicate_succ,List.flatten_cons,List.length_append,ih,Nat.succ_mul,Nat.add_comm]
theorem op_rep:OpR X (binaryOp .Mult) rRep:=by
 intro pins s σ H x y v u Q I rx ry h
 obtain ⟨l,k,xs,rfl,rfl,hH,h1,h2,hz,q⟩:=h
 cases rx
 obtain ⟨t,rfl⟩:=ry
 obtain ⟨z,its,n,r,hl,e⟩:=I.lstM hH
 have hlen:its.toArray.size*k.toNat≤sizeLine:=by rw [List.size_toArray,← hl]; exact hz
 have hcap:¬ its.toArray.size*k.toNat > (2 ^ 63 - 1) / 8:=by
  have:(sizeLine:Nat)≤(2 ^ 63 - 1) / 8:=by decide
  omega
 have hfit:¬ (!Builtin.List.listFitsIndex k)=true:=by
  rw [fitsIndex_both h1 h2]
  exact Bool.false_ne_true
 have hlong:¬ Builtin.List.listTooLong (its.toArray.size*k.toNat)=true:=by
  rw [notLongL hlen]
  exact Bool.false_ne_true
 have hnew:List.foldl (fun x1 x2=>x1++x2) #[] (List.replicate (if its.toArray.isEmpty=true then 0 else k.toNat) its.toArray)=(List.replicate k.toNat its).flatten.toArray:=by
  have f0:∀ m:Nat,List.foldl (fun x1 x2=>x1++x2) #[] (List.replicate m its.toArray)=(List.replicate m its).flatten.toArray:=fun m=>by
   have:=foldl_rep its m []
   rw [List.nil_append] at this
   exact this
  rw [f0]
  cases its with
  | nil=>simp
  | cons a r'=>rw [if_neg (by simp)]
 refine wpAny_binaryOp_repeat_ref (T:="list") (U:="int") (by decide) ⟨_,e,rfl⟩ (fun s'=>typeIs_int s' k t) noFill_list_mul F.fills_int_mul F.slot_int_rmul repeat_list F.slot_int_index.lookup
  (call_meets F.slot_int_rmul (typeIs_int s k t) F.entry_int_rmul (F.args_int_rmul_2 _ _) (int___rmul___int_list k t l its.toArray n)
   ⟨e,rfl,⟨_,e,rfl⟩,call_meets F.slot_list_mul ⟨_,e,rfl⟩ F.entry_list_mul (F.args_list_mul_2 _ _) (AutoListH.list___mul___list_int_3 l its.toArray n k t hfit hcap hlong) ⟨e,?_⟩⟩)
 rw [hnew]
 exact ⟨.ref _,_,I.lnew (t':=s.toks) (r.rep k.toNat) (by rw [len_rep,Nat.mul_comm]; exact hz),rfl,q _ I.fresh⟩
end
section
variable {prog:Program} {w:World} {A:Around} {E:Value→Shared→Prop} {s:Shared}
end
section
variable {X:Cx}
end
end L2
namespace Att
open PySem PySem.W PySem.Calls PyProof.Rows
theorem ints_of_wellAll {P:Params} {h:Heap}:∀(ns:List Int) (vs:List Value),WellAll P h vs (ns.map WData.int)→IntsAre vs ns:=by
 intro ns
 induction ns with
 | nil=>
  intro vs w
  rw [List.map_nil] at w
  cases w
  exact .nil
 | cons n ns ih=>
  intro vs w
  rw [List.map_cons] at w
  cases w with
  | cons a b=>
   cases a
   exact .cons _ _ (ih _ b)
theorem script_of {l:OpenLaw} {n:Nat} (hn:l.most=some n) {P:Params} {h:Heap} {args:List WData} {vals:List Value}
  (hpre:l.row.toRowW.claim.pre args=true) (hwl:WellAll P h vals args) :
  ∃ a vs ns,vals=[Value.ref a]∧args=[WData.list (ns.map WData.int)]∧h.get? a=some { cls:=.type "list",data:=.seq vs.toArray }∧IntsAre vs ns∧ns.length≤n:=by
 have hsh:WShape.hasAll [] args [.list .int]=true:=(pre_splitW hpre).1
 have hc:l.pre.holds [] { args:=args } = true:=(pre_splitW hpre).2
 obtain ⟨d,r,rfl,h1,h2⟩:=hasAllW_cons hsh
 obtain rfl:=hasAllW_nil h2
 obtain ⟨xs,rfl,h3⟩:=hasW_list h1
 obtain ⟨ns,rfl⟩:=items_int h3
 have hlen:ns.length≤n:=by
  unfold OpenLaw.pre at hc
  have h4:(WTm.not (.lt (.lit (.int (n:Int))) (.len (.arg 0)))).holds [] { args:=[.list (ns.map .int)] } = true:=by
   have h4:=(holds_andW hc).1
   rw [hn] at h4
   exact h4
  have h5:=condW_of h4 (w_not (w_lt w_lit (w_len_list (w_arg rfl))))
  rw [List.length_map] at h5
  refine Nat.le_of_not_lt fun q=>?_
  have q':(n:Int)<((ns.length:Nat):Int):=by omega
  first
   | (rw [decide_eq_true q'] at h5; exact absurd h5 (by decide))
   | (simp at h5; omega)
 cases hwl with
 | cons w1 w2=>
  cases w2
  cases w1 with
  | list ho hall=>exact ⟨_,_,ns,rfl,rfl,ho,ints_of_wellAll ns _ hall,hlen⟩
theorem post_true (l:OpenLaw) (args:List WData):l.row.toRowW.claim.post args (.bool true) args=true:=
 postW_of (r:=l.row.toRowW) (X:=(true == true))
  (show WShape.has [] (.bool true) .bool=true by first | rfl | decide | simp [WShape.has,WShape.arms,WShape.armsAll])
  (show (WTm.eq .res (.lit (.bool true))).value [] { args:=args,res:=some (.bool true),after:=args } = some (.bool (true == true)) from w_eq_bool (w_res rfl) w_lit) rfl
theorem attach_call {l:OpenLaw} {n:Nat} {q:Program} {loose:List Str} {XP:(Str→Option Value)→Heap→Prop} {YP:World→Heap→Prop} {d:DefRec}
  (hn:l.most=some n) (hdf:d.params.defaults=[])
  (call:∀(w:World) (s₀ s₁:Shared) (mg mb:Str→Option Value) (fa:Addr) (o:Obj) (pm cd doc:Value) (a:Addr) (vs:List Value) (ns:List Int),
   Ground q loose [] XP w s₀ mg mb s₁.heap→YP w s₁.heap→
   s₁.heap.get? fa=some o→o.data=.func (docDef d.name d.params d.body d.scope pm cd doc)→s₁.heap.CodeRec cd d.name→mg d.name=some (.ref fa)→
   s₁.heap.get? a=some { cls:=.type "list",data:=.seq vs.toArray }→IntsAre vs ns→ns.length≤n→s₁.gens = #[]→
   codeAny (model l.prog w) callerA (.call (.ref fa) ⟨[.ref a],[]⟩) (fun r s'=>r=.ok (.ret (.bool true))∧OldK s₁.heap s'.heap∧s'.os=s₁.os∧AllBare s'.gens) s₁) :
  WalkO q loose XP YP l.row.toRowW d [] (fun f vs=>PySem.call f vs):=by
 intro w s₀ s₁ mg mb G Y fa o pm cd doc dV kV ho hd hcd hD hmg hg args vals as hpre hlay hrd hwl hlo
 obtain rfl:dV=.none:=Dflts.none hD hdf
 obtain rfl:kV=.none:=Dflts.noKw hD
 obtain ⟨a,vs,ns,rfl,rfl,hobj,hints,hlen⟩:=script_of hn hpre hwl
 refine enter_call (codeAny_mono (call w s₀ s₁ mg mb fa o pm cd doc a vs ns G Y ho (fd_plain hd) hcd hmg hobj hints hlen hg) fun r s' hq=>?_)
 obtain ⟨rfl,h2,h3,h4⟩:=hq
 exact ⟨.inl ⟨.bool true,.bool true,[],rfl,fun _=>rfl,.bool true,post_true l _,fun _=>⟨List.Pairwise.nil,fun _ hm=>(nomatch hm)⟩⟩,h2,h3,h4⟩
section
variable {prog:Program} {w:World} {A:Around} {E:Value→Shared→Prop} {s:Shared} {K:Frag}
def ledger (h:Heap) (L d:Addr):List (Addr×Obj):=(List.range h.objs.size).filterMap fun a=>if a=L∨a=d then none else (h.get? a).map fun o=>(a,o)
end
end Att
namespace L2
open PySem PySem.Spec PyProof.Rows
theorem vals_ints:∀{vs:List Value} {ns:List Int},IntsAre vs ns→Vals (ns.map V.int) vs
 | _,_,.nil=>.nil
 | _,_,.cons n t h=>.cons ⟨t,rfl⟩ (vals_ints h)
def Only (H:Hp):Prop:=∀ b,H b=none∨∃ o xs,H b=some (.frz o (.lst xs))
theorem law_call {P:Program} {w:World} {K:PySem.W.Frag} {mg mb:Str→Option Value} {CX:CXT} {k:Nat} {fa a:Addr} {fd:FuncData} {x:Str} {sp:Sp} {s₁:Shared} {vs:List Value} {ns:List Int}
  (KX:K.In s₁.heap) (hns:s₁.heap.Ns mainGlobals mg) (hb:s₁.heap.Ns builtinsNs mb) (hbb:∀ x:Str,x≠"__name__"→mb x=bootBuiltins x) (hlim:s₁.heap.NoLimit) (hg:s₁.gens = #[])
  (ha:s₁.heap.get? a=some { cls:=.type "list",data:=.seq vs.toArray }) (hi:IntsAre vs ns) (hl:ns.length≤sizeLine) (hr:Room k callerA)
  (F:∀ base:Heap,K.In base→base.Ns mainGlobals mg→FnOk P w K mg base CX k fa fd [x] sp) (hbind:∀(s:Shared) (u:Value),BindsTo s fd ⟨[u],[]⟩ [(x,u)])
  (hsp:∀ H:Hp,Only H→SqL K H a (ns.map V.int)→sp [.ref a] H (fun v _=>v=.bl true) fun _ _ _=>False)
  (hCX:∀ H e s',CX [] H s₁ (fun _ _ _=>False) e s'→False) :
  codeAny (model P w) callerA (.call (.ref fa) ⟨[.ref a],[]⟩) (fun r s'=>r=.ok (.ret (.bool true))∧OldK s₁.heap s'.heap∧s'.os=s₁.os∧AllBare s'.gens) s₁:=by
 have rv:=vals_ints hi
 have lenV:=hi.length
 have core:∀ H:Hp,Only H→SqL K H a (ns.map V.int)→HOk P w H s₁.heap→(∀ b,H b≠none→b=a)→(H a≠none→K.lookup a=none)→
   codeAny (model P w) callerA (.call (.ref fa) ⟨[.ref a],[]⟩) (fun r s'=>r=.ok (.ret (.bool true))∧OldK s₁.heap s'.heap∧s'.os=s₁.os∧AllBare s'.gens) s₁:=by
  intro H hO hS hok hA hK
  have base_of:∀{b:Addr} {o:Obj},s₁.heap.get? b=some o→H b=none→(hidT s₁.heap H).get? b=some o:=fun e n=>hidT_get e n
  have noA:∀{b:Addr} {o:Obj} {es:Array DictEntry} {ep:Nat},s₁.heap.get? b=some o→o.data=.dict es ep→H b=none:=fun {b o es ep} e d=>by
   cases q:H b with
   | none=>rfl
   | some u=>
    have e':b=a:=hA b (by rw [q]; simp)
    subst e'
    rw [ha] at e; cases e
    have d':Data.seq vs.toArray _=Data.dict es ep:=d
    cases d'
  have nsK:∀{b:Addr} {m:Str→Option Value},s₁.heap.Ns b m→(hidT s₁.heap H).Ns b m:=fun {b m} ⟨o,es,ep,e,d,r⟩=>⟨o,es,ep,base_of e (noA e d),d,r⟩
  have hKb:K.In (hidT s₁.heap H):=fun b o e=>base_of (KX b o e) (by
   cases q:H b with
   | none=>rfl
   | some u=>
    have e':b=a:=hA b (by rw [q]; simp)
    subst e'
    rw [hK (by rw [q]; simp)] at e; cases e)
  have hM:Mod K mg (hidT s₁.heap H):=⟨hKb,nsK hns,⟨mb,nsK hb,hbb⟩,let ⟨mc,h1,h2⟩:=hlim; ⟨mc,nsK h1,h2⟩⟩
  have e0:Env0 P w K mg (hidT s₁.heap H) callerA [] s₁ H:=⟨rfl,hM,fun b o e=>of_hidT e,Nat.le_of_eq (hidT_size _ _),trivial,fun b hb=>absurd (show b∈([]:List Addr) from hb) (by simp),hok,.of_eq hg⟩
  refine codeAny_mono ((F _ hKb (nsK hns)).run callerA [] s₁ H ⟨[.ref a],[]⟩ [.ref a] [.ref a] _ _ hr e0 (hbind s₁ (.ref a)) (.cons rfl .nil) (hsp H hO hS)) fun r s' h=>?_
  cases r with
  | error e=>exact (hCX H e s' h).elim
  | ok fl=>
   cases fl with
   | next=>exact False.elim h
   | brk=>exact False.elim h
   | cont=>exact False.elim h
   | ret u=>
    obtain ⟨v,H',os,bare,un,hok',r',q⟩:=h
    have q':v=.bl true:=q
    subst q'
    obtain rfl:u=Value.bool true:=r'
    refine ⟨rfl,OldK.of_keep fun b o e=>?_,os,bare⟩
    cases q:H b with
    | none=>exact un.keep b o e q (by intro z; exact absurd (show b∈([]:List Addr) from z) (by simp)) (by simp)
    | some u=>
     rcases hO b with z | ⟨ob,xs,z⟩
     ·rw [q] at z; cases z
     ·have z2:=un.frzs b ob _ z
      obtain ⟨e1,_⟩:=hok b _ z
      obtain ⟨e2,_⟩:=hok' b _ z2
      rw [e] at e1; cases e1
      exact e2
 cases hk:K.lookup a with
 | some o=>
  have e:=KX a o hk
  rw [ha] at e
  cases e
  refine core (fun _=>none) (fun _=>.inl rfl) (.inr ⟨_,vs.toArray,_,hk,rfl,rfl,rfl,by rw [List.size_toArray,lenV]; exact hl,by simpa using rv⟩) (fun b u z=>by have z':(none:Option HO)=some u:=z; cases z') (fun b z=>absurd rfl z) fun z=>absurd rfl z
 | none=>
  refine core (fun b=>if b=a then some (.frz { cls:=.type "list",data:=.seq vs.toArray } (.lst (ns.map V.int))) else none) (fun b=>?_) (.inl (.inr ⟨{ cls:=.type "list",data:=.seq vs.toArray },if_pos rfl⟩)) (fun b u z=>?_) (fun b z=>?_) fun _=>hk
  ·by_cases hb:b=a
   ·exact .inr ⟨_,_,if_pos hb⟩
   ·exact .inl (if_neg hb)
  ·by_cases hb:b=a
   ·have z':=(if_pos hb).symm.trans z
    cases z'
    subst hb
    exact ⟨ha,by rw [List.length_map]; exact hl,vs,_,rv,ha⟩
   ·have z':=(if_neg hb).symm.trans z
    cases z'
  ·by_cases hb:b=a
   ·exact hb
   ·exact absurd (if_neg hb) z
theorem walk_of {l:PySem.W.OpenLaw} {n k:Nat} {q:Program} {loose:List Str} {XP:(Str→Option Value)→Heap→Prop} {YP:World→Heap→Prop} {d:DefRec} {K:Params→PySem.W.Frag} {CX:World→CXT} {sp:World→Sp} {x:Str}
  (hn:l.most=some n) (hn2:n≤sizeLine) (hdf:d.params.defaults=[]) (hr:Room k callerA)
  (hY:∀(w:World) (h:Heap),YP w h→(K w.params).In h)
  (F:∀(w:World) (mg:Str→Option Value) (fa:Addr) (h:Heap),(K w.params).In h→h.Ns mainGlobals mg→mg d.name=some (.ref fa)→
   ∃ fd:FuncData,(∀(s:Shared) (u:Value),BindsTo s fd ⟨[u],[]⟩ [(x,u)])∧
    ∀ base:Heap,(K w.params).In base→base.Ns mainGlobals mg→FnOk l.prog w (K w.params) mg base (CX w) k fa fd [x] (sp w))
  (hsp:∀(w:World) (H:Hp) (a:Addr) (ns:List Int),ns.length≤n→Only H→SqL (K w.params) H a (ns.map V.int)→sp w [.ref a] H (fun v _=>v=.bl true) fun _ _ _=>False)
  (hCX:∀(w:World) (H:Hp) (s:Shared) (e:Value) (s':Shared),CX w [] H s (fun _ _ _=>False) e s'→False) :
  PySem.W.WalkO q loose XP YP l.row.toRowW d [] (fun f vs=>PySem.call f vs):=by
 refine Att.attach_call hn hdf fun w s₀ s₁ mg mb fa o pm cd doc a vs ns G Y ho hd hcd hmg hobj hints hlen hg=>?_
 have KX:=hY w _ Y
 obtain ⟨fd,hb,hF⟩:=F w mg fa _ KX G.T.g hmg
 exact law_call KX G.T.g G.T.b G.T.builtins G.T.nolimit hg hobj hints (Nat.le_trans hlen hn2) hr hF hb (fun H hO hS=>hsp w H a ns hlen hO hS) fun H e s'=>hCX w H s₁ e s'
def defArgs (s:Stmt):Arguments:=match s with
 | .FunctionDef _ a _ _ _ _ _ _ _ _=>a
 | _=>{ posonlyargs:=[],args:=[],vararg:=none,kwonlyargs:=[],kw_defaults:=[],kwarg:=none,defaults:=[] }
def defBody (s:Stmt):List Stmt:=match s with
 | .FunctionDef _ _ b _ _ _ _ _ _ _=>b
 | _=>[]
def defScope (s:Stmt):Scope:=match s with
 | .FunctionDef _ _ _ _ _ _ sc _ _ _=>sc
 | _=>{ kind:=.function,names:=[],isGenerator:=false,isCoroutine:=false }
abbrev CX0:CXT:=fun _ _ _ _ _ _=>False
abbrev E0:XK:=fun _ _ _=>False
theorem pass0 {X:Cx}:Passes CX0 X E0:=fun _ _ _ _ _ _ _ h=>h.elim
structure Fun (K:PySem.W.Frag) (x qual:Str) (st:Stmt) (f:Addr) (fd:FuncData):Prop where
 ex:∃(oc:Value) (od:Option Addr) (kV doc pm:Value) (an:Option Addr) (cdv ct:Value) (osl:Array (Option Value)),
  fd=PySem.W.fnOf x qual (defArgs st) (defBody st) (defScope st) .none kV doc pm an cdv ct∧K.lookup f=some ⟨oc,od,.func fd,osl⟩∧PySem.W.codeIn K cdv qual=true
 kp:PySem.W.keepIn K (.ref f)=true
section
variable {P:Program} {w:World} {K:PySem.W.Frag} {mg:Str→Option Value} {base:Heap}
theorem Fun.ok {x qual:Str} {st:Stmt} {f:Addr} {fd:FuncData} {N ps:List Str} {k:Nat} {sp:Sp} (F:Fun K x qual st f fd) (S:FnScope N ps (defScope st)) (len:∀ vs H Q E,sp vs H Q E→vs.length=ps.length)
  (hbody:∀(cdv:Value) (A:Around) (outer:List Env) (s:Shared) (H:Hp) (vs:List V) (Q:VK) (E:XK),Room k (A.deeper (envOfC qual (defScope st) s.heap.objs.size f cdv))→sp vs H Q E→
   ∃ t,PSs (cxOf CX0 P w K mg base N qual (defScope st) f cdv A outer s H E).nox (defBody st) t∧t { nx:=fun _ H'=>Q .non H',rt:=Q } (start N vs) H):FnOk P w K mg base CX0 (k+1) f fd ps sp:=by
 obtain ⟨oc,od,kV,doc,pm,an,cdv,ct,osl,rfl,lk,hcd⟩:=F.ex
 refine fn_of lk hcd S len fun A outer s H vs Q E hr hsp=>?_
 obtain ⟨t,h,q⟩:=hbody cdv A outer s H vs Q E hr hsp
 exact ⟨t,h.nox,q⟩
theorem Fun.binds {x qual:Str} {st:Stmt} {f:Addr} {fd:FuncData} {ps:List Str} (F:Fun K x qual st f fd)
  (h:∀(kV doc pm:Value) (an:Option Addr) (cdv ct:Value) (us:List Value),us.length=ps.length→bindArgs (PySem.W.fnOf x qual (defArgs st) (defBody st) (defScope st) .none kV doc pm an cdv ct) ⟨us,[]⟩=pure (ps.zip us)):Binds K fd ps []:=by
 obtain ⟨oc,od,kV,doc,pm,an,cdv,ct,osl,rfl,lk,hcd⟩:=F.ex
 exact .all (h kV doc pm an cdv ct)
theorem fun_mk {x qual:Str} {st:Stmt} {f:Addr} {oc:Value} {od an:Option Addr} {osl:Array (Option Value)} {kV doc pm cdv ct:Value} (l:K.lookup f=some ⟨oc,od,.func (PySem.W.fnOf x qual (defArgs st) (defBody st) (defScope st) .none kV doc pm an cdv ct),osl⟩)
  (c:PySem.W.codeIn K cdv qual=true) (k:PySem.W.keepIn K (.ref f)=true):Fun K x qual st f (PySem.W.fnOf x qual (defArgs st) (defBody st) (defScope st) .none kV doc pm an cdv ct):=⟨⟨oc,od,kV,doc,pm,an,cdv,ct,osl,rfl,l,c⟩,k⟩
end
theorem small1000 {n:Nat} (h:n≤1000):n<sizeLine:=Nat.lt_of_le_of_lt h (by decide)
section
variable {X:Cx}
theorem pv (i:Nat) {x:Str} {pos:Pos} (hN:X.N[i]? = some x:=by rfl) (hv:Vis X.env.scope x:=by first | exact Or.inl rfl | exact Or.inr (Or.inl rfl) | exact Or.inr (Or.inr rfl)) (hd:(x == ("__debug__" : Str))=false:=by decide)
  (hcd:(x == ("__classdict__" : Str))=false:=by decide):PE X (.Name x pos) (tVar i):=pe_var hN hv hd hcd
end
theorem ite2 {c A B:Prop} [Decidable c] (h1:c→A) (h2:¬ c→B):if c then A else B:=by
 by_cases h:c
 ·rw [if_pos h]
  exact h1 h
 ·rw [if_neg h]
  exact h2 h
def Same (H H':Hp):Prop:=∀ b o,H b=some o→H' b=some o
theorem Same.refl (H:Hp):Same H H:=fun _ _ h=>h
theorem Same.trans {H H1 H2:Hp} (a:Same H H1) (b:Same H1 H2):Same H H2:=fun c o h=>b c o (a c o h)
theorem Same.free {H H':Hp} (e:Same H H') {l:Addr} (h:H' l=Option.none):H l=Option.none:=by
 cases q:H l with
 | none=>rfl
 | some o=>
  rw [e l o q] at h
  cases h
theorem Same.seq {K:PySem.W.Frag} {H H':Hp} {a:Addr} {xs:List V} (e:Same H H') (h:SqL K H a xs):SqL K H' a xs:=by
 rcases h with (h | ⟨o,h⟩) | h
 ·exact .inl (.inl (e _ _ h))
 ·exact .inl (.inr ⟨o,e _ _ h⟩)
 ·exact .inr h
end L2
set_option maxHeartbeats 16000000
namespace L2
open PySem PySem.Spec PyProof.Rows
section
variable {κ:Type} [DecidableEq κ]
end
section
variable {P:Program} {w:World} {H:Hp} {h:Heap} {a:Addr}
end
section
variable {X:Cx} {pins:List (Addr×Obj)} {σ:St} {H:Hp} {s:Shared} {a:Addr} {y v:V} {u r:Value} {o:Option V} {A:Around} {E:Value→Shared→Prop}
end
section
variable {X:Cx} {pins:List (Addr×Obj)} {σ:St} {H:Hp} {s:Shared} {a:Addr} {kvs:List (Key×V)} {k:Key} {u:Value} {A:Around} {E:Value→Shared→Prop}
end
section
variable {X:Cx} {o i e value:Expr} {pos pos' tpos:Pos} {td ty tv:TE}
end
section
variable {X:Cx} {pos:Pos}
end
def IsD (H:Hp) (a:Addr):Prop:=(∃ kvs,Rd H a (.dK kvs))∨∃ kvs,Rd H a (.dT kvs)
section
variable {X:Cx} {pins:List (Addr×Obj)} {σ:St} {H:Hp} {s:Shared} {a:Addr} {y d:V} {u r:Value} {o:Option V} {A:Around} {E:Value→Shared→Prop}
end
section
variable {X:Cx} {o e f:Expr} {apos cpos:Pos} {td ty tx:TE}
end
section
variable {X:Cx} {pins:List (Addr×Obj)} {σ:St} {H:Hp} {s:Shared} {a:Addr} {kvs:List (Key×V)} {A:Around} {E:Value→Shared→Prop}
end
section
variable {X:Cx} {pins:List (Addr×Obj)} {σ:St} {H:Hp} {s:Shared} {a:Addr} {y:V} {u:Value} {A:Around} {E:Value→Shared→Prop}
end
section
variable {w:World} {prog:Program} {A:Around} {s:Shared} {R:Result→Shared→Prop}
theorem compLoop_any {elt target iter:Expr} {ifs:List Expr} {scope:Scope} {pos:Pos} {it acc:Value} {env:Env} (J:Nat→Shared→Prop)
  (turn:∀ n s,J n s→wpAny (model prog w) A (pyNext it) (fun r s1=>match r with
   | none=>R (.ok .next) s1
   | some v=>wpAny (model prog w) A (letOwnedTupleGo target it v) (fun _ s1'=>wpAny (model prog w) A (assign target env v) (fun _ s2=>
     wpAny (model prog w) A (forIn ifs true fun c r=>if r=true then do let ok ← isTrue c env (eval c env); pure (ForInStep.yield ok) else pure (ForInStep.yield r)) (fun ok s3=>
      if ok=true then wpAny (model prog w) A (eval elt env) (fun x s4=>
       wpAny (model prog w) A (call (.builtin "list.append") [acc,x]) (fun _ s5=>∃ m,m<n∧J m s5) (fun _ _=>False) s4) (fun _ _=>False) s3
      else ∃ m,m<n∧J m s3) (fun _ _=>False) s2) (fun _ _=>False) s1') (fun _ _=>False) s1) (fun _ _=>False) s)
  (n:Nat) (h:J n s):codeAny (model prog w) A (.compLoop (.ListComp elt [⟨target,iter,ifs,0⟩] scope pos) 0 it acc env) R s:=by
 refine codeAny_loop rfl J (fun n s hI=>?_) n h
 refine wpAny_noted (env:=env) (m:=compTurn (.ListComp elt [⟨target,iter,ifs,0⟩] scope pos) 0 it acc env) ?_
 rw [compTurn_list]
 refine wpAny_bind (wpAny_standAt (wpAny_bind (wpAny_mono (turn n s hI) (fun r s1 h1=>?_) fun _ _ h'=>h'.elim)))
 cases r with
 | none=>exact wpAny_pure h1
 | some v=>
  refine wpAny_bind (wpAny_mono h1 (fun _ s1' h1'=>?_) fun _ _ h'=>h'.elim)
  refine wpAny_bind (wpAny_mono h1' (fun _ s2 h2=>wpAny_bind (wpAny_mono h2 (fun ok s3 h3=>?_) fun _ _ h'=>h'.elim)) fun _ _ h'=>h'.elim)
  cases ok with
  | false=>exact wpAny_pure ⟨rfl,h3⟩
  | true=>
   exact wpAny_bind (wpAny_bind (wpAny_mono h3 (fun x s4 h4=>wpAny_bind (wpAny_mono h4 (fun _ s5 h5=>wpAny_pure (wpAny_pure ⟨rfl,h5⟩)) fun _ _ h'=>h'.elim)) fun _ _ h'=>h'.elim))
end
theorem closure_go {env:Env}:∀(names:List (Str×NameKind)) (cs:List (Str×Addr)),(∀ x∈names,x.2=.free→∃ c,env.cells.lookup x.1=some c)→(∀ x c,cs.lookup x=some c→env.cells.lookup x=some c)→
  ∃ cl,(forIn names cs fun (x:Str×NameKind) (cs:List (Str×Addr))=>(if (x.2 == NameKind.free)=true then do let a ← cellOf env x.1; pure (ForInStep.yield ((x.1,a)::cs)) else pure (ForInStep.yield cs):Sem (ForInStep (List (Str×Addr)))))=pure cl∧
   (∀ x c,cl.lookup x=some c→env.cells.lookup x=some c)∧(∀ x,(cs.lookup x).isSome=true→(cl.lookup x).isSome=true)∧∀ x∈names,x.2=.free→(cl.lookup x.1).isSome=true
 | [],cs,_,h=>⟨cs,rfl,h,fun _ z=>z,fun x z=>by cases z⟩
 | (n,k)::r,cs,hf,h=>by
  by_cases hk:k=.free
  ·subst hk
   obtain ⟨c,hc⟩:=hf (n,.free) List.mem_cons_self rfl
   have hc':env.cells.lookup n=some c:=hc
   obtain ⟨cl,e,h1,h2,h3⟩:=closure_go (env:=env) r ((n,c)::cs) (fun x hx=>hf x (List.mem_cons_of_mem _ hx)) (fun x d hd=>by
    rw [List.lookup_cons] at hd
    by_cases hx:x=n
    ·subst hx
     simp at hd
     subst hd
     exact hc
    ·have:(x == n)=false:=by simpa using hx
     rw [this] at hd
     exact h x d hd)
   refine ⟨cl,?_,h1,fun x hx=>h2 x ?_,fun x hx hk=>?_⟩
   ·rw [List.forIn_cons]
    simp only [beq_self_eq_true,if_true,cellOf,hc',pure_bind]
    exact e
   ·rw [List.lookup_cons]
    by_cases hx':x=n
    ·subst hx'; simp
    ·have:(x == n)=false:=by simpa using hx'
     rw [this]; exact hx
   ·rcases List.mem_cons.mp hx with z | z
    ·subst z
     refine h2 _ ?_
     rw [List.lookup_cons]
     simp
    ·exact h3 x z hk
  ·obtain ⟨cl,e,h1,h2,h3⟩:=closure_go (env:=env) r cs (fun x hx=>hf x (List.mem_cons_of_mem _ hx)) h
   refine ⟨cl,?_,h1,h2,fun x hx hk'=>?_⟩
   ·rw [List.forIn_cons]
    have:(k == NameKind.free)=false:=by simpa using hk
    simp only [this,Bool.false_eq_true,if_false,pure_bind]
    exact e
   ·rcases List.mem_cons.mp hx with z | z
    ·subst z; exact absurd hk' hk
    ·exact h3 x z hk'
theorem closure_of {env:Env} {scope:Scope} (hf:∀ x∈scope.names,x.2=.free→∃ c,env.cells.lookup x.1=some c) :
  ∃ cl,closureFor scope env=pure cl∧(∀ x c,cl.lookup x=some c→env.cells.lookup x=some c)∧∀ x∈scope.names,x.2=.free→(cl.lookup x.1).isSome=true:=by
 obtain ⟨cl,e,h1,_,h3⟩:=closure_go (env:=env) scope.names [] hf (fun x c z=>by cases z)
 refine ⟨cl,?_,h1,h3⟩
 unfold closureFor
 simp only [bind_pure]
 exact e
def ownCell (scope:Scope) (x:Str):Bool:=match scope.names.lookup x with
 | some .cell=>true
 | _=>false
theorem ownCell_of {scope:Scope} {x:Str} (h:ownCell scope x=true):scope.names.lookup x=some .cell:=by
 unfold ownCell at h
 split at h
 ·assumption
 ·cases h
def newCells (n:Nat) (scope:Scope):List (Str×Addr):=cellsFrom (n+1) scope.names []
theorem cells_app:∀(names:List (Str×NameKind)) (n:Nat) (cl:List (Str×Addr)),cellsFrom n names cl=cellsFrom n names []++cl
 | [],_,_=>rfl
 | (x,k)::r,n,cl=>by
  unfold cellsFrom
  split
  ·rw [cells_app r (n+1) ((x,n)::cl),cells_app r (n+1) [(x,n)],List.append_assoc]
   rfl
  ·exact cells_app r n cl
theorem cells_mem:∀(names:List (Str×NameKind)) (n:Nat) {x:Str} {c:Addr},(x,c)∈cellsFrom n names []→(x,NameKind.cell)∈names
 | [],_,_,_,h=>absurd h List.not_mem_nil
 | (y,k)::r,n,x,c,h=>by
  unfold cellsFrom at h
  split at h
  ·rename_i hk
   rw [cells_app] at h
   rcases List.mem_append.mp h with z | z
   ·exact List.mem_cons_of_mem _ (cells_mem r _ z)
   ·cases List.mem_singleton.mp z
    rw [beq_iff_eq.mp hk]
    exact List.mem_cons_self
  ·exact List.mem_cons_of_mem _ (cells_mem r _ h)
structure BlockAt (s:Shared) (scope:Scope) (h':Heap):Prop where
 ns:h'.Ns s.heap.objs.size fun _=>none
 keep:∀ b o,s.heap.get? b=some o→h'.get? b=some o
 cell:∀ x c,(newCells s.heap.objs.size scope).lookup x=some c→h'.IsCell c none∧s.heap.objs.size<c
 one:∀ x y c,(newCells s.heap.objs.size scope).lookup x=some c→(newCells s.heap.objs.size scope).lookup y=some c→x=y
theorem new_block {M:Model} {A:Around} {E:Value→Shared→Prop} {s:Shared} {scope:Scope} {gl:Addr} {cl:List (Str×Addr)} {q:Str} {env:Env} {Q:Env→Shared→Prop}
  (h:∀ h',BlockAt s scope h'→Q (newEnv scope s.heap.objs.size gl (newCells s.heap.objs.size scope++cl) q none .none (some env) builtinsNs) { s with heap:=h',toks:=s.toks }) :
  wpAny M A (newFunctionEnv scope gl cl [] q none .none (some env)) Q E s:=by
 unfold newFunctionEnv
 refine wpAny_bind (wpAny_alloc (wpAny_bind (wpAny_layCells _ (fun x k cs=>?_) _ _ _ _ (wpAny_bind ?_))))
 ·by_cases z:(k == NameKind.cell)=true
  ·rw [if_pos z]
   simp only [z,if_true,pure_bind,bind_assoc]
  ·rw [if_neg z]
   simp only [Bool.eq_false_iff.mpr z,Bool.false_eq_true,if_false,pure_bind]
 ·have sz:=Heap.size_push s.heap { cls:=.type "dict",data:=.dict #[] }
  have ok:=cellsFrom_ok scope.names (s.heap.push { cls:=.type "dict",data:=.dict #[] }) (s.heap.objs.size+1) [] ⟨fun x c z=>absurd z List.not_mem_nil,.nil⟩ (Nat.le_of_eq sz.symm)
  rw [sz] at ok
  have b:BlockAt s scope (pushCells (s.heap.push { cls:=.type "dict",data:=.dict #[] }) scope.names):=by
   refine ⟨(Heap.Ns.new s.heap (.type "dict")).keeps (pushCells_keeps _ _),fun b o e=>pushCells_keeps _ _ b o (Heap.get?_push_of_some _ e),fun x c e=>?_,fun x y c e1 e2=>name_of_addr ok.apart (PySem.mem_of_lookup e1) (PySem.mem_of_lookup e2)⟩
   obtain ⟨z1,z2⟩:=ok.empty x c (PySem.mem_of_lookup e)
   exact ⟨z1,z2⟩
  have this:=h _ b
  unfold newCells at this
  rw [← cells_app,← sz] at this
  rw [List.forIn_nil]
  exact wpAny_pure (wpAny_pure this)
def compCx (X:Cx) (NY:List Str) (scope:Scope) (cl:List (Str×Addr)) (C:Addr) (s0:Shared) (H0:Hp) (ex:List Addr):Cx:=
 { X with N:=NY,s₀:=s0,H₀:=H0,env:=compEnvC scope cl C X.env,outer:=X.stack,ex:=ex,fn:=ownCell scope,pn:=[],xe:=fun _ _=>False }
def FreesOk (X:Cx) (scope:Scope):List (Str×Nat)→Prop
 | []=>True
 | p::r=>(X.N[p.2]? = some p.1∧scope.names.lookup p.1=some .free∧(X.env.kindOf p.1=some .cell∨X.env.kindOf p.1=some .free))∧FreesOk X scope r
theorem FreesOk.all {X:Cx} {scope:Scope}:∀{fr:List (Str×Nat)},FreesOk X scope fr→∀ p∈fr,X.N[p.2]? = some p.1∧scope.names.lookup p.1=some .free∧(X.env.kindOf p.1=some .cell∨X.env.kindOf p.1=some .free)
 | [],_,p,hp=>by cases hp
 | q::r,h,p,hp=>by
  rcases List.mem_cons.mp hp with z | z
  ·subst z; exact h.1
  ·exact FreesOk.all h.2 p z
def stComp (own:List Str) (fr:List (Str×Nat)) (σ:St):St:=own.map (fun _=>none)++fr.map fun p=>(σ[p.2]?).join
theorem relabel_free {env:Env}:∀{names:List (Str×NameKind)} {x:Str} {k:NameKind},(names.map fun (n,k)=>if (k == NameKind.free && env.scope.kind == .function && env.kindOf n == some .cell) then (n,NameKind.cell) else (n,k)).lookup x=some k→
  k=.cell∨k=.free→names.lookup x=some .free∨names.lookup x=some .cell
 | [],_,_,h,_=>by simp at h
 | (n,k0)::r,x,k,h,hk=>by
  have ih:=@relabel_free env r x k
  have h':List.lookup x ((if (k0 == NameKind.free && env.scope.kind == .function && env.kindOf n == some .cell)=true then (n,NameKind.cell) else (n,k0))::(r.map fun (n,k)=>if (k == NameKind.free && env.scope.kind == .function && env.kindOf n == some .cell) then (n,NameKind.cell) else (n,k)))=some k:=h
  clear h
  cases hx:x == n with
  | true=>
   simp only [List.lookup_cons,hx]
   by_cases hc:(k0 == NameKind.free && env.scope.kind == .function && env.kindOf n == some .cell)=true
   ·simp only [Bool.and_eq_true,beq_iff_eq] at hc
    exact .inl (by rw [hc.1.1])
   ·rw [if_neg hc] at h'
    simp only [List.lookup_cons,hx] at h'
    cases h'
    rcases hk with rfl | rfl
    ·exact .inr rfl
    ·exact .inl rfl
  | false=>
   simp only [List.lookup_cons,hx]
   by_cases hc:(k0 == NameKind.free && env.scope.kind == .function && env.kindOf n == some .cell)=true
   ·rw [if_pos hc] at h'; simp only [List.lookup_cons,hx] at h'; exact ih h' hk
   ·rw [if_neg hc] at h'; simp only [List.lookup_cons,hx] at h'; exact ih h' hk
theorem relabel_local {env:Env}:∀{names:List (Str×NameKind)} {x:Str},(names.map fun (n,k)=>if (k == NameKind.free && env.scope.kind == .function && env.kindOf n == some .cell) then (n,NameKind.cell) else (n,k)).lookup x=some .local→
  names.lookup x=some .local
 | [],_,h=>by simp at h
 | (n,k0)::r,x,h=>by
  have ih:=@relabel_local env r x
  have h':List.lookup x ((if (k0 == NameKind.free && env.scope.kind == .function && env.kindOf n == some .cell)=true then (n,NameKind.cell) else (n,k0))::(r.map fun (n,k)=>if (k == NameKind.free && env.scope.kind == .function && env.kindOf n == some .cell) then (n,NameKind.cell) else (n,k)))=some .local:=h
  clear h
  cases hx:x == n with
  | true=>
   simp only [List.lookup_cons,hx]
   by_cases hc:(k0 == NameKind.free && env.scope.kind == .function && env.kindOf n == some .cell)=true
   ·rw [if_pos hc] at h'; simp [List.lookup_cons,hx] at h'
   ·rw [if_neg hc] at h'; simpa [List.lookup_cons,hx] using h'
  | false=>
   simp only [List.lookup_cons,hx]
   by_cases hc:(k0 == NameKind.free && env.scope.kind == .function && env.kindOf n == some .cell)=true
   ·rw [if_pos hc] at h'; simp only [List.lookup_cons,hx] at h'; exact ih h'
   ·rw [if_neg hc] at h'; simp only [List.lookup_cons,hx] at h'; exact ih h'
structure CompScope (X:Cx) (own:List Str) (fr:List (Str×Nat)) (scope:Scope):Prop where
 kind:scope.kind=.function
 cells:∀ y∈scope.names,y.2=.cell→scope.names.lookup y.1=some .cell
 names:∀ x∈scope.names,x.2=.local→scope.names.lookup x.1=some .local
 frees:FreesOk X scope fr
 allf:∀ x∈scope.names,x.2=.free→∃ p∈fr,p.1=x.1
section
variable {X:Cx} {pins:List (Addr×Obj)} {σ:St} {H:Hp} {s:Shared}
theorem CompScope.has {own:List Str} {fr:List (Str×Nat)} {scope:Scope} (S:CompScope X own fr scope) (ok:X.Ok):∀ x∈scope.names,x.2=.free→∃ c,X.env.cells.lookup x.1=some c:=fun x hx hk=>by
 obtain ⟨p,hp,e⟩:=S.allf x hx hk
 obtain ⟨_,_,h⟩:=S.frees.all p hp
 rw [← e]
 exact ok.has p.1 h
theorem cell_two {n:Nat} {scope:Scope} {cl:List (Str×Addr)} {x:Str} {c:Addr} (h:(newCells n scope++cl).lookup x=some c):(newCells n scope).lookup x=some c∨cl.lookup x=some c:=by
 rw [List.lookup_append] at h
 cases e:(newCells n scope).lookup x with
 | none=>rw [e] at h; exact .inr h
 | some d=>rw [e] at h; exact .inl h
theorem CompScope.outer {own:List Str} {fr:List (Str×Nat)} {scope:Scope} (S:CompScope X own fr scope) {n:Nat} {cl:List (Str×Addr)} {x:Str} (h:scope.names.lookup x=some .free):(newCells n scope++cl).lookup x=cl.lookup x:=by
 rw [List.lookup_append]
 cases e:(newCells n scope).lookup x with
 | none=>rfl
 | some d=>
  have:=S.cells _ (cells_mem _ _ (PySem.mem_of_lookup e)) rfl
  rw [h] at this
  cases this
theorem cell_far {scope:Scope} {cl:List (Str×Addr)} {h':Heap} (B:BlockAt s scope h') {b:Addr} {o:Obj} (hb:s.heap.get? b=some o) {x:Str} {c:Addr} (h:(newCells s.heap.objs.size scope++cl).lookup x=some c) (g:cl.lookup x=some c→c≠b):c≠b:=by
 rcases cell_two h with z | z
 ·exact fun e=>absurd (Heap.lt_size hb) (Nat.not_lt_of_gt (e ▸ (B.cell x c z).2))
 ·exact g z
theorem inv_comp {own:List Str} {fr:List (Str×Nat)} {scope:Scope} {cl:List (Str×Addr)} {fp:List Addr} {h':Heap} {tk:Nat} (S:CompScope X own fr scope) (I:Inv X pins σ H s)
  (hcl:∀ x c,cl.lookup x=some c→X.env.cells.lookup x=some c) (hcs:∀ x∈scope.names,x.2=.free→(cl.lookup x.1).isSome=true)
  (hf:∀ b∈fp,FpOk X pins H b) (hfo:∀ b∈fp,∃ o,s.heap.get? b=some o)
  (B:BlockAt s scope h') :
  Inv (compCx X (own++fr.map (·.1)) scope (newCells s.heap.objs.size scope++cl) s.heap.objs.size s H fp) [] (stComp own fr σ) H { s with heap:=h',toks:=tk }:=by
 have keep:=B.keep
 have old:∀ x c,cl.lookup x=some c→c<s.heap.objs.size:=fun x c e=>by
  obtain ⟨v,z⟩:=I.cell x c (hcl x c e)
  exact z.lt
 have freeOf:∀ x,scope.names.lookup x=some .free→∃ c,cl.lookup x=some c:=fun x hx=>by
  have hm:=PySem.mem_of_lookup hx
  exact Option.isSome_iff_exists.mp (hcs _ hm rfl)
 refine ⟨⟨I.ok.mod,?_,I.ok.glob,I.ok.blt,Nat.le_refl _,?_,?_,?_,I.ok.hd,I.ok.frames,.inl rfl,?_,I.bs,Nat.le_trans I.ok.bsz I.sz,?_,?_,I.stack,I.stkFree⟩,rfl,I.bare,Un.kept keep,⟨_,B.ns,?_⟩,?_,I.hok.fresh (Nat.le_refl _),?_,?_,I.hok.kept keep,?_⟩
 ·exact S.kind
 ·intro x y c h1 h2
  rcases cell_two h1 with z1 | z1 <;> rcases cell_two h2 with z2 | z2
  ·exact B.one x y c z1 z2
  ·exact absurd (old y c z2) (Nat.not_lt_of_gt (B.cell x c z1).2)
  ·exact absurd (old x c z1) (Nat.not_lt_of_gt (B.cell y c z2).2)
  ·exact I.ok.inj x y c (hcl x c z1) (hcl y c z2)
 ·intro x hx
  have hx':(relabel scope X.env).names.lookup x=some .cell∨(relabel scope X.env).names.lookup x=some .free:=hx
  have:scope.names.lookup x=some .free∨scope.names.lookup x=some .cell:=by
   rcases hx' with z | z
   ·exact relabel_free z (.inl rfl)
   ·exact relabel_free z (.inr rfl)
  rcases this with z | z
  ·obtain ⟨c,hc⟩:=freeOf x z
   exact ⟨c,(S.outer z).trans hc⟩
  ·obtain ⟨c,hc⟩:=cell_has (n:=s.heap.objs.size+1) z
   refine ⟨c,?_⟩
   show (newCells s.heap.objs.size scope++cl).lookup x=some c
   rw [List.lookup_append,show (newCells s.heap.objs.size scope).lookup x=some c from hc]
   rfl
 ·intro x c hx z
  obtain ⟨d,hd⟩:=cell_has (n:=s.heap.objs.size+1) (ownCell_of hx)
  have e:(newCells s.heap.objs.size scope++cl).lookup x=some d:=by
   rw [List.lookup_append,show (newCells s.heap.objs.size scope).lookup x=some d from hd]
   rfl
  have z':(newCells s.heap.objs.size scope++cl).lookup x=some c:=z
  rw [e] at z'
  cases z'
  exact Nat.le_of_lt (B.cell x c hd).2
 ·intro b hb
  obtain ⟨o,ho⟩:=hfo b hb
  exact ⟨Nat.ne_of_lt (Heap.lt_size ho),fun x c e=>cell_far B ho e fun z=>(hf b hb).2.2.2.2.1 x c (hcl x c z)⟩
 ·intro b o e hb
  obtain ⟨_,_,_,z,_⟩:=hf b hb
  rcases z with z | z
  ·exact I.ok.noex b o e z
  ·exact absurd (Nat.lt_of_lt_of_le (Heap.lt_size (I.ok.bs b o e).1) z) (Nat.lt_irrefl _)
 ·intro b hb hs
  obtain ⟨_,f1,f2,_⟩:=hf b hb
  rcases List.mem_cons.mp (I.stkSub b hs) with e | e
  ·exact f1 e
  ·exact f2 e
 ·intro i x v h1 h2 h3
  have h1':(own++fr.map (·.1))[i]? = some x:=h1
  have h2':(own.map (fun _=>(none:Option V))++fr.map fun p=>(σ[p.2]?).join)[i]? = some (some v):=h2
  by_cases hi:i<own.length
  ·rw [List.getElem?_append_left (by simpa using hi),List.getElem?_map] at h2'
   rw [List.getElem?_eq_getElem hi] at h2'
   cases h2'
  ·rw [List.getElem?_append_right (by omega),List.getElem?_map] at h1'
   rw [List.getElem?_append_right (by simp; omega),List.getElem?_map,List.length_map] at h2'
   cases e:fr[i - own.length]? with
   | none=>rw [e] at h1'; cases h1'
   | some p=>
    rw [e] at h1' h2'
    have e1:p.1=x:=by simpa using h1'
    have e2:(σ[p.2]?).join=some v:=by simpa using h2'
    have e3:σ[p.2]? = some (some v):=by
     cases q:σ[p.2]? with
     | none=>rw [q] at e2; cases e2
     | some y=>rw [q] at e2; cases y with
      | none=>cases e2
      | some y=>simpa using e2
    obtain ⟨g1,g2,g3⟩:=S.frees.all p (List.mem_of_getElem? e)
    subst e1
    obtain ⟨m,hn,hl⟩:=I.loc
    have vis:Vis X.env.scope p.1:=by
     rcases g3 with z | z
     ·exact .inr (.inl z)
     ·exact .inr (.inr z)
    obtain ⟨u,r,l⟩:=hl p.2 p.1 v g1 e3 vis
    refine ⟨u,r,.inr ⟨?_,?_⟩⟩
    ·have h3':Vis (relabel scope X.env) p.1:=h3
     rcases h3' with z | z | z
     ·have:=relabel_local z
      rw [g2] at this
      cases this
     ·exact .inl z
     ·exact .inr z
    ·rcases l with ⟨k,_⟩ | ⟨k,c,hc,hcell⟩
     ·rcases g3 with z | z
      ·rw [z] at k; cases k
      ·rw [z] at k; cases k
     ·obtain ⟨c',hc'⟩:=freeOf p.1 g2
      have:=hcl _ _ hc'
      rw [hc] at this
      cases this
      obtain ⟨o,ho,hd⟩:=hcell
      exact ⟨c,(S.outer g2).trans hc',o,keep c o ho,hd⟩
 ·intro x c e
  rcases cell_two e with z | z
  ·exact ⟨none,(B.cell x c z).1⟩
  ·obtain ⟨v,o,ho,hd⟩:=I.cell x c (hcl x c z)
   exact ⟨v,o,keep c o ho,hd⟩
 ·intro x c e
  rcases cell_two e with z | z
  ·exact I.hok.fresh (Nat.le_of_lt (B.cell x c z).2)
  ·exact I.freeC x c (hcl x c z)
 ·intro p hp
  exact absurd (show p∈([]:List (Addr×Obj)) from hp) (by simp)
 ·show (own.map (fun _=>(none:Option V))++fr.map fun p=>(σ[p.2]?).join).length=(own++fr.map (·.1)).length
  simp
end
def PF (X:Cx) (ifs:List Expr) (t:TT):Prop:=
 ∀(pins:List (Addr×Obj)) (s:Shared) (σ:St) (H:Hp) (Q:Bool→Hp→Prop),Inv X pins σ H s→t σ H Q→
  wpAny (model X.prog X.w) X.A (forIn ifs true fun c r=>if r=true then do let ok ← isTrue c X.env (eval c X.env); pure (ForInStep.yield ok) else pure (ForInStep.yield r)) (TP X pins σ Q) X.xe s
def tTrue:TT:=fun _ H Q=>Q true H
theorem pf_nil {X:Cx}:PF X [] tTrue:=fun _ _ _ H _ I h=>wpAny_tests_nil ⟨H,I,h⟩
theorem pf_one {X:Cx} {c:Expr} {t:TT} (h:PT X c t):PF X [c] t:=fun pins s σ H Q I q=>wpAny_tests_one (h pins s σ H Q I q)
def CompBody (J:It) (g:TG) (tt:TT) (te:TE) (σ0:St) (H1:Hp) (D:Addr) (Q:Hp→Prop):Prop:=
 ∃ W:Nat→Nat→List V→St→Hp→Prop,(∃ m,W 0 m [] σ0 (upd H1 D (.lst [])))∧∀ i m ys σ H,W i m ys σ H→H D=some (.lst ys)∧
  ((J.stop i H∧Q H)∨(J.go i H∧ys.length<sizeLine∧∃ N:List V→St→Hp→Prop,(∀ ys' σ' H',N ys' σ' H'→∃ m',m'<m∧W (i+1) m' ys' σ' H')∧
   ∀ x H',J.yld i H x H'→g x σ H' fun σ2 H2=>tt σ2 H2 fun b H3=>if b=true then te σ2 H3 fun y H4=>H4 D=some (.lst ys)∧N (ys++[y]) σ2 (upd H4 D (.lst (ys++[y]))) else N ys σ2 H3))
def tComp (own:List Str) (fr:List (Str×Nat)) (wi:TI) (g:TG) (tt:TT) (te:TE):TE:=fun σ H Q=>wi σ H fun J H1=>∀ D,H1 D=none→CompBody J g tt te (stComp own fr σ) H1 D fun H2=>Q (.ref D) H2
section
variable {X:Cx} {pins:List (Addr×Obj)} {σ:St} {H:Hp} {s:Shared}
theorem comp_run {own:List Str} {fr:List (Str×Nat)} {scope:Scope} {cl:List (Str×Addr)} {elt tg iter:Expr} {ifs:List Expr} {pos:Pos} {g:TG} {tt:TT} {te:TE} {Q:Addr→Hp→Prop} {RR:Value→Addr→Result→Shared→Prop} {E:Value→Shared→Prop}
  {it:Addr} {fp:List Addr} {tn:Nat→Heap→Prop} {J:It}
  (hc:X.calm=true) (S:CompScope X own fr scope) (I:Inv X pins σ H s) (hcl:∀ x c,cl.lookup x=some c→X.env.cells.lookup x=some c) (hcs:∀ x∈scope.names,x.2=.free→(cl.lookup x.1).isSome=true)
  (T:Turn X.prog X.w X.K tg J fp it tn) (st:tn 0 s.heap) (hf:∀ b∈fp,FpOk X pins H b)
  (hB:∀(cl:List (Str×Addr)) (C:Addr) (s0:Shared) (H0:Hp),PG (compCx X (own++fr.map (·.1)) scope cl C s0 H0 fp) tg g∧PF (compCx X (own++fr.map (·.1)) scope cl C s0 H0 fp) ifs tt∧PE (compCx X (own++fr.map (·.1)) scope cl C s0 H0 fp) elt te)
  (body:∀ D,H D=none→CompBody J g tt te (stComp own fr σ) H D (Q D))
  (hR:∀ D C s' H',Inv X pins σ H' s'→Q D H'→C≠X.env.locals→(∃ m,s'.heap.Ns C m)→FpOk X pins H' C→(∃ o,s'.heap.get? C=some o)→RR (.ref D) C (.ok .next) s') :
  wpAny (model X.prog X.w) X.A (newList []) (fun acc s3=>wpAny (model X.prog X.w) X.A (newFunctionEnv scope X.env.globals cl [] X.env.qual none .none (some X.env)) (fun cenv s4=>
   codeAny (model X.prog X.w) X.A (.compStart (.ListComp elt [⟨tg,iter,ifs,0⟩] scope pos) 0 (.ref it) acc { cenv with scope:=relabel scope X.env }) (RR acc cenv.locals) s4) E s3) E s:=by
 refine wpAny_newObj_type ?_
 have nD:H s.heap.objs.size=none:=I.hok.fresh (Nat.le_refl _)
 have I3:Inv X pins σ (upd H s.heap.objs.size (.lst [])) { s with heap:=s.heap.push { cls:=.type "list",data:=.seq ([]:List Value).toArray },toks:=s.toks }:=I.lnew (t':=s.toks) .nil (Nat.zero_le _)
 generalize hs3:({ s with heap:=s.heap.push { cls:=.type "list",data:=.seq ([]:List Value).toArray },toks:=s.toks }:Shared)=s3 at I3
 generalize hD:s.heap.objs.size=D at I3 nD
 have st3:tn 0 s3.heap:=by
  subst hs3
  exact T.keep _ _ _ st fun b _ o e=>Heap.get?_push_of_some _ e
 have fD:∀ b∈fp,b≠D:=fun b hb z=>by
  obtain ⟨o,ho,_⟩:=T.obj _ _ st b hb
  exact absurd (Heap.lt_size ho) (by rw [hD,z]; exact Nat.lt_irrefl _)
 have hf3:∀ b∈fp,FpOk X pins (upd H D (.lst [])) b:=fun b hb=>⟨by rw [upd_ne (fD b hb)]; exact (hf b hb).1,(hf b hb).2⟩
 obtain ⟨W,⟨m0,w0⟩,turn⟩:=body D nD
 refine new_block fun h4 B4=>?_
 have keep4:=B4.keep
 have far:∀ b∈fp,∀ x c,(newCells s3.heap.objs.size scope++cl).lookup x=some c→c≠b:=fun b hb x c e=>by
  obtain ⟨o,ho,_⟩:=T.obj _ _ st3 b hb
  exact cell_far B4 ho e fun z=>(hf b hb).2.2.2.2.1 x c (hcl x c z)
 generalize hs4:({ s3 with heap:=h4,toks:=s3.toks }:Shared)=s4
 have I4:Inv (compCx X (own++fr.map (·.1)) scope (newCells s3.heap.objs.size scope++cl) s3.heap.objs.size s3 (upd H D (.lst [])) fp) [] (stComp own fr σ) (upd H D (.lst [])) s4:=by
  subst hs4
  exact inv_comp S I3 hcl hcs hf3 (fun b hb=>let ⟨o,e,_⟩:=T.obj _ _ st3 b hb; ⟨o,e⟩) B4
 have st4:tn 0 s4.heap:=by
  subst hs4
  exact T.keep _ _ _ st3 fun b _ o e=>keep4 b o e
 have Cne:s3.heap.objs.size≠X.env.locals:=Nat.ne_of_gt I3.lt
 generalize hcl2:newCells s3.heap.objs.size scope++cl=cl2 at I4 far
 generalize hC:s3.heap.objs.size=C at I4 Cne
 obtain ⟨pG,pF,pE⟩:=hB cl2 C s3 (upd H D (.lst []))
 generalize hY:compCx X (own++fr.map (·.1)) scope cl2 C s3 (upd H D (.lst [])) fp=Y at I4 pG pF pE
 have yP:Y.prog=X.prog:=by rw [← hY]; rfl
 have yw:Y.w=X.w:=by rw [← hY]; rfl
 have yK:Y.K=X.K:=by rw [← hY]; rfl
 have yA:Y.A=X.A:=by rw [← hY]; rfl
 have yc:Y.calm=true:=by rw [← hY]; exact hc
 have yx:Y.xe=fun _ _=>False:=by rw [← hY]; rfl
 have yfs:Y.fs=frs X.stack:=by rw [← hY]; rfl
 have yex:Y.ex=fp:=by rw [← hY]; rfl
 have yH:Y.H₀=upd H D (.lst []):=by rw [← hY]; rfl
 have ys:Y.s₀=s3:=by rw [← hY]; rfl
 have yl:Y.env.locals=C:=by rw [← hY]; rfl
 have ypn:Y.pn=[]:=by rw [← hY]; rfl
 have ycl:Y.env.cells=cl2:=by rw [← hY]; rfl
 have yenv:Y.env=compEnvC scope cl2 C X.env:=by rw [← hY]; rfl
 have e5:{ (newEnv scope C X.env.globals cl2 X.env.qual none .none (some X.env) builtinsNs:Env) with scope:=relabel scope X.env } = Y.env:=by rw [yenv]; rfl
 have hCe:(newEnv scope C X.env.globals cl2 X.env.qual none .none (some X.env) builtinsNs:Env).locals=C:=rfl
 have fpY:∀{H':Hp},(∀ b∈fp,H' b=none)→∀ b∈fp,FpOk Y [] H' b:=fun hn b hb=>by
  obtain ⟨o,ho,_⟩:=T.obj _ _ st3 b hb
  have hlt:=Heap.lt_size ho
  refine ⟨hn b hb,?_,?_,.inl (by rw [yex]; exact hb),fun x c e=>?_,fun p hp=>?_⟩
  ·rw [yl,← hC]; exact Nat.ne_of_lt hlt
  ·rw [yfs]
   intro z
   obtain ⟨_,f1,f2,_⟩:=hf b hb
   rcases List.mem_cons.mp (I.stkSub b z) with e | e
   ·exact f1 e
   ·exact f2 e
  ·rw [ycl] at e
   exact far b hb x c e
  ·rw [ypn] at hp
   cases hp
 have main:codeAny (model X.prog X.w) X.A (.compLoop (.ListComp elt [⟨tg,iter,ifs,0⟩] scope pos) 0 (.ref it) (.ref D) Y.env) (RR (.ref D) C) s4:=by
  refine compLoop_any (fun n s'=>∃ i ys σ' H',Inv Y [] σ' H' s'∧tn i s'.heap∧(∀ b∈fp,H' b=none)∧W i n ys σ' H') ?_ m0 ⟨0,[],_,_,I4,st4,fun b hb=>(hf3 b hb).1,w0⟩
  rintro n s5 ⟨i,ys5,σ5,H5,I5,st5,fr5,w5⟩
  obtain ⟨hD5,hw⟩:=turn i n ys5 σ5 H5 w5
  rcases hw with ⟨stop,q⟩ | ⟨go,hz,N,hN,step⟩
  ·have:=T.done Y yP yw yK yc i [] s5 σ5 H5 (fun _ _=>False) I5 (fpY fr5) st5 stop
   rw [yA] at this
   refine thn this fun r s6 ⟨hr,I6⟩=>?_
   subst hr
   have I7:Inv X pins σ H5 s6:=by
    refine I3.call' (ch:=fp) (H':=H5) ?_ ?_ ?_ I6.bare fun b hb=>?_
    ·rw [← ys]; exact I6.os
    ·have:=I6.base
     rw [yfs,yex,yH,ys] at this
     exact this
    ·have:=I6.hok
     rw [yP,yw] at this
     exact this
    ·obtain ⟨_,f1,_,f3,f4,f5⟩:=hf b hb
     exact ⟨f3,f1,f4,f5⟩
   obtain ⟨mC,hnC,_⟩:=I6.loc
   rw [yl] at hnC
   refine hR D C s6 H5 I7 q Cne ⟨mC,hnC⟩ ?_ ?_
   ·refine I3.fpOk (by rw [hC]; exact Nat.le_refl _) ?_
    have:=I6.free
    rw [yl] at this
    exact this
   ·obtain ⟨o,_,_,ho,_⟩:=hnC
    exact ⟨o,ho⟩
  ·have h5:=T.item Y yP yw yK yc i [] s5 σ5 H5 (fun _ _=>False) I5 (fpY fr5) st5 go
   rw [yA] at h5
   refine thn h5 fun r s6 ⟨u,hr,h6⟩=>?_
   subst hr
   refine thn h6 fun _ s7 ⟨x,H7,I7,r7,y7,st7,fr7⟩=>?_
   have I7':=I7.pinned (fpY fr7) (T.obj _ _ st7)
   have h8:=pG _ s7 σ5 H7 x u _ I7' r7 (step x H7 y7)
   rw [yP,yw,yA,yx] at h8
   refine thn h8 fun _ s8 ⟨σ8,H8,I8,q8⟩=>?_
   have h9:=pF _ s8 σ8 H8 _ I8 q8
   rw [yP,yw,yA,yx] at h9
   refine thn h9 fun b s9 ⟨H9,I9,q9⟩=>?_
   have again:∀{ys':List V} {σ':St} {H':Hp} {s':Shared},Inv Y ([]++pinsAt fp s7.heap) σ' H' s'→N ys' σ' H'→∃ m,m<n∧∃ i ys σ' H',Inv Y [] σ' H' s'∧tn i s'.heap∧(∀ b∈fp,H' b=none)∧W i m ys σ' H':=fun {ys' σ' H' s'} I' n'=>by
    obtain ⟨m',hm,w'⟩:=hN ys' σ' H' n'
    refine ⟨m',hm,i+1,ys',σ',H',I'.unpinned,T.keep _ _ _ st7 fun b hb o e=>(I'.pin (b,o) (List.mem_append_right _ (List.mem_append_right _ (mem_pinsAt hb e)))).1,fun b hb=>?_,w'⟩
    obtain ⟨o,e,d⟩:=T.obj _ _ st7 b hb
    exact (I'.pin (b,o) (List.mem_append_right _ (List.mem_append_right _ (mem_pinsAt hb e)))).2.1
   cases b with
   | false=>
    simp only [Bool.false_eq_true,if_false] at q9 ⊢
    exact again I9 q9
   | true=>
    simp only [if_true] at q9 ⊢
    have h10:=pE _ s9 σ8 H9 _ I9 q9
    rw [yP,yw,yA,yx] at h10
    refine thn h10 fun y s10 ⟨z,H10,I10,r10,hD10,n10⟩=>?_
    have h11:=mt_append (X:=Y) _ s10 σ8 H10 (.ref D) [z] (.ref D) [y] (fun _ H'=>N (ys5++[z]) σ8 H') I10 rfl (.cons r10 .nil) ⟨D,ys5,z,rfl,rfl,hD10,hz,n10⟩
    rw [yP,yw,yA,yx] at h11
    refine thn h11 fun _ s11 ⟨_,H11,I11,_,n11⟩=>?_
    exact again I11 n11
 have start:codeAny (model X.prog X.w) X.A (.compStart (.ListComp elt [⟨tg,iter,ifs,0⟩] scope pos) 0 (.ref it) (.ref D) Y.env) (RR (.ref D) C) s4:=
  codeAny_compStart_list main (T.self X.A 0 s4 _ _ st4 main)
 have goal:codeAny (model X.prog X.w) X.A (.compStart (.ListComp elt [⟨tg,iter,ifs,0⟩] scope pos) 0 (.ref it) (.ref D) { (newEnv scope C X.env.globals cl2 X.env.qual none .none (some X.env) builtinsNs:Env) with scope:=relabel scope X.env }) (RR (.ref D) (newEnv scope C X.env.globals cl2 X.env.qual none .none (some X.env) builtinsNs:Env).locals) s4:=by
  rw [e5,hCe]; exact start
 subst hC hD
 exact goal
end
section
variable {X:Cx}
theorem pe_comp {own:List Str} {fr:List (Str×Nat)} {scope:Scope} {elt tg iter:Expr} {ifs:List Expr} {pos:Pos} {wi:TI} {g:TG} {tt:TT} {te:TE} (hc:X.calm=true) (S:CompScope X own fr scope) (hi:PI X tg iter wi)
  (hB:∀(cl:List (Str×Addr)) (C:Addr) (s0:Shared) (H0:Hp) (fp:List Addr),PG (compCx X (own++fr.map (·.1)) scope cl C s0 H0 fp) tg g∧PF (compCx X (own++fr.map (·.1)) scope cl C s0 H0 fp) ifs tt∧PE (compCx X (own++fr.map (·.1)) scope cl C s0 H0 fp) elt te)
  (hs:∀ x,foldedSetIterable iter X.env x=pure x:=by intro _; rfl):PE X (.ListComp elt [⟨tg,iter,ifs,0⟩] scope pos) (tComp own fr wi g tt te):=by
 intro pins s σ H Q I h
 obtain ⟨cl,e1,e2,e3⟩:=closure_of (S.has I.ok)
 rw [eval_ListComp]
 refine wpAny_comprehension_free (use:=none) rfl hs e1 S.kind S.names (thn (hi pins s σ H _ I h) fun v s1 h1=>thn h1 fun itv s2 h2=>?_)
 obtain ⟨it,fp,tn,J,H2,e,I2,T,st2,f2,body⟩:=h2
 subst e
 refine comp_run (Q:=fun D H'=>Q (.ref D) H') (RR:=fun acc C=>compPost (model X.prog X.w) X.A X.xe none (EP X pins σ Q) acc C) hc S I2 e2 e3 T st2 f2 (fun cl' C s0 H0=>hB cl' C s0 H0 fp) body ?_
 intro D C s' H' I' q hne ⟨m,hn⟩ ⟨f0,f1,f2',f3,f4,f5⟩ _
 exact ⟨m,hn,fun h'' hs''=>⟨.ref D,H',I'.turned (it:=C) (t':=s'.toks) (fun b o hb e=>hs''.extBut b o hb e) f0 f1 f3 f4 f5,rfl,q⟩⟩
theorem ps_setComp {i:Nat} {x:Str} {pos' spos:Pos} {own:List Str} {fr:List (Str×Nat)} {scope:Scope} {elt tg iter:Expr} {ifs:List Expr} {pos:Pos} {wi:TI} {g:TG} {tt:TT} {te:TE} (hc:X.calm=true)
  (hN:X.N.Nodup) (hi':X.N[i]? = some x) (hx:X.env.scope.names.lookup x=some .local) (S:CompScope X own fr scope) (hi:PI X tg iter wi)
  (hB:∀(cl:List (Str×Addr)) (C:Addr) (s0:Shared) (H0:Hp) (fp:List Addr),PG (compCx X (own++fr.map (·.1)) scope cl C s0 H0 fp) tg g∧PF (compCx X (own++fr.map (·.1)) scope cl C s0 H0 fp) ifs tt∧PE (compCx X (own++fr.map (·.1)) scope cl C s0 H0 fp) elt te)
  (hs:∀ x,foldedSetIterable iter X.env x=pure x:=by intro _; rfl)
  (hsw:swapsWith (.ListComp elt [⟨tg,iter,ifs,0⟩] scope pos) (some (.Name x pos')) spos.line X.env=pure true:=by rfl):PS X (.Assign [.Name x pos'] (.ListComp elt [⟨tg,iter,ifs,0⟩] scope pos) spos) (tAsg (tComp own fr wi g tt te) (gName i)):=by
 intro pins s σ H D0 I h
 obtain ⟨cl,e1,e2,e3⟩:=closure_of (S.has I.ok)
 have un:=exec_Assign_Name_used _ _ _ _ hsw
 rw [un]
 apply wpAny_bind
 apply wpAny_standAt
 apply wpAny_bind
 show wpAny _ X.A (do let _ ← comprehension (.ListComp elt [⟨tg,iter,ifs,0⟩] scope pos) scope X.env _ (newList []) false (eval iter X.env) (some (assign (.Name x pos') X.env))) _ _ s
 refine wpAny_bind (thn (wpAny_comprehension_free (use:=some (assign (.Name x pos') X.env)) (Q:=fun _ s'=>SP X pins D0 .next s') rfl hs e1 S.kind S.names
  (thn (hi pins s σ H _ I h) fun v s1 h1=>thn h1 fun itv s2 h2=>?_)) fun _ s' hq=>wpAny_pure (wpAny_pure hq))
 obtain ⟨it,fp,tn,J,H2,e,I2,T,st2,f2,body⟩:=h2
 subst e
 refine comp_run (Q:=fun D H'=>D0.nx (σ.set i (some (.ref D))) H') (RR:=fun acc C=>compPost (model X.prog X.w) X.A X.xe (some (assign (.Name x pos') X.env)) (fun _ s'=>SP X pins D0 .next s') acc C) hc S I2 e2 e3 T st2 f2 (fun cl' C s0 H0=>hB cl' C s0 H0 fp) body ?_
 intro D C s' H' I' q hne ⟨m,hn⟩ ⟨f0,f1,f2',f3,f4,f5⟩ _
 show wpAny _ X.A (assign (.Name x pos') X.env (.ref D)) _ _ s'
 refine wpAny_assign_Name (store_ok2 I' hN hi' (.inl hx) (v:=.ref D) rfl (fun s'' I'' hk=>?_) (.inr hx))
 have hC2:∃ m,s''.heap.Ns C m:=by
  obtain ⟨a,hsb,ha⟩:=hk
  obtain ⟨o,es,ep,ho,r⟩:=hn
  refine ⟨m,o,es,ep,hsb.extBut C o ?_ ho,r⟩
  rcases ha with z | z
  ·rw [z]; exact hne
  ·exact fun e=>f4 x a z e.symm
 obtain ⟨m2,hn2⟩:=hC2
 exact ⟨m2,hn2,fun h'' hs''=>⟨_,H',I''.turned (it:=C) (t':=s''.toks) (fun b o hb e=>hs''.extBut b o hb e) f0 f1 f3 f4 f5,q⟩⟩
end
section
variable {w:World} {prog:Program} {A:Around} {s:Shared} {R:Result→Shared→Prop} {elt tg iter tg1 iter1:Expr} {ifs ifs1:List Expr} {scope:Scope} {pos:Pos} {it acc:Value} {env:Env}
end
section
variable {X:Cx} {pins:List (Addr×Obj)} {σ:St} {H:Hp} {s:Shared}
end
section
variable {X:Cx} {pins:List (Addr×Obj)} {σ:St} {H:Hp} {s:Shared}
end
section
variable {X:Cx}
end
inductive D where
 | non | bl (b:Bool) | int (i:Int) | str (x:Str) | tup (l:List D) | lst (l:List D) | dic
mutual
def Den (H:Hp):D→V→Prop
 | .non,v=>v=.non
 | .bl b,v=>v=.bl b
 | .int i,v=>v=.int i
 | .str x,v=>v=.str x
 | .tup l,v=>∃ a xs,v=.ref a∧H a=some (.tup xs)∧Dens H l xs
 | .lst l,v=>∃ a xs,v=.ref a∧H a=some (.lst xs)∧Dens H l xs
 | .dic,v=>∃ a kvs,v=.ref a∧H a=some (.dK kvs)
def Dens (H:Hp):List D→List V→Prop
 | [],xs=>xs=[]
 | d::l,xs=>∃ x r,xs=x::r∧Den H d x∧Dens H l r
end
mutual
def dEq:D→D→Bool
 | .non,.non=>true
 | .bl a,.bl b=>a == b
 | .bl a,.int b=>(if a then 1 else 0) == b
 | .int a,.bl b=>a == (if b then 1 else 0)
 | .int a,.int b=>a == b
 | .str a,.str b=>a == b
 | .tup l,.tup m=>dEqs l m
 | .lst l,.lst m=>dEqs l m
 | .dic,.dic=>true
 | _,_=>false
def dEqs:List D→List D→Bool
 | [],[]=>true
 | d::l,e::m=>dEq d e && dEqs l m
 | _,_=>false
end
mutual
def dDepth:D→Nat
 | .tup l=>dDepths l+1
 | .lst l=>dDepths l+1
 | .dic=>cLine
 | _=>0
def dDepths:List D→Nat
 | []=>0
 | d::l=>max (dDepth d) (dDepths l)
end
mutual
theorem Den.mono {H H':Hp} (e:Same H H'):∀(d:D) (v:V),Den H d v→Den H' d v
 | .non,v,h=>h
 | .bl _,v,h=>h
 | .int _,v,h=>h
 | .str _,v,h=>h
 | .tup l,v,h=>by
  obtain ⟨a,xs,r,h1,h2⟩:=h
  exact ⟨a,xs,r,e _ _ h1,Dens.mono e l xs h2⟩
 | .lst l,v,h=>by
  obtain ⟨a,xs,r,h1,h2⟩:=h
  exact ⟨a,xs,r,e _ _ h1,Dens.mono e l xs h2⟩
 | .dic,v,h=>by
  obtain ⟨a,xs,r,h1⟩:=h
  exact ⟨a,xs,r,e _ _ h1⟩
theorem Dens.mono {H H':Hp} (e:Same H H'):∀(l:List D) (xs:List V),Dens H l xs→Dens H' l xs
 | [],xs,h=>h
 | d::l,xs,h=>by
  obtain ⟨x,r,h0,h1,h2⟩:=h
  exact ⟨x,r,h0,Den.mono e d x h1,Dens.mono e l r h2⟩
end
theorem Dens.length {H:Hp}:∀{l:List D} {xs:List V},Dens H l xs→xs.length=l.length
 | [],xs,h=>by
  have h':xs=[]:=h
  subst h'; rfl
 | d::l,xs,h=>by
  obtain ⟨x,r,h0,h1,h2⟩:=h
  subst h0
  rw [List.length_cons,List.length_cons,Dens.length h2]
theorem Dens.get {H:Hp}:∀{l:List D} {xs:List V} {i:Nat} {x:V},Dens H l xs→xs[i]? = some x→∃ d,l[i]? = some d∧Den H d x
 | [],xs,i,x,h,e=>by
  have h':xs=[]:=h
  subst h'; simp at e
 | d::l,xs,i,x,h,e=>by
  obtain ⟨y,r,h0,h1,h2⟩:=h
  subst h0
  cases i with
  | zero=>simp at e; subst e; exact ⟨d,rfl,h1⟩
  | succ i=>
   obtain ⟨d',g1,g2⟩:=Dens.get h2 (by simpa using e:r[i]? = some x)
   exact ⟨d',by simpa using g1,g2⟩
theorem Dens.get' {H:Hp} {l:List D} {xs:List V} {i:Nat} {d:D} (h:Dens H l xs) (e:l[i]? = some d):∃ x,xs[i]? = some x∧Den H d x:=by
 have hi:i<xs.length:=by rw [h.length]; exact (List.getElem?_eq_some_iff.mp e).1
 obtain ⟨d',g1,g2⟩:=h.get (List.getElem?_eq_getElem hi)
 rw [e] at g1
 cases g1
 exact ⟨_,List.getElem?_eq_getElem hi,g2⟩
theorem Dens.append {H:Hp}:∀{l m:List D} {xs ys:List V},Dens H l xs→Dens H m ys→Dens H (l++m) (xs++ys)
 | [],m,xs,ys,h,g=>by
  have h':xs=[]:=h
  subst h'; exact g
 | d::l,m,xs,ys,h,g=>by
  obtain ⟨y,r,h0,h1,h2⟩:=h
  subst h0
  exact ⟨y,r++ys,rfl,h1,Dens.append h2 g⟩
theorem Dens.snoc {H:Hp} {l:List D} {xs:List V} {d:D} {x:V} (h:Dens H l xs) (g:Den H d x):Dens H (l++[d]) (xs++[x]):=h.append ⟨x,[],rfl,g,rfl⟩
theorem Dens.ints (H:Hp):∀(ns:List Int),Dens H (ns.map D.int) (ns.map V.int)
 | []=>rfl
 | n::ns=>⟨.int n,_,rfl,rfl,Dens.ints H ns⟩
theorem Dens.ints_eq {H:Hp}:∀{ns:List Int} {xs:List V},Dens H (ns.map D.int) xs→xs=ns.map V.int
 | [],xs,h=>h
 | n::ns,xs,h=>by
  obtain ⟨y,r,h0,h1,h2⟩:=h
  subst h0
  have h1':y=.int n:=h1
  subst h1'
  rw [Dens.ints_eq h2,List.map_cons]
theorem dep_get:∀{l:List D} {j:Nat} {d:D},l[j]? = some d→dDepth d≤dDepths l
 | [],_,_,h=>by simp at h
 | c::l,0,d,h=>by
  simp at h
  subst h
  exact Nat.le_max_left _ _
 | c::l,j+1,d,h=>Nat.le_trans (dep_get (l:=l) (j:=j) (by simpa using h)) (Nat.le_max_right _ _)
def ansJ (l m:List D) (j:Nat):Bool:=match l[j]?,m[j]? with | some d,some e=>dEq d e | _,_=>false
theorem ansJ_of {l m:List D} {j:Nat} {d e:D} (h1:l[j]? = some d) (h2:m[j]? = some e):ansJ l m j=dEq d e:=by
 unfold ansJ
 rw [h1,h2]
theorem dEqs_range:∀(l m:List D),l.length=m.length→(List.range l.length).all (ansJ l m)=dEqs l m
 | [],[],_=>by simp [dEqs]
 | [],_::_,h=>by simp at h
 | _::_,[],h=>by simp at h
 | d::l,e::m,h=>by
  have ih:=dEqs_range l m (by simpa using h)
  rw [List.length_cons,List.range_succ_eq_map,List.all_cons,List.all_map]
  unfold dEqs
  rw [← ih]
  rfl
theorem dEqs_len:∀(l m:List D),l.length≠m.length→dEqs l m=false
 | [],[],h=>absurd rfl h
 | [],_::_,_=>by simp [dEqs]
 | _::_,[],_=>by simp [dEqs]
 | d::l,e::m,h=>by
  unfold dEqs
  rw [dEqs_len l m (by simpa using h),Bool.and_false]
mutual
theorem dEq_refl:∀ d:D,dEq d d=true
 | .non=>rfl
 | .bl b=>by simp [dEq]
 | .int i=>by simp [dEq]
 | .str x=>by simp [dEq]
 | .tup l=>by simp only [dEq]; exact dEqs_refl l
 | .lst l=>by simp only [dEq]; exact dEqs_refl l
 | .dic=>by simp [dEq]
theorem dEqs_refl:∀ l:List D,dEqs l l=true
 | []=>by simp [dEqs]
 | d::l=>by simp only [dEqs]; rw [dEq_refl d,dEqs_refl l]; rfl
end
mutual
def nb:D→Bool
 | .bl _=>false
 | .tup l=>nbs l
 | .lst l=>nbs l
 | _=>true
def nbs:List D→Bool
 | []=>true
 | d::l=>nb d && nbs l
end
mutual
theorem dEq_nb:∀(d e:D),nb d=true→nb e=true→dEq d e=true→d=e
 | .non,e,h1,h2,h=>by cases e <;> simp [dEq,nb] at * 
 | .bl b,e,h1,h2,h=>by simp [nb] at h1
 | .int i,e,h1,h2,h=>by cases e <;> simp [dEq,nb] at * ; exact h
 | .str x,e,h1,h2,h=>by cases e <;> simp [dEq,nb] at * ; exact h
 | .tup l,e,h1,h2,h=>by
  cases e <;> simp only [dEq,nb,Bool.false_eq_true] at *
  rw [dEqs_nb l _ h1 h2 h]
 | .lst l,e,h1,h2,h=>by
  cases e <;> simp only [dEq,nb,Bool.false_eq_true] at *
  rw [dEqs_nb l _ h1 h2 h]
 | .dic,e,h1,h2,h=>by cases e <;> simp [dEq,nb] at *
theorem dEqs_nb:∀(l m:List D),nbs l=true→nbs m=true→dEqs l m=true→l=m
 | [],[],_,_,_=>rfl
 | [],_::_,_,_,h=>by simp [dEqs] at h
 | _::_,[],_,_,h=>by simp [dEqs] at h
 | d::l,e::m,h1,h2,h=>by
  simp only [nbs,dEqs,Bool.and_eq_true] at h1 h2 h
  rw [dEq_nb d e h1.1 h2.1 h.1,dEqs_nb l m h1.2 h2.2 h.2]
end
mutual
theorem Den.inj {H:Hp}:∀(d e:D) (x:V),Den H d x→Den H e x→d=e
 | .non,e,x,h,g=>by
  cases (show x=.non from h)
  cases e with
  | non=>rfl
  | bl b=>exact nomatch (show V.non=.bl b from g)
  | int b=>exact nomatch (show V.non=.int b from g)
  | str b=>exact nomatch (show V.non=.str b from g)
  | tup m=>obtain ⟨_,_,z,_⟩:=g; cases z
  | lst m=>obtain ⟨_,_,z,_⟩:=g; cases z
  | dic=>obtain ⟨_,_,z,_⟩:=g; cases z
 | .bl c,e,x,h,g=>by
  cases (show x=.bl c from h)
  cases e with
  | non=>exact nomatch (show V.bl c=.non from g)
  | bl b=>cases (show V.bl c=.bl b from g); rfl
  | int b=>exact nomatch (show V.bl c=.int b from g)
  | str b=>exact nomatch (show V.bl c=.str b from g)
  | tup m=>obtain ⟨_,_,z,_⟩:=g; cases z
  | lst m=>obtain ⟨_,_,z,_⟩:=g; cases z
  | dic=>obtain ⟨_,_,z,_⟩:=g; cases z
 | .int c,e,x,h,g=>by
  cases (show x=.int c from h)
  cases e with
  | non=>exact nomatch (show V.int c=.non from g)
  | bl b=>exact nomatch (show V.int c=.bl b from g)
  | int b=>cases (show V.int c=.int b from g); rfl
  | str b=>exact nomatch (show V.int c=.str b from g)
  | tup m=>obtain ⟨_,_,z,_⟩:=g; cases z
  | lst m=>obtain ⟨_,_,z,_⟩:=g; cases z
  | dic=>obtain ⟨_,_,z,_⟩:=g; cases z
 | .str c,e,x,h,g=>by
  cases (show x=.str c from h)
  cases e with
  | non=>exact nomatch (show V.str c=.non from g)
  | bl b=>exact nomatch (show V.str c=.bl b from g)
  | int b=>exact nomatch (show V.str c=.int b from g)
  | str b=>cases (show V.str c=.str b from g); rfl
  | tup m=>obtain ⟨_,_,z,_⟩:=g; cases z
  | lst m=>obtain ⟨_,_,z,_⟩:=g; cases z
  | dic=>obtain ⟨_,_,z,_⟩:=g; cases z
 | .tup l,e,x,h,g=>by
  obtain ⟨a,xs,rfl,h1,h2⟩:=h
  cases e with
  | non=>exact nomatch (show V.ref a=.non from g)
  | bl b=>exact nomatch (show V.ref a=.bl b from g)
  | int b=>exact nomatch (show V.ref a=.int b from g)
  | str b=>exact nomatch (show V.ref a=.str b from g)
  | tup m=>
   obtain ⟨b,ys,z,g1,g2⟩:=g
   cases z
   rw [h1] at g1
   cases g1
   rw [Dens.inj l m xs h2 g2]
  | lst m=>
   obtain ⟨b,ys,z,g1,g2⟩:=g
   cases z
   rw [h1] at g1
   cases g1
  | dic=>
   obtain ⟨b,ys,z,g1⟩:=g
   cases z
   rw [h1] at g1
   cases g1
 | .lst l,e,x,h,g=>by
  obtain ⟨a,xs,rfl,h1,h2⟩:=h
  cases e with
  | non=>exact nomatch (show V.ref a=.non from g)
  | bl b=>exact nomatch (show V.ref a=.bl b from g)
  | int b=>exact nomatch (show V.ref a=.int b from g)
  | str b=>exact nomatch (show V.ref a=.str b from g)
  | tup m=>
   obtain ⟨b,ys,z,g1,g2⟩:=g
   cases z
   rw [h1] at g1
   cases g1
  | lst m=>
   obtain ⟨b,ys,z,g1,g2⟩:=g
   cases z
   rw [h1] at g1
   cases g1
   rw [Dens.inj l m xs h2 g2]
  | dic=>
   obtain ⟨b,ys,z,g1⟩:=g
   cases z
   rw [h1] at g1
   cases g1
 | .dic,e,x,h,g=>by
  obtain ⟨a,xs,rfl,h1⟩:=h
  cases e with
  | non=>exact nomatch (show V.ref a=.non from g)
  | bl b=>exact nomatch (show V.ref a=.bl b from g)
  | int b=>exact nomatch (show V.ref a=.int b from g)
  | str b=>exact nomatch (show V.ref a=.str b from g)
  | tup m=>
   obtain ⟨b,ys,z,g1,_⟩:=g
   cases z
   rw [h1] at g1
   cases g1
  | lst m=>
   obtain ⟨b,ys,z,g1,_⟩:=g
   cases z
   rw [h1] at g1
   cases g1
  | dic=>rfl
theorem Dens.inj {H:Hp}:∀(l m:List D) (xs:List V),Dens H l xs→Dens H m xs→l=m
 | [],m,xs,h,g=>by
  cases (show xs=[] from h)
  cases m with
  | nil=>rfl
  | cons e m=>obtain ⟨_,_,z,_⟩:=g; cases z
 | d::l,m,xs,h,g=>by
  obtain ⟨x,r,rfl,h1,h2⟩:=h
  cases m with
  | nil=>exact nomatch (show x::r=[] from g)
  | cons e m=>
   obtain ⟨y,r',z,g1,g2⟩:=g
   cases z
   rw [Den.inj d e x h1 g1,Dens.inj l m r h2 g2]
end
theorem Dens.same_eq {H:Hp} {l m:List D} {xs:List V} (h:Dens H l xs) (g:Dens H m xs):dEqs l m=true:=by
 rw [Dens.inj l m xs h g]
 exact dEqs_refl m
section
variable {X:Cx} {pins:List (Addr×Obj)} {σ:St} {H:Hp} {s:Shared}
mutual
theorem eqAt_D (I:Inv X pins σ H s):∀(d e:D) (A:Around) (x y:V) (u v:Value),Den H d x→Den H e y→RelV x u→RelV y v→A.units+dDepth d<cLine→A.units+dDepth e<cLine→SeqAt.EqAt A s u v (dEq d e)
 | .non,e,A,x,y,u,v,h1,h2,r1,r2,hu,he=>by
  have h1':x=.non:=h1
  subst h1'
  cases r1
  cases e with
  | non=>cases (show y=.non from h2); cases r2; simp only [dEq]; exact SeqAt.EqAt.same _
  | bl b=>cases (show y=.bl b from h2); cases r2; simp only [dEq]; exact SeqAt.EqAt.none_bool b
  | int b=>cases (show y=.int b from h2); obtain ⟨t,rfl⟩:=r2; simp only [dEq]; exact SeqAt.EqAt.none_int b t
  | str b=>cases (show y=.str b from h2); obtain ⟨t,rfl⟩:=r2; simp only [dEq]; exact SeqAt.EqAt.none_str b t
  | tup m=>
   obtain ⟨a,xs,rfl,g1,_⟩:=h2
   cases r2
   obtain ⟨its,_,p,_⟩:=I.tuple (SqT.of (K:=X.K) g1)
   simp only [dEq]
   exact SeqAt.EqAt.none_tuple p (Nat.lt_of_le_of_lt (Nat.le_add_right _ _) hu)
  | lst m=>
   obtain ⟨a,xs,rfl,g1,_⟩:=h2
   cases r2
   obtain ⟨its,_,p,_⟩:=I.list (SqL.of (K:=X.K) g1)
   simp only [dEq]
   exact SeqAt.EqAt.none_list p.isList (Nat.lt_of_le_of_lt (Nat.le_add_right _ _) hu)
  | dic=>exact absurd (show A.units+cLine<cLine from he) (by omega)
 | .bl c,e,A,x,y,u,v,h1,h2,r1,r2,hu,he=>by
  have h1':x=.bl c:=h1
  subst h1'
  cases r1
  cases e with
  | non=>cases (show y=.non from h2); cases r2; simp only [dEq]; exact SeqAt.EqAt.bool_none c
  | bl b=>cases (show y=.bl b from h2); cases r2; simp only [dEq]; exact SeqAt.EqAt.bool_bool c b
  | int b=>cases (show y=.int b from h2); obtain ⟨t,rfl⟩:=r2; simp only [dEq]; exact SeqAt.EqAt.bool_int c b t
  | str b=>cases (show y=.str b from h2); obtain ⟨t,rfl⟩:=r2; simp only [dEq]; exact SeqAt.EqAt.bool_str c b t
  | tup m=>
   obtain ⟨a,xs,rfl,g1,_⟩:=h2
   cases r2
   obtain ⟨its,_,p,_⟩:=I.tuple (SqT.of (K:=X.K) g1)
   simp only [dEq]
   exact SeqAt.EqAt.bool_tuple c p (Nat.lt_of_le_of_lt (Nat.le_add_right _ _) hu)
  | lst m=>
   obtain ⟨a,xs,rfl,g1,_⟩:=h2
   cases r2
   obtain ⟨its,_,p,_⟩:=I.list (SqL.of (K:=X.K) g1)
   simp only [dEq]
   exact SeqAt.EqAt.bool_list c p.isList (Nat.lt_of_le_of_lt (Nat.le_add_right _ _) hu)
  | dic=>exact absurd (show A.units+cLine<cLine from he) (by omega)
 | .int c,e,A,x,y,u,v,h1,h2,r1,r2,hu,he=>by
  have h1':x=.int c:=h1
  subst h1'
  obtain ⟨t',rfl⟩:=r1
  cases e with
  | non=>cases (show y=.non from h2); cases r2; simp only [dEq]; exact SeqAt.EqAt.int_none c t'
  | bl b=>cases (show y=.bl b from h2); cases r2; simp only [dEq]; exact SeqAt.EqAt.int_bool c t' b
  | int b=>cases (show y=.int b from h2); obtain ⟨t,rfl⟩:=r2; simp only [dEq]; exact SeqAt.EqAt.int_int c t' b t
  | str b=>cases (show y=.str b from h2); obtain ⟨t,rfl⟩:=r2; simp only [dEq]; exact SeqAt.EqAt.int_str c t' b t
  | tup m=>
   obtain ⟨a,xs,rfl,g1,_⟩:=h2
   cases r2
   obtain ⟨its,_,p,_⟩:=I.tuple (SqT.of (K:=X.K) g1)
   simp only [dEq]
   exact SeqAt.EqAt.int_tuple c t' p (Nat.lt_of_le_of_lt (Nat.le_add_right _ _) hu)
  | lst m=>
   obtain ⟨a,xs,rfl,g1,_⟩:=h2
   cases r2
   obtain ⟨its,_,p,_⟩:=I.list (SqL.of (K:=X.K) g1)
   simp only [dEq]
   exact SeqAt.EqAt.int_list c t' p.isList (Nat.lt_of_le_of_lt (Nat.le_add_right _ _) hu)
  | dic=>exact absurd (show A.units+cLine<cLine from he) (by omega)
 | .str c,e,A,x,y,u,v,h1,h2,r1,r2,hu,he=>by
  have h1':x=.str c:=h1
  subst h1'
  obtain ⟨t',rfl⟩:=r1
  cases e with
  | non=>cases (show y=.non from h2); cases r2; simp only [dEq]; exact SeqAt.EqAt.str_none c t'
  | bl b=>cases (show y=.bl b from h2); cases r2; simp only [dEq]; exact SeqAt.EqAt.str_bool c t' b
  | int b=>cases (show y=.int b from h2); obtain ⟨t,rfl⟩:=r2; simp only [dEq]; exact SeqAt.EqAt.str_int c t' b t
  | str b=>cases (show y=.str b from h2); obtain ⟨t,rfl⟩:=r2; simp only [dEq]; exact SeqAt.EqAt.str_str c t' b t
  | tup m=>
   obtain ⟨a,xs,rfl,g1,_⟩:=h2
   cases r2
   obtain ⟨its,_,p,_⟩:=I.tuple (SqT.of (K:=X.K) g1)
   simp only [dEq]
   exact SeqAt.EqAt.str_tuple c t' p (Nat.lt_of_le_of_lt (Nat.le_add_right _ _) hu)
  | lst m=>
   obtain ⟨a,xs,rfl,g1,_⟩:=h2
   cases r2
   obtain ⟨its,_,p,_⟩:=I.list (SqL.of (K:=X.K) g1)
   simp only [dEq]
   exact SeqAt.EqAt.str_list c t' p.isList (Nat.lt_of_le_of_lt (Nat.le_add_right _ _) hu)
  | dic=>exact absurd (show A.units+cLine<cLine from he) (by omega)
 | .tup l,e,A,x,y,u,v,h1,h2,r1,r2,hu,he=>by
  obtain ⟨a,xs,rfl,g1,g2⟩:=h1
  cases r1
  obtain ⟨its,rv,p,hz⟩:=I.tuple (SqT.of (K:=X.K) g1)
  have hu0:A.units<cLine:=Nat.lt_of_le_of_lt (Nat.le_add_right _ _) hu
  cases e with
  | non=>cases (show y=.non from h2); cases r2; simp only [dEq]; exact SeqAt.EqAt.tuple_none p hu0
  | bl b=>cases (show y=.bl b from h2); cases r2; simp only [dEq]; exact SeqAt.EqAt.tuple_bool b p hu0
  | int b=>cases (show y=.int b from h2); obtain ⟨t,rfl⟩:=r2; simp only [dEq]; exact SeqAt.EqAt.tuple_int b t p hu0
  | str b=>cases (show y=.str b from h2); obtain ⟨t,rfl⟩:=r2; simp only [dEq]; exact SeqAt.EqAt.tuple_str b t p hu0
  | tup m=>
   obtain ⟨b,ys,rfl,k1,k2⟩:=h2
   cases r2
   obtain ⟨its2,rv2,p2,_⟩:=I.tuple (SqT.of (K:=X.K) k1)
   simp only [dEq]
   have key:=eqAt_Ds I l A.in1 (by have:A.units+(dDepths l+1)<cLine:=hu; show A.units+1+dDepths l<cLine; omega)
   by_cases hab:a=b
   ·subst hab
    rw [g1] at k1
    cases k1
    have e1:SeqAt.EqAt A s (.ref a) (.ref a) true:=SeqAt.EqAt.same _
    by_cases hd:dEqs l m=true
    ·rw [hd]; exact e1
    ·exact absurd (Dens.same_eq g2 k2) hd
   ·have l1:=rv.length
    have l2:=rv2.length
    have n1:=g2.length
    have n2:=k2.length
    have h0:=SeqAt.RcAt.tuples (A:=A) (e:=ansJ l m) p p2 hu0 (fun j hj1 hj2=>by
     simp only [List.getElem_toArray]
     have a1:j<its.length:=by simpa using hj1
     have a2:j<its2.length:=by simpa using hj2
     obtain ⟨d,q1,q2⟩:=g2.get (List.getElem?_eq_getElem (by omega:j<xs.length))
     obtain ⟨e,q3,q4⟩:=k2.get (List.getElem?_eq_getElem (by omega:j<ys.length))
     obtain ⟨w1,z1,z2⟩:=rv.get (List.getElem?_eq_getElem (by omega:j<xs.length))
     obtain ⟨w2,z3,z4⟩:=rv2.get (List.getElem?_eq_getElem (by omega:j<ys.length))
     rw [List.getElem?_eq_getElem a1] at z1
     rw [List.getElem?_eq_getElem a2] at z3
     cases z1
     cases z3
     rw [ansJ_of q1 q3]
     exact key j d q1 e _ _ _ _ q2 q4 z2 z4 (by have h3:=dep_get q3; have h4:A.units+(dDepths m+1)<cLine:=he; show A.units+1+dDepth e<cLine; omega))
    have h1:=SeqAt.EqAt.of_refs hab h0
    have e2:((List.range (min its.toArray.size its2.toArray.size)).all (ansJ l m) && its.toArray.size == its2.toArray.size)=dEqs l m:=by
     rw [List.size_toArray,List.size_toArray,← l1,← l2,n1,n2]
     by_cases hl:l.length=m.length
     ·rw [← hl,Nat.min_self,dEqs_range l m hl]; simp
     ·rw [dEqs_len l m hl]; simp [hl]
    rw [e2] at h1
    exact h1
  | lst m=>
   obtain ⟨b,ys,rfl,k1,k2⟩:=h2
   cases r2
   obtain ⟨its2,rv2,p2,_⟩:=I.list (SqL.of (K:=X.K) k1)
   simp only [dEq]
   exact SeqAt.EqAt.tuple_list p p2.isList hu0
  | dic=>exact absurd (show A.units+cLine<cLine from he) (by omega)
 | .lst l,e,A,x,y,u,v,h1,h2,r1,r2,hu,he=>by
  obtain ⟨a,xs,rfl,g1,g2⟩:=h1
  cases r1
  obtain ⟨its,rv,p,hz⟩:=I.list (SqL.of (K:=X.K) g1)
  have hu0:A.units<cLine:=Nat.lt_of_le_of_lt (Nat.le_add_right _ _) hu
  cases e with
  | non=>cases (show y=.non from h2); cases r2; simp only [dEq]; exact SeqAt.EqAt.list_none p.isList hu0
  | bl b=>cases (show y=.bl b from h2); cases r2; simp only [dEq]; exact SeqAt.EqAt.list_bool b p.isList hu0
  | int b=>cases (show y=.int b from h2); obtain ⟨t,rfl⟩:=r2; simp only [dEq]; exact SeqAt.EqAt.list_int b t p.isList hu0
  | str b=>cases (show y=.str b from h2); obtain ⟨t,rfl⟩:=r2; simp only [dEq]; exact SeqAt.EqAt.list_str b t p.isList hu0
  | tup m=>
   obtain ⟨b,ys,rfl,k1,k2⟩:=h2
   cases r2
   obtain ⟨its2,rv2,p2,_⟩:=I.tuple (SqT.of (K:=X.K) k1)
   simp only [dEq]
   exact SeqAt.EqAt.list_tuple p.isList p2 hu0
  | lst m=>
   obtain ⟨b,ys,rfl,k1,k2⟩:=h2
   cases r2
   obtain ⟨its2,rv2,p2,_⟩:=I.list (SqL.of (K:=X.K) k1)
   simp only [dEq]
   have key:=eqAt_Ds I l A.in1 (by have:A.units+(dDepths l+1)<cLine:=hu; show A.units+1+dDepths l<cLine; omega)
   by_cases hab:a=b
   ·subst hab
    rw [g1] at k1
    cases k1
    have e1:SeqAt.EqAt A s (.ref a) (.ref a) true:=SeqAt.EqAt.same _
    by_cases hd:dEqs l m=true
    ·rw [hd]; exact e1
    ·exact absurd (Dens.same_eq g2 k2) hd
   ·have l1:=rv.length
    have l2:=rv2.length
    have n1:=g2.length
    have n2:=k2.length
    by_cases hl:l.length=m.length
    ·have hsz:its.toArray.size=its2.toArray.size:=by rw [List.size_toArray,List.size_toArray]; omega
     have h0:=SeqAt.RcAt.lists (A:=A) (e:=ansJ l m) p.isList p2.isList hsz hu0 (fun j hj1 hj2=>by
      simp only [List.getElem_toArray]
      have a1:j<its.length:=by simpa using hj1
      have a2:j<its2.length:=by simpa using hj2
      obtain ⟨d,q1,q2⟩:=g2.get (List.getElem?_eq_getElem (by omega:j<xs.length))
      obtain ⟨e,q3,q4⟩:=k2.get (List.getElem?_eq_getElem (by omega:j<ys.length))
      obtain ⟨w1,z1,z2⟩:=rv.get (List.getElem?_eq_getElem (by omega:j<xs.length))
      obtain ⟨w2,z3,z4⟩:=rv2.get (List.getElem?_eq_getElem (by omega:j<ys.length))
      rw [List.getElem?_eq_getElem a1] at z1
      rw [List.getElem?_eq_getElem a2] at z3
      cases z1
      cases z3
      rw [ansJ_of q1 q3]
      exact key j d q1 e _ _ _ _ q2 q4 z2 z4 (by have h3:=dep_get q3; have h4:A.units+(dDepths m+1)<cLine:=he; show A.units+1+dDepth e<cLine; omega))
     have h1:=SeqAt.EqAt.of_refs hab h0
     rw [List.size_toArray,← l1,n1,dEqs_range l m hl] at h1
     exact h1
    ·rw [dEqs_len l m hl]
     have hsz:(its.toArray.size != its2.toArray.size)=true:=by rw [List.size_toArray,List.size_toArray,← l1,← l2,n1,n2]; simpa using hl
     exact SeqAt.EqAt.of_refs hab (SeqAt.RcAt.lists_lengths p.isList p2.isList hsz hu0)
  | dic=>exact absurd (show A.units+cLine<cLine from he) (by omega)
 | .dic,e,A,x,y,u,v,h1,h2,r1,r2,hu,he=>absurd (show A.units+cLine<cLine from hu) (by omega)
theorem eqAt_Ds (I:Inv X pins σ H s):∀(l:List D) (A:Around),A.units+dDepths l<cLine→∀(j:Nat) (d:D),l[j]? = some d→∀(e:D) (x y:V) (u v:Value),Den H d x→Den H e y→RelV x u→RelV y v→A.units+dDepth e<cLine→SeqAt.EqAt A s u v (dEq d e)
 | [],A,hu,j,d,h,e,x,y,u,v,_,_,_,_,_=>by simp at h
 | d0::l,A,hu,j,d,h,e,x,y,u,v,h1,h2,r1,r2,he=>by
  have hu':A.units+max (dDepth d0) (dDepths l)<cLine:=hu
  cases j with
  | zero=>
   simp at h
   subst h
   exact eqAt_D I d0 e A x y u v h1 h2 r1 r2 (by omega) he
  | succ j=>exact eqAt_Ds I l A (by omega) j d (by simpa using h) e x y u v h1 h2 r1 r2 he
end
end
section
variable {X:Cx}
theorem ansTwo {pins:List (Addr×Obj)} {σ:St} {H:Hp} {s:Shared} {A:Around} {l m:List D} {xs ys:List V} {its its2:List Value} (I:Inv X pins σ H s) (h:Dens H l xs) (rv:Vals xs its) (g:Dens H m ys) (rw2:Vals ys its2) (hu:A.units+dDepths l<cLine) (hum:A.units+dDepths m<cLine)
  (j:Nat) (h1:j<its.toArray.size) (h2:j<its2.toArray.size):SeqAt.EqAt A s its.toArray[j] its2.toArray[j] (ansJ l m j):=by
 simp only [List.getElem_toArray]
 have a1:j<its.length:=by simpa using h1
 have a2:j<its2.length:=by simpa using h2
 have l1:=rv.length
 have l2:=rw2.length
 obtain ⟨d,q1,q2⟩:=h.get (List.getElem?_eq_getElem (by omega:j<xs.length))
 obtain ⟨e,q3,q4⟩:=g.get (List.getElem?_eq_getElem (by omega:j<ys.length))
 obtain ⟨w1,z1,z2⟩:=rv.get (List.getElem?_eq_getElem (by omega:j<xs.length))
 obtain ⟨w2,z3,z4⟩:=rw2.get (List.getElem?_eq_getElem (by omega:j<ys.length))
 rw [List.getElem?_eq_getElem a1] at z1
 rw [List.getElem?_eq_getElem a2] at z3
 cases z1
 cases z3
 rw [ansJ_of q1 q3]
 exact eqAt_Ds I l A hu j d q1 e _ _ _ _ q2 q4 z2 z4 (Nat.lt_of_le_of_lt (Nat.add_le_add_left (dep_get q3) _) hum)
def rEqD (neg:Bool):R2:=fun x y H Q=>∃ l m,((Den H (.tup l) x∧Den H (.tup m) y)∨(Den H (.lst l) x∧Den H (.lst m) y))∧dDepths l≤50∧dDepths m≤50∧Q (.bl (if neg then !dEqs l m else dEqs l m)) H
theorem op_eqD (hu:X.A.units+64<cLine):OpR X (compareOp .Eq) (rEqD false):=by
 intro pins s σ H x y v u Q I rx ry h
 obtain ⟨l,m,hl,hz,hz3,q⟩:=h
 have hu0:X.A.units<cLine:=by omega
 have hu3:X.A.in1.units+dDepths m<cLine:=by show X.A.units+1+dDepths m<cLine; omega
 have hu1:X.A.in1.units+dDepths l<cLine:=by show X.A.units+1+dDepths l<cLine; omega
 rcases hl with ⟨⟨a,xs,rfl,h1,h2⟩,⟨b,ys,rfl,k1,k2⟩⟩ | ⟨⟨a,xs,rfl,h1,h2⟩,⟨b,ys,rfl,k1,k2⟩⟩
 ·cases rx
  cases ry
  obtain ⟨its,rv,p,_⟩:=I.tuple (SqT.of (K:=X.K) h1)
  obtain ⟨its2,rv2,p2,_⟩:=I.tuple (SqT.of (K:=X.K) k1)
  have l1:=rv.length
  have l2:=rv2.length
  have n1:=h2.length
  have n2:=k2.length
  refine SeqAt.eq_tupleAt p p2 hu0 (ansTwo I h2 rv k2 rv2 hu1 hu3) ⟨.bl _,H,I,rfl,?_⟩
  have e2:((List.range (min its.toArray.size its2.toArray.size)).all (ansJ l m) && its.toArray.size == its2.toArray.size)=dEqs l m:=by
   rw [List.size_toArray,List.size_toArray,← l1,← l2,n1,n2]
   by_cases hl:l.length=m.length
   ·rw [← hl,Nat.min_self,dEqs_range l m hl]; simp
   ·rw [dEqs_len l m hl]; simp [hl]
  rw [e2]
  exact q
 ·cases rx
  cases ry
  obtain ⟨its,rv,p,_⟩:=I.list (SqL.of (K:=X.K) h1)
  obtain ⟨its2,rv2,p2,_⟩:=I.list (SqL.of (K:=X.K) k1)
  have l1:=rv.length
  have l2:=rv2.length
  have n1:=h2.length
  have n2:=k2.length
  by_cases hl:l.length=m.length
  ·have hsz:its.toArray.size=its2.toArray.size:=by rw [List.size_toArray,List.size_toArray]; omega
   refine SeqAt.eq_listAt p.isList p2.isList hsz hu0 (ansTwo I h2 rv k2 rv2 hu1 hu3) ⟨.bl _,H,I,rfl,?_⟩
   rw [List.size_toArray,← l1,n1,dEqs_range l m hl]
   exact q
  ·have hsz:(its.toArray.size != its2.toArray.size)=true:=by rw [List.size_toArray,List.size_toArray,← l1,← l2,n1,n2]; simpa using hl
   refine SeqAt.eq_list_lengthsAt p.isList p2.isList hsz hu0 ⟨.bl _,H,I,rfl,?_⟩
   rw [dEqs_len l m hl] at q
   exact q
theorem op_neD (hu:X.A.units+64<cLine):OpR X (compareOp .NotEq) (rEqD true):=by
 intro pins s σ H x y v u Q I rx ry h
 obtain ⟨l,m,hl,hz,hz3,q⟩:=h
 have hu0:X.A.units<cLine:=by omega
 have hu3:X.A.in1.units+dDepths m<cLine:=by show X.A.units+1+dDepths m<cLine; omega
 have hu1:X.A.in1.units+dDepths l<cLine:=by show X.A.units+1+dDepths l<cLine; omega
 rcases hl with ⟨⟨a,xs,rfl,h1,h2⟩,⟨b,ys,rfl,k1,k2⟩⟩ | ⟨⟨a,xs,rfl,h1,h2⟩,⟨b,ys,rfl,k1,k2⟩⟩
 ·cases rx
  cases ry
  obtain ⟨its,rv,p,_⟩:=I.tuple (SqT.of (K:=X.K) h1)
  obtain ⟨its2,rv2,p2,_⟩:=I.tuple (SqT.of (K:=X.K) k1)
  have l1:=rv.length
  have l2:=rv2.length
  have n1:=h2.length
  have n2:=k2.length
  refine SeqAt.RcNeAt.tuples p p2 hu0 (ansTwo I h2 rv k2 rv2 hu1 hu3) X.prog X.w X.xe _ ⟨.bl _,H,I,rfl,?_⟩
  have e2:((List.range (min its.toArray.size its2.toArray.size)).all (ansJ l m) && its.toArray.size == its2.toArray.size)=dEqs l m:=by
   rw [List.size_toArray,List.size_toArray,← l1,← l2,n1,n2]
   by_cases hl:l.length=m.length
   ·rw [← hl,Nat.min_self,dEqs_range l m hl]; simp
   ·rw [dEqs_len l m hl]; simp [hl]
  rw [e2]
  exact q
 ·cases rx
  cases ry
  obtain ⟨its,rv,p,_⟩:=I.list (SqL.of (K:=X.K) h1)
  obtain ⟨its2,rv2,p2,_⟩:=I.list (SqL.of (K:=X.K) k1)
  have l1:=rv.length
  have l2:=rv2.length
  have n1:=h2.length
  have n2:=k2.length
  by_cases hl:l.length=m.length
  ·have hsz:its.toArray.size=its2.toArray.size:=by rw [List.size_toArray,List.size_toArray]; omega
   refine SeqAt.RcNeAt.lists p.isList p2.isList hsz hu0 (ansTwo I h2 rv k2 rv2 hu1 hu3) X.prog X.w X.xe _ ⟨.bl _,H,I,rfl,?_⟩
   rw [List.size_toArray,← l1,n1,dEqs_range l m hl]
   exact q
  ·have hsz:(its.toArray.size != its2.toArray.size)=true:=by rw [List.size_toArray,List.size_toArray,← l1,← l2,n1,n2]; simpa using hl
   refine SeqAt.RcNeAt.lists_lengths p.isList p2.isList hsz hu0 X.prog X.w X.xe _ ⟨.bl _,H,I,rfl,?_⟩
   rw [dEqs_len l m hl] at q
   exact q
theorem call_allB (hc:X.calm=true):CallR X (.builtin "all") (fun xs H Q=>∃(p:Addr) (bs:List Bool),xs=[.ref p]∧H p=some (.lst (bs.map V.bl))∧Q (.bl (bs.all id)) H):=by
 intro pins s σ H xs us Q I r h
 obtain ⟨p,bs,rfl,hp,q⟩:=h
 obtain ⟨u,rfl,rx⟩:=vals1 r
 cases rx
 obtain ⟨its,rv,pl,hzz⟩:=I.list (SqL.of (K:=X.K) hp)
 clear hzz
 have hb:LSm.BoolsAre its bs:=by
  clear q pl hp
  induction bs generalizing its with
  | nil=>cases rv; exact .nil
  | cons b bs ih=>
   cases rv with
   | cons r1 r2=>cases r1; exact .cons b (ih _ r2)
 have hlt:p<s.heap.objs.size:=by obtain ⟨_,e,_⟩:=pl.isList; exact Heap.lt_size e
 refine call_all_walk (wpAny_pyIter_list pl.isList ?_)
 refine ⟨s.heap.objs.size,[s.heap.objs.size,p],[s.heap.objs.size],its.toArray.size,_,_,fun i=>(bs[i]?).getD true,rfl,Walks.list (A:=X.A.in1) (I.ok.hd hc) _ p (Nat.ne_of_lt hlt) its.toArray,
  ⟨⟨_,Heap.get?_push_size _ rfl,rfl,rfl⟩,pl.isList.push _⟩,fun i v s' Q' E' hP hQ=>?_,fun h' tk hk=>?_⟩
 ·rcases hb.get i v (by simpa using hP) with ⟨b,eb,rfl⟩
  replace hQ:Q' b s':=by simpa [eb] using hQ
  exact wpAny_truthy_bool hQ
 ·have e:((List.range its.toArray.size).all fun i=>(bs[i]?).getD true)=bs.all id:=by
   rw [List.size_toArray,hb.length,LSm.range_all]
  rw [e]
  exact ⟨.bl _,H,I.kept (LSm.kept_iter hk),rfl,q⟩
def rCatL (K:PySem.W.Frag):R2:=fun x y H Q=>∃ l b xs zs,x=.ref l∧y=.ref b∧SqL K H l xs∧SqL K H b zs∧xs.length+zs.length≤sizeLine∧∀ p,H p=none→Q (.ref p) (upd H p (.lst (xs++zs)))
theorem op_catL:OpR X (binaryOp .Add) (rCatL X.K):=by
 intro pins s σ H x y v u Q I rx ry h
 obtain ⟨l,b,xs,zs,rfl,rfl,hH,hB,hz,q⟩:=h
 cases rx
 cases ry
 obtain ⟨its,r,pl,_⟩:=I.list hH
 obtain ⟨its2,r2,pl2,_⟩:=I.list hB
 have n1:=r.length
 have n2:=r2.length
 obtain ⟨⟨cls,dd,data,sl⟩,ho,hc,n,hd⟩:=pl.isList
 obtain ⟨⟨cls2,dd2,data2,sl2⟩,ho2,hc2,n2',hd2⟩:=pl2.isList
 simp only at hc hd hc2 hd2
 subst hc hd hc2 hd2
 have e:its.toArray++its2.toArray=(its++its2).toArray:=by simp
 refine concat_meets ⟨_,ho,rfl⟩ ⟨_,ho2,rfl⟩ noFill_list_add seq_list_add PySem.F.slot_list_add PySem.F.entry_list_add (PySem.F.args_list_add_2 _ _) (list_addW l b its.toArray its2.toArray n n2' dd dd2 sl sl2 (by simp only [List.size_toArray]; omega)) ⟨ho,ho2,?_⟩
 rw [e]
 exact ⟨.ref _,_,I.lnew (t':=s.toks) (r.append r2) (by rw [List.length_append]; omega),rfl,q _ I.fresh⟩
theorem call_isinst:CallR X (.builtin "isinstance") (fun xs H Q=>∃ x t T b,xs=[x,.ty T]∧TyOf X.K H x t∧PySem.W.kitOne X.K t (.type T)=some b∧Q (.bl b) H):=by
 intro pins s σ H xs us Q I r h
 obtain ⟨x,t,T,b,rfl,ty,e,q⟩:=h
 obtain ⟨u,w',rfl,rx,ry⟩:=vals2 r
 cases ry
 exact isinst_ok I rx ty e fun tk=>⟨.bl b,H,I.tok _,rfl,q⟩
end
example (K:PySem.W.Frag):PySem.W.kitOne K (.type "list") (.type "list")=some true:=rfl
example (K:PySem.W.Frag):PySem.W.kitOne K (.type "int") (.type "bool")=some false:=by rfl
example (K:PySem.W.Frag):PySem.W.kitOne K (.type "bool") (.type "int")=some true:=by rfl
end L2
namespace L2
open PySem PySem.Spec PyProof.Rows PySem.W
section
variable {prog:Program} {w:World} {A:Around} {E:Value→Shared→Prop}
end
abbrev WKey:=Int×List (Int×Int)
abbrev WRow:=WKey×Addr×Addr
section
variable {X:Cx} {pins:List (Addr×Obj)} {σ:St} {H:Hp} {s:Shared} {a b c:Addr} {xs:List WRow} {k:WKey} {A:Around} {E:Value→Shared→Prop}
end
section
variable {X:Cx} {o i e value:Expr} {pos pos' tpos:Pos} {td ty tv:TE}
end
end L2
namespace L2
open PySem PySem.Spec PyProof.Rows
section
variable {X:Cx} {a:Expr} {ta:TE} {pos:Pos} {tg:Expr}
theorem opM:OpR X (binaryOp .Mult) (fun x y H Q=>(rI CMul fun i j=>.int (i*j)) x y H Q∨rRep x y H Q):=op_mul.or op_rep
theorem opEq (hu:X.A.units+64<cLine):OpR X (compareOp .Eq) (fun x y H Q=>rEq x y H Q∨rEqD false x y H Q):=op_eq.or (op_eqD hu)
theorem opNe (hu:X.A.units+64<cLine):OpR X (compareOp .NotEq) (fun x y H Q=>rNe x y H Q∨rEqD true x y H Q):=op_ne.or (op_neD hu)
theorem opLt (hu:X.A.units+64<cLine):OpR X (compareOp .Lt) (fun x y H Q=>(rI0 fun i j=>.bl (decide (i<j))) x y H Q∨rLtT X.K x y H Q):=op_lt.or (op_ltT (by omega))
def iAny (K:PySem.W.Frag) (tl:TE):TI:=fun σ H R=>tl σ H fun x H1=>∃ a,x=.ref a∧(((∃ xs,SqL K H1 a xs)∧R (Itl K a) H1)∨((∃ xs,SqT K H1 a xs)∧R (Itt K a) H1))
theorem pi_any {l:Expr} {tl:TE} (hl:PE X l tl):PI X tg l (iAny X.K tl):=by
 intro pins s σ H R I h
 refine thn (hl pins s σ H _ I h) fun v s1 ⟨x,H1,I1,r1,q1⟩=>?_
 obtain ⟨a,e,q⟩:=q1
 subst e
 cases r1
 rcases q with ⟨⟨xs,hq⟩,q⟩ | ⟨⟨xs,hq⟩,q⟩
 ·obtain ⟨its,rv,p,hz⟩:=I1.list hq
  refine wpAny_pyIter_list p.isList ?_
  refine ⟨s1.heap.objs.size,[s1.heap.objs.size],_,_,H1,rfl,I1.kept (t':=s1.toks) fun b o e=>Heap.get?_push_of_some _ e,turn_list a _,⟨_,Heap.get?_push_size _ rfl,rfl,rfl⟩,fun b hb=>?_,q⟩
  have e:b=s1.heap.objs.size:=by simpa using hb
  subst e
  exact I1.fpOk (Nat.le_refl _) (I1.hok.fresh (Nat.le_refl _))
 ·obtain ⟨its,rv,p,hz⟩:=I1.tuple hq
  refine wpAny_pyIter_tuple (show s1.heap.IsTuple a its.toArray from p) ?_
  refine ⟨s1.heap.objs.size,[s1.heap.objs.size],_,_,H1,rfl,I1.kept (t':=s1.toks) fun b o e=>Heap.get?_push_of_some _ e,turn_tuple a _,⟨_,Heap.get?_push_size _ rfl,rfl,rfl⟩,fun b hb=>?_,q⟩
  have e:b=s1.heap.objs.size:=by simpa using hb
  subst e
  exact I1.fpOk (Nat.le_refl _) (I1.hok.fresh (Nat.le_refl _))
def tNotT (ta:TE) (K:PySem.W.Frag):TE:=fun σ H Q=>ta σ H fun x H1=>∃ k,TruV K x H1 k∧Q (.bl (!k)) H1
theorem pe_notV (ha:PE X a ta):PE X (.UnaryOp .Not a pos) (tNotT ta X.K):=by
 intro pins s σ H Q I h
 refine UnaryOp_ (thn (ha pins s σ H _ I h) fun v s1 ⟨x,H1,I1,r1,k,e,q1⟩=>not_of ?_)
 exact thn (tru_ok pins s1 σ H1 x v (fun k H'=>Q (.bl (!k)) H') I1 r1 ⟨k,e,q1⟩) fun b s2 ⟨H2,I2,q2⟩=>⟨.bl (!b),H2,I2,rfl,q2⟩
end
theorem Same.new {H:Hp} {p:Addr} {o:HO} (h:H p=none):Same H (upd H p o):=fun b u e=>by rw [upd_ne (ne_of_none e h)]; exact e
def TSame (H H':Hp):Prop:=∀ a xs,H a=some (.tup xs)→H' a=some (.tup xs)
mutual
def tonly:D→Bool
 | .lst _=>false
 | .dic=>false
 | .tup l=>tonlys l
 | _=>true
def tonlys:List D→Bool
 | []=>true
 | d::l=>tonly d && tonlys l
end
mutual
theorem Den.monoT {H H':Hp} (e:TSame H H'):∀(d:D) (v:V),tonly d=true→Den H d v→Den H' d v
 | .non,v,_,h=>h
 | .bl _,v,_,h=>h
 | .int _,v,_,h=>h
 | .str _,v,_,h=>h
 | .tup l,v,t,h=>by
  obtain ⟨a,xs,r,h1,h2⟩:=h
  exact ⟨a,xs,r,e _ _ h1,Dens.monoT e l xs t h2⟩
 | .lst l,v,t,h=>by simp [tonly] at t
 | .dic,v,t,h=>by simp [tonly] at t
theorem Dens.monoT {H H':Hp} (e:TSame H H'):∀(l:List D) (xs:List V),tonlys l=true→Dens H l xs→Dens H' l xs
 | [],xs,_,h=>h
 | d::l,xs,t,h=>by
  obtain ⟨x,r,h0,h1,h2⟩:=h
  simp only [tonlys,Bool.and_eq_true] at t
  exact ⟨x,r,h0,Den.monoT e d x t.1 h1,Dens.monoT e l r t.2 h2⟩
end
section
variable {X:Cx} {K:PySem.W.Frag} {a b o e:Expr} {es:List Expr} {ta tb to:TE} {t:TA} {pos:Pos} {tg:Expr}
theorem ixK (h:X.K=K):IxR X (rIx K):=by subst h; exact ix_seq
theorem opLtK (h:X.K=K) (hu:X.A.units+64<cLine):OpR X (compareOp .Lt) (fun x y H Q=>(rI0 fun i j=>.bl (decide (i<j))) x y H Q∨rLtT K x y H Q):=by subst h; exact opLt hu
theorem pi_anyK {l:Expr} {tl:TE} (h:X.K=K) (hl:PE X l tl):PI X tg l (iAny K tl):=by subst h; exact pi_any hl
theorem pe_notVK (h:X.K=K) (ha:PE X a ta):PE X (.UnaryOp .Not a pos) (tNotT ta K):=by subst h; exact pe_notV ha
def tTru (K:PySem.W.Frag) (ta:TE):TT:=fun σ H Q=>ta σ H fun x H'=>∃ k,TruV K x H' k∧Q k H'
theorem pt_truthK (h:X.K=K) (ha:PE X a ta) (he:∀ whole,isTrue a X.env whole=(do let v ← whole; standAt a.pos; holding [v] (truthy v))):PT X a (tTru K ta):=by subst h; exact pt_truth ha he
theorem lenK (h:X.K=K):CallR X (.builtin "len") (fun xs H Q=>∃ p ys,xs=[.ref p]∧(SqL K H p ys∨SqT K H p ys)∧Q (.int ys.length) H):=by subst h; exact call_len_seq
theorem tupleK (h:X.K=K):CallR X (.type "tuple") (fun xs H Q=>∃ p ys,xs=[.ref p]∧((SqL K H p ys∧∀ l,H l=none→Q (.ref l) (upd H l (.tup ys)))∨(SqT K H p ys∧Q (.ref p) H))):=by subst h; exact call_tuple_of
theorem listK (h:X.K=K):CallR X (.type "list") (fun xs H Q=>∃ p ys,xs=[.ref p]∧(SqL K H p ys∨SqT K H p ys)∧∀ l,H l=none→Q (.ref l) (upd H l (.lst ys))):=by subst h; exact call_list_of
theorem isinstK (h:X.K=K):CallR X (.builtin "isinstance") (fun xs H Q=>∃ x t T b,xs=[x,.ty T]∧TyOf K H x t∧PySem.W.kitOne K t (.type T)=some b∧Q (.bl b) H):=by subst h; exact call_isinst
theorem pe_bmK {name:Str} {apos cpos:Pos} {T id:String} {r:V→List V→Hp→VK→Prop} (h:X.K=K) (pa:PlainAttrs T) (slot:Slot T name id) (hty:typeOf (.builtin id)=pure (.type "method_descriptor")) (hm:MtR X id r) (ho:PE X o to) (ha:PA X (e::es) t)
  (hbase:attributeBase o name X.env (eval o X.env)=eval o X.env:=by rfl)
  (hfew:((backTo cpos (starEach (e::es) X.env)).all (fun x=>!x.1) && (backToKw cpos (keywordEach [] X.env)).all (fun x=>x.1.isSome)
   && decide ((e::es).length+([]:List Keyword).length+(if ([]:List Keyword).isEmpty then 0 else 1)<30))=true:=by rfl)
  (hline:(apos.endLine == cpos.line)=true:=by rfl) (hs:starEach (e::es) X.env=(false,eval e X.env)::starEach es X.env:=by rfl) (hplain:(backTo cpos (starEach es X.env)).any (·.1)=false:=by rfl) :
  PE X (.Call (.Attribute o name apos) (e::es) [] cpos) (tBM K T r to t):=by subst h; exact pe_bm pa slot hty hm ho ha hbase hfew hline hs hplain
theorem pg_tupK {es:List Expr} {k:Nat} {t:TGs} {n:Nat} (h:X.K=K) (hc:X.calm=true) (hg:PGs X es t)
  (hn:(assignEach es X.env).length=n:=by rfl) (hst:(assignEach es X.env).findIdx? (·.1)=none:=by rfl):PG X (.Tuple es k pos) (gTup K n t):=by subst h; exact pg_tup hc hg hn hst
end
structure DefAt (K:PySem.W.Frag) (mg:Str→Option Value) (x:Str) (st:Stmt) (ps:List Str) (f:Addr) (fd:FuncData):Prop where
 fn:Fun K x x st f fd
 bd:Binds K fd ps []
 mg:mg x=some (.ref f)
end L2
namespace L2
open PySem
abbrev Fo (h:Heap) (c:String) (a:Addr) (fs:Array Value):Prop:=h.get? a=some ⟨.type c,none,.fields fs,#[]⟩
def Past (a:Addr) (h h':Heap):Prop:=∀ c o,c≠a→h.get? c=some o→h'.get? c=some o
theorem Past.refl (a:Addr) (h:Heap):Past a h h:=fun _ _ _ y=>y
theorem Past.of {a:Addr} {h h':Heap} (x:Heap.SameBut a h h'):Past a h h':=x.extBut
section
variable {prog:Program} {w:World} {A:Around} {E:Value→Shared→Prop} {s:Shared} {a:Addr} {c:String} {fs:Array Value} {β:Type} {Q:β→Shared→Prop}
theorem ask {k:Nat} {x:Value} {g:Value→Sem β} (o:Fo s.heap c a fs) (hx:fs[k]? = some x) (K:wpAny (model prog w) A (g x) Q E s):wpAny (model prog w) A (field (.ref a) k >>= g) Q E s:=wpAny_bind (wpAny_field o rfl hx K)
theorem put1 {k:Nat} {v:Value} {Q:Unit→Shared→Prop} (o:Fo s.heap c a fs) (hk:k<fs.size) (K:∀ h',Fo h' c a (fs.setIfInBounds k v)→Past a s.heap h'→h'.objs.size=s.heap.objs.size→Q () { s with heap:=h' }):wpAny (model prog w) A (setField (.ref a) k v) Q E s:=
 wpAny_setField_rec o hk fun h' o' same=>K h' o' (.of same) same.1
theorem put {k:Nat} {v:Value} {g:Unit→Sem β} (o:Fo s.heap c a fs) (hk:k<fs.size) (K:∀ h',Fo h' c a (fs.setIfInBounds k v)→Past a s.heap h'→h'.objs.size=s.heap.objs.size→wpAny (model prog w) A (g ()) Q E { s with heap:=h' }):wpAny (model prog w) A (setField (.ref a) k v >>= g) Q E s:=
 wpAny_bind (put1 o hk K)
theorem alive {b:Addr} {g:Option Obj→Sem β} (K:wpAny (model prog w) A (g (s.heap.get? b)) Q E s):wpAny (model prog w) A (loadIfAlive b >>= g) Q E s:=by
 refine wpAny_bind ?_
 intro Γ p _
 exact (Sem.wp_loadIfAlive ..).symm ▸ K
end
end L2
namespace L2
open PySem PySem.Spec PyProof.Rows
section
variable {w:World} {prog:Program} {A:Around} {s:Shared} {E:Value→Shared→Prop}
theorem stops {α:Type} {Q:α→Shared→Prop} (calm:A.handled=none) (K:∀ h' e,(∀ b o,s.heap.get? b=some o→h'.get? b=some o)→(∃ o,h'.get? e=some o∧o.cls=.type "StopIteration")→E (.ref e) { s with heap:=h' }):wpAny (model prog w) A (Builtin.SmallTypes.stopIteration:Sem α) Q E s:=by
 refine wpAny_bind (m:=newExc _ _) (wpAny_bind (wpAny_newObj_type (wpAny_bind (m:=firstArgMember _ _) (wpAny_of_eq (a:=Value.none) (by simp only [firstArgMember]; rfl) (wpAny_newObj_type (wpAny_raiseNew_none calm (K _ _ (fun b o y=>?_) ⟨_,Heap.get?_push_size _ rfl,rfl⟩)) (by size_fits)))) (by size_fits)))
 exact Heap.get?_push_of_some _ (Heap.get?_push_of_some _ y)
theorem nextT {nx tu:Addr} {i:Nat} {its:Array Value} {Q:Value→Shared→Prop} (hi:s.heap.IsTupleIter nx tu i) (ht:s.heap.IsTuple tu its) (yes:∀ y h',its[i]? = some y→h'.IsTupleIter nx tu (i+1)→Heap.SameBut nx s.heap h'→Q y { s with heap:=h' })
  (no:its[i]? = none→A.handled=none∧∀ h' e,Heap.ExtBut nx s.heap h'→(∃ o,h'.get? e=some o∧o.cls=.type "StopIteration")→E (.ref e) { s with heap:=h' }):wpAny (model prog w) A (Builtin.SmallTypes.nextOf (.ref nx)) Q E s:=by
 obtain ⟨ob,eb,cb,db⟩:=id hi
 obtain ⟨ot,et,_,nt,dt⟩:=ht
 refine wpAny_bind (wpAny_callSpecial?_slot (name:=Str.ofString "__next__") hi.typeIs F.slot_tuple_iterator_next (wpAny_call_entry F.slot_tuple_iterator_next hi.typeIs F.entry_tuple_iterator_next ?_ (F.args_tuple_iterator_next_1 _)))
 refine wpAny_bind (wpAny_of_eq (a:=(.ref nx,[])) rfl (wpAny_bind (wpAny_field eb db (x:=.ref tu) rfl (wpAny_ite_split (fun z=>absurd z Bool.false_ne_true) fun _=>wpAny_bind (wpAny_field eb db (x:=.int i 0) rfl (wpAny_bind (wpAny_seqItems et dt ?_)))))))
 simp only [Int.toNat_natCast]
 cases e:its[i]? with
 | some y=>
  refine wpAny_bind (wpAny_setField eb db (by simp) (wpAny_pure ⟨y,rfl,wpAny_pure (yes y _ e ⟨_,Heap.get?_update_self _ eb (Obj.isFreed_of_fields (Obj.data_mapFields db _)),(Obj.cls_mapFields ..).trans cb,?_⟩ (Heap.SameBut.update ..))⟩))
  rw [Obj.data_mapFields db]
  simp [rawInt]
 | none=>
  obtain ⟨calm,over⟩:=no e
  exact wpAny_bind (wpAny_rule (wpAny_bind (wpAny_setField eb db (by simp) (stops calm fun h' x old new=>over h' x (fun b o n y=>old b o ((Heap.SameBut.update ..).extBut b o n y)) new))))
end
theorem drawsT {prog:Program} {w:World} {A:Around} (hh:A.handled=none) (nx tu:Addr) (hne:tu≠nx) (its:Array Value) :
  Draws prog w A nx [nx,tu] its.size (fun i v=>its[i]? = some v) (fun i h=>h.IsTupleIter nx tu i∧h.IsTuple tu its) where
 live:=fun _ _ st=>by obtain ⟨o,ho,_⟩:=st.1; exact ⟨o,ho⟩
 frame:=fun _ _ _ st hk=>⟨st.1.at fun o e=>hk nx (by simp) o e,by obtain ⟨o,e,r⟩:=st.2; exact ⟨o,hk tu (by simp) o e,r⟩⟩
 item:=fun i s Q E hi st k=>nextT st.1 st.2 (no:=fun z=>absurd z (by simp [hi])) (yes:=fun y h' ey g1 g2=>k y h' s.toks ey ⟨g1,by obtain ⟨o,e,r⟩:=st.2; exact ⟨o,g2.extBut tu o hne e,r⟩⟩ g2)
 done:=fun s Q E st k=>nextT st.1 st.2 (yes:=fun y _ ey=>absurd ey (by simp)) (no:=fun _=>⟨hh,k⟩)
structure ZA (z TI TO i1 i2:Addr) (f1 f2:List Addr):Prop where
 tz:TI≠z
 oz:TO≠z
 az:i1≠z
 bz:i2≠z
 tO:TI≠TO
 ta:TI≠i1
 tb:TI≠i2
 oa:TO≠i1
 ob:TO≠i2
 ab:i1≠i2
 zf1:z∉f1
 zf2:z∉f2
 of1:TO∉f1
 of2:TO∉f2
 af2:i1∉f2
 bf1:i2∉f1
end L2
namespace L2
open PySem PyProof.Rows
def Kept (l:List Addr) (h h':Heap):Prop:=∀ b o,b∉l→h.get? b=some o→h'.get? b=some o
theorem Kept.then {l m:List Addr} {h h' h'':Heap} (x:Kept l h h') (y:Kept m h' h''):Kept (l++m) h h'':=fun b o n z=>y b o (fun q=>n (List.mem_append_right _ q)) (x b o (fun q=>n (List.mem_append_left _ q)) z)
theorem Kept.one {a:Addr} {h h':Heap} (x:Heap.SameBut a h h'):Kept [a] h h':=fun b o n z=>x.extBut b o (fun q=>n (q ▸ List.mem_singleton.mpr rfl)) z
theorem Kept.past {a:Addr} {h h':Heap} (x:Past a h h'):Kept [a] h h':=fun b o n z=>x b o (fun q=>n (q ▸ List.mem_singleton.mpr rfl)) z
theorem Kept.new (h:Heap) (o:Obj):Kept [] h (h.push o):=fun _ _ _ z=>Heap.get?_push_of_some o z
theorem Kept.sub {l m:List Addr} {h h':Heap} (x:Kept l h h') (s:∀ a∈l,a∈m):Kept m h h':=fun b o n z=>x b o (fun q=>n (s b q)) z
def Hold (u0 u1:Value):Prop:=(u0=.none∨∃ a:Nat,u0=rawInt a)∧∃ b,u1=.bool b
abbrev Zf (h:Heap) (z TI TO:Addr) (u0 u1:Value):Prop:=Fo h "zip" z #[u0,u1,.bool false,.ref TI,.ref TO]
section
variable {prog:Program} {w:World} {A:Around} {E:Value→Shared→Prop} {s:Shared} {z TI TO i1 i2:Addr} {f1 f2:List Addr} {n1 n2:Nat} {P1 P2:Nat→Value→Prop} {S1 S2:Nat→Heap→Prop}
theorem held? {u0 u1:Value} {Q:Bool→Shared→Prop} (own:Hold u0 u1) (o:Zf s.heap z TI TO u0 u1) (yes:Q true s) (no:u0≠.none→∀ h' g0,Hold g0 (.bool true)→Zf h' z TI TO g0 (.bool true)→Past z s.heap h'→h'.objs.size=s.heap.objs.size→Q false { s with heap:=h' }):wpAny (model prog w) A (Builtin.SmallTypes.ownedTupleIsFree (.ref z)) Q E s:=by
 refine ask (k:=0) o rfl ?_
 obtain ⟨rfl | ⟨b,rfl⟩,c,rfl⟩:=own
 ·exact wpAny_pure yes
 refine alive (b:=b) ?_
 cases s.heap.get? b with
 | none=>exact wpAny_pure yes
 | some _=>
  cases c with
  | true=>
   refine ask (k:=1) (x:=.bool true) o rfl (wpAny_ite_split (fun q=>absurd q (by decide)) fun _=>wpAny_pure ?_)
   exact no (fun q=>by cases q) s.heap (rawInt b) ⟨.inr ⟨b,rfl⟩,true,rfl⟩ o (Past.refl _ _) rfl
  | false=>
   refine ask (k:=1) (x:=.bool false) o rfl (wpAny_ite_split (fun _=>?_) fun q=>absurd (by decide) q)
   exact put o (show 1<5 by decide) fun h' o' k' z'=>wpAny_pure (no (fun q=>by cases q) h' (rawInt b) ⟨.inr ⟨b,rfl⟩,true,rfl⟩ o' k' z')
theorem zip_tell {i:Nat} {c d u0 u1:Value} {Q:Value→Shared→Prop} (X1:Draws prog w A i1 f1 n1 P1 S1) (X2:Draws prog w A i2 f2 n2 P2 S2) (Z:ZA z TI TO i1 i2 f1 f2) (l1:i<n1) (l2:i<n2)
  (o:Zf s.heap z TI TO u0 u1) (own:Hold u0 u1) (hI:IsPair s.heap TI (.ref i1) (.ref i2)) (hO:IsPair s.heap TO c d) (g1:S1 i s.heap) (g2:S2 i s.heap)
  (K:∀ h' t x y v0 v1,P1 i x→P2 i y→Hold v0 v1→Zf h' z TI TO v0 v1→(u0=.none→v0=rawInt s.heap.objs.size∧v1=.bool false∧IsPair h' TO x y)→(∃ c d,IsPair h' TO c d)→S1 (i+1) h'→S2 (i+1) h'→IsPair h' s.heap.objs.size x y→h'.objs.size=s.heap.objs.size+1→Kept [z,TO,i1,i2] s.heap h'→Q (.ref s.heap.objs.size) { s with heap:=h',toks:=t }) :
  wpAny (model prog w) A (Builtin.«zip.__next__» ⟨[Value.ref z],[]⟩) (fun r s'=>∃ v,r=.done (.ret v)∧Q v s') E s:=by
 have away:∀{l f:List Addr},(∀ a∈l,a∉f)→∀{h h':Heap},Kept l h h'→∀ b∈f,∀ u,h.get? b=some u→h'.get? b=some u:=fun apart _ _ k b hb u y=>k b u (fun q=>apart b q hb) y
 refine wpAny_bind (wpAny_of_eq (a:=(.ref z,[])) rfl (ask (k:=2) o rfl (ask (k:=3) o rfl (wpAny_bind (wpAny_seqItems hI rfl (wpAny_ite_split (fun q=>absurd q (by simp)) fun _=>wpAny_bind (held? own o ?_ fun nn h0 v0 own' o0 k0 z0=>?_)))))))
 ·refine wpAny_ite_split (fun _=>wpAny_bind (wpAny_rule (ask (k:=4) o rfl (put (k:=0) o (show 0<5 by decide) fun ha oa ka za=>wpAny_bind ?_)))) fun q=>absurd rfl q
  simp only [List.zipIdx_cons,List.forIn_cons,List.zipIdx_nil,List.forIn_nil]
  have a1:S1 i ha:=X1.frame _ _ _ g1 (away (by simp [Z.zf1]) (.past ka))
  have a2:S2 i ha:=X2.frame _ _ _ g2 (away (by simp [Z.zf2]) (.past ka))
  refine wpAny_bind (wpAny_bind (wpAny_onRaise (wpAny_bind (m:=Builtin.SmallTypes.nextOf (.ref i1)) (X1.item i { s with heap:=ha } _ _ l1 a1 fun x hb t px b1 sb=>wpAny_pure ?_))))
  have kb:Kept [i1] ha hb:=.one sb
  have Ob:IsPair hb TO c d:=((Kept.past ka).then kb) TO _ (by simp [Z.oz,Z.oa]) hO
  refine wpAny_bind (wpAny_seqItems Ob rfl (wpAny_bind (wpAny_updateSeq_pair Ob fun hc Oc sc=>wpAny_bind (wpAny_letGo (wpAny_pure ?_)))))
  have kc:Kept ([i1]++[TO]) ha hc:=kb.then (.one sc)
  have c2:S2 i hc:=X2.frame _ _ _ a2 (away (by simp [Z.af2,Z.of2]) kc)
  refine wpAny_bind (wpAny_bind (wpAny_onRaise (wpAny_bind (m:=Builtin.SmallTypes.nextOf (.ref i2)) (X2.item i { s with heap:=hc,toks:=t } _ _ l2 c2 fun y hd t2 py d2 sd=>wpAny_pure ?_))))
  have Od:IsPair hd TO x d:=sd.extBut TO _ Z.ob Oc
  refine wpAny_bind (wpAny_seqItems Od rfl (wpAny_bind (wpAny_updateSeq_pair Od fun he Oe se=>wpAny_bind (wpAny_letGo (wpAny_pure (wpAny_pure ?_))))))
  have ke:Kept ([i1]++[TO]++[i2]++[TO]) ha he:=(kc.then (.one sd)).then (.one se)
  have e1:S1 (i+1) he:=X1.frame _ _ _ b1 (away (l:=[TO]++[i2]++[TO]) (by simp [Z.of1,Z.bf1]) (((Kept.one sc).then (.one sd)).then (.one se)))
  have e2:S2 (i+1) he:=X2.frame _ _ _ d2 (away (by simp [Z.of2]) (.one se))
  have ze:he.objs.size=s.heap.objs.size:=se.1.trans (sd.1.trans (sc.1.trans (sb.1.trans za)))
  have oe:Zf he z TI TO .ellipsis u1:=ke z _ (by simp [Z.oz.symm,Z.az.symm,Z.bz.symm]) oa
  have zl:z<he.objs.size:=Heap.lt_size oe
  refine wpAny_bind (wpAny_seqItems Oe rfl (wpAny_bind (wpAny_newTuple (wpAny_bind (put (s:={ s with heap:=he.push { cls:=.type "tuple",data:=.seq #[x,y] },toks:=t2 }) (k:=0) (Heap.get?_push_of_some _ oe) (show 0<5 by decide) fun hg og kg zg=>put1 (k:=1) og (show 1<5 by decide) fun hk ok kk zk=>wpAny_pure ⟨_,rfl,?_⟩)) (by show 2≤sizeLine; decide))))
  have up:Kept [z] he hk:=fun b u n q=>kk b u (fun e=>n (e ▸ List.mem_singleton.mpr rfl)) (kg b u (fun e=>n (e ▸ List.mem_singleton.mpr rfl)) (Heap.get?_push_of_some _ q))
  have T:IsPair hk he.objs.size x y:=kk _ _ (Nat.ne_of_gt zl) (kg _ _ (Nat.ne_of_gt zl) (Heap.get?_push_size he rfl))
  have sz:hk.objs.size=he.objs.size+1:=zk.trans (zg.trans (Heap.size_push ..))
  have Ok:IsPair hk TO x y:=up TO _ (by simp [Z.oz]) Oe
  show Q (.ref he.objs.size) _
  rw [ze] at T sz ⊢
  refine K hk t2 x y _ _ px py ⟨.inr ⟨he.objs.size,rfl⟩,false,rfl⟩ ok (fun _=>⟨by rw [ze],rfl,Ok⟩) ⟨_,_,Ok⟩ (X1.frame _ _ _ e1 (away (by simp [Z.zf1]) up)) (X2.frame _ _ _ e2 (away (by simp [Z.zf2]) up)) T sz ((((Kept.past ka).then ke).then up).sub ?_)
  simp only [List.mem_append,List.mem_singleton]
  rintro a h
  simp only [List.mem_cons,List.not_mem_nil,or_false]
  rcases h with (rfl | (((rfl | rfl) | rfl) | rfl)) | rfl <;> simp
 ·refine wpAny_ite_split (fun q=>absurd q (by decide)) fun _=>wpAny_bind ?_
  rw [← Array.forIn_toList]; simp only [List.forIn_cons,List.forIn_nil]
  have a1:S1 i h0:=X1.frame _ _ _ g1 (away (by simp [Z.zf1]) (.past k0))
  have a2:S2 i h0:=X2.frame _ _ _ g2 (away (by simp [Z.zf2]) (.past k0))
  refine wpAny_bind (wpAny_bind (wpAny_holding (wpAny_bind (m:=Builtin.SmallTypes.nextOf (.ref i1)) (X1.item i { s with heap:=h0 } _ _ l1 a1 fun x hb t px b1 sb=>wpAny_pure (wpAny_pure ?_)))))
  have b2:S2 i hb:=X2.frame _ _ _ a2 (away (by simp [Z.af2]) (.one sb))
  refine wpAny_bind (wpAny_bind (wpAny_holding (wpAny_bind (m:=Builtin.SmallTypes.nextOf (.ref i2)) (X2.item i { s with heap:=hb,toks:=t } _ _ l2 b2 fun y hd t2 py d2 sd=>wpAny_pure (wpAny_pure (wpAny_pure ?_))))))
  refine wpAny_bind (wpAny_newTuple (wpAny_pure ⟨_,rfl,?_⟩) (by show 2≤sizeLine; decide))
  have kd:Kept ([z]++[i1]++[i2]) s.heap hd:=((Kept.past k0).then (.one sb)).then (.one sd)
  have zd:hd.objs.size=s.heap.objs.size:=sd.1.trans (sb.1.trans z0)
  have od:Zf hd z TI TO v0 (.bool true):=((Kept.one sb).then (.one sd)) z _ (by simp [Z.az.symm,Z.bz.symm]) o0
  have d1:S1 (i+1) hd:=X1.frame _ _ _ b1 (away (by simp [Z.bf1]) (.one sd))
  have Od:IsPair hd TO c d:=kd TO _ (by simp [Z.oz,Z.oa,Z.ob]) hO
  have new:Kept [] hd (hd.push { cls:=.type "tuple",data:=.seq #[x,y] }):=.new _ _
  have T:IsPair (hd.push { cls:=.type "tuple",data:=.seq #[x,y] }) hd.objs.size x y:=Heap.get?_push_size hd rfl
  show Q (.ref hd.objs.size) _
  rw [zd] at T ⊢
  refine K _ t2 x y _ _ px py own' (new z _ (by simp) od) (fun q=>absurd q nn) ⟨_,_,new TO _ (by simp) Od⟩ (X1.frame _ _ _ d1 (away (by simp) new)) (X2.frame _ _ _ d2 (away (by simp) new)) T (by rw [Heap.size_push,zd]) ((kd.then new).sub ?_)
  simp only [List.mem_append,List.mem_singleton]
  rintro a h
  simp only [List.mem_cons,List.not_mem_nil,or_false] at h ⊢
  rcases h with (rfl | rfl) | rfl <;> simp
theorem zip_over {i:Nat} {c d u0 u1:Value} {Q:Fin→Shared→Prop} (X1:Draws prog w A i1 f1 n1 P1 S1) (X2:Draws prog w A i2 f2 n2 P2 S2) (Z:ZA z TI TO i1 i2 f1 f2) (l:i=n1∨(i<n1∧i=n2))
  (o:Zf s.heap z TI TO u0 u1) (own:Hold u0 u1) (hI:IsPair s.heap TI (.ref i1) (.ref i2)) (hO:IsPair s.heap TO c d) (g1:S1 i s.heap) (g2:S2 i s.heap)
  (K:∀ h' t e,Kept [z,TO,i1,i2] s.heap h'→(∃ o,h'.get? e=some o∧o.cls=.type "StopIteration")→E (.ref e) { s with heap:=h',toks:=t }):wpAny (model prog w) A (Builtin.«zip.__next__» ⟨[Value.ref z],[]⟩) Q E s:=by
 have away:∀{l f:List Addr},(∀ a∈l,a∉f)→∀{h h':Heap},Kept l h h'→∀ b∈f,∀ u,h.get? b=some u→h'.get? b=some u:=fun apart _ _ k b hb u y=>k b u (fun q=>apart b q hb) y
 have ext:∀{a:Addr} {h h':Heap},Heap.ExtBut a h h'→Kept [a] h h':=fun x=>.past x
 refine wpAny_bind (wpAny_of_eq (a:=(.ref z,[])) rfl (ask (k:=2) o rfl (ask (k:=3) o rfl (wpAny_bind (wpAny_seqItems hI rfl (wpAny_ite_split (fun q=>absurd q (by simp)) fun _=>wpAny_bind (held? own o ?_ fun nn h0 v0 own' o0 k0 z0=>?_)))))))
 ·refine wpAny_ite_split (fun _=>wpAny_bind (wpAny_rule (ask (k:=4) o rfl (put (k:=0) o (show 0<5 by decide) fun ha oa ka za=>wpAny_bind ?_)))) fun q=>absurd rfl q
  simp only [List.zipIdx_cons,List.forIn_cons,List.zipIdx_nil,List.forIn_nil]
  have a1:S1 i ha:=X1.frame _ _ _ g1 (away (by simp [Z.zf1]) (.past ka))
  have a2:S2 i ha:=X2.frame _ _ _ g2 (away (by simp [Z.zf2]) (.past ka))
  have shut:∀{hx:Heap} {t:Nat} {e:Addr} {m:List Addr},Kept m ha hx→z∉m→(∀ a∈m,a∈[z,TO,i1,i2])→(∃ o,hx.get? e=some o∧o.cls=.type "StopIteration")→wpAny (model prog w) A (setField (.ref z) 0 .none) (fun _ s''=>E (.ref e) s'') E { s with heap:=hx,toks:=t }:=fun {hx t e m} km nz sub ⟨u,hu,cu⟩=>by
   have ox:Zf hx z TI TO .ellipsis u1:=km z _ nz oa
   have ez:e≠z:=fun q=>by rw [q,ox] at hu; cases hu; simp at cu
   refine put1 ox (show 0<5 by decide) fun hy _ ky _=>K hy t e ((((Kept.past ka).then km).then (.past ky)).sub ?_) ⟨u,ky e u ez hu,cu⟩
   intro a h
   obtain h | h:=List.mem_append.mp h
   ·obtain h | h:=List.mem_append.mp h
    ·simp [List.mem_singleton.mp h]
    ·exact sub a h
   ·simp [List.mem_singleton.mp h]
  rcases l with rfl | ⟨l,rfl⟩
  ·exact wpAny_bind (wpAny_bind (wpAny_onRaise (wpAny_bind (m:=Builtin.SmallTypes.nextOf (.ref i1)) (X1.done { s with heap:=ha } _ _ a1 fun hb e sb stop=>shut (ext sb) (by simp [Z.az.symm]) (by simp) stop))))
  ·refine wpAny_bind (wpAny_bind (wpAny_onRaise (wpAny_bind (m:=Builtin.SmallTypes.nextOf (.ref i1)) (X1.item i { s with heap:=ha } _ _ l a1 fun x hb t px b1 sb=>wpAny_pure ?_))))
   have Ob:IsPair hb TO c d:=((Kept.past ka).then (.one sb)) TO _ (by simp [Z.oz,Z.oa]) hO
   refine wpAny_bind (wpAny_seqItems Ob rfl (wpAny_bind (wpAny_updateSeq_pair Ob fun hc Oc sc=>wpAny_bind (wpAny_letGo (wpAny_pure ?_)))))
   have kc:Kept ([i1]++[TO]) ha hc:=(Kept.one sb).then (.one sc)
   have c2:S2 i hc:=X2.frame _ _ _ a2 (away (by simp [Z.af2,Z.of2]) kc)
   exact wpAny_bind (wpAny_bind (wpAny_onRaise (wpAny_bind (m:=Builtin.SmallTypes.nextOf (.ref i2)) (X2.done { s with heap:=hc,toks:=t } _ _ c2 fun hd e sd stop=>shut (kc.then (ext sd)) (by simp [Z.oz.symm,Z.az.symm,Z.bz.symm]) (by simp) stop))))
 ·refine wpAny_ite_split (fun q=>absurd q (by decide)) fun _=>wpAny_bind ?_
  rw [← Array.forIn_toList]; simp only [List.forIn_cons,List.forIn_nil]
  have a1:S1 i h0:=X1.frame _ _ _ g1 (away (by simp [Z.zf1]) (.past k0))
  have a2:S2 i h0:=X2.frame _ _ _ g2 (away (by simp [Z.zf2]) (.past k0))
  rcases l with rfl | ⟨l,rfl⟩
  ·exact wpAny_bind (wpAny_bind (wpAny_holding (wpAny_bind (m:=Builtin.SmallTypes.nextOf (.ref i1)) (X1.done { s with heap:=h0 } _ _ a1 fun hb e sb stop=>K hb s.toks e (((Kept.past k0).then (ext sb)).sub (by simp)) stop))))
  ·refine wpAny_bind (wpAny_bind (wpAny_holding (wpAny_bind (m:=Builtin.SmallTypes.nextOf (.ref i1)) (X1.item i { s with heap:=h0 } _ _ l a1 fun x hb t px b1 sb=>wpAny_pure (wpAny_pure ?_)))))
   have b2:S2 i hb:=X2.frame _ _ _ a2 (away (by simp [Z.af2]) (.one sb))
   exact wpAny_bind (wpAny_bind (wpAny_holding (wpAny_bind (m:=Builtin.SmallTypes.nextOf (.ref i2)) (X2.done { s with heap:=hb,toks:=t } _ _ b2 fun hd e sd stop=>K hd t e ((((Kept.past k0).then (.one sb)).then (ext sd)).sub (by simp)) stop))))
end
end L2
namespace L2
open PySem PySem.Spec PyProof.Rows
section
variable {prog:Program} {w:World} {A:Around} {E:Value→Shared→Prop} {s:Shared} {z TI TO i1 i2:Addr} {f1 f2:List Addr} {n1 n2:Nat} {P1 P2:Nat→Value→Prop} {S1 S2:Nat→Heap→Prop}
theorem Kept.four {h h':Heap} (k:Kept [z,TO,i1,i2] h h'):∀ b o,b≠z→b≠TO→b≠i1→b≠i2→h.get? b=some o→h'.get? b=some o:=fun b o c1 c2 c3 c4 y=>k b o (by simp [c1,c2,c3,c4]) y
theorem zip_next {i:Nat} {c d u0 u1:Value} {Q:Option Value→Shared→Prop} (X1:Draws prog w A.in1 i1 f1 n1 P1 S1) (X2:Draws prog w A.in1 i2 f2 n2 P2 S2) (Z:ZA z TI TO i1 i2 f1 f2) (o:Zf s.heap z TI TO u0 u1) (own:Hold u0 u1) (hI:IsPair s.heap TI (.ref i1) (.ref i2)) (hO:IsPair s.heap TO c d) (g1:S1 i s.heap) (g2:S2 i s.heap)
  (more:i<n1→i<n2→∀ h' t x y v0 v1,P1 i x→P2 i y→Hold v0 v1→Zf h' z TI TO v0 v1→(u0=.none→v0=rawInt s.heap.objs.size∧v1=.bool false∧IsPair h' TO x y)→(∃ c d,IsPair h' TO c d)→S1 (i+1) h'→S2 (i+1) h'→IsPair h' s.heap.objs.size x y→h'.objs.size=s.heap.objs.size+1→Kept [z,TO,i1,i2] s.heap h'→Q (some (.ref s.heap.objs.size)) { s with heap:=h',toks:=t })
  (over:¬ (i<n1∧i<n2)→∀ h' t,Kept [z,TO,i1,i2] s.heap h'→Q none { s with heap:=h',toks:=t }) (le:i≤n1∧(i<n1→i≤n2)):wpAny (model prog w) A (pyNext (Value.ref z)) Q E s:=by
 have ty:s.TypeIs (.ref z) "zip":=⟨_,o,rfl⟩
 refine wpAny_bind (wpAny_attempt (wpAny_callSpecial?_slot (name:=Str.ofString "__next__") ty F.slot_zip_next (wpAny_call_entry F.slot_zip_next ty F.entry_zip_next ?_ (F.args_zip_next_1 _))))
 by_cases both:i<n1∧i<n2
 ·exact zip_tell X1 X2 Z both.1 both.2 o own hI hO g1 g2 fun h' t x y v0 v1 a1 a2 a3 a4 a5 a6 a7 a8 a9 b1 b2=>wpAny_pure (more both.1 both.2 h' t x y v0 v1 a1 a2 a3 a4 a5 a6 a7 a8 a9 b1 b2)
 ·exact zip_over X1 X2 Z ((Nat.lt_or_ge i n1).elim (fun q=>.inr ⟨q,Nat.le_antisymm (le.2 q) (Nat.le_of_not_lt fun y=>both ⟨q,y⟩)⟩) fun q=>.inl (Nat.le_antisymm le.1 q)) o own hI hO g1 g2 fun h' t e kk ⟨u,hu,cu⟩=>wpAny_bind (wpAny_isInstance (T:="StopIteration") (b:=true) ⟨u,hu,cu⟩ isSubtype_stop (wpAny_pure (over both h' t kk)))
theorem zipD_pyNext {i:Nat} {c d:Value} {Q:Option Value→Shared→Prop} (X1:Draws prog w A.in1 i1 f1 n1 P1 S1) (X2:Draws prog w A.in1 i2 f2 n2 P2 S2) (Z:ZA z TI TO i1 i2 f1 f2) (l1:i<n1) (l2:i<n2)
  (hz:IsZip s.heap z TI TO .none) (hI:IsPair s.heap TI (.ref i1) (.ref i2)) (hO:IsPair s.heap TO c d) (g1:S1 i s.heap) (g2:S2 i s.heap)
  (k:∀ h' tk x y,P1 i x→P2 i y→IsZip h' z TI TO (rawInt s.heap.objs.size)→IsPair h' TO x y→S1 (i+1) h'→S2 (i+1) h'→IsPair h' s.heap.objs.size x y→h'.objs.size=s.heap.objs.size+1→
   (∀ b o,b≠z→b≠TO→b≠i1→b≠i2→s.heap.get? b=some o→h'.get? b=some o)→Q (some (.ref s.heap.objs.size)) { s with heap:=h',toks:=tk }):wpAny (model prog w) A (pyNext (Value.ref z)) Q E s:=by
 refine zip_next X1 X2 Z hz ⟨.inl rfl,false,rfl⟩ hI hO g1 g2 (fun _ _ h' t x y v0 v1 a1 a2 _ a4 a5 _ a7 a8 a9 b1 b2=>?_) (fun q=>absurd ⟨l1,l2⟩ q) ⟨Nat.le_of_lt l1,fun _=>Nat.le_of_lt l2⟩
 obtain ⟨rfl,rfl,o⟩:=a5 rfl
 exact k h' t x y a1 a2 a4 o a7 a8 a9 b1 b2.four
theorem zipD_pyEnd {i:Nat} {c d:Value} {Q:Option Value→Shared→Prop} (X1:Draws prog w A.in1 i1 f1 n1 P1 S1) (X2:Draws prog w A.in1 i2 f2 n2 P2 S2) (Z:ZA z TI TO i1 i2 f1 f2) (l:i=n1∨(i<n1∧i=n2))
  (hz:IsZip s.heap z TI TO .none) (hI:IsPair s.heap TI (.ref i1) (.ref i2)) (hO:IsPair s.heap TO c d) (g1:S1 i s.heap) (g2:S2 i s.heap)
  (k:∀ h' tk,(∀ b o,b≠z→b≠TO→b≠i1→b≠i2→s.heap.get? b=some o→h'.get? b=some o)→Q none { s with heap:=h',toks:=tk }):wpAny (model prog w) A (pyNext (.ref z)) Q E s:=
 zip_next X1 X2 Z hz ⟨.inl rfl,false,rfl⟩ hI hO g1 g2 (fun q1 q2=>l.elim (fun z=>absurd q1 (z ▸ Nat.lt_irrefl _)) fun z=>absurd q2 (z.2 ▸ Nat.lt_irrefl _)) (fun _ h' t kk=>k h' t kk.four) (l.elim (fun z=>⟨Nat.le_of_eq z,fun q=>absurd q (z ▸ Nat.lt_irrefl _)⟩) fun z=>⟨Nat.le_of_lt z.1,fun _=>Nat.le_of_eq z.2⟩)
end
def Itz (l1 l2:Addr):It:=
 ⟨fun i H=>∃ xs ys x y,H l1=some (.tup xs)∧H l2=some (.tup ys)∧xs[i]? = some x∧ys[i]? = some y,
  fun i H v H'=>∃ T,v=.ref T∧H T=none∧∀ xs ys x y,H l1=some (.tup xs)→H l2=some (.tup ys)→xs[i]? = some x→ys[i]? = some y→H'=upd H T (.tup [x,y]),
  fun i H=>∃ xs ys,H l1=some (.tup xs)∧H l2=some (.tup ys)∧(xs.length=i∨(i<xs.length∧ys.length=i))⟩
structure ZD (z TI TO i1 i2:Addr):Prop where
 tz:TI≠z
 oz:TO≠z
 az:i1≠z
 bz:i2≠z
 tO:TI≠TO
 ta:TI≠i1
 tb:TI≠i2
 oa:TO≠i1
 ob:TO≠i2
 ab:i1≠i2
def ZSt (z TI TO i1 i2 l1 l2:Addr) (i:Nat) (h:Heap):Prop:=IsZip h z TI TO .none∧IsPair h TI (.ref i1) (.ref i2)∧(∃ a b,IsPair h TO a b)∧h.IsTupleIter i1 l1 i∧h.IsTupleIter i2 l2 i
theorem ZD.za {z TI TO i1 i2 l1 l2:Addr} (D:ZD z TI TO i1 i2) {H:Hp} (hf:∀ b∈[z,TI,TO,i1,i2],H b=none) {o1 o2:HO} (h1:H l1=some o1) (h2:H l2=some o2):ZA z TI TO i1 i2 [i1,l1] [i2,l2]:=by
 have n1:∀ b∈[z,TI,TO,i1,i2],b≠l1:=fun b hb q=>by subst q; rw [hf b hb] at h1; cases h1
 have n2:∀ b∈[z,TI,TO,i1,i2],b≠l2:=fun b hb q=>by subst q; rw [hf b hb] at h2; cases h2
 refine ⟨D.tz,D.oz,D.az,D.bz,D.tO,D.ta,D.tb,D.oa,D.ob,D.ab,?_,?_,?_,?_,?_,?_⟩ <;> simp only [List.mem_cons,List.not_mem_nil,or_false,not_or]
 ·exact ⟨D.az.symm,n1 z (by simp)⟩
 ·exact ⟨D.bz.symm,n2 z (by simp)⟩
 ·exact ⟨D.oa,n1 TO (by simp)⟩
 ·exact ⟨D.ob,n2 TO (by simp)⟩
 ·exact ⟨D.ab,n2 i1 (by simp)⟩
 ·exact ⟨D.ab.symm,n1 i2 (by simp)⟩
theorem ZSt.obj {z TI TO i1 i2 l1 l2:Addr} {i:Nat} {h:Heap} (st:ZSt z TI TO i1 i2 l1 l2 i h):∀ b∈[z,TI,TO,i1,i2],∃ o,h.get? b=some o∧∀ v,o.data≠.cell v:=by
 obtain ⟨g1,g2,⟨a,c,g3⟩,⟨o4,e4,c4,d4⟩,⟨o5,e5,c5,d5⟩⟩:=st
 intro b hb
 simp only [List.not_mem_nil,List.mem_cons,or_false] at hb
 rcases hb with rfl | rfl | rfl | rfl | rfl
 ·exact ⟨_,g1,fun v q=>by cases (show Data.fields _=Data.cell v from q)⟩
 ·exact ⟨_,g2,fun v q=>by cases (show Data.seq _ _=Data.cell v from q)⟩
 ·exact ⟨_,g3,fun v q=>by cases (show Data.seq _ _=Data.cell v from q)⟩
 ·exact ⟨_,e4,fun v q=>by rw [d4] at q; cases q⟩
 ·exact ⟨_,e5,fun v q=>by rw [d5] at q; cases q⟩
theorem turn_zip {P:Program} {w:World} {K:PySem.W.Frag} {es:List Expr} {kx:Nat} {tp:Pos} {z TI TO i1 i2:Addr} (l1 l2:Addr) (D:ZD z TI TO i1 i2) :
  Turn P w K (.Tuple es kx tp) (Itz l1 l2) [z,TI,TO,i1,i2] z (ZSt z TI TO i1 i2 l1 l2) where
 mem:=by simp
 obj:=fun i h st=>st.obj
 keep:=fun i h h' st kk=>by
  obtain ⟨g1,g2,⟨a,c,g3⟩,g4,g5⟩:=st
  exact ⟨kk z (by simp) _ g1,kk TI (by simp) _ g2,⟨a,c,kk TO (by simp) _ g3⟩,g4.at fun o e=>kk i1 (by simp) o e,g5.at fun o e=>kk i2 (by simp) o e⟩
 item:=by
  intro X hP hw hK hc i pins s σ H E I hf st hg
  subst hP hw hK
  obtain ⟨xs,ys,x,y,h1,h2,hx,hy⟩:=hg
  obtain ⟨it1,rv1,p1,z1⟩:=I.tuple (SqT.of (K:=X.K) h1)
  obtain ⟨it2,rv2,p2,z2⟩:=I.tuple (SqT.of (K:=X.K) h2)
  obtain ⟨u1,hu1,ru1⟩:=rv1.get hx
  obtain ⟨u2,hu2,ru2⟩:=rv2.get hy
  have hn:∀ b∈[z,TI,TO,i1,i2],H b=none:=fun b hb=>(hf b hb).1
  have Z:=D.za hn h1 h2
  have nl1:l1≠i1:=fun q=>by subst q; rw [hn l1 (by simp)] at h1; cases h1
  have nl2:l2≠i2:=fun q=>by subst q; rw [hn l2 (by simp)] at h2; cases h2
  have a1:i<it1.toArray.size:=by simpa using (List.getElem?_eq_some_iff.mp hu1).1
  have a2:i<it2.toArray.size:=by simpa using (List.getElem?_eq_some_iff.mp hu2).1
  obtain ⟨g1,g2,⟨a,c,g3⟩,g4,g5⟩:=id st
  have hh:X.A.in1.handled=none:=I.ok.hd hc
  refine zipD_pyNext (drawsT hh i1 l1 nl1 it1.toArray) (drawsT hh i2 l2 nl2 it2.toArray) Z a1 a2 g1 g2 g3 ⟨g4,p1⟩ ⟨g5,p2⟩ fun h' tk x' y' q1 q2 q3 q4 q5 q6 q7 q8 q9=>?_
  have ex':x'=u1:=by
   have q1':it1.toArray[i]? = some x':=q1
   rw [List.getElem?_toArray,hu1] at q1'
   exact (Option.some.inj q1').symm
  have ey':y'=u2:=by
   have q2':it2.toArray[i]? = some y':=q2
   rw [List.getElem?_toArray,hu2] at q2'
   exact (Option.some.inj q2').symm
  subst ex' ey'
  have hfr:H s.heap.objs.size=none:=I.hok.fresh (Nat.le_refl _)
  have nch:∀ b o,s.heap.get? b=some o→b≠s.heap.objs.size:=fun b o e=>Nat.ne_of_lt (Heap.lt_size e)
  have kk:∀ b o,b∉[z,TO,i1,i2]→s.heap.get? b=some o→h'.get? b=some o:=fun b o hb e=>q9 b o (fun q=>hb (by simp [q])) (fun q=>hb (by simp [q])) (fun q=>hb (by simp [q])) (fun q=>hb (by simp [q])) e
  have ntr:∀ b u,H b=some u→b∉[z,TO,i1,i2]:=fun b u e hb=>by
   have:H b=none:=hn b (by simp only [List.mem_cons,List.not_mem_nil,or_false] at hb ⊢; rcases hb with q | q | q | q <;> simp [q])
   rw [this] at e
   cases e
  have I1:Inv X pins σ (upd H s.heap.objs.size (.tup [x,y])) { s with heap:=h',toks:=tk }:=by
   refine I.step (g':=s.gens) (d':=s.drawn) (ch:=[z,TO,i1,i2]) (fun b hb=>?_) (fun b o _ _ hb e _=>kk b o hb e) (fun b o _ _ hb e _=>⟨o.slots,kk b o hb e⟩) (fun b o _ e n=>by rw [upd_ne (nch b o e)]; exact n)
    (fun b o hb e=>⟨o,kk b o hb e⟩) (fun b xs e=>Same.new hfr _ _ e) (fun b o u e=>Same.new hfr _ _ e) (fun b ps e=>⟨#[],by rw [Same.new hfr _ _ e]; simp⟩) (fun m hm=>?_) (fun b u e=>?_) I.bare
   ·have hb':b∈[z,TI,TO,i1,i2]:=by simp only [List.mem_cons,List.not_mem_nil,or_false] at hb ⊢; rcases hb with q | q | q | q <;> simp [q]
    obtain ⟨_,f1,_,f3,f4,f5⟩:=hf b hb'
    exact ⟨f3,f1,f4,f5⟩
   ·obtain ⟨o,es',ep,ho,r⟩:=hm
    refine ⟨o,es',ep,kk _ o (fun hb=>?_) ho,r⟩
    have hb':X.env.locals∈[z,TI,TO,i1,i2]:=by simp only [List.mem_cons,List.not_mem_nil,or_false] at hb ⊢; rcases hb with q | q | q | q <;> simp [q]
    exact (hf _ hb').2.1 rfl
   ·by_cases hb:b=s.heap.objs.size
    ·subst hb
     rw [upd_same] at e
     cases e
     exact ⟨by show 2≤sizeLine; decide,[x',y'],.cons ru1 (.cons ru2 .nil),⟨_,q7,rfl,_,rfl⟩,fun o' e'=>by rw [q7] at e'; cases e'; rfl⟩
    ·rw [upd_ne hb] at e
     refine (I.hok b u e).stay (fun c' v hc' q=>kk c' v ?_ q) (fun c' q=>Same.new hfr _ _ q) fun c' xs' q=>Same.new hfr _ _ q
     rcases hc' with q0 | q0
     ·rw [q0]; exact ntr b u e
     ·exact ntr c' _ q0
  refine ⟨.ref s.heap.objs.size,rfl,wpAny_letOwnedTupleGo_zip (s:={ s with heap:=h',toks:=tk }) q3 fun h'' z'' s''=>?_⟩
  have zs:z≠s.heap.objs.size:=nch z _ g1
  obtain ⟨_,f1,_,f3,f4,f5⟩:=hf z (by simp)
  refine ⟨.ref s.heap.objs.size,upd H s.heap.objs.size (.tup [x,y]),I1.turned (it:=z) (t':=tk) (fun b o hb e=>s''.extBut b o hb e) (by rw [upd_ne zs]; exact hn z (by simp)) f1 f3 f4 f5,rfl,
   ⟨_,rfl,hfr,fun xs' ys' x'' y'' e1 e2 e3 e4=>?_⟩,⟨z'',s''.extBut _ _ D.tz (q9 _ _ D.tz D.tO D.ta D.tb g2),⟨_,_,s''.extBut _ _ D.oz q4⟩,q5.1.at fun o e=>s''.extBut _ o D.az e,q6.1.at fun o e=>s''.extBut _ o D.bz e⟩,fun b hb=>?_⟩
  ·rw [h1] at e1
   rw [h2] at e2
   cases e1
   cases e2
   rw [hx] at e3
   rw [hy] at e4
   cases e3
   cases e4
   rfl
  ·obtain ⟨o,e,_⟩:=st.obj b hb
   rw [upd_ne (nch b o e)]
   exact hn b hb
 done:=by
  intro X hP hw hK hc i pins s σ H E I hf st hg
  subst hP hw hK
  obtain ⟨xs,ys,h1,h2,hl⟩:=hg
  obtain ⟨it1,rv1,p1,z1⟩:=I.tuple (SqT.of (K:=X.K) h1)
  obtain ⟨it2,rv2,p2,z2⟩:=I.tuple (SqT.of (K:=X.K) h2)
  have hn:∀ b∈[z,TI,TO,i1,i2],H b=none:=fun b hb=>(hf b hb).1
  have Z:=D.za hn h1 h2
  have nl1:l1≠i1:=fun q=>by subst q; rw [hn l1 (by simp)] at h1; cases h1
  have nl2:l2≠i2:=fun q=>by subst q; rw [hn l2 (by simp)] at h2; cases h2
  obtain ⟨g1,g2,⟨a,c,g3⟩,g4,g5⟩:=id st
  have hh:X.A.in1.handled=none:=I.ok.hd hc
  have n1:=rv1.length
  have n2:=rv2.length
  have ll:i=it1.toArray.size∨(i<it1.toArray.size∧i=it2.toArray.size):=by
   simp only [List.size_toArray]
   omega
  refine zipD_pyEnd (drawsT hh i1 l1 nl1 it1.toArray) (drawsT hh i2 l2 nl2 it2.toArray) Z ll g1 g2 g3 ⟨g4,p1⟩ ⟨g5,p2⟩ fun h' tk q9=>⟨rfl,?_⟩
  have kk:∀ b o,b∉[z,TO,i1,i2]→s.heap.get? b=some o→h'.get? b=some o:=fun b o hb e=>q9 b o (fun q=>hb (by simp [q])) (fun q=>hb (by simp [q])) (fun q=>hb (by simp [q])) (fun q=>hb (by simp [q])) e
  have ntr:∀ b u,H b=some u→b∉[z,TO,i1,i2]:=fun b u e hb=>by
   have:H b=none:=hn b (by simp only [List.mem_cons,List.not_mem_nil,or_false] at hb ⊢; rcases hb with q | q | q | q <;> simp [q])
   rw [this] at e
   cases e
  refine I.step (g':=s.gens) (d':=s.drawn) (t':=tk) (ch:=[z,TO,i1,i2]) (fun b hb=>?_) (fun b o _ _ hb e _=>kk b o hb e) (fun b o _ _ hb e _=>⟨o.slots,kk b o hb e⟩) (fun b o _ e n=>n)
   (fun b o hb e=>⟨o,kk b o hb e⟩) (fun b xs e=>e) (fun b o u e=>e) (fun b ps e=>⟨#[],by rw [e]; simp⟩) (fun m hm=>?_) (fun b u e=>?_) I.bare
  ·have hb':b∈[z,TI,TO,i1,i2]:=by simp only [List.mem_cons,List.not_mem_nil,or_false] at hb ⊢; rcases hb with q | q | q | q <;> simp [q]
   obtain ⟨_,f1,_,f3,f4,f5⟩:=hf b hb'
   exact ⟨f3,f1,f4,f5⟩
  ·obtain ⟨o,es',ep,ho,r⟩:=hm
   refine ⟨o,es',ep,kk _ o (fun hb=>?_) ho,r⟩
   have hb':X.env.locals∈[z,TI,TO,i1,i2]:=by simp only [List.mem_cons,List.not_mem_nil,or_false] at hb ⊢; rcases hb with q | q | q | q <;> simp [q]
   exact (hf _ hb').2.1 rfl
  ·refine (I.hok b u e).stay (fun c' v hc' q=>kk c' v ?_ q) (fun c' q=>q) fun c' xs' q=>q
   rcases hc' with q0 | q0
   ·rw [q0]; exact ntr b u e
   ·exact ntr c' _ q0
 self:=fun _ _ _ _ _ st h=>wpAny_pyIter_zip st.1 h
abbrev zA (h:Heap) (l1:Addr):Heap:=h.push { cls:=.type "tuple_iterator",data:=.fields #[.ref l1,.int 0 0] }
abbrev zB (h:Heap) (l1 l2:Addr):Heap:=(zA h l1).push { cls:=.type "tuple_iterator",data:=.fields #[.ref l2,.int 0 0] }
abbrev zC (h:Heap) (l1 l2:Addr):Heap:=(zB h l1 l2).push { cls:=.type "tuple",data:=.seq #[.ref h.objs.size,.ref (zA h l1).objs.size] }
abbrev zD (h:Heap) (l1 l2:Addr):Heap:=(zC h l1 l2).push { cls:=.type "tuple",data:=.seq #[.none,.none] }
abbrev zE (h:Heap) (l1 l2:Addr):Heap:=(zD h l1 l2).push { cls:=.type "zip",data:=.fields #[.none,.bool false,.bool false,.ref (zB h l1 l2).objs.size,.ref (zC h l1 l2).objs.size] }
theorem zipNewT (l1 l2:Addr) (xs ys:Array Value) :
  Meets (Builtin.«zip.__new__» ⟨[.type "zip",.ref l1,.ref l2],[]⟩) (fun _ R s=>s.heap.IsTuple l1 xs∧s.heap.IsTuple l2 ys∧R (.ok (.ret (.ref (zD s.heap l1 l2).objs.size))) { s with heap:=zE s.heap l1 l2 }):=
 .of_wp fun prog w A R s hall=>by
  obtain ⟨hp,g,d,tk,os⟩:=s; obtain ⟨t1,t2,h⟩:=hall
  have hsub:=sub_zip
  have hL1:Heap.IsTuple (Shared.heap ⟨hp,g,d,tk,os⟩) l1 xs:=t1
  have hL2:Heap.IsTuple (Shared.heap ⟨hp.push { cls:=.type "tuple_iterator",data:=.fields #[.ref l1,.int 0 0] },g,d,tk,os⟩) l2 ys:=by
   obtain ⟨o,e,r⟩:=t2; exact ⟨o,Heap.get?_push_of_some _ e,r⟩
  wp_walk using wpAny_pyIter_tuple hL1,wpAny_pyIter_tuple hL2
  exact ⟨_,rfl,h⟩
section
variable {w:World} {prog:Program} {A:Around} {s:Shared} {E:Value→Shared→Prop}
theorem call_zipT {l1 l2:Addr} {xs ys:Array Value} {Q:Value→Shared→Prop} (t1:s.heap.IsTuple l1 xs) (t2:s.heap.IsTuple l2 ys)
  (k:∀ h' z TI TO i1 i2,ZD z TI TO i1 i2→ZSt z TI TO i1 i2 l1 l2 0 h'→(∀ b∈[z,TI,TO,i1,i2],s.heap.objs.size≤b)→(∀ c o,s.heap.get? c=some o→h'.get? c=some o)→Q (.ref z) { s with heap:=h' }) :
  wpAny (model prog w) A (call (Value.type "zip") [.ref l1,.ref l2]) Q E s:=by
 refine callType_new F.called_zip (by decide) (F.typeCall_zip_2 _ _) (F.newCall_zip_2 _ _) (fun obj=>F.args_object_init_3 obj _ _) F.entry_zip_new (zipNewT l1 l2 xs ys) ⟨t1,t2,?_⟩
 generalize hn:s.heap.objs.size=n
 have e1:(zA s.heap l1).objs.size=n+1:=by rw [Heap.size_push,hn]
 have e2:(zB s.heap l1 l2).objs.size=n+2:=by rw [Heap.size_push,e1]
 have e3:(zC s.heap l1 l2).objs.size=n+3:=by rw [Heap.size_push,e2]
 have e4:(zD s.heap l1 l2).objs.size=n+4:=by rw [Heap.size_push,e3]
 have g5:(zE s.heap l1 l2).get? (zD s.heap l1 l2).objs.size=some _:=Heap.get?_push_size _ rfl
 have g4:(zE s.heap l1 l2).get? (zC s.heap l1 l2).objs.size=some _:=Heap.get?_push_of_some _ (Heap.get?_push_size _ rfl)
 have g3:(zE s.heap l1 l2).get? (zB s.heap l1 l2).objs.size=some _:=Heap.get?_push_of_some _ (Heap.get?_push_of_some _ (Heap.get?_push_size _ rfl))
 have g2:(zE s.heap l1 l2).get? (zA s.heap l1).objs.size=some _:=Heap.get?_push_of_some _ (Heap.get?_push_of_some _ (Heap.get?_push_of_some _ (Heap.get?_push_size _ rfl)))
 have g1:(zE s.heap l1 l2).get? s.heap.objs.size=some _:=Heap.get?_push_of_some _ (Heap.get?_push_of_some _ (Heap.get?_push_of_some _ (Heap.get?_push_of_some _ (Heap.get?_push_size _ rfl))))
 refine ⟨⟨_,g5,rfl⟩,k _ _ (zB s.heap l1 l2).objs.size (zC s.heap l1 l2).objs.size s.heap.objs.size (zA s.heap l1).objs.size ?_ ⟨g5,g3,⟨_,_,g4⟩,⟨_,g1,rfl,rfl⟩,⟨_,g2,rfl,rfl⟩⟩ ?_ fun c o q=>Heap.get?_push_of_some _ (Heap.get?_push_of_some _ (Heap.get?_push_of_some _ (Heap.get?_push_of_some _ (Heap.get?_push_of_some _ q))))⟩
 ·rw [e1,e2,e3,e4,hn]
  have ne:∀ a b:Nat,a≠b→n+a≠n+b:=fun a b h q=>h (Nat.add_left_cancel q)
  exact ⟨ne 2 4 (by decide),ne 3 4 (by decide),ne 0 4 (by decide),ne 1 4 (by decide),ne 2 3 (by decide),ne 2 0 (by decide),ne 2 1 (by decide),ne 3 0 (by decide),ne 3 1 (by decide),ne 0 1 (by decide)⟩
 ·rw [e1,e2,e3,e4,hn]
  intro b hb
  simp only [List.not_mem_nil,List.mem_cons,or_false] at hb
  rcases hb with q | q | q | q | q <;> rw [q] <;> first | exact Nat.le_add_right _ _ | exact Nat.le_refl _
end
section
variable {X:Cx}
def iZip (ta:TA):TI:=fun σ H R=>ta σ H fun vs H1=>∃ l1 l2,vs=[.ref l1,.ref l2]∧(∃ xs,H1 l1=some (.tup xs))∧(∃ ys,H1 l2=some (.tup ys))∧R (Itz l1 l2) H1
theorem pi_zip2 {es:List Expr} {kx:Nat} {tp:Pos} {a b:Expr} {ta:TA} {p pos:Pos} (hg:Gl X "zip") (hm:X.mg "zip" = none) (ha:PA X [a,b] ta) (hs:starEach [a,b] X.env=[(false,eval a X.env),(false,eval b X.env)]:=by rfl) (hs2:starEach [b] X.env=[(false,eval b X.env)]:=by rfl) :
  PI X (.Tuple es kx tp) (.Call (.Name "zip" p) [a,b] [] pos) (iZip ta):=by
 intro pins s σ H R I h
 refine Call_ (ld_blt I hg hm boot_zip (PyProof.Rows.callWith_type1 (thn (ha pos pins s σ H _ I h) fun us s1 ⟨vs,H1,I1,r1,q1⟩=>?_) (by rw [hs,hs2]) (by rw [hs2]; rfl)))
 obtain ⟨l1,l2,e,⟨xs,h1⟩,⟨ys,h2⟩,q⟩:=q1
 subst e
 obtain ⟨u,u',rfl,r2,r3⟩:=vals2 r1
 cases r2
 cases r3
 obtain ⟨it1,_,p1,_⟩:=I1.tuple (SqT.of (K:=X.K) h1)
 obtain ⟨it2,_,p2,_⟩:=I1.tuple (SqT.of (K:=X.K) h2)
 refine call_zipT p1 p2 fun h' z TI TO i1 i2 D st new kk=>?_
 refine wpAny_pyIter_zip st.1 ⟨z,[z,TI,TO,i1,i2],_,Itz l1 l2,H1,rfl,I1.kept (t':=s1.toks) kk,turn_zip l1 l2 D,st,fun b hb=>I1.fpOk (new b hb) (I1.hok.fresh (new b hb)),q⟩
end
section
variable {X:Cx} {a b c d:Expr} {ta tb tc td:TE} {pos:Pos}
def tChain3 (r r' r'':R2) (ta tb tc td:TE):TE:=fun σ H Q=>ta σ H fun x H1=>tb σ H1 fun y H2=>r x y H2 fun z H3=>∃ k,z=.bl k∧
 (if k=true then tc σ H3 fun u H4=>r' y u H4 fun z' H5=>∃ k',z'=.bl k'∧(if k'=true then td σ H5 fun v H6=>r'' u v H6 Q else Q (.bl false) H5) else Q (.bl false) H3)
theorem pe_chain3 {op op' op'':CmpOp} {r r' r'':R2} (ho:OpR X (compareOp op) r) (ho':OpR X (compareOp op') r') (ho'':OpR X (compareOp op'') r'') (ha:PE X a ta) (hb:PE X b tb) (hc:PE X c tc) (hd:PE X d td)
  (hm:lastMarks [op,op',op''] [b,c,d]=false:=by with_unfolding_all rfl):PE X (.Compare a [op,op',op''] [b,c,d] pos) (tChain3 r r' r'' ta tb tc td):=by
 intro pins s σ H Q I h
 refine Compare_chain (thn (ha pins s σ H _ I h) fun v s1 ⟨x,H1,I1,r1,q1⟩=>chain_link (thn (hb pins s1 σ H1 _ I1 q1) fun u s2 ⟨y,H2,I2,r2,q2⟩=>
  thn (ho pins s2 σ H2 x y v u _ I2 r1 r2 q2) fun e s3 ⟨z,H3,I3,r3,k,ez,q3⟩=>?_)) hm
 subst ez
 cases r3
 refine wpAny_truthy_bool ?_
 cases k with
 | false=>exact ite_ff ⟨.bl false,H3,I3,rfl,q3⟩
 | true=>
  refine ite_tt (chain_link (thn (hc pins s3 σ H3 _ I3 q3) fun w' s4 ⟨z',H4,I4,r4,q4⟩=>thn (ho' pins s4 σ H4 y z' u w' _ I4 r2 r4 q4) fun e' s5 ⟨z2,H5,I5,r5,k',ez',q5⟩=>?_))
  subst ez'
  cases r5
  refine wpAny_truthy_bool ?_
  cases k' with
  | false=>exact ite_ff ⟨.bl false,H5,I5,rfl,q5⟩
  | true=>exact ite_tt (chain_last (thn (hd pins s5 σ H5 _ I5 q5) fun w2 s6 ⟨z3,H6,I6,r6,q6⟩=>ho'' pins s6 σ H6 z' z3 w' w2 Q I6 r4 r6 q6))
end
end L2
namespace L2
open PySem PySem.Spec PyProof.Rows PySem.SeqAt
open PySem.AutoSeq1 (wpAny_loadPart')
theorem range_run {β:Type} (n:Nat) (b:β) (f:Nat→β→Sem (ForInStep β)):forIn [:n] b f=forIn (List.range' 0 n 1) b f:=by
 refine (Std.Legacy.Range.forIn_eq_forIn_range' ..).trans ?_
 simp [Std.Legacy.Range.size]
theorem tuple_indexAt (l:Addr) (items:Array Value) (n:Nat) (dd:Option Addr) (sl:Array (Option Value)) (x:Value) (e:Value→Bool) (j:Nat) (hj:j<items.size) (hit:e items[j]=true) (hno:∀ m (hm:m<items.size),m<j→e items[m]=false) :
  Meets (Builtin.«tuple.index» ⟨[.ref l,x],[]⟩)
   (fun A R s=>s.heap.get? l=some { cls:=.type "tuple",dict:=dd,data:=.seq items n,slots:=sl }∧(∀ y,y∈items→EqAt A.in1 s y x (e y))∧R (.ok (.ret (.int j s.toks))) { s with toks:=s.toks+1 }):=
 .of_wp fun prog w A R ⟨hp,g,d,tk,os⟩ ⟨told,he,h⟩=>by
  wp_walk using wpAny_loadPart' told
  show wpAny (model prog w) A.in1 (forIn [:min items.size items.size] ((none:Option PySem.Fin),()) fun (i:Nat) _=>match items[i]? with
   | some y=>do
    let r ← eqBool y x
    if r=true then do
     let z ← retInt (i:Int); pure (ForInStep.done (some z,()))
    else pure (ForInStep.yield (none,()))
   | _=>pure (ForInStep.yield (none,()))) _ _ _
  rw [Nat.min_self,range_run]
  have key:∀(k c:Nat),c+k=items.size→c≤j→wpAny (model prog w) A.in1 (forIn (List.range' c k 1) ((none:Option PySem.Fin),()) fun (i:Nat) _=>match items[i]? with
   | some y=>do
    let r ← eqBool y x
    if r=true then do
     let z ← retInt (i:Int); pure (ForInStep.done (some z,()))
    else pure (ForInStep.yield (none,()))
   | _=>pure (ForInStep.yield (none,())))
    (fun a s'=>wpAny (model prog w) A.in1 (match a.fst with | some r=>pure r | none=>do rule "tuple.index.not-found"; raiseErrorWords "ValueError" "tuple.index(x): x not in tuple") (fun fin s'=>∃ v,fin=Fin.done (Flow.ret v)∧R (Except.ok (Flow.ret v)) s') (fun e s'=>R (Except.error e) s') s')
    (fun e s'=>R (Except.error e) s') { heap:=hp,gens:=g,drawn:=d,toks:=tk,os:=os }:=by
   intro k
   induction k with
   | zero=>intro c h1 h2; omega
   | succ k ih=>
    intro c h1 h2
    have hc:c<items.size:=by omega
    simp only [List.range'_succ,List.forIn_cons]
    apply wpAny_bind
    rw [Array.getElem?_eq_getElem hc]
    show wpAny _ _ (eqBool items[c] x >>= _) _ _ _
    refine wpAny_bind (he _ (Array.getElem_mem hc) prog w _ _ ?_)
    by_cases hcj:c=j
    ·subst hcj
     rw [hit]
     wp_walk
     exact ⟨_,rfl,h⟩
    ·rw [hno c hc (by omega)]
     rw [if_neg Bool.false_ne_true]; refine wpAny_pure ?_
     exact ih (c+1) (by omega) (by omega)
  refine wpAny_mono (key items.size 0 (by omega) (Nat.zero_le _)) (fun a s' q=>?_) fun _ _ q=>q
  obtain ⟨o,u⟩:=a
  cases o with
  | some r=>exact q
  | none=>exact q
section
variable {X:Cx}
def rInsert:V→List V→Hp→VK→Prop:=fun x vs H Q=>∃ l xs i y,x=.ref l∧vs=[.int i,y]∧H l=some (.lst xs)∧0≤i∧i<2 ^ 63∧xs.length<sizeLine∧Q .non (upd H l (.lst (xs.take i.toNat++y::xs.drop i.toNat)))
theorem ins_arr (its:List Value) (i:Int) (h0:0≤i) (u:Value):(have k:=if i<0 then (i+(its.toArray.size:Int)).toNat else min i.toNat its.toArray.size; (its.toArray.extract 0 k).push u++its.toArray.extract k)=(its.take i.toNat++u::its.drop i.toNat).toArray:=by
 show (its.toArray.extract 0 (if i<0 then (i+(its.toArray.size:Int)).toNat else min i.toNat its.toArray.size)).push u++its.toArray.extract (if i<0 then (i+(its.toArray.size:Int)).toNat else min i.toNat its.toArray.size)=_
 rw [if_neg (by omega)]
 apply Array.ext'
 simp only [Array.toList_append,Array.toList_push,Array.toList_extract,List.size_toArray]
 simp only [List.extract_eq_take_drop,List.drop_zero,Nat.sub_zero]
 by_cases hc:i.toNat≤its.length
 ·rw [Nat.min_eq_left hc,List.take_of_length_le (l:=its.drop i.toNat) (by rw [List.length_drop]; omega)]
  simp
 ·rw [Nat.min_eq_right (by omega),List.drop_of_length_le (by omega:its.length≤i.toNat),List.take_of_length_le (Nat.le_refl its.length),List.take_of_length_le (by omega:its.length≤i.toNat)]
  simp
theorem mt_insert:MtM X "list.insert" rInsert:=by
 intro pins s σ H x vs v us Q I rx rv h
 obtain ⟨l,xs,i,y,rfl,rfl,hH,h0,h1,hz,q⟩:=h
 cases rx
 obtain ⟨u,w',rfl,ru,rw'⟩:=rv.two
 obtain ⟨t,rfl⟩:=ru
 obtain ⟨z,its,n,r,hl,e⟩:=I.lstM hH
 have hfit:¬ (!Builtin.List.listFitsIndex i)=true:=by
  rw [fitsIndex_both (by omega) h1]
  exact Bool.false_ne_true
 refine call_meets F.slot_list_insert ⟨_,e,rfl⟩ F.entry_list_insert (F.args_list_insert_3 _ _ _) (AutoSeq1.list_insert_list_int_val_1 l its.toArray n i t w' hfit (by rw [List.size_toArray]; omega)) ⟨e,?_⟩
 refine ⟨.non,_,I.lset (its':=its.take i.toNat++w'::its.drop i.toNat) hH e (ins_arr its i h0 w') ((r.take i.toNat).append (.cons rw' (r.drop i.toNat))) ?_,rfl,q⟩
 have:(xs.take i.toNat++y::xs.drop i.toNat).length=xs.length+1:=by
  simp only [List.length_append,List.length_take,List.length_drop,List.length_cons]
  omega
 omega
theorem ansAt {pins:List (Addr×Obj)} {σ:St} {H:Hp} {s:Shared} {A:Around} {l:List D} {xs:List V} {its:List Value} {d:D} {x:V} {u:Value} (I:Inv X pins σ H s) (h:Dens H l xs) (rv:Vals xs its) (hd:Den H d x) (r:RelV x u) (hu:A.units+dDepths l<cLine) (hu2:A.units+dDepth d<cLine) :
  ∃ e:Value→Bool,(∀ w,w∈its→SeqAt.EqAt A s w u (e w))∧∀(j:Nat) (w:Value) (c:D),its[j]? = some w→l[j]? = some c→e w=dEq c d:=by
 have key:∀(j:Nat) (w:Value),its[j]? = some w→∃ c,l[j]? = some c∧∃ y,xs[j]? = some y∧Den H c y∧RelV y w:=fun j w hw=>by
  have hj:j<xs.length:=by rw [rv.length]; exact (List.getElem?_eq_some_iff.mp hw).1
  obtain ⟨c,g1,g2⟩:=h.get (List.getElem?_eq_getElem hj)
  obtain ⟨w',g3,g4⟩:=rv.get (List.getElem?_eq_getElem hj)
  rw [hw] at g3
  cases g3
  exact ⟨c,g1,_,List.getElem?_eq_getElem hj,g2,g4⟩
 have uniq:∀(w:Value) (c c':D) (y y':V),Den H c y→RelV y w→Den H c' y'→RelV y' w→c=c':=fun w c c' y y' h1 r1 h2 r2=>by
  have e:=r1.inj r2
  subst e
  exact Den.inj c c' y h1 h2
 classical
 refine ⟨fun w=>if hw:∃(c:D) (y:V),Den H c y∧RelV y w then dEq hw.choose d else false,fun w hw=>?_,fun j w c h1 h2=>?_⟩
 ·obtain ⟨j,hj,e⟩:=List.getElem_of_mem hw
  obtain ⟨c,g1,y,g2,g3,g4⟩:=key j w (by rw [List.getElem?_eq_getElem hj,e])
  have hex:∃(c:D) (y:V),Den H c y∧RelV y w:=⟨c,y,g3,g4⟩
  simp only [hex,dif_pos]
  obtain ⟨y',q1,q2⟩:=hex.choose_spec
  have:hex.choose=c:=uniq w _ _ _ _ q1 q2 g3 g4
  rw [this]
  exact eqAt_Ds I l A hu j c g1 d _ _ _ _ g3 hd g4 r hu2
 ·obtain ⟨c',g1,y,g2,g3,g4⟩:=key j w h1
  rw [h2] at g1
  cases g1
  have hex:∃(c:D) (y:V),Den H c y∧RelV y w:=⟨c,y,g3,g4⟩
  simp only [hex,dif_pos]
  obtain ⟨y',q1,q2⟩:=hex.choose_spec
  have:hex.choose=c:=uniq w _ _ _ _ q1 q2 g3 g4
  rw [this]
def FirstAt (d:D) (l:List D) (j:Nat):Prop:=(∃ c,l[j]? = some c∧dEq c d=true)∧∀(m:Nat) (c:D),m<j→l[m]? = some c→dEq c d=false
def rIndexL:V→List V→Hp→VK→Prop:=fun x vs H Q=>∃ l ds d y j,x=.ref l∧vs=[y]∧Den H (.lst ds) x∧Den H d y∧dDepths ds≤50∧dDepth d≤50∧FirstAt d ds j∧Q (.int j) H
theorem mt_indexL (hu:X.A.units+64<cLine):MtM X "list.index" rIndexL:=by
 intro pins s σ H x vs v us Q I rx rv h
 obtain ⟨l,ds,d,y,j,rfl,rfl,hx,hd,hz,hz2,⟨⟨c,hc,hcd⟩,hno⟩,q⟩:=h
 cases rx
 obtain ⟨u,rfl,ru⟩:=rv.one
 obtain ⟨a,xs,ea,hH,hs⟩:=hx
 cases ea
 obtain ⟨z,its,n,r,hl,e⟩:=I.lstM hH
 have hu1:X.A.in1.units+dDepths ds<cLine:=by show X.A.units+1+dDepths ds<cLine; omega
 have hu2:X.A.in1.units+dDepth d<cLine:=by show X.A.units+1+dDepth d<cLine; omega
 obtain ⟨e',h1,h2⟩:=ansAt (A:=X.A.in1) I hs r hd ru hu1 hu2
 have ld:=hs.length
 have hj:j<its.length:=by
  have:=(List.getElem?_eq_some_iff.mp hc).1
  omega
 have hn:=line63
 refine call_meets F.slot_list_index ⟨_,e,rfl⟩ F.entry_list_index (F.args_list_index_2 _ _) (SeqAt.list_indexAt l its.toArray n none #[] u e' j (by rw [List.size_toArray]; exact hj) (by omega) ?_ ?_) ⟨e,fun w hw=>h1 w (by simpa using hw),?_⟩
 ·simp only [List.getElem_toArray]
  rw [h2 j _ c (List.getElem?_eq_getElem hj) hc]
  exact hcd
 ·intro m hm hmj
  have hm':m<its.length:=by simpa using hm
  simp only [List.getElem_toArray]
  have:m<ds.length:=by omega
  rw [h2 m _ _ (List.getElem?_eq_getElem hm') (List.getElem?_eq_getElem this)]
  exact hno m _ hmj (List.getElem?_eq_getElem this)
 ·exact ⟨.int j,H,I.tok _,⟨_,rfl⟩,q⟩
def rCountT:V→List V→Hp→VK→Prop:=fun x vs H Q=>∃ l ds d y,x=.ref l∧vs=[y]∧Den H (.tup ds) x∧Den H d y∧dDepths ds≤50∧dDepth d≤50∧Q (.int (ds.countP fun c=>dEq c d:Nat)) H
theorem countB {its:List Value} {ds:List D} {e:Value→Bool} {d:D}:∀{its:List Value} {ds:List D},its.length=ds.length→(∀(j:Nat) (w:Value) (c:D),its[j]? = some w→ds[j]? = some c→e w=dEq c d)→its.countP e=ds.countP fun c=>dEq c d
 | [],[],_,_=>rfl
 | [],_::_,h,_=>absurd h (by simp)
 | _::_,[],h,_=>absurd h (by simp)
 | w::its,c::ds,h,k=>by
  rw [List.countP_cons,List.countP_cons,k 0 w c rfl rfl,countB (its:=its) (ds:=ds) (by simpa using h) fun j a b h1 h2=>k (j+1) a b (by simpa using h1) (by simpa using h2)]
theorem mt_countT (hu:X.A.units+64<cLine):MtM X "tuple.count" rCountT:=by
 intro pins s σ H x vs v us Q I rx rv h
 obtain ⟨l,ds,d,y,rfl,rfl,hx,hd,hz,hz2,q⟩:=h
 cases rx
 obtain ⟨u,rfl,ru⟩:=rv.one
 obtain ⟨a,xs,ea,hH,hs⟩:=hx
 cases ea
 obtain ⟨zz,its,r,it,_⟩:=I.hok l _ hH
 have hu1:X.A.in1.units+dDepths ds<cLine:=by show X.A.units+1+dDepths ds<cLine; omega
 have hu2:X.A.in1.units+dDepth d<cLine:=by show X.A.units+1+dDepth d<cLine; omega
 obtain ⟨e',h1,h2⟩:=ansAt (A:=X.A.in1) I hs r hd ru hu1 hu2
 have ld:=hs.length
 have lr:=r.length
 obtain ⟨o,e,hc,n,hdat⟩:=it
 rcases o with ⟨oc,od,odt,osl⟩
 cases (show oc=.type "tuple" from hc)
 cases (show odt=.seq its.toArray n from hdat)
 refine call_meets F.slot_tuple_count ⟨_,e,rfl⟩ F.entry_tuple_count (F.args_tuple_count_2 _ _) (SeqAt.tuple_countAt l its.toArray n od osl u e') ⟨e,fun w hw=>h1 w (by simpa using hw),?_⟩
 refine ⟨.int (ds.countP fun c=>dEq c d:Nat),H,I.tok _,⟨s.toks,?_⟩,q⟩
 rw [show its.toArray.toList=its by simp,countB (its:=its) (ds:=ds) (d:=d) (by omega) h2]
def rIndexT:V→List V→Hp→VK→Prop:=fun x vs H Q=>∃ l ds d y j,x=.ref l∧vs=[y]∧Den H (.tup ds) x∧Den H d y∧dDepths ds≤50∧dDepth d≤50∧FirstAt d ds j∧Q (.int j) H
theorem mt_indexT (hu:X.A.units+64<cLine):MtM X "tuple.index" rIndexT:=by
 intro pins s σ H x vs v us Q I rx rv h
 obtain ⟨l,ds,d,y,j,rfl,rfl,hx,hd,hz,hz2,⟨⟨c,hc,hcd⟩,hno⟩,q⟩:=h
 cases rx
 obtain ⟨u,rfl,ru⟩:=rv.one
 obtain ⟨a,xs,ea,hH,hs⟩:=hx
 cases ea
 obtain ⟨zz,its,r,it,_⟩:=I.hok l _ hH
 have hu1:X.A.in1.units+dDepths ds<cLine:=by show X.A.units+1+dDepths ds<cLine; omega
 have hu2:X.A.in1.units+dDepth d<cLine:=by show X.A.units+1+dDepth d<cLine; omega
 obtain ⟨e',h1,h2⟩:=ansAt (A:=X.A.in1) I hs r hd ru hu1 hu2
 have ld:=hs.length
 have lr:=r.length
 have hj:j<its.length:=by
  have:=(List.getElem?_eq_some_iff.mp hc).1
  omega
 obtain ⟨o,e,hcl,n,hdat⟩:=it
 rcases o with ⟨oc,od,odt,osl⟩
 cases (show oc=.type "tuple" from hcl)
 cases (show odt=.seq its.toArray n from hdat)
 refine call_meets F.slot_tuple_index ⟨_,e,rfl⟩ F.entry_tuple_index (F.args_tuple_index_2 _ _) (tuple_indexAt l its.toArray n od osl u e' j (by rw [List.size_toArray]; exact hj) ?_ ?_) ⟨e,fun w hw=>h1 w (by simpa using hw),?_⟩
 ·simp only [List.getElem_toArray]
  rw [h2 j _ c (List.getElem?_eq_getElem hj) hc]
  exact hcd
 ·intro m hm hmj
  have hm':m<its.length:=by simpa using hm
  simp only [List.getElem_toArray]
  have:m<ds.length:=by omega
  rw [h2 m _ _ (List.getElem?_eq_getElem hm') (List.getElem?_eq_getElem this)]
  exact hno m _ hmj (List.getElem?_eq_getElem this)
 ·exact ⟨.int j,H,I.tok _,⟨_,rfl⟩,q⟩
end
end L2
namespace L2
open PySem PySem.Spec PyProof.Rows
section
variable {s:Shared} {prog:Program} {w:World} {A:Around} {E:Value→Shared→Prop}
end
section
variable {X:Cx}
end
section
variable {s:Shared} {prog:Program} {w:World} {A:Around} {E:Value→Shared→Prop} {r:Addr} {a b c:Int} {t u v:Tok} {n:Nat}
end
section
variable {X:Cx}
end
section
variable {X:Cx} {K:PySem.W.Frag}
def tBM2 (K:PySem.W.Frag) (rL rT:V→List V→Hp→VK→Prop) (to:TE) (t:TA):TE:=fun σ H Q=>to σ H fun x H1=>((∃ a xs,x=.ref a∧SqL K H1 a xs)∧t σ H1 fun vs H2=>rL x vs H2 Q)∨((∃ a xs,x=.ref a∧H1 a=some (.tup xs))∧t σ H1 fun vs H2=>rT x vs H2 Q)
variable {o e:Expr} {es:List Expr} {to:TE} {t:TA} {name:Str} {apos cpos:Pos} {idL idT:String} {rL rT:V→List V→Hp→VK→Prop}
theorem pe_bm2 (h:X.K=K) (paL:PlainAttrs "list") (slotL:Slot "list" name idL) (htyL:typeOf (.builtin idL)=pure (.type "method_descriptor")) (hmL:MtM X idL rL) (paT:PlainAttrs "tuple") (slotT:Slot "tuple" name idT) (htyT:typeOf (.builtin idT)=pure (.type "method_descriptor")) (hmT:MtM X idT rT)
  (ho:PE X o to) (ha:PA X (e::es) t)
  (hbase:attributeBase o name X.env (eval o X.env)=eval o X.env:=by rfl)
  (hfew:((backTo cpos (starEach (e::es) X.env)).all (fun x=>!x.1) && (backToKw cpos (keywordEach [] X.env)).all (fun x=>x.1.isSome)
   && decide ((e::es).length+([]:List Keyword).length+(if ([]:List Keyword).isEmpty then 0 else 1)<30))=true:=by rfl)
  (hline:(apos.endLine == cpos.line)=true:=by rfl) (hs:starEach (e::es) X.env=(false,eval e X.env)::starEach es X.env:=by rfl) (hplain:(backTo cpos (starEach es X.env)).any (·.1)=false:=by rfl) :
  PE X (.Call (.Attribute o name apos) (e::es) [] cpos) (tBM2 K rL rT to t):=by
 subst h
 intro pins s σ H Q I h
 refine wpAny_Call_method_late hbase hfew hline rfl (thn (ho pins s σ H _ I h) fun v s1 ⟨x,H1,I1,r1,q1⟩=>?_)
 rcases q1 with ⟨⟨a,xs,rfl,ty⟩,q1⟩ | ⟨⟨a,xs,rfl,ty⟩,q1⟩
 ·obtain ⟨h1,h2⟩:=tyV_is (T:="list") I1 r1 (.inl ⟨rfl,xs,ty⟩)
  refine ⟨"list",idL,paL,slotL,htyL,h1,h2,?_⟩
  have hA:=ha cpos pins s1 σ H1 _ I1 q1
  rw [hs] at hA ⊢
  refine Calls.callWith_builtin (by show (false || (backTo cpos (starEach es X.env)).any (·.1))=false; rw [hplain] <;> rfl) (Calls.evalArgs_plain ?_)
  exact thn hA fun us s2 ⟨vs,H2,I2,r2,q2⟩=>hmL pins s2 σ H2 _ vs v us Q I2 r1 r2 q2
 ·cases r1
  obtain ⟨_,its,r,⟨ob,e1,e2,n,e3⟩,nd⟩:=I1.hok a _ ty
  refine ⟨"tuple",idT,paT,slotT,htyT,⟨ob,e1,e2⟩,fun b z=>?_,?_⟩
  ·cases z
   exact ⟨ob,e1,nd ob e1⟩
  have hA:=ha cpos pins s1 σ H1 _ I1 q1
  rw [hs] at hA ⊢
  refine Calls.callWith_builtin (by show (false || (backTo cpos (starEach es X.env)).any (·.1))=false; rw [hplain] <;> rfl) (Calls.evalArgs_plain ?_)
  exact thn hA fun us s2 ⟨vs,H2,I2,r2,q2⟩=>hmT pins s2 σ H2 (V.ref a) vs (.ref a) us Q I2 rfl r2 q2
end
section
variable {X:Cx} {K:PySem.W.Frag}
end
section
variable {s:Shared} {prog:Program} {w:World} {A:Around} {R:Result→Shared→Prop} {J S:Addr} {fp wr:List Addr} {P:Nat→Value→Prop} {St:Nat→Heap→Prop} {ns:List Int} {kw:List (Str×Value)}
end
section
variable {X:Cx}
end
section
variable {prog:Program} {w:World} {A:Around} {E:Value→Shared→Prop} {s:Shared} {z TI TO i1 i2:Addr} {f1 f2:List Addr} {n1 n2:Nat} {P1 P2:Nat→Value→Prop} {S1 S2:Nat→Heap→Prop}
end
section
variable {X:Cx}
end
section
variable {X:Cx}
end
section
variable {prog:Program} {w:World} {A:Around} {E:Value→Shared→Prop} {s:Shared} {z TI TO i1 i2 i3:Addr} {f1 f2 f3:List Addr} {n1 n2 n3:Nat} {P1 P2 P3:Nat→Value→Prop} {S1 S2 S3:Nat→Heap→Prop}
end
section
variable {w:World} {prog:Program} {A:Around} {s:Shared} {E:Value→Shared→Prop}
end
section
variable {X:Cx}
end
section
variable {X:Cx}
end
section
variable {X:Cx}
end
theorem ObjOk.there {P:Program} {w:World} {H:Hp} {h:Heap} {a:Addr} {o:HO} (x:ObjOk P w H h a o):∃ u,h.get? a=some u:=by
 cases o with
 | lst xs=>obtain ⟨_,_,_,_,e⟩:=x; exact ⟨_,e⟩
 | tup xs=>obtain ⟨_,_,_,⟨_,e,_⟩,_⟩:=x; exact ⟨_,e⟩
 | dK kvs=>obtain ⟨_,_,_,_,_,_,_,e,_⟩:=x; exact ⟨_,e⟩
 | dT kvs=>obtain ⟨_,_,_,_,_,_,_,e,_⟩:=x; exact ⟨_,e⟩
 | set S n=>obtain ⟨_,_,_,_,e,_⟩:=x; exact ⟨_,e⟩
 | ins C dx fs=>obtain ⟨_,_,_,e,_⟩:=x; exact ⟨_,e⟩
 | own y=>exact x
 | xd fs=>obtain ⟨_,⟨_,_,_,e,_⟩,_⟩:=x; exact ⟨_,e⟩
 | rng lo hi=>obtain ⟨_,_,_,e⟩:=x; exact ⟨_,e⟩
 | frz ob u=>exact ⟨_,x.1⟩
 | tbl ps=>exact ⟨_,x⟩
 | met f y=>exact ⟨_,x⟩
 | ext φ=>exact x.2.1
structure ExcAt (g h:Heap) (H:Hp) (e:Addr) (cls:Value) (fl:Option Value) (xs:List Addr):Prop where
 me:e∈xs
 own:∀ b∈xs,g.get? b=none∧H b=none
 obj:∃ oe vs,h.get? e=some oe∧oe.cls=cls∧oe.dict=none∧oe.data=.fields vs∧match fl with
  | none=>vs[1]? = some .none
  | some v=>∃ T oT ts,vs[1]? = some (.ref T)∧T≠e∧T∈xs∧h.get? T=some oT∧oT.data=.fields ts∧ts[3]? = some v
theorem ExcAt.far {g g' h:Heap} {H:Hp} {e:Addr} {cls:Value} {fl:Option Value} {xs:List Addr} (x:ExcAt g h H e cls fl xs) (k:∀ b o,g'.get? b=some o→∃ o',g.get? b=some o'):ExcAt g' h H e cls fl xs:=by
 refine ⟨x.me,fun b hb=>⟨?_,(x.own b hb).2⟩,x.obj⟩
 cases q:g'.get? b with
 | none=>rfl
 | some o=>
  obtain ⟨o',e'⟩:=k b o q
  rw [(x.own b hb).1] at e'
  cases e'
theorem ref_there (T:Addr):(Value.ref T != Value.none)=true:=rfl
theorem no_mark (L:Addr):¬ (Value.none == rawInt L)=true:=fun z=>Bool.noConfusion (show false=true from z)
theorem frames_slots {base h h':Heap}:∀{l:List Env},h.FunFrames base l→(∀ b∈frs l,∀ o,h.get? b=some o→∃ sl,h'.get? b=some { o with slots:=sl })→h'.FunFrames base l
 | [],_,_=>trivial
 | env::r,⟨hk,⟨L,o,hf,hn,ho,hd⟩,hr⟩,k=>by
  obtain ⟨sl,q⟩:=k L (List.mem_filterMap.mpr ⟨env,.head _,hf⟩) o ho
  refine ⟨hk,⟨L,_,hf,hn,q,hd⟩,frames_slots hr fun b hb=>k b ?_⟩
  obtain ⟨v,hv,z⟩:=List.mem_filterMap.mp hb
  exact List.mem_filterMap.mpr ⟨v,.tail _ hv,z⟩
theorem fields_put (o:Obj) {vs:Array Value} (hd:o.data=.fields vs) (i:Nat) (v:Value):(Obj.mapFields (·.setIfInBounds i v) o).cls=o.cls∧(Obj.mapFields (·.setIfInBounds i v) o).dict=o.dict∧(Obj.mapFields (·.setIfInBounds i v) o).data=.fields (vs.setIfInBounds i v):=by
 obtain ⟨c,d,dt,sl⟩:=o
 cases (show dt=.fields vs from hd)
 exact ⟨rfl,rfl,rfl⟩
structure Gone (h h':Heap) (l:List Env) (xs:List Addr):Prop where
 keep:∀ b o,h.get? b=some o→b∉frs l→b∉xs→h'.get? b=some o
 slot:∀ b o,h.get? b=some o→b∈frs l→∃ sl,h'.get? b=some { o with slots:=sl }
section
variable {M:Model} {A:Around} {E:Value→Shared→Prop} {s:Shared} {P:Program} {w:World} {base g:Heap} {env:Env} {outer l:List Env} {L e:Addr} {cls:Value} {fl:Option Value} {xs:List Addr} {H:Hp} {Q:Unit→Shared→Prop}
theorem ExcAt.noFrame (x:ExcAt g s.heap H e cls fl xs) (hl:s.heap.FunFrames base l):e∉frs l:=fun m=>by
 obtain ⟨oe,vs,he,_,_,hd,_⟩:=x.obj
 obtain ⟨_,o,q,nf⟩:=hl.mem m
 rw [he] at q
 cases q
 exact nf vs hd
theorem HOk.gone {h h':Heap} (hH:HOk P w H h) (G:Gone h h' l xs) (frf:∀ b∈frs l,H b=none) (hx:∀ b∈xs,H b=none):HOk P w H h':=fun a o q=>(hH a o q).stay (fun b u m q'=>by
  have kept:∀ o',H b=some o'→h'.get? b=some u:=fun o' t=>G.keep b u q' (fun m=>by rw [frf b m] at t; cases t) fun m=>by rw [hx b m] at t; cases t
  rcases m with rfl | m
  ·exact kept _ q
  ·exact kept _ m) (fun _ z=>z) fun _ _ z=>z
theorem entered {vs:Array Value} {oe:Obj} {head:Value} {more:Bool} (hfr:A.frames=some (env::outer)) (hf:env.frame=some L) (hl:s.heap.FunFrames base (env::outer)) (he:s.heap.get? e=some oe) (hd:oe.data=.fields vs) (h1:1<vs.size)
  (h:∀ h' oT ts,Gone s.heap h' (env::outer) [e]→h'.get? e=some (Obj.mapFields (·.setIfInBounds 1 (.ref s.heap.objs.size)) oe)→h'.get? s.heap.objs.size=some oT→oT.data=.fields ts→ts[3]? = some (rawInt L)→Q () { s with heap:=h' }) :
  wpAny M A (do setField (.ref e) 1 (← EntryCells.newEntry head (← frameOf env) .none (rawInt L) .none (← entryPlaceOf L more))) Q E s:=by
 have nf:e∉frs (env::outer):=fun m=>by
  obtain ⟨_,o,q,z⟩:=hl.mem m
  rw [he] at q
  cases q
  exact z vs hd
 refine wpAny_bind (wpAny_frameOf_fun hfr hl hf fun k ⟨sz,same,slots⟩=>wpAny_bind (wpAny_entryPlaceOf fun pl ok=>?_))
 dsimp only [EntryCells.newEntry,newFields]
 have qe:k.get? e=some oe:=(same e nf).trans he
 refine wpAny_bind (wpAny_newObj_type (wpAny_setField (Heap.get?_push_of_some _ qe) hd h1 ?_) (ok.sizeOk5 _ _ _ _ _))
 have ne:k.objs.size≠e:=Nat.ne_of_gt (Heap.lt_size qe)
 have sz':k.objs.size=s.heap.objs.size:=sz
 rw [sz'] at ne ⊢
 have old:∀ b o,b≠e→k.get? b=some o→((k.push { cls:=.type "traceback",dict:=none,data:=.fields ([head,.ref L,.none,rawInt L,.none]++(if pl.isEmpty then List.replicate 6 .none else pl)).toArray }).update e (Obj.mapFields (·.setIfInBounds 1 (.ref s.heap.objs.size)))).get? b=some o:=fun b o n q=>
  (Heap.get?_update_other _ _ (Ne.symm n)).trans (Heap.get?_push_of_some _ q)
 refine h _ _ _ ⟨fun b o q n m=>old b o (fun z=>m (z ▸ .head _)) ((same b n).trans q),fun b o q m=>?_⟩ (Heap.get?_update_self _ (Heap.get?_push_of_some _ qe) (Obj.isFreed_of_fields (fields_put oe hd 1 _).2.2)) ((Heap.get?_update_other _ _ (Ne.symm ne)).trans (by rw [← sz']; exact Heap.get?_push_size _ rfl)) rfl rfl
 obtain ⟨sl,q'⟩:=slots b o q
 exact ⟨sl,old b _ (fun z=>nf (z ▸ m)) q'⟩
theorem noted (hfr:A.frames=some (env::outer)) (hf:env.frame=some L) (hl:s.heap.FunFrames base (env::outer)) (hH:HOk P w H s.heap) (frf:∀ b∈frs (env::outer),H b=none) (gs:∀ b o,g.get? b=some o→∃ o',s.heap.get? b=some o')
  (x:ExcAt g s.heap H e cls fl xs) (hfl:fl=none∨fl=some .none) (h:∀ h',Gone s.heap h' (env::outer) xs→HOk P w H h'→(∃ ys,ExcAt g h' H e cls (some (rawInt L)) ys)→Q () { s with heap:=h' }):wpAny M A (noteFrame (.ref e) env) Q E s:=by
 have nx:∀{b:Addr},s.heap.get? b=none→g.get? b=none∧H b=none:=fun {b} z=>by
  constructor
  ·cases q:g.get? b with
   | none=>rfl
   | some o=>
    obtain ⟨o',q'⟩:=gs b o q
    rw [z] at q'
    cases q'
  ·cases q:H b with
   | none=>rfl
   | some o=>
    obtain ⟨o',q'⟩:=(hH b o q).there
    rw [z] at q'
    cases q'
 have nT:=nx (b:=s.heap.objs.size) (by
  cases q:s.heap.get? s.heap.objs.size with
  | none=>rfl
  | some o=>exact absurd (Heap.lt_size q) (Nat.lt_irrefl _))
 obtain ⟨oe,vs,he,hc,hdi,hd,hv⟩:=x.obj
 have done:∀ h' oT ts,Gone s.heap h' (env::outer) xs→h'.get? e=some (Obj.mapFields (·.setIfInBounds 1 (.ref s.heap.objs.size)) oe)→h'.get? s.heap.objs.size=some oT→oT.data=.fields ts→ts[3]? = some (rawInt L)→1<vs.size→Q () { s with heap:=h' }:=fun h' oT ts G q1 q2 q3 q4 v1=>by
  obtain ⟨p1,p2,p3⟩:=fields_put oe hd 1 (.ref s.heap.objs.size)
  refine h h' G (hH.gone G frf fun b m=>(x.own b m).2) ⟨[e,s.heap.objs.size],.head _,fun b m=>?_,_,_,q1,p1.trans hc,p2.trans hdi,p3,_,oT,ts,?_,Nat.ne_of_gt (Heap.lt_size he),.tail _ (.head _),q2,q3,q4⟩
  ·rcases List.mem_cons.mp m with rfl | m
   ·exact x.own _ x.me
   ·rw [List.mem_singleton.mp m]
    exact nT
  ·rw [Array.getElem?_setIfInBounds_self_of_lt v1]
 unfold noteFrame
 simp only [hf]
 rcases hfl with rfl | rfl
 ·have v1:1<vs.size:=(Array.getElem?_eq_some_iff.mp hv).1
  refine wpAny_bind (wpAny_field he hd hv ?_)
  rw [if_neg (by decide)]
  exact entered hfr hf hl he hd v1 fun h' oT ts G q1 q2 q3 q4=>done h' oT ts ⟨fun b o q n m=>G.keep b o q n fun z=>m (List.mem_singleton.mp z ▸ x.me),G.slot⟩ q1 q2 q3 q4 v1
 ·obtain ⟨T,oT,ts,hv,ne,tx,hT,hdT,h3⟩:=hv
  have v1:1<vs.size:=(Array.getElem?_eq_some_iff.mp hv).1
  have t3:3<ts.size:=(Array.getElem?_eq_some_iff.mp h3).1
  refine wpAny_bind (wpAny_field he hd hv (if_pos (ref_there T) ▸ wpAny_bind (wpAny_field hT hdT h3 ?_)))
  rw [if_neg (no_mark L)]
  refine wpAny_bind (wpAny_setField hT hdT t3 ?_)
  have other:∀ b,b≠T→(s.heap.update T (Obj.mapFields (·.setIfInBounds 3 .none))).get? b=s.heap.get? b:=fun b n=>Heap.get?_update_other _ _ (Ne.symm n)
  have nTf:T∉frs (env::outer):=fun m=>by
   obtain ⟨_,o,q,z⟩:=hl.mem m
   rw [hT] at q
   cases q
   exact z ts hdT
  have sz:(s.heap.update T (Obj.mapFields (·.setIfInBounds 3 .none))).objs.size=s.heap.objs.size:=Heap.size_after_update ..
  refine entered hfr hf (hl.of_keeps fun b o q n=>⟨o,(other b fun z=>?_).trans q,rfl⟩) ((other e (Ne.symm ne)).trans he) hd v1 fun h' oT' ts' G q1 q2 q3 q4=>?_
  ·rw [z,hT] at q
   cases q
   exact n ts hdT
  ·rw [sz] at q1 q2
   refine done h' oT' ts' ⟨fun b o q n m=>G.keep b o ((other b fun z=>m (z ▸ tx)).trans q) n fun z=>m (List.mem_singleton.mp z ▸ x.me),fun b o q m=>G.slot b o ((other b fun z=>nTf (z ▸ m)).trans q) m⟩ q1 q2 q3 q4 v1
theorem landed {B:Around} {v:Value} (hl:s.heap.FunFrames base l) (hH:HOk P w H s.heap) (frf:∀ b∈frs l,H b=none) (x:ExcAt g s.heap H e cls (some v) xs) (h:∀ h',Gone s.heap h' l xs→HOk P w H h'→(∃ ys,ExcAt g h' H e cls (some .none) ys)→Q () { s with heap:=h' }) :
  wpAny M B (setFlight (.ref e) none) Q E s:=by
 obtain ⟨oe,vs,he,hc,hdi,hd,T,oT,ts,hv,ne,tx,hT,hdT,h3⟩:=x.obj
 have t3:3<ts.size:=(Array.getElem?_eq_some_iff.mp h3).1
 have other:∀ b,b≠T→(s.heap.update T (Obj.mapFields (·.setIfInBounds 3 .none))).get? b=s.heap.get? b:=fun b n=>Heap.get?_update_other _ _ (Ne.symm n)
 have nTf:T∉frs l:=fun m=>by
  obtain ⟨_,o,q,z⟩:=hl.mem m
  rw [hT] at q
  cases q
  exact z ts hdT
 have p3:=(fields_put oT hdT 3 .none).2.2
 have G:Gone s.heap (s.heap.update T (Obj.mapFields (·.setIfInBounds 3 .none))) l xs:=⟨fun b o q n m=>(other b fun z=>m (z ▸ tx)).trans q,fun b o q m=>⟨o.slots,(other b fun z=>nTf (z ▸ m)).trans q⟩⟩
 unfold setFlight
 refine wpAny_bind (wpAny_field he hd hv ?_)
 rw [if_pos (ref_there T)]
 refine wpAny_setField hT hdT t3 (h _ G (hH.gone G frf fun b m=>(x.own b m).2) ⟨xs,x.me,x.own,oe,vs,(other e (Ne.symm ne)).trans he,hc,hdi,hd,T,_,_,hv,ne,tx,Heap.get?_update_self _ hT (Obj.isFreed_of_fields p3),p3,?_⟩)
 rw [Array.getElem?_setIfInBounds_self_of_lt t3]
theorem leave (hfr:A.frames=some (env::outer)) (hf:env.frame=some L) (hl:s.heap.FunFrames base (env::outer)) (hH:HOk P w H s.heap) (frf:∀ b∈frs (env::outer),H b=none) (gs:∀ b o,g.get? b=some o→∃ o',s.heap.get? b=some o')
  (x:ExcAt g s.heap H e cls fl xs) (hfl:fl=none∨fl=some .none) (h:∀ h',(∀ b o,g.get? b=some o→∀ u,s.heap.get? b=some u→(b∉frs (env::outer)→h'.get? b=some u)∧(b∈frs (env::outer)→∃ sl,h'.get? b=some { u with slots:=sl }))→HOk P w H h'→(∃ ys,ExcAt g h' H e cls (some .none) ys)→Q () { s with heap:=h' }):wpAny M A (leaving env (.ref e)) Q E s:=by
 have far:∀{h:Heap} {fl:Option Value} {xs:List Addr},ExcAt g h H e cls fl xs→∀ b o,g.get? b=some o→b∉xs:=fun x b o q m=>by
  rw [(x.own b m).1] at q
  cases q
 unfold leaving
 refine wpAny_bind (noted hfr hf hl hH frf gs x hfl fun h1 G1 ok1 ⟨ys,y⟩=>?_)
 have hl1:h1.FunFrames base (env::outer):=frames_slots hl fun b m o q=>G1.slot b o q m
 refine landed (s:={ s with heap:=h1 }) hl1 ok1 frf y fun h2 G2 ok2 z=>h h2 (fun b o q u q'=>⟨fun n=>?_,fun m=>?_⟩) ok2 z
 ·exact G2.keep b u (G1.keep b u q' n (far x b o q)) n (far y b o q)
 ·obtain ⟨sl,e1⟩:=G1.slot b u q' m
  obtain ⟨sl2,e2⟩:=G2.slot b _ e1 m
  exact ⟨sl2,e2⟩
end
def CXA (P:Program) (w:World):CXT:=fun outer H s E e s'=>∃ a cls H' xs,e=.ref a∧s'.os=s.os∧AllBare s'.gens∧Un (frs outer) [] H H' s.heap s'.heap∧HOk P w H' s'.heap∧ExcAt s.heap s'.heap H' a cls (some .none) xs∧E cls none H'
section
variable {P:Program} {w:World} {K:PySem.W.Frag} {mg:Str→Option Value} {base:Heap} {N:List Str} {qual:Str} {scope:Scope} {f:Addr} {cd:Value} {A:Around} {outer:List Env} {s:Shared} {H:Hp} {E:XK}
theorem fly {pins:List (Addr×Obj)} {σ:St} {H1:Hp} {s1:Shared} {a:Addr} {cls:Value} {fl:Option Value} {xs:List Addr} (I:Inv (cxOf (CXA P w) P w K mg base N qual scope f cd A outer s H E) pins σ H1 s1) (x:ExcAt s.heap s1.heap H1 a cls fl xs) (hfl:fl=none∨fl=some .none) (q:E cls none H1) :
  (cxOf (CXA P w) P w K mg base N qual scope f cd A outer s H E).xe (.ref a) s1:=by
 have nL:∀ b o,s.heap.get? b=some o→b∉frs outer→b∉frs (envOfC qual scope s.heap.objs.size f cd::outer):=fun b o e n m=>by
  have m':b∈s.heap.objs.size::frs outer:=m
  rcases List.mem_cons.mp m' with z | z
  ·exact absurd (Heap.lt_size e) (by rw [z]; exact Nat.lt_irrefl _)
  ·exact n z
 refine leave (P:=P) (w:=w) I.ok.frames rfl I.stack I.hok I.stkFree (fun b o e=>I.base.there b o e (fun z=>nomatch z)) x hfl fun h' G ok ⟨ys,y⟩=>?_
 refine ⟨a,cls,H1,ys,rfl,I.os,I.bare,⟨fun b o e n hb _=>?_,fun b o e n hb _=>?_,fun b o e n _=>I.base.free b o e n (fun z=>nomatch z),fun b o e _=>?_,I.base.tups,I.base.frzs,I.base.tbls⟩,ok,y,q⟩
 ·exact (G b o e o (I.base.keep b o e n hb fun z=>nomatch z)).1 (nL b o e hb)
 ·obtain ⟨sl,e1⟩:=I.base.slot b o e n hb fun z=>nomatch z
  obtain ⟨sl2,e2⟩:=(G b o e _ e1).2 (List.mem_cons_of_mem _ hb)
  exact ⟨sl2,e2⟩
 ·obtain ⟨o1,e1⟩:=I.base.there b o e fun z=>nomatch z
  by_cases m:b∈frs (envOfC qual scope s.heap.objs.size f cd::outer)
  ·obtain ⟨sl2,e2⟩:=(G b o e _ e1).2 m
   exact ⟨_,e2⟩
  ·exact ⟨_,(G b o e _ e1).1 m⟩
theorem passA:Passes (CXA P w) (cxOf (CXA P w) P w K mg base N qual scope f cd A outer s H E) E:=fun pins σ H1 s1 e s2 I h=>by
 obtain ⟨a,cls,H2,xs,rfl,os,bare,un,hok,x,q⟩:=h
 obtain ⟨hh,gg,dd,tt,os2⟩:=s2
 obtain rfl:os2=s1.os:=os
 exact fly (I.call (h':=hh) (g':=gg) (d':=dd) (t':=tt) (ch:=[]) un hok bare fun b z=>nomatch z) (x.far fun b o e=>I.base.there b o e fun z=>nomatch z) (.inr rfl) q
end
def bmV:List Value:=[.type "ValueError",.type "Exception",.type "BaseException",.type "object"]
structure ExcK (K:PySem.W.Frag) (C:Addr):Prop where
 ex:∃ bm N nm q bs hdct sn sub ab col dd k0 k1 k2 k3 k5,K.lookup C=some (excClassObj nm q C N bs bm hdct sn sub ab col dd k0 k1 k2 k3 k5 "ValueError.__new__")∧PySem.W.nsOkIn K N=true∧PySem.W.nsIn K N "__init__" = some none∧PySem.W.tailIn K bmV bm=true
def tRaise (ta:TA) (φ:Hp→Prop):TS:=fun _ σ H=>ta σ H fun vs H1=>vs.length≤1000∧φ H1
section
variable {X:Cx}
theorem made_at {pins:List (Addr×Obj)} {σ:St} {H:Hp} {s:Shared} {h':Heap} {e:Addr} {cls:Value} {us:List Value} (hx:X.ex=[]) (I:Inv X pins σ H s) (m:Heap.MadeExcOf s.heap h' e cls us):Inv X pins σ H { s with heap:=h' }∧ExcAt X.s₀.heap h' H e cls none [e]:=by
 obtain ⟨t,he,_,_⟩:=m.there
 refine ⟨I.kept m.keeps,.head _,fun b hb=>?_,_,_,he,rfl,rfl,rfl,rfl⟩
 rw [List.mem_singleton.mp hb]
 constructor
 ·cases q:X.s₀.heap.get? e with
  | none=>rfl
  | some o=>
   obtain ⟨o',q'⟩:=I.base.there e o q (by rw [hx]; exact fun z=>nomatch z)
   rw [m.new] at q'
   cases q'
 ·cases q:H e with
  | none=>rfl
  | some o=>
   obtain ⟨o',q'⟩:=(I.hok e o q).there
   rw [m.new] at q'
   cases q'
theorem ps_raise {x:Str} {C:Addr} {a:Expr} {ta:TA} {φ:Hp→Prop} {np cpos pos:Pos} (hC:ExcK X.K C) (hm:X.mg x=some (.ref C)) (hg:Gl X x) (hc:X.calm=true) (hx:X.ex=[]) (ha:PA X [a] ta)
  (hf:∀ pins σ H s e xs,Inv X pins σ H s→ExcAt X.s₀.heap s.heap H e (.ref C) none xs→φ H→X.xe (.ref e) s) (hd:(x == ("__debug__" : Str))=false:=by decide)
  (hs:starEach [a] X.env=(false,eval a X.env)::starEach [] X.env:=by rfl):PS X (.Raise (some (.Call (.Name x np) [a] [] cpos)) none pos) (tRaise ta φ):=by
 intro pins s σ H D I h
 obtain ⟨bm,N,nm,q,bs,hdct,sn,sub,ab,col,dd,k0,k1,k2,k3,k5,hl,hn,hi,ht⟩:=hC.ex
 have tl:∀{h:Heap},X.K.In h→OwnTail h bmV bm:=fun k=>PySem.W.tail_of_in k ht
 refine' wpAny_Raise_call_subT (C:=C) (bm:=bm) (N:=N) PySem.F.excBase_ValueError ((tl I.kIn).hasType rfl) (I.ok.hd hc) ?_ (PySem.W.nsMap_none_of_in I.mod.kin hn hi) (ld_glob I hg hm ⟨rfl,?run⟩ hd)
 all_goals try (rw [hs]; rfl)
 case run=>
  have run:=ha cpos pins s σ H _ I h
  rw [hs] at run ⊢
  refine Calls.evalArgs_plain (thn run fun us s1 r=>?_)
  obtain ⟨vs,H1,I1,rv,few,p⟩:=r
  refine ⟨rfl,?_,I1.kIn _ _ hl,?_,tl I1.kIn,fun h' e m=>?_⟩
  ·rw [← rv.length]
   exact Nat.le_of_lt (small1000 few)
  ·exact Heap.Ns.keeps (.of_isNs (PySem.W.isNs_of_in I.mod.kin hn)) I1.bk
  ·obtain ⟨I2,x2⟩:=made_at hx I1 m
   exact hf _ _ _ _ _ _ I2 x2 p
end
abbrev Cx.inner (X:Cx) (pn:List (Addr×Obj)) (E:Value→Shared→Prop):Cx:={ X with pn:=pn,xe:=E }
abbrev Cx.caught (X:Cx) (a:Addr) (pn:List (Addr×Obj)):Cx:={ X with A:=X.A.mark (some (.ref a)),calm:=false,pn:=pn,xe:=fun _ _=>False }
section
variable {X:Cx} {pins:List (Addr×Obj)} {σ:St} {H H1 H2:Hp} {s s1 s':Shared}
theorem Inv.inner (I:Inv X pins σ H s) (E:Value→Shared→Prop):Inv (X.inner (X.pn++pins) E) [] σ H s:=by
 have ok:=I.ok
 exact ⟨⟨ok.mod,ok.kind,ok.glob,ok.blt,ok.above,ok.inj,ok.has,ok.cab,ok.hd,ok.frames,ok.stk,ok.exf,ok.bs,ok.bsz,ok.noex,ok.exfs,ok.funs,ok.frf⟩,I.os,I.bare,I.base,I.loc,I.cell,I.free,I.freeC,fun p hp=>I.pin p (by rw [List.append_nil] at hp; exact hp),I.hok,I.len⟩
theorem Inv.outer {E:Value→Shared→Prop} {ps:List (Addr×Obj)} (I:Inv (X.inner (X.pn++pins) E) ps σ H s):Inv X pins σ H s:=by
 have ok:=I.ok
 exact ⟨⟨ok.mod,ok.kind,ok.glob,ok.blt,ok.above,ok.inj,ok.has,ok.cab,ok.hd,ok.frames,ok.stk,ok.exf,ok.bs,ok.bsz,ok.noex,ok.exfs,ok.funs,ok.frf⟩,I.os,I.bare,I.base,I.loc,I.cell,I.free,I.freeC,fun p hp=>I.pin p (List.mem_append_left _ hp),I.hok,I.len⟩
theorem Inv.caught {a:Addr} {oe:Obj} (I:Inv X pins σ H s) (hp:s.heap.get? a=some oe∧H a=none∧a≠X.env.locals∧a∉X.fs∧∀ v,oe.data≠.cell v):Inv (X.caught a ((a,oe)::(X.pn++pins))) [] σ H s:=by
 have ok:=I.ok
 refine ⟨⟨ok.mod,ok.kind,ok.glob,ok.blt,ok.above,ok.inj,ok.has,ok.cab,fun z=>Bool.noConfusion z,ok.frames,ok.stk,ok.exf,ok.bs,ok.bsz,ok.noex,ok.exfs,ok.funs,ok.frf⟩,I.os,I.bare,I.base,I.loc,I.cell,I.free,I.freeC,fun p hp'=>?_,I.hok,I.len⟩
 rw [List.append_nil] at hp'
 rcases List.mem_cons.mp hp' with rfl | hp'
 ·exact hp
 ·exact I.pin p hp'
theorem Inv.uncaught {a:Addr} {oe:Obj} {ps:List (Addr×Obj)} (hd:X.calm=true→X.A.handled=none) (I:Inv (X.caught a ((a,oe)::(X.pn++pins))) ps σ H s):Inv X pins σ H s:=by
 have ok:=I.ok
 exact ⟨⟨ok.mod,ok.kind,ok.glob,ok.blt,ok.above,ok.inj,ok.has,ok.cab,hd,ok.frames,ok.stk,ok.exf,ok.bs,ok.bsz,ok.noex,ok.exfs,ok.funs,ok.frf⟩,I.os,I.bare,I.base,I.loc,I.cell,I.free,I.freeC,fun p hp=>I.pin p (List.mem_append_left _ (List.mem_cons_of_mem _ hp)),I.hok,I.len⟩
structure Held (X:Cx) (H1 H2:Hp) (s1:Shared) (a:Addr) (cls fl:Value) (s':Shared):Prop where
 os:s'.os=s1.os
 bare:AllBare s'.gens
 un:Un (frs X.stack) [] H1 H2 s1.heap s'.heap
 hok:HOk X.prog X.w H2 s'.heap
 exc:∃ xs,ExcAt s1.heap s'.heap H2 a cls (some fl) xs
theorem Held.inv {a:Addr} {cls fl:Value} (h:Held X H1 H2 s1 a cls fl s') (I:Inv X pins σ H1 s1):Inv X pins σ H2 s':=I.call' h.os h.un h.hok h.bare fun b z=>nomatch z
theorem Held.step {a:Addr} {cls fl fl':Value} {xs:List Addr} {h':Heap} (h:Held X H1 H2 s1 a cls fl s') (x:ExcAt s1.heap s'.heap H2 a cls (some fl) xs) (G:Gone s'.heap h' X.stack xs) (ok:HOk X.prog X.w H2 h') (y:∃ ys,ExcAt s1.heap h' H2 a cls (some fl') ys):Held X H1 H2 s1 a cls fl' { s' with heap:=h' }:=by
 have nx:∀ b o,s1.heap.get? b=some o→b∉xs:=fun b o e m=>by
  rw [(x.own b m).1] at e
  cases e
 refine ⟨h.os,h.bare,⟨fun b o e n hb he=>?_,fun b o e n hb he=>?_,h.un.free,fun b o e he=>?_,h.un.tups,h.un.frzs,h.un.tbls⟩,ok,y⟩
 ·exact G.keep b o (h.un.keep b o e n hb he) hb (nx b o e)
 ·obtain ⟨sl,e1⟩:=h.un.slot b o e n hb he
  obtain ⟨sl2,e2⟩:=G.slot b _ e1 hb
  exact ⟨sl2,e2⟩
 ·obtain ⟨o1,e1⟩:=h.un.there b o e he
  by_cases m:b∈frs X.stack
  ·obtain ⟨sl2,e2⟩:=G.slot b _ e1 m
   exact ⟨_,e2⟩
  ·exact ⟨_,G.keep b _ e1 m (nx b o e)⟩
theorem Held.there {a:Addr} {cls fl:Value} (h:Held X H1 H2 s1 a cls fl s'):∃ oe vs,s'.heap.get? a=some oe∧(oe.cls=cls∧oe.dict=none∧PySem.W.notCls oe=true)∧oe.data=.fields vs∧H2 a=none:=by
 obtain ⟨xs,x⟩:=h.exc
 obtain ⟨oe,vs,he,hc,hi,hd,_⟩:=x.obj
 exact ⟨oe,vs,he,⟨hc,hi,by unfold PySem.W.notCls; rw [hd]⟩,hd,(x.own a x.me).2⟩
theorem Held.land {A:Around} {E:Value→Shared→Prop} {a:Addr} {cls fl:Value} {Q:Unit→Shared→Prop} (h:Held X H1 H2 s1 a cls fl s') (I:Inv X pins σ H1 s1) (k:∀ s2,Held X H1 H2 s1 a cls .none s2→Q () s2):wpAny (model X.prog X.w) A (setFlight (.ref a) none) Q E s':=by
 obtain ⟨xs,x⟩:=h.exc
 have J:=h.inv I
 exact landed (P:=X.prog) (w:=X.w) J.stack h.hok J.stkFree x fun h' G ok y=>k _ (h.step x G ok y)
end
theorem Inv.unname {h8:Heap} {m8:Str→Option Value} {t:Nat} {X:Cx} {pins:List (Addr×Obj)} {σ:St} {H:Hp} {s:Shared} (I:Inv X pins σ H s) (n8:h8.Ns X.env.locals m8) (sb:Heap.SameBut X.env.locals s.heap h8):Inv X pins (List.replicate X.N.length none) H { s with heap:=h8,toks:=t }:=by
 have same:∀ b,b≠X.env.locals→h8.get? b=s.heap.get? b:=sb.2
 have ne:∀ b o,X.s₀.heap.get? b=some o→b≠X.env.locals:=fun b o e=>Nat.ne_of_lt (Nat.lt_of_lt_of_le (Heap.lt_size e) I.ok.above)
 have tr:∀ b o,H b=some o→b≠X.env.locals:=fun b o e=>ne_of_none e I.free
 refine ⟨I.ok,I.os,I.bare,⟨fun b o e n hb hx=>(same b (ne b o e)).trans (I.base.keep b o e n hb hx),fun b o e n hb hx=>?_,I.base.free,fun b o e hx=>?_,I.base.tups,I.base.frzs,I.base.tbls⟩,⟨m8,n8,fun i x v h1 h2 h3=>?_⟩,fun x c e=>?_,I.free,I.freeC,fun p hp=>?_,fun a o e=>(I.hok a o e).stay (fun b u m q=>?_) (fun _ z=>z) fun _ _ z=>z,?_⟩
 ·obtain ⟨sl,q⟩:=I.base.slot b o e n hb hx
  exact ⟨sl,(same b (ne b o e)).trans q⟩
 ·obtain ⟨o1,q⟩:=I.base.there b o e hx
  exact ⟨o1,(same b (ne b o e)).trans q⟩
 ·rw [List.getElem?_replicate] at h2
  split at h2 <;> cases h2
 ·obtain ⟨v,o,ho,hd⟩:=I.cell x c e
  exact ⟨v,o,(same c (I.cne x c e)).trans ho,hd⟩
 ·obtain ⟨q,n,nl,nf,d⟩:=I.pin p hp
  exact ⟨(same p.1 nl).trans q,n,nl,nf,d⟩
 ·refine (same b ?_).trans q
  rcases m with rfl | m
  ·exact tr _ _ e
  ·exact tr _ _ m
 ·rw [List.length_replicate]
section
variable {X:Cx}
end
end L2
namespace L2
open PySem
section
variable {prog:Program} {w:World} {A:Around} {E:Value→Shared→Prop} {s:Shared} {a C:Addr} {o:Obj} {K:PySem.W.Frag}
theorem slot_takes {M:Model} {id owner n:String} {rest:List Value} {Q:Unit→Shared→Prop} (X:K.In s.heap) (J:PySem.W.InstAt s.heap a o C none) (k:builtinKind id=some .slot) (sp:splitId id=some (owner,n)) (m:PySem.W.mroIn K C (.type owner)=some true)
  (ha:argsOk id ⟨.ref a::rest,[]⟩) (q:Q () s):wpAny M A (checkBuiltinCall id ⟨.ref a::rest,[]⟩) Q E s:=by
 have T:PySem.W.Looks M s.heap (isInstance (.ref a) (.type owner)) true:=J.type.andThen (PySem.W.looks_mroIn X m)
 unfold checkBuiltinCall
 rw [k,sp]
 refine wpAny_bind (T.at ?_)
 repeat wp_step
 cases z:Manifest.signature? id with
 | none=>exact wpAny_pure q
 | some sg=>
  unfold argsOk at ha
  rw [z] at ha
  show wpAny M A (Bind.checkArgs id sg ⟨.ref a::rest,[]⟩) Q E s
  rw [show Bind.checkArgs id sg ⟨.ref a::rest,[]⟩=pure () from ha]
  exact wpAny_pure q
theorem class_of_exc {tk:Tok} {Q:Fin→Shared→Prop} (X:K.In s.heap) (J:PySem.W.InstAt s.heap a o C none) (hf:PySem.W.findObj K C none "__class__" = some (.bind (.builtin "getset_descriptor.__get__") (.builtin "object.__class__"))) (m:PySem.W.mroIn K C (.type "object")=some true) (q:Q (.done (.ret (.ref C))) s) :
  wpAny (model prog w) A (Builtin.«object.__getattribute__» ⟨[.ref a,.str "__class__" tk],[]⟩) Q E s:=by
 have Lf:=PySem.W.looks_find (M:=model prog w) X J hf
 refine wpAny_bind (show wpAny (model prog w) A (pure (Value.ref a,[Value.str "__class__" tk])) _ _ _ from wpAny_pure (wpAny_bind (wpAny_pure (wpAny_bind (J.type.at (wpAny_bind (Lf.at ?_)))))))
 exact wpAny_bind (wpAny_holding (wpAny_call (PySem.W.class_get X J m (wpAny_pure q))))
theorem ga_slot:builtinKind "BaseException.__getattribute__" = some .slot∧splitId "BaseException.__getattribute__" = some ("BaseException","__getattribute__"):=⟨by decide +kernel,by decide +kernel⟩
theorem xc_class {Q:Option Value→Shared→Prop} (X:K.In s.heap) (J:PySem.W.InstAt s.heap a o C none)
  (hga:PySem.W.findIn K (.ref C) "__getattribute__" = some (some (.builtin "BaseException.__getattribute__"))) (hgn:PySem.W.findIn K (.ref C) "__getattr__" = some none)
  (hf:PySem.W.findObj K C none "__class__" = some (.bind (.builtin "getset_descriptor.__get__") (.builtin "object.__class__"))) (m:PySem.W.mroIn K C (.type "object")=some true) (mb:PySem.W.mroIn K C (.type "BaseException")=some true) (q:Q (some (.ref C)) { s with toks:=s.toks+1 }) :
  wpAny (model prog w) A (getAttr? (.ref a) "__class__") Q E s:=by
 have Lg:=PySem.W.looks_findIn (M:=model prog w) X hga
 have Ln:=PySem.W.looks_findIn (M:=model prog w) X hgn
 refine wpAny_bind (wpAny_mkText (wpAny_bind (wpAny_attempt (wpAny_holding (wpAny_bind (J.type.at (wpAny_bind (Lg.at ?_))))))))
 show wpAny (model prog w) _ (getAttrByItsOwn _ _ _ _ _ _) _ _ _
 unfold getAttrByItsOwn hookBefore
 refine wpAny_bind (Ln.at (wpAny_bind (wpAny_attempt (wpAny_holding ?_))))
 show wpAny (model prog w) _ (boundAndCalled _ _ _) _ _ _
 unfold boundAndCalled
 rw [F.excAttr_ValueError.ga.bind]
 refine wpAny_bind (wpAny_pure (wpAny_call ?_))
 have Y:K.In ({ s with toks:=s.toks+1 }:Shared).heap:=X
 have I:PySem.W.InstAt ({ s with toks:=s.toks+1 }:Shared).heap a o C none:=J
 refine codeAny_call_builtin F.excAttr_ValueError.ga.plain F.entry_bexc_ga ?_
 refine slot_takes (s:={ s with toks:=s.toks+1 }) (id:="BaseException.__getattribute__") (owner:="BaseException") (n:="__getattribute__") Y I ga_slot.1 ga_slot.2 mb (F.args_bexc_ga _ _) ?_
 refine class_of_exc (s:={ s with toks:=s.toks+1 }) Y I hf m ?_
 exact PySem.W.handed_on rfl (wpAny_pure q)
end
end L2
namespace L2
open PySem PySem.Spec PyProof.Rows
structure ExcI (K:PySem.W.Frag) (C:Addr):Prop where
 cls:∃ cd,PySem.W.clsIn K C=some cd
 get:PySem.W.findIn K (.ref C) "__getattribute__" = some (some (.builtin "BaseException.__getattribute__"))
 gno:PySem.W.findIn K (.ref C) "__getattr__" = some none
 fnd:PySem.W.findIn K (.ref C) "__class__" = some (some (.builtin "object.__class__"))
 spc:PySem.W.specialIn K (.builtin "object.__class__") "__get__" = some (some (.builtin "getset_descriptor.__get__"))
 tak:PySem.W.takesIn K (.builtin "object.__class__")=some true
 mro:PySem.W.mroIn K C (.type "object")=some true
 mrb:PySem.W.mroIn K C (.type "BaseException")=some true
theorem exc_at {h:Heap} {a C:Addr} {oe:Obj} (q:h.get? a=some oe) (c:oe.cls=.ref C∧oe.dict=none∧PySem.W.notCls oe=true):PySem.W.InstAt h a oe C none:=⟨q,c.1,c.2.2,by rw [c.2.1]; trivial⟩
theorem cls_there {K:PySem.W.Frag} {C:Addr} {cd:ClassData} (e:PySem.W.clsIn K C=some cd):∃ c d l,K.lookup C=some ⟨c,d,.cls cd,l⟩:=by
 unfold PySem.W.clsIn at e
 split at e
 ·next q=>
  cases e
  exact ⟨_,_,_,q⟩
 ·cases e
theorem kitx_exc {K:PySem.W.Frag} {a C:Addr} {oe:Obj} (x:ExcI K C) (c:oe.cls=.ref C∧oe.dict=none∧PySem.W.notCls oe=true):PySem.W.KitX K (.ref a) (.ref C) (fun h=>h.get? a=some oe):=by
 obtain ⟨cd,hc⟩:=x.cls
 obtain ⟨_,_,_,ho⟩:=cls_there hc
 refine ⟨fun M h X q=>(exc_at q c).type,fun M h X q A Q E s k p=>?_,fun h tp dd its n sl X q=>Bool.eq_false_iff.mpr fun z=>?_,fun {prog w A E Q s} X q p=>?_⟩
 ·unfold isType loadHead
  exact wpAny_bind (wpAny_loadPart (k _ _ (X _ _ ho)) (wpAny_pure p))
 ·have e:C=tp:=Value.ref.inj (beq_iff_eq.mp z)
  rw [← e,X _ _ ho] at q
  cases q
 ·refine xc_class X (exc_at q c) x.get x.gno ?_ x.mro x.mrb p
  unfold PySem.W.findObj
  simp only [hc,x.fnd,x.spc,x.tak,Option.bind_some]
def clV:V→Option Value
 | .ref C=>some (.ref C)
 | .ty T=>some (.type T)
 | _=>none
theorem clV_eq {c:V} {v u:Value} (e:clV c=some v) (r:RelV c u):u=v:=by
 cases c <;> cases e <;> exact r
def clVs:List V→Option (List Value)
 | []=>some []
 | c::r=>(clV c).bind fun v=>(clVs r).map (v :: ·)
theorem clVs_eq:∀{cs:List V} {vs us:List Value},clVs cs=some vs→Vals cs us→us=vs
 | [],vs,us,e,r=>by
  cases r
  cases e
  rfl
 | c::cs,vs,us,e,r=>by
  cases r with
  | cons r1 r2=>
   unfold clVs at e
   obtain ⟨v,e1,e2⟩:=Option.bind_eq_some_iff.mp e
   obtain ⟨l,e3,rfl⟩:=Option.map_eq_some_iff.mp e2
   rw [clV_eq e1 r1,clVs_eq e3 r2]
def rIsE (K:PySem.W.Frag) (a:Addr) (cls:Value):List V→Hp→VK→Prop:=fun xs H Q=>∃ C,cls=.ref C∧ExcI K C∧((∃ c v b,xs=[.ref a,c]∧clV c=some v∧PySem.W.kitOne K cls v=some b∧Q (.bl b) H)∨∃ p cs vs b,xs=[.ref a,.ref p]∧H p=some (.tup cs)∧clVs cs=some vs∧PySem.W.kitAny K cls vs=some b∧Q (.bl b) H)
section
variable {X:Cx}
theorem call_isE {K:PySem.W.Frag} {a:Addr} {oe:Obj} {cls:Value} (hK:X.K=K) (hp:(a,oe)∈X.pn) (c:oe.cls=cls∧oe.dict=none∧PySem.W.notCls oe=true):CallR X (.builtin "isinstance") (rIsE K a cls):=by
 intro pins s σ H xs us Q I r h
 subst hK
 obtain ⟨C,rfl,xi,h⟩:=h
 have q:s.heap.get? a=some oe:=(I.pin (a,oe) (List.mem_append_left _ hp)).1
 have Z:=kitx_exc (a:=a) xi c
 rcases h with ⟨k,v,b,rfl,e,kb,z⟩ | ⟨p,cs,vs,b,rfl,hq,e,kb,z⟩
 ·obtain ⟨u1,u2,rfl,r1,r2⟩:=vals2 r
  cases r1
  rw [clV_eq e r2]
  exact PySem.W.kia_one Z I.kIn q kb (fun y=>nomatch y) fun tk=>⟨.bl b,H,I.tok _,rfl,z⟩
 ·obtain ⟨u1,u2,rfl,r1,r2⟩:=vals2 r
  cases r1
  cases r2
  obtain ⟨its,rv,tp,_⟩:=I.tuple (SqT.of (K:=X.K) hq)
  obtain ⟨⟨oc,od,odt,osl⟩,ho,hc,n,hd⟩:=tp
  cases (show oc=.type "tuple" from hc)
  cases (show odt=.seq its.toArray n from hd)
  rw [← clVs_eq e rv] at kb
  exact PySem.W.kia_tup Z I.kIn q ho kb (fun y=>nomatch y) fun tk=>⟨.bl b,H,I.tok _,rfl,z⟩
theorem pe_globC {x:Str} {C:Addr} {pos:Pos} (hg:Gl X x) (hm:X.mg x=some (.ref C)) (hd:(x == ("__debug__" : Str))=false:=by decide):PE X (.Name x pos) (tC (.ref C)):=by
 intro pins s σ H Q I h
 exact ld_glob I hg hm ⟨.ref C,H,I,rfl,h⟩ hd
end
theorem Inv.forget {h8:Heap} {m7:Str→Option Value} {v:Option Value} {t:Nat} {X:Cx} {pins:List (Addr×Obj)} {σ:St} {H:Hp} {s:Shared} {i:Nat} {n:Str} (I:Inv X pins σ H s) (hN:X.N.Nodup) (hi:X.N[i]? = some n) (hm:s.heap.Ns X.env.locals m7) (hv:∀(i:Nat) (x:Str) (v:V),X.N[i]? = some x→σ[i]? = some (some v)→Vis X.env.scope x→∃ u,RelV v u∧Look X.env s.heap m7 x u)
  (n8:h8.Ns X.env.locals (fun x=>if x=n then v else m7 x)) (sb:Heap.SameBut X.env.locals s.heap h8):Inv X pins (σ.set i none) H { s with heap:=h8,toks:=t }:=by
 have same:∀ b,b≠X.env.locals→h8.get? b=s.heap.get? b:=sb.2
 have ne:∀ b o,X.s₀.heap.get? b=some o→b≠X.env.locals:=fun b o e=>Nat.ne_of_lt (Nat.lt_of_lt_of_le (Heap.lt_size e) I.ok.above)
 have tr:∀ b o,H b=some o→b≠X.env.locals:=fun b o e=>ne_of_none e I.free
 refine ⟨I.ok,I.os,I.bare,⟨fun b o e n hb hx=>(same b (ne b o e)).trans (I.base.keep b o e n hb hx),fun b o e n hb hx=>?_,I.base.free,fun b o e hx=>?_,I.base.tups,I.base.frzs,I.base.tbls⟩,⟨_,n8,fun j x w h1 h2 h3=>?_⟩,fun x c e=>?_,I.free,I.freeC,fun p hp=>?_,fun a o e=>(I.hok a o e).stay (fun b u m q=>?_) (fun _ z=>z) fun _ _ z=>z,?_⟩
 ·obtain ⟨sl,q⟩:=I.base.slot b o e n hb hx
  exact ⟨sl,(same b (ne b o e)).trans q⟩
 ·obtain ⟨o1,q⟩:=I.base.there b o e hx
  exact ⟨o1,(same b (ne b o e)).trans q⟩
 ·have ji:i≠j:=fun z=>by
   subst z
   rw [List.getElem?_set_self'] at h2
   cases hq:σ[i]? <;> rw [hq] at h2 <;> cases h2
  rw [List.getElem?_set_ne ji] at h2
  obtain ⟨u,r,l⟩:=hv j x w h1 h2 h3
  refine ⟨u,r,l.imp (fun ⟨k,e⟩=>⟨k,?_⟩) fun ⟨k,c,e1,e2⟩=>⟨k,c,e1,?_⟩⟩
  ·have xn:x≠n:=fun z=>by
    subst z
    exact ji ((List.getElem?_inj (List.getElem?_eq_some_iff.mp hi).1 hN).mp (hi.trans h1.symm))
   show (if x=n then v else m7 x)=some u
   rw [if_neg xn]
   exact e
  ·obtain ⟨o,ho,hd⟩:=e2
   exact ⟨o,(same c (I.cne x c e1)).trans ho,hd⟩
 ·obtain ⟨v,o,ho,hd⟩:=I.cell x c e
  exact ⟨v,o,(same c (I.cne x c e)).trans ho,hd⟩
 ·obtain ⟨q,n,nl,nf,d⟩:=I.pin p hp
  exact ⟨(same p.1 nl).trans q,n,nl,nf,d⟩
 ·refine (same b ?_).trans q
  rcases m with rfl | m
  ·exact tr _ _ e
  ·exact tr _ _ m
 ·rw [List.length_set]
  exact I.len
def tTryN (K:PySem.W.Frag) (n i:Nat) (Ch:Addr) (tb:XK→TS) (ts:Value→Addr→TS):TS:=fun D σ H=>tb (fun cls _ H'=>PySem.W.exmOne K cls (.ref Ch)=some true∧∀(σ':St) (a:Addr),H' a=none→σ'.length=n→ts cls a { nx:=fun σ2 H2=>D.nx (σ2.set i none) H2,rt:=D.rt } (σ'.set i (some (.ref a))) H') D σ H
section
variable {X:Cx}
theorem ps_tryN {i:Nat} {n c:Str} {Ch:Addr} {body suite:List Stmt} {b0:Stmt} {tb:XK→TS} {ts:Value→Addr→TS} {cp hp pos:Pos} (hstk:X.stack=X.env::X.outer) (hfrm:X.env.frame=some X.env.locals) (hN:X.N.Nodup) (hi:X.N[i]? = some n) (hl:X.env.scope.names.lookup n=some .local)
  (hg:Gl X c) (hm:X.mg c=some (.ref Ch)) (hb:∀ pn E' E,Passes (CXA X.prog X.w) (X.inner pn E') E→PSs (X.inner pn E') body (tb E)) (hs:∀ cls a oe pn,(a,oe)∈pn→(oe.cls=cls∧oe.dict=none∧PySem.W.notCls oe=true)→PSs (X.caught a pn) (b0::suite) (ts cls a)) (hd:(c == ("__debug__" : Str))=false:=by decide) :
  PS X (.Try body [.ExceptHandler (some (.Name c cp)) (some n) (b0::suite) hp] [] [] pos) (tTryN X.K X.N.length i Ch tb ts):=by
 intro pins s σ H D I h
 refine wpAny_Try_except ?_
 refine wpAny_mono (hb (X.pn++pins) (fun e s1=>wpAny (model X.prog X.w) X.A (noteFrame e X.env) (fun _ s2=>wpAny (model X.prog X.w) X.A (setFlight e none) (fun _ s3=>wpAny (model X.prog X.w) X.A (handleBy e X.env [.ExceptHandler (some (.Name c cp)) (some n) (b0::suite) hp]) (SP X pins D) X.xe s3) X.xe s2) X.xe s1) _ ?pass [] s σ H D (I.inner _) h) (fun f s1 q=>?flow) (fun e s1 q=>q)
 case flow=>
  cases f with
  | next=>
   obtain ⟨σ',H',J,z⟩:=q
   exact wpAny_pure ⟨σ',H',J.outer,z⟩
  | brk=>obtain ⟨σ',H',J,z⟩:=q; exact ⟨σ',H',J.outer,z⟩
  | cont=>obtain ⟨σ',H',J,z⟩:=q; exact ⟨σ',H',J.outer,z⟩
  | ret u=>obtain ⟨v,σ',H',J,r,z⟩:=q; exact ⟨v,σ',H',J.outer,r,z⟩
 case pass=>
  intro ps σ1 H1 s1 e s2 J1 hx
  obtain ⟨a,cls,H2,xs,rfl,os,bare,un,hok,x,em,run⟩:=hx
  have I1:Inv X pins σ1 H1 s1:=J1.outer
  have hf:X.A.frames=some (X.env::X.outer):=by rw [← hstk]; exact I1.ok.frames
  have h0:Held X H1 H2 s1 a cls .none s2:=⟨os,bare,un,hok,xs,x⟩
  have K0:=h0.inv I1
  have st:=K0.stack
  have sf:=K0.stkFree
  rw [hstk] at st sf
  refine noted (P:=X.prog) (w:=X.w) hf hfrm st hok sf (fun b o e=>un.there b o e fun z=>nomatch z) x (.inr rfl) fun h3 G3 ok3 y3=>?_
  rw [← hstk] at G3
  have q3:=h0.step x G3 ok3 y3
  refine q3.land I1 fun s4 q4=>?_
  have I4:=q4.inv I1
  obtain ⟨oe,vs,he,hc,hdt,hn⟩:=q4.there
  have pinned:∀{s5:Shared} {oe:Obj} {vs:Array Value},Inv X pins σ1 H2 s5→s5.heap.get? a=some oe→oe.data=.fields vs→s5.heap.get? a=some oe∧H2 a=none∧a≠X.env.locals∧a∉X.fs∧∀ v,oe.data≠.cell v:=fun {s5 oe vs} I5 he hd=>by
   refine ⟨he,hn,fun z=>?_,fun z=>?_,fun v z=>by rw [hd] at z; cases z⟩
   ·obtain ⟨m,⟨o,es,ep,ho,hod,_⟩,_⟩:=I5.loc
    rw [← z,he] at ho
    cases ho
    rw [hd] at hod
    cases hod
   ·obtain ⟨_,o,ho,nf⟩:=I5.funs.mem z
    rw [he] at ho
    cases ho
    exact nf vs hd
  refine wpAny_handleBy_cons (codeAny_handlers_test ?_) (fun z=>nomatch z)
  have I4c:=I4.caught (pinned I4 he hdt)
  refine ld_glob I4c hg hm ?_ hd
  have lt:PySem.W.Looks (model X.prog X.w) s4.heap (typeOf (.ref a)) cls:=by
   obtain ⟨rfl,_⟩:=hc
   exact (PySem.W.Looks.ld he).andThen .now
  refine PySem.W.exm_one I4.kIn lt em _ _ _ s4 (fun _ _ z=>z) ?_
  refine codeAny_handlers_suite_as (q4.land I1 fun s5 q5=>?_)
  obtain ⟨oe5,vs5,he5,hc5,hd5,_⟩:=q5.there
  have I5:=q5.inv I1
  refine store_ok (X:=X.caught a ((a,oe5)::(X.pn++pins))) (I5.caught (pinned I5 he5 hd5)) hN hi (.inl hl) (show RelV (.ref a) (.ref a) from rfl) (fun s6 J6=>?_) (.inr hl)
  refine wpAny_mono (hs cls a oe5 _ (.head _) hc5 [] s6 _ H2 _ J6 (run σ1 a hn I5.len)) (fun f s7 z=>?_) (fun _ _ z=>False.elim z)
  cases f with
  | next=>
   obtain ⟨σ7,H7,J7,z⟩:=z
   have I7:Inv X pins σ7 H7 s7:=J7.uncaught I.ok.hd
   obtain ⟨m7,hm7,hv7⟩:=I7.loc
   exact wpAny_nameGoes_keeps hl hm7 (by rw [I7.ok.kind]; rfl) fun h8 v n8 sb=>⟨_,H7,I7.forget hN hi hm7 hv7 n8 sb,z⟩
  | brk=>obtain ⟨_,_,_,z⟩:=z; exact z.elim
  | cont=>obtain ⟨_,_,_,z⟩:=z; exact z.elim
  | ret u=>
   obtain ⟨v,σ7,H7,J7,r7,z⟩:=z
   have I7:Inv X pins σ7 H7 s7:=J7.uncaught I.ok.hd
   obtain ⟨m7,hm7,_⟩:=I7.loc
   exact wpAny_nameGoes hl hm7 (by rw [I7.ok.kind]; rfl) fun h8 m8 n8 sb=>⟨v,_,H7,I7.unname n8 sb,r7,z⟩
end
section
variable {w:World} {prog:Program} {A:Around} {s:Shared} {R:Result→Shared→Prop}
theorem compLoop_anyX {elt target iter:Expr} {ifs:List Expr} {scope:Scope} {pos:Pos} {it acc:Value} {env:Env} {E:Value→Shared→Prop} (hE:E=notedBy (model prog w) A env fun x s'=>R (.error x) s') (J:Nat→Shared→Prop)
  (turn:∀ n s,J n s→wpAny (model prog w) A (pyNext it) (fun r s1=>match r with
   | none=>R (.ok .next) s1
   | some v=>wpAny (model prog w) A (letOwnedTupleGo target it v) (fun _ s1'=>wpAny (model prog w) A (assign target env v) (fun _ s2=>
     wpAny (model prog w) A (forIn ifs true fun c r=>if r=true then do let ok ← isTrue c env (eval c env); pure (ForInStep.yield ok) else pure (ForInStep.yield r)) (fun ok s3=>
      if ok=true then wpAny (model prog w) A (eval elt env) (fun x s4=>
       wpAny (model prog w) A (call (.builtin "list.append") [acc,x]) (fun _ s5=>∃ m,m<n∧J m s5) E s4) E s3
      else ∃ m,m<n∧J m s3) E s2) E s1') E s1) E s)
  (n:Nat) (h:J n s):codeAny (model prog w) A (.compLoop (.ListComp elt [⟨target,iter,ifs,0⟩] scope pos) 0 it acc env) R s:=by
 subst hE
 refine codeAny_loop rfl J (fun n s hI=>?_) n h
 refine wpAny_noted (env:=env) (m:=compTurn (.ListComp elt [⟨target,iter,ifs,0⟩] scope pos) 0 it acc env) ?_
 rw [compTurn_list]
 refine wpAny_bind (wpAny_standAt (wpAny_bind (thn (turn n s hI) fun r s1 h1=>?_)))
 cases r with
 | none=>exact wpAny_pure h1
 | some v=>
  refine wpAny_bind (thn h1 fun _ s1' h1'=>?_)
  refine wpAny_bind (thn h1' fun _ s2 h2=>wpAny_bind (thn h2 fun ok s3 h3=>?_))
  cases ok with
  | false=>exact wpAny_pure ⟨rfl,h3⟩
  | true=>
   exact wpAny_bind (wpAny_bind (thn h3 fun x s4 h4=>wpAny_bind (thn h4 fun _ s5 h5=>wpAny_pure (wpAny_pure ⟨rfl,h5⟩))))
end
section
variable {X:Cx} {pins:List (Addr×Obj)} {σ:St} {H:Hp} {s:Shared}
theorem comp_runX {own:List Str} {fr:List (Str×Nat)} {scope:Scope} {cl:List (Str×Addr)} {elt tg iter:Expr} {ifs:List Expr} {pos:Pos} {g:TG} {tt:TT} {te:TE} {Q:Addr→Hp→Prop} {RR:Value→Addr→Result→Shared→Prop} {E:Value→Shared→Prop}
  {EX:XK} {it:Addr} {fp:List Addr} {tn:Nat→Heap→Prop} {J:It}
  (hc:X.calm=true) (S:CompScope X own fr scope) (I:Inv X pins σ H s) (hcl:∀ x c,cl.lookup x=some c→X.env.cells.lookup x=some c) (hcs:∀ x∈scope.names,x.2=.free→(cl.lookup x.1).isSome=true)
  (T:Turn X.prog X.w X.K tg J fp it tn) (st:tn 0 s.heap) (hf:∀ b∈fp,FpOk X pins H b)
  (hstk:X.stack=X.env::X.outer) (hfrm:X.env.frame=some X.env.locals) (hex:X.ex=[])
  (hB:∀(cl:List (Str×Addr)) (C:Addr) (s0:Shared) (H0:Hp) (xe:Value→Shared→Prop),Passes (CXA X.prog X.w) ((compCx X (own++fr.map (·.1)) scope cl C s0 H0 fp).inner [] xe) EX→PG ((compCx X (own++fr.map (·.1)) scope cl C s0 H0 fp).inner [] xe) tg g∧PF ((compCx X (own++fr.map (·.1)) scope cl C s0 H0 fp).inner [] xe) ifs tt∧PE ((compCx X (own++fr.map (·.1)) scope cl C s0 H0 fp).inner [] xe) elt te)
  (hE:∀ D C s' H' a cls v xs (g:Heap),Inv X pins σ H' s'→ExcAt g s'.heap H' a cls (some v) xs→(∀ b o,X.s₀.heap.get? b=some o→∃ o',g.get? b=some o')→(∃ o,g.get? C=some o)→EX cls none H'→C≠X.env.locals→(∃ m,s'.heap.Ns C m)→FpOk X pins H' C→RR (.ref D) C (.error (.ref a)) s')
  (body:∀ D,H D=none→CompBody J g tt te (stComp own fr σ) H D (Q D))
  (hR:∀ D C s' H',Inv X pins σ H' s'→Q D H'→C≠X.env.locals→(∃ m,s'.heap.Ns C m)→FpOk X pins H' C→(∃ o,s'.heap.get? C=some o)→RR (.ref D) C (.ok .next) s') :
  wpAny (model X.prog X.w) X.A (newList []) (fun acc s3=>wpAny (model X.prog X.w) X.A (newFunctionEnv scope X.env.globals cl [] X.env.qual none .none (some X.env)) (fun cenv s4=>
   codeAny (model X.prog X.w) X.A (.compStart (.ListComp elt [⟨tg,iter,ifs,0⟩] scope pos) 0 (.ref it) acc { cenv with scope:=relabel scope X.env }) (RR acc cenv.locals) s4) E s3) E s:=by
 refine wpAny_newObj_type ?_
 have nD:H s.heap.objs.size=none:=I.hok.fresh (Nat.le_refl _)
 have I3:Inv X pins σ (upd H s.heap.objs.size (.lst [])) { s with heap:=s.heap.push { cls:=.type "list",data:=.seq ([]:List Value).toArray },toks:=s.toks }:=I.lnew (t':=s.toks) .nil (Nat.zero_le _)
 generalize hs3:({ s with heap:=s.heap.push { cls:=.type "list",data:=.seq ([]:List Value).toArray },toks:=s.toks }:Shared)=s3 at I3
 generalize hD:s.heap.objs.size=D at I3 nD
 have st3:tn 0 s3.heap:=by
  subst hs3
  exact T.keep _ _ _ st fun b _ o e=>Heap.get?_push_of_some _ e
 have fD:∀ b∈fp,b≠D:=fun b hb z=>by
  obtain ⟨o,ho,_⟩:=T.obj _ _ st b hb
  exact absurd (Heap.lt_size ho) (by rw [hD,z]; exact Nat.lt_irrefl _)
 have hf3:∀ b∈fp,FpOk X pins (upd H D (.lst [])) b:=fun b hb=>⟨by rw [upd_ne (fD b hb)]; exact (hf b hb).1,(hf b hb).2⟩
 obtain ⟨W,⟨m0,w0⟩,turn⟩:=body D nD
 refine new_block fun h4 B4=>?_
 have keep4:=B4.keep
 have far:∀ b∈fp,∀ x c,(newCells s3.heap.objs.size scope++cl).lookup x=some c→c≠b:=fun b hb x c e=>by
  obtain ⟨o,ho,_⟩:=T.obj _ _ st3 b hb
  exact cell_far B4 ho e fun z=>(hf b hb).2.2.2.2.1 x c (hcl x c z)
 generalize hs4:({ s3 with heap:=h4,toks:=s3.toks }:Shared)=s4
 have I4:Inv (compCx X (own++fr.map (·.1)) scope (newCells s3.heap.objs.size scope++cl) s3.heap.objs.size s3 (upd H D (.lst [])) fp) [] (stComp own fr σ) (upd H D (.lst [])) s4:=by
  subst hs4
  exact inv_comp S I3 hcl hcs hf3 (fun b hb=>let ⟨o,e,_⟩:=T.obj _ _ st3 b hb; ⟨o,e⟩) B4
 have st4:tn 0 s4.heap:=by
  subst hs4
  exact T.keep _ _ _ st3 fun b _ o e=>keep4 b o e
 have Cne:s3.heap.objs.size≠X.env.locals:=Nat.ne_of_gt I3.lt
 generalize hcl2:newCells s3.heap.objs.size scope++cl=cl2 at I4 far
 generalize hC:s3.heap.objs.size=C at I4 Cne
 let EE:Value→Shared→Prop:=notedBy (model X.prog X.w) X.A (compEnvC scope cl2 C X.env) fun x s'=>RR (.ref D) C (.error x) s'
 obtain ⟨pG,pF,pE⟩:=hB cl2 C s3 (upd H D (.lst [])) EE (fun ps σ1 H1 s1 e s2 J hx=>by
  obtain ⟨a,cls,H2,xs,rfl,os,bare,un,hok,x,q⟩:=hx
  have h0:Held ((compCx X (own++fr.map (·.1)) scope cl2 C s3 (upd H D (.lst [])) fp).inner [] EE) H1 H2 s1 a cls .none s2:=⟨os,bare,un,hok,xs,x⟩
  have K0:=h0.inv J
  have st:=K0.stack
  have sf:=K0.stkFree
  have hf:X.A.frames=some (X.env::X.outer):=by rw [← hstk]; exact I3.ok.frames
  have st:s2.heap.FunFrames X.base (X.env::X.outer):=by rw [← hstk]; exact st
  have sf:∀ b∈frs (X.env::X.outer),H2 b=none:=by rw [← hstk]; exact sf
  show wpAny (model X.prog X.w) X.A (noteFrame (.ref a) X.env) _ _ s2
  refine noted (P:=X.prog) (w:=X.w) hf hfrm st hok sf (fun b o e=>un.there b o e fun z=>nomatch z) x (.inr rfl) fun h3 G3 ok3 y3=>?_
  rw [← hstk] at G3
  have q3:=h0.step x G3 ok3 y3
  have I6:=q3.inv J
  have I7:Inv X pins σ H2 { s2 with heap:=h3 }:=by
   refine I3.call' (ch:=fp) I6.os I6.base I6.hok I6.bare fun b hb=>?_
   obtain ⟨_,f1,_,f3,f4,f5⟩:=hf3 b hb
   exact ⟨f3,f1,f4,f5⟩
  obtain ⟨mC,hnC,_⟩:=I6.loc
  obtain ⟨ys,y⟩:=q3.exc
  obtain ⟨mC0,⟨oC,_,_,hC0,_⟩,_⟩:=J.loc
  refine hE D C _ H2 a cls _ ys s1.heap I7 y (fun b o e=>?_) ⟨_,hC0⟩ q Cne ⟨mC,hnC⟩ (I3.fpOk (by rw [hC]; exact Nat.le_refl _) I6.free)
  obtain ⟨o1,e1⟩:=I3.base.there b o e (by rw [hex]; exact fun z=>nomatch z)
  exact J.base.there b o1 e1 fun z=>by
   obtain ⟨_,f1,_,f3,_⟩:=hf3 b z
   rcases f3 with f3 | f3
   ·rw [hex] at f3; exact nomatch f3
   ·exact absurd (Heap.lt_size e) (Nat.not_lt.mpr f3))
 have I4:=I4.inner EE
 generalize hY:(compCx X (own++fr.map (·.1)) scope cl2 C s3 (upd H D (.lst [])) fp).inner [] EE=Y at pG pF pE
 have I4:Inv Y [] (stComp own fr σ) (upd H D (.lst [])) s4:=by rw [← hY]; exact I4
 have yP:Y.prog=X.prog:=by rw [← hY]; rfl
 have yw:Y.w=X.w:=by rw [← hY]; rfl
 have yK:Y.K=X.K:=by rw [← hY]; rfl
 have yA:Y.A=X.A:=by rw [← hY]; rfl
 have yc:Y.calm=true:=by rw [← hY]; exact hc
 have yx:Y.xe=EE:=by subst hY; rfl
 have yfs:Y.fs=frs X.stack:=by rw [← hY]; rfl
 have yex:Y.ex=fp:=by rw [← hY]; rfl
 have yH:Y.H₀=upd H D (.lst []):=by rw [← hY]; rfl
 have ys:Y.s₀=s3:=by rw [← hY]; rfl
 have yl:Y.env.locals=C:=by rw [← hY]; rfl
 have ypn:Y.pn=[]:=by rw [← hY]
 have ycl:Y.env.cells=cl2:=by rw [← hY]; rfl
 have yenv:Y.env=compEnvC scope cl2 C X.env:=by rw [← hY]; rfl
 have e5:{ (newEnv scope C X.env.globals cl2 X.env.qual none .none (some X.env) builtinsNs:Env) with scope:=relabel scope X.env } = Y.env:=by rw [yenv]; rfl
 have hCe:(newEnv scope C X.env.globals cl2 X.env.qual none .none (some X.env) builtinsNs:Env).locals=C:=rfl
 have fpY:∀{H':Hp},(∀ b∈fp,H' b=none)→∀ b∈fp,FpOk Y [] H' b:=fun hn b hb=>by
  obtain ⟨o,ho,_⟩:=T.obj _ _ st3 b hb
  have hlt:=Heap.lt_size ho
  refine ⟨hn b hb,?_,?_,.inl (by rw [yex]; exact hb),fun x c e=>?_,fun p hp=>?_⟩
  ·rw [yl,← hC]; exact Nat.ne_of_lt hlt
  ·rw [yfs]
   intro z
   obtain ⟨_,f1,f2,_⟩:=hf b hb
   rcases List.mem_cons.mp (I.stkSub b z) with e | e
   ·exact f1 e
   ·exact f2 e
  ·rw [ycl] at e
   exact far b hb x c e
  ·rw [ypn] at hp
   cases hp
 have hEE:Y.xe=notedBy (model X.prog X.w) X.A Y.env fun x s'=>RR (.ref D) C (.error x) s':=by rw [yx,yenv]
 have main:codeAny (model X.prog X.w) X.A (.compLoop (.ListComp elt [⟨tg,iter,ifs,0⟩] scope pos) 0 (.ref it) (.ref D) Y.env) (RR (.ref D) C) s4:=by
  refine compLoop_anyX hEE (fun n s'=>∃ i ys σ' H',Inv Y [] σ' H' s'∧tn i s'.heap∧(∀ b∈fp,H' b=none)∧W i n ys σ' H') ?_ m0 ⟨0,[],_,_,I4,st4,fun b hb=>(hf3 b hb).1,w0⟩
  rintro n s5 ⟨i,ys5,σ5,H5,I5,st5,fr5,w5⟩
  obtain ⟨hD5,hw⟩:=turn i n ys5 σ5 H5 w5
  rcases hw with ⟨stop,q⟩ | ⟨go,hz,N,hN,step⟩
  ·have:=T.done Y yP yw yK yc i [] s5 σ5 H5 Y.xe I5 (fpY fr5) st5 stop
   rw [yA] at this
   refine thn this fun r s6 ⟨hr,I6⟩=>?_
   subst hr
   have I7:Inv X pins σ H5 s6:=by
    refine I3.call' (ch:=fp) (H':=H5) ?_ ?_ ?_ I6.bare fun b hb=>?_
    ·rw [← ys]; exact I6.os
    ·have:=I6.base
     rw [yfs,yex,yH,ys] at this
     exact this
    ·have:=I6.hok
     rw [yP,yw] at this
     exact this
    ·obtain ⟨_,f1,_,f3,f4,f5⟩:=hf b hb
     exact ⟨f3,f1,f4,f5⟩
   obtain ⟨mC,hnC,_⟩:=I6.loc
   rw [yl] at hnC
   refine hR D C s6 H5 I7 q Cne ⟨mC,hnC⟩ ?_ ?_
   ·refine I3.fpOk (by rw [hC]; exact Nat.le_refl _) ?_
    have:=I6.free
    rw [yl] at this
    exact this
   ·obtain ⟨o,_,_,ho,_⟩:=hnC
    exact ⟨o,ho⟩
  ·have h5:=T.item Y yP yw yK yc i [] s5 σ5 H5 Y.xe I5 (fpY fr5) st5 go
   rw [yA] at h5
   refine thn h5 fun r s6 ⟨u,hr,h6⟩=>?_
   subst hr
   refine thn h6 fun _ s7 ⟨x,H7,I7,r7,y7,st7,fr7⟩=>?_
   have I7':=I7.pinned (fpY fr7) (T.obj _ _ st7)
   have h8:=pG _ s7 σ5 H7 x u _ I7' r7 (step x H7 y7)
   rw [yP,yw,yA] at h8
   refine thn h8 fun _ s8 ⟨σ8,H8,I8,q8⟩=>?_
   have h9:=pF _ s8 σ8 H8 _ I8 q8
   rw [yP,yw,yA] at h9
   refine thn h9 fun b s9 ⟨H9,I9,q9⟩=>?_
   have again:∀{ys':List V} {σ':St} {H':Hp} {s':Shared},Inv Y ([]++pinsAt fp s7.heap) σ' H' s'→N ys' σ' H'→∃ m,m<n∧∃ i ys σ' H',Inv Y [] σ' H' s'∧tn i s'.heap∧(∀ b∈fp,H' b=none)∧W i m ys σ' H':=fun {ys' σ' H' s'} I' n'=>by
    obtain ⟨m',hm,w'⟩:=hN ys' σ' H' n'
    refine ⟨m',hm,i+1,ys',σ',H',I'.unpinned,T.keep _ _ _ st7 fun b hb o e=>(I'.pin (b,o) (List.mem_append_right _ (List.mem_append_right _ (mem_pinsAt hb e)))).1,fun b hb=>?_,w'⟩
    obtain ⟨o,e,d⟩:=T.obj _ _ st7 b hb
    exact (I'.pin (b,o) (List.mem_append_right _ (List.mem_append_right _ (mem_pinsAt hb e)))).2.1
   cases b with
   | false=>
    simp only [Bool.false_eq_true,if_false] at q9 ⊢
    exact again I9 q9
   | true=>
    simp only [if_true] at q9 ⊢
    have h10:=pE _ s9 σ8 H9 _ I9 q9
    rw [yP,yw,yA] at h10
    refine thn h10 fun y s10 ⟨z,H10,I10,r10,hD10,n10⟩=>?_
    have h11:=mt_append (X:=Y) _ s10 σ8 H10 (.ref D) [z] (.ref D) [y] (fun _ H'=>N (ys5++[z]) σ8 H') I10 rfl (.cons r10 .nil) ⟨D,ys5,z,rfl,rfl,hD10,hz,n10⟩
    rw [yP,yw,yA] at h11
    refine thn h11 fun _ s11 ⟨_,H11,I11,_,n11⟩=>?_
    exact again I11 n11
 have start:codeAny (model X.prog X.w) X.A (.compStart (.ListComp elt [⟨tg,iter,ifs,0⟩] scope pos) 0 (.ref it) (.ref D) Y.env) (RR (.ref D) C) s4:=
  codeAny_compStart_list main (T.self X.A 0 s4 _ _ st4 main)
 have goal:codeAny (model X.prog X.w) X.A (.compStart (.ListComp elt [⟨tg,iter,ifs,0⟩] scope pos) 0 (.ref it) (.ref D) { (newEnv scope C X.env.globals cl2 X.env.qual none .none (some X.env) builtinsNs:Env) with scope:=relabel scope X.env }) (RR (.ref D) (newEnv scope C X.env.globals cl2 X.env.qual none .none (some X.env) builtinsNs:Env).locals) s4:=by
  rw [e5,hCe]; exact start
 subst hC hD
 exact goal
end
theorem marked {M:Model} {A:Around} {E:Value→Shared→Prop} {s:Shared} {P:Program} {w:World} {base g:Heap} {l:List Env} {e:Addr} {cls v:Value} {xs:List Addr} {H:Hp} {Q:Unit→Shared→Prop} (f:Option Addr) (hl:s.heap.FunFrames base l) (hH:HOk P w H s.heap) (frf:∀ b∈frs l,H b=none) (x:ExcAt g s.heap H e cls (some v) xs)
  (h:∀ h' v',Gone s.heap h' l xs→HOk P w H h'→ExcAt g h' H e cls (some v') xs→Q () { s with heap:=h' }):wpAny M A (setFlight (.ref e) f) Q E s:=by
 obtain ⟨oe,vs,he,hc,hdi,hd,T,oT,ts,hv,ne,tx,hT,hdT,h3⟩:=x.obj
 have t3:3<ts.size:=(Array.getElem?_eq_some_iff.mp h3).1
 have nTf:T∉frs l:=fun m=>by
  obtain ⟨_,o,q,z⟩:=hl.mem m
  rw [hT] at q
  cases q
  exact z ts hdT
 unfold setFlight
 refine wpAny_bind (wpAny_field he hd hv ?_)
 rw [if_pos (ref_there T)]
 generalize (f.elim Value.none fun f=>rawInt f)=v'
 have p3:=(fields_put oT hdT 3 v').2.2
 have other:∀ b,b≠T→(s.heap.update T (Obj.mapFields (·.setIfInBounds 3 v'))).get? b=s.heap.get? b:=fun b n=>Heap.get?_update_other _ _ (Ne.symm n)
 have G:Gone s.heap (s.heap.update T (Obj.mapFields (·.setIfInBounds 3 v'))) l xs:=⟨fun b o q n m=>(other b fun z=>m (z ▸ tx)).trans q,fun b o q m=>⟨o.slots,(other b fun z=>nTf (z ▸ m)).trans q⟩⟩
 refine wpAny_setField hT hdT t3 (h _ v' G (hH.gone G frf fun b m=>(x.own b m).2) ⟨x.me,x.own,oe,vs,(other e (Ne.symm ne)).trans he,hc,hdi,hd,T,_,_,hv,ne,tx,Heap.get?_update_self _ hT (Obj.isFreed_of_fields p3),p3,?_⟩)
 rw [Array.getElem?_setIfInBounds_self_of_lt t3]
theorem leaveV {M:Model} {A:Around} {E:Value→Shared→Prop} {s:Shared} {P:Program} {w:World} {base g:Heap} {env:Env} {outer:List Env} {L e:Addr} {cls v:Value} {xs:List Addr} {H:Hp} {Q:Unit→Shared→Prop} (hfr:A.frames=some (env::outer)) (hf:env.frame=some L) (hl:s.heap.FunFrames base (env::outer)) (hH:HOk P w H s.heap) (frf:∀ b∈frs (env::outer),H b=none) (gs:∀ b o,g.get? b=some o→∃ o',s.heap.get? b=some o')
  (x:ExcAt g s.heap H e cls (some v) xs) (h:∀ h',(∀ b o,g.get? b=some o→∀ u,s.heap.get? b=some u→(b∉frs (env::outer)→h'.get? b=some u)∧(b∈frs (env::outer)→∃ sl,h'.get? b=some { u with slots:=sl }))→HOk P w H h'→(∃ ys,ExcAt g h' H e cls (some .none) ys)→Q () { s with heap:=h' }):wpAny M A (leaving env (.ref e)) Q E s:=by
 have far:∀{h:Heap} {fl:Option Value} {xs:List Addr},ExcAt g h H e cls fl xs→∀ b o,g.get? b=some o→b∉xs:=fun x b o q m=>by
  rw [(x.own b m).1] at q
  cases q
 obtain ⟨oe,vs,he,hc,hdi,hd,T,oT,ts,hv,ne,tx,hT,hdT,h3⟩:=x.obj
 by_cases z:(v == rawInt L)=true
 ·unfold leaving noteFrame
  simp only [hf]
  refine wpAny_bind (wpAny_bind (wpAny_field he hd hv (if_pos (ref_there T) ▸ wpAny_bind (wpAny_field hT hdT h3 ?_))))
  rw [if_pos z]
  refine wpAny_pure (landed hl hH frf x fun h2 G2 ok2 y=>h h2 (fun b o q u q'=>⟨fun n=>G2.keep b u q' n (far x b o q),fun m=>G2.slot b u q' m⟩) ok2 y)
 ·have t3:3<ts.size:=(Array.getElem?_eq_some_iff.mp h3).1
  have nTf:T∉frs (env::outer):=fun m=>by
   obtain ⟨_,o,q,y⟩:=hl.mem m
   rw [hT] at q
   cases q
   exact y ts hdT
  have v1:1<vs.size:=(Array.getElem?_eq_some_iff.mp hv).1
  have other:∀ b,b≠T→(s.heap.update T (Obj.mapFields (·.setIfInBounds 3 .none))).get? b=s.heap.get? b:=fun b n=>Heap.get?_update_other _ _ (Ne.symm n)
  have nf:e∉frs (env::outer):=x.noFrame hl
  have new:s.heap.get? s.heap.objs.size=none:=by
   cases q:s.heap.get? s.heap.objs.size with
   | none=>rfl
   | some o=>exact absurd (Heap.lt_size q) (Nat.lt_irrefl _)
  have fresh:g.get? s.heap.objs.size=none∧H s.heap.objs.size=none:=by
   constructor
   ·cases q:g.get? s.heap.objs.size with
    | none=>rfl
    | some o=>
     obtain ⟨o',q'⟩:=gs _ o q
     rw [new] at q'
     cases q'
   ·exact hH.fresh (Nat.le_refl _)
  unfold leaving noteFrame
  simp only [hf]
  refine wpAny_bind (wpAny_bind (wpAny_field he hd hv (if_pos (ref_there T) ▸ wpAny_bind (wpAny_field hT hdT h3 ?_))))
  rw [if_neg z]
  refine wpAny_bind (wpAny_setField hT hdT t3 ?_)
  refine entered hfr hf (hl.of_keeps fun b o q n=>⟨o,(other b fun z=>?_).trans q,rfl⟩) ((other e (Ne.symm ne)).trans he) hd v1 fun h' oT' ts' G q1 q2 q3 q4=>?_
  ·rw [z,hT] at q
   cases q
   exact n ts hdT
  rw [show (s.heap.update T (Obj.mapFields (·.setIfInBounds 3 .none))).objs.size=s.heap.objs.size from Heap.size_after_update ..] at q1 q2
  have G1:Gone s.heap h' (env::outer) xs:=⟨fun b o q n m=>G.keep b o ((other b fun z=>m (z ▸ tx)).trans q) n fun z=>m (List.mem_singleton.mp z ▸ x.me),fun b o q m=>G.slot b o ((other b fun z=>nTf (z ▸ m)).trans q) m⟩
  obtain ⟨p1,p2,p3⟩:=fields_put oe hd 1 (.ref s.heap.objs.size)
  have ok1:=hH.gone G1 frf fun b m=>(x.own b m).2
  have y:ExcAt g h' H e cls (some (rawInt L)) [e,s.heap.objs.size]:=by
   refine ⟨.head _,fun b m=>?_,_,_,q1,p1.trans hc,p2.trans hdi,p3,_,oT',ts',?_,Nat.ne_of_gt (Heap.lt_size he),.tail _ (.head _),q2,q3,q4⟩
   ·rcases List.mem_cons.mp m with rfl | m
    ·exact x.own _ x.me
    ·rw [List.mem_singleton.mp m]
     exact fresh
   ·rw [Array.getElem?_setIfInBounds_self_of_lt v1]
  refine landed (s:={ s with heap:=h' }) (frames_slots hl fun b m o q=>G1.slot b o q m) ok1 frf y fun h2 G2 ok2 z2=>h h2 (fun b o q u q'=>⟨fun n=>?_,fun m=>?_⟩) ok2 z2
  ·exact G2.keep b u (G1.keep b u q' n (far x b o q)) n (far y b o q)
  ·obtain ⟨sl,e1⟩:=G1.slot b u q' m
   obtain ⟨sl2,e2⟩:=G2.slot b _ e1 m
   exact ⟨sl2,e2⟩
section
variable {P:Program} {w:World} {K:PySem.W.Frag} {mg:Str→Option Value} {base:Heap} {N:List Str} {qual:Str} {scope:Scope} {f:Addr} {cd:Value} {A:Around} {outer:List Env} {s:Shared} {H:Hp} {E:XK}
theorem flyV {pins:List (Addr×Obj)} {σ:St} {H1:Hp} {s1:Shared} {h3:Heap} {a:Addr} {cls v v':Value} {xs:List Addr} (I:Inv (cxOf (CXA P w) P w K mg base N qual scope f cd A outer s H E) pins σ H1 s1) (x:ExcAt s.heap s1.heap H1 a cls (some v) xs)
  (G3:Gone s1.heap h3 (envOfC qual scope s.heap.objs.size f cd::outer) xs) (ok3:HOk P w H1 h3) (y:ExcAt s.heap h3 H1 a cls (some v') xs) (q:E cls none H1) :
  (cxOf (CXA P w) P w K mg base N qual scope f cd A outer s H E).xe (.ref a) { s1 with heap:=h3 }:=by
 have nL:∀ b o,s.heap.get? b=some o→b∉frs outer→b∉frs (envOfC qual scope s.heap.objs.size f cd::outer):=fun b o e n m=>by
  have m':b∈s.heap.objs.size::frs outer:=m
  rcases List.mem_cons.mp m' with z | z
  ·exact absurd (Heap.lt_size e) (by rw [z]; exact Nat.lt_irrefl _)
  ·exact n z
 have nx:∀ b o,s.heap.get? b=some o→b∉xs:=fun b o e m=>by
  rw [(x.own b m).1] at e
  cases e
 have th:∀ b o,s.heap.get? b=some o→∃ o',h3.get? b=some o':=fun b o e=>by
  obtain ⟨o1,e1⟩:=I.base.there b o e fun z=>nomatch z
  by_cases m:b∈frs (envOfC qual scope s.heap.objs.size f cd::outer)
  ·obtain ⟨sl,e2⟩:=G3.slot b _ e1 m
   exact ⟨_,e2⟩
  ·exact ⟨_,G3.keep b _ e1 m (nx b o e)⟩
 refine leaveV (P:=P) (w:=w) (s:={ s1 with heap:=h3 }) I.ok.frames rfl (frames_slots I.stack fun b m o q=>G3.slot b o q m) ok3 I.stkFree th y fun h' G ok ⟨ys,z⟩=>?_
 refine ⟨a,cls,H1,ys,rfl,I.os,I.bare,⟨fun b o e n hb _=>?_,fun b o e n hb _=>?_,fun b o e n _=>I.base.free b o e n (fun z=>nomatch z),fun b o e _=>?_,I.base.tups,I.base.frzs,I.base.tbls⟩,ok,z,q⟩
 ·exact (G b o e o (G3.keep b o (I.base.keep b o e n hb fun z=>nomatch z) (nL b o e hb) (nx b o e))).1 (nL b o e hb)
 ·obtain ⟨sl,e1⟩:=I.base.slot b o e n hb fun z=>nomatch z
  obtain ⟨sl1,e2⟩:=G3.slot b _ e1 (List.mem_cons_of_mem _ hb)
  obtain ⟨sl2,e3⟩:=(G b o e _ e2).2 (List.mem_cons_of_mem _ hb)
  exact ⟨sl2,e3⟩
 ·obtain ⟨o1,e1⟩:=th b o e
  by_cases m:b∈frs (envOfC qual scope s.heap.objs.size f cd::outer)
  ·obtain ⟨sl2,e2⟩:=(G b o e _ e1).2 m
   exact ⟨_,e2⟩
  ·exact ⟨_,(G b o e _ e1).1 m⟩
theorem pe_compX {own:List Str} {fr:List (Str×Nat)} {sc:Scope} {elt tg iter:Expr} {ifs:List Expr} {pos:Pos} {wi:TI} {g:TG} {tt:TT} {te:TE} (S:CompScope (cxOf (CXA P w) P w K mg base N qual scope f cd A outer s H E) own fr sc) (hi:PI (cxOf (CXA P w) P w K mg base N qual scope f cd A outer s H E) tg iter wi)
  (hB:∀(cl:List (Str×Addr)) (C:Addr) (s0:Shared) (H0:Hp) (fp:List Addr) (xe:Value→Shared→Prop),Passes (CXA P w) ((compCx (cxOf (CXA P w) P w K mg base N qual scope f cd A outer s H E) (own++fr.map (·.1)) sc cl C s0 H0 fp).inner [] xe) E→
   PG ((compCx (cxOf (CXA P w) P w K mg base N qual scope f cd A outer s H E) (own++fr.map (·.1)) sc cl C s0 H0 fp).inner [] xe) tg g∧PF ((compCx (cxOf (CXA P w) P w K mg base N qual scope f cd A outer s H E) (own++fr.map (·.1)) sc cl C s0 H0 fp).inner [] xe) ifs tt∧PE ((compCx (cxOf (CXA P w) P w K mg base N qual scope f cd A outer s H E) (own++fr.map (·.1)) sc cl C s0 H0 fp).inner [] xe) elt te)
  (hs:∀ x,foldedSetIterable iter (cxOf (CXA P w) P w K mg base N qual scope f cd A outer s H E).env x=pure x:=by intro _; rfl):PE (cxOf (CXA P w) P w K mg base N qual scope f cd A outer s H E) (.ListComp elt [⟨tg,iter,ifs,0⟩] sc pos) (tComp own fr wi g tt te):=by
 intro pins s7 σ H7 Q I h
 obtain ⟨cl,e1,e2,e3⟩:=closure_of (S.has I.ok)
 rw [eval_ListComp]
 refine wpAny_comprehension_free (use:=none) rfl hs e1 S.kind S.names (thn (hi pins s7 σ H7 _ I h) fun v s1 h1=>thn h1 fun itv s2 h2=>?_)
 obtain ⟨it,fp,tn,J,H2,e,I2,T,st2,f2,body⟩:=h2
 subst e
 refine comp_runX (EX:=E) (Q:=fun D H'=>Q (.ref D) H') (RR:=fun acc C=>compPost (model P w) (A.deeper (envOfC qual scope s.heap.objs.size f cd)) (cxOf (CXA P w) P w K mg base N qual scope f cd A outer s H E).xe none (EP (cxOf (CXA P w) P w K mg base N qual scope f cd A outer s H E) pins σ Q) acc C) rfl S I2 e2 e3 T st2 f2 rfl rfl rfl (fun cl' C s0 H0 xe hx=>hB cl' C s0 H0 fp xe hx) ?_ body ?_
 ·intro D C s' H' a cls v xs g I' x gk ⟨oC,hC⟩ q hne ⟨m,hn⟩ ⟨f0,f1,f2',f3,f4,f5⟩
  refine ⟨m,hn,fun h'' hs'' cenv _=>?_⟩
  have nC:∀ b∈xs,b≠C:=fun b hb z=>by
   have:=(x.own b hb).1
   rw [z,hC] at this
   cases this
  have I'':=I'.turned (it:=C) (t':=s'.toks) (fun b o hb e=>hs''.extBut b o hb e) f0 f1 f3 f4 f5
  have x0:=x.far (g':=s.heap) gk
  obtain ⟨oe,vs,he,hc,hdi,hd,T,oT,ts,hv,ne,tx,hT,hdT,h3⟩:=x0.obj
  have he':=hs''.extBut a _ (nC a x.me) he
  have x'':ExcAt s.heap h'' H' a cls (some v) xs:=⟨x0.me,x0.own,oe,vs,he',hc,hdi,hd,T,oT,ts,hv,ne,tx,hs''.extBut T _ (nC T tx) hT,hdT,h3⟩
  unfold PySem.passOn
  refine wpAny_bind (wpAny_field he' hd hv ?_)
  rw [if_neg (show ¬ (Value.ref T == Value.none)=true from fun z=>Bool.noConfusion (show false=true from z))]
  refine wpAny_bind (marked (P:=P) (w:=w) (s:={ s' with heap:=h'' }) cenv.frame I''.stack I''.hok I''.stkFree x'' fun h9 v' G9 ok9 y9=>wpAny_throw ?_)
  exact flyV I'' x'' G9 ok9 y9 q
 ·intro D C s' H' I' q hne ⟨m,hn⟩ ⟨f0,f1,f2',f3,f4,f5⟩ _
  exact ⟨m,hn,fun h'' hs''=>⟨.ref D,H',I'.turned (it:=C) (t':=s'.toks) (fun b o hb e=>hs''.extBut b o hb e) f0 f1 f3 f4 f5,rfl,q⟩⟩
end
end L2
namespace LSo
open PySem PySem.W PyProof.Rows
section
variable {O:KeyOrd} {key:Nat→O.α} {N:Nat} {cmp:Nat→Nat→(Bool→Shared→Prop)→Shared→Prop} {s:Shared}
end
section
variable {N:Nat} {cmp:Nat→Nat→(Bool→Shared→Prop)→Shared→Prop} {s:Shared}
end
section
variable {prog:Program} {w:World} {A:Around} {E:Value→Shared→Prop} {s:Shared} {O:KeyOrd} {key:Nat→O.α}
theorem fin_len {a b:List Int}:∀ ns' ms':List Int,ns'.length+b.length=ms'.length+a.length→(ns'=[]∨ms'=[])→HT.lexLt ns' ms'=decide (a.length<b.length)
 | [],[],h,_=>by
  rw [HT.lexLt_nil_nil]
  simp only [List.length_nil] at h
  exact (decide_eq_false (by omega)).symm
 | [],_::_,h,_=>by
  rw [HT.lexLt_nil_cons]
  simp only [List.length_nil,List.length_cons] at h
  exact (decide_eq_true (by omega)).symm
 | _::_,[],h,_=>by
  rw [HT.lexLt_cons_nil]
  simp only [List.length_nil,List.length_cons] at h
  exact (decide_eq_false (by omega)).symm
 | _::_,_::_,_,h=>by rcases h with h | h <;> cases h
def Rows (h:Heap):List Value→List (List Int)→Prop
 | [],[]=>True
 | v::vs,ns::nss=>(∃ b its,v=.ref b∧IsTup h b its∧IntsAre its.toList ns∧ns≠[])∧Rows h vs nss
 | _,_=>False
end
end LSo
namespace L2
open PySem PySem.Spec PyProof.Rows
section
variable {X:Cx} {pins:List (Addr×Obj)} {σ:St} {H:Hp} {s:Shared}
end
end L2
namespace LSo
open PySem PySem.W PyProof.Rows
section
variable {prog:Program} {w:World} {A:Around} {E:Value→Shared→Prop} {s:Shared} {κ:SortKind} {S:Keyed→Prop} {key:Keyed→Nat}
end
section
variable {α:Type} (key:α→Nat)
end
section
variable {prog:Program} {w:World} {A:Around} {E:Value→Shared→Prop} {s:Shared} {κ:SortKind} {S:Keyed→Prop} {key:Keyed→Nat}
end
section
variable {key:Keyed→Nat} {a b out:Array Keyed} {ia ib k:Nat}
end
section
variable {prog:Program} {w:World} {A:Around} {E:Value→Shared→Prop} {s:Shared} {κ:SortKind} {S:Keyed→Prop} {key:Keyed→Nat}
end
section
variable {key:Keyed→Nat} {a b out:Array Keyed} {na nb k:Nat}
end
section
variable {prog:Program} {w:World} {A:Around} {E:Value→Shared→Prop} {s:Shared} {κ:SortKind} {S:Keyed→Prop} {key:Keyed→Nat}
end
section
variable {prog:Program} {w:World} {A:Around} {E:Value→Shared→Prop} {s:Shared} {κ:SortKind} {S:Keyed→Prop} {key:Keyed→Nat} {a0:Array Keyed} {p0:Array (Nat×Nat×Nat)}
end
section
variable {prog:Program} {w:World} {A:Around} {E:Value→Shared→Prop} {s:Shared} {κ:SortKind} {S:Keyed→Prop} {key:Keyed→Nat} {a0:Array Keyed} {p0:Array (Nat×Nat×Nat)}
end
section
variable {key:Keyed→Nat} {a b:Array Keyed}
end
section
variable {prog:Program} {w:World} {A:Around} {E:Value→Shared→Prop} {s:Shared} {κ:SortKind} {S:Keyed→Prop} {key:Keyed→Nat} {a0:Array Keyed}
end
section
variable {key:Keyed→Nat} {a:Array Keyed}
end
section
variable {prog:Program} {w:World} {A:Around} {E:Value→Shared→Prop} {s:Shared} {κ:SortKind} {S:Keyed→Prop} {key:Keyed→Nat} {a0:Array Keyed}
end
section
variable {prog:Program} {w:World} {A:Around} {E:Value→Shared→Prop} {s:Shared}
end
end LSo
namespace L2
open PySem PySem.Spec PyProof.Rows
section
variable {X:Cx} {pins:List (Addr×Obj)} {σ:St} {H:Hp} {s:Shared}
end
end L2
namespace LSo
open PySem PySem.W PyProof.Rows
section
variable {prog:Program} {w:World} {A:Around} {E:Value→Shared→Prop} {s:Shared}
end
end LSo
namespace L2
open PySem PySem.Spec PyProof.Rows
section
variable {X:Cx} {pins:List (Addr×Obj)} {σ:St} {H:Hp} {s:Shared}
end
end L2
namespace LTu
open PySem PyProof.Rows HT
section
variable {s:Shared} {prog:Program} {w:World} {A:Around} {E:Value→Shared→Prop}
theorem get_whole {t sl:Addr} {items:Array Value} {vl vu:Value} {lo hi:Option Int} {Q:Value→Shared→Prop} (ht:IsTup s.heap t items) (hs:s.heap.IsSliceOf sl vl vu .none) (pl:IsPart vl lo) (pu:IsPart vu hi)
  (hw:sIx items.size 0 lo=0∧sIx items.size items.size hi=items.size) (h:Q (.ref t) s):wpAny (model prog w) A (getItem (.ref t) (.ref sl)) Q E s:=by
 obtain ⟨os,hos,hcs,hds⟩:=id hs
 have hTs:s.TypeIs (.ref sl) "slice":=⟨os,hos,hcs⟩
 unfold getItem
 try with_reducible refine wpAny_holding ?_
 first | refine wpAny_bind (wpAny_pure ?_) | skip
 refine wpAny_bind (wpAny_sequenceKey ht.typeIs (by decide) ?_)
 refine wpAny_bind (wpAny_callSpecial?_slot (name:=Str.ofString "__getitem__") ht.typeIs PyProof.Rows.slot_tuple_getitem (wpAny_call_entry PyProof.Rows.slot_tuple_getitem ht.typeIs entry_tuple_getitem ?_ (args_tuple_getitem _ _)))
 show wpAny _ _ (Builtin.Tuple.tupleItemsOf (.ref t) >>= _) _ _ s
 refine wpAny_bind (tupleItemsOf_ ht ?_)
 refine wpAny_bind (wpAny_typeOf hTs ?_)
 rw [if_pos (by decide)]
 refine wpAny_bind (sliceApplied_gen hs pl pu ?_)
 have hy:(((sIx items.size 0 lo:Nat):Int) == 0 && (1:Int) == 1 && (sIx items.size items.size hi - sIx items.size 0 lo) == items.size)=true:=by
  rw [hw.1,hw.2]
  simp
 show wpAny _ _ (if (((sIx items.size 0 lo:Nat):Int) == 0 && (1:Int) == 1 && (sIx items.size items.size hi - sIx items.size 0 lo) == items.size)=true then _ else _) _ _ s
 rw [if_pos hy]
 unfold Builtin.Tuple.tupleIsExact
 refine wpAny_bind (wpAny_bind (wpAny_typeOf ht.typeIs (wpAny_pure ?_)))
 rw [if_pos (by decide)]
 exact wpAny_bind (wpAny_rule (wpAny_pure ⟨_,rfl,wpAny_pure h⟩))
end
section
variable {s:Shared} {prog:Program} {w:World} {A:Around} {E:Value→Shared→Prop}
theorem rcGt_int (A:Around) (s:Shared) (a:Int) (t:Tok) (c:Int) (u:Tok) (prog:Program) (w:World) (E:Value→Shared→Prop) (Q:Value→Shared→Prop) (h:Q (.bool (decide (c<a))) s):wpAny (model prog w) A (richCompare .Gt (.int a t) (.int c u)) Q E s:=
 (PyProof.Rows.gt_int h:wpAny (model prog w) A (compareOp .Gt (.int a t) (.int c u)) Q E s)
section
open PySem.SeqAt
open PySem.AutoSeq1 (wpAny_loadPart')
open PySem.MeetsSeq PySem.MeetsSeq2 PySem.MeetsSeq3
theorem gt_body (l b:Addr) (items items2:Array Value) (n n2:Nat) (dd dd2:Option Addr) (sl sl2:Array (Option Value)) (ns ms:List Int) (hi:IntsAre items.toList ns) (hj:IntsAre items2.toList ms) :
  Meets (Builtin.«tuple.__gt__» ⟨[.ref l,.ref b],[]⟩)
   (fun _ R s=>s.heap.get? l=some { cls:=.type "tuple",dict:=dd,data:=.seq items n,slots:=sl }∧s.heap.get? b=some { cls:=.type "tuple",dict:=dd2,data:=.seq items2 n2,slots:=sl2 }∧R (.ok (.ret (.bool (lexLt ms ns)))) s):=
 .of_wp fun prog w A R s hq=>by
  (obtain ⟨hp,g,d,tk,os⟩:=s; obtain ⟨hl,hb,h⟩:=hq)
  have f2:=AutoSeq1.sub_tuple_tuple
  have z1:items.size=ns.length:=by rw [← hi.length]; simp
  have z2:items2.size=ms.length:=by rw [← hj.length]; simp
  wp_walk using wpAny_loadPart' hl,wpAny_loadPart' hb,wpAny_forIn_list _ (fun rest b s'=>b.1=none∧s'=⟨hp,g,d,tk,os⟩∧∃(vs ws:List Value) (ns' ms':List Int),rest=vs.zip ws∧IntsAre vs ns'∧IntsAre ws ms'∧ns'.length+items2.size=ms'.length+items.size∧R (.ok (.ret (.bool (lexLt ms' ns')))) ⟨hp,g,d,tk,os⟩) _
  case turn=>
   rintro ⟨y,x⟩ rest b s' ⟨hb',rfl,vs,ws,ns',ms',hz,hvi,hwi,hlen,hR⟩
   cases hvi with
   | nil=>(rw [List.zip_nil_left] at hz; cases hz)
   | cons a t hvi'=>
    cases hwi with
    | nil=>(rw [List.zip_nil_right] at hz; cases hz)
    | cons c u hwi'=>
     (rw [List.zip_cons_cons] at hz)
     (injection hz with hyx hrest)
     (injection hyx with hy hx)
     subst hy hx
     rw [lexLt_cons] at hR
     simp only [List.length_cons] at hlen
     obtain ⟨e,he,hiff⟩:=eqAt_int A.in1 ⟨hp,g,d,tk,os⟩ a t c u
     refine wpAny_bind (he prog w _ _ ?_)
     cases e with
     | true=>
      rw [if_pos (hiff.mp rfl).symm] at hR
      wp_walk
      exact ⟨rfl,rfl,_,_,_,_,hrest,hvi',hwi',(by omega),hR⟩
     | false=>
      rw [if_neg (fun q=>absurd (hiff.mpr q.symm) Bool.false_ne_true)] at hR
      have hri:=rcGt_int A.in1 ⟨hp,g,d,tk,os⟩ a t c u prog w
      wp_walk using hri
      exact ⟨_,rfl,by simpa using hR⟩
  case fin=>
   rintro ⟨b1,b2⟩ s' ⟨hb',rfl,vs,ws,ns',ms',hz,hvi,hwi,hlen,hR⟩
   simp only at hb'
   subst hb'
   have hv:lexLt ms' ns'=decide (items2.size<items.size):=by
    have:=LSo.fin_len (a:=ms) (b:=ns) ms' ns' (by omega) (by
     cases hvi with
     | nil=>exact .inr rfl
     | cons a t hv=>
      cases hwi with
      | nil=>exact .inl rfl
      | cons c u hw=>
       (rw [List.zip_cons_cons] at hz)
       cases hz)
    rw [this,z1,z2]
   rw [hv] at hR
   wp_walk
   exact ⟨_,rfl,by simpa [Builtin.Tuple.tupleCompareSizes] using hR⟩
  case h=>
   exact ⟨rfl,rfl,items.toList,items2.toList,ns,ms,rfl,hi,hj,by omega,h⟩
end
theorem gt_tup {l b:Addr} {items items2:Array Value} {ns ms:List Int} {Q:Value→Shared→Prop} (hl:IsTup s.heap l items) (hb:IsTup s.heap b items2) (hi:IntsAre items.toList ns) (hj:IntsAre items2.toList ms)
  (hu:A.units<cLine) (h:Q (.bool (lexLt ms ns)) s):wpAny (model prog w) A (compareOp .Gt (.ref l) (.ref b)) Q E s:=by
 obtain ⟨⟨cls,dd,data,sl⟩,ho,hc,n,hd⟩:=id hl
 obtain ⟨⟨cls2,dd2,data2,sl2⟩,ho2,hc2,n2,hd2⟩:=id hb
 simp only at hc hd hc2 hd2
 subst hc hd hc2 hd2
 exact richCompare_meets_room (op:=.Gt) ⟨_,ho,rfl⟩ ⟨_,ho2,rfl⟩ PySem.F.slot_tuple_gt PySem.F.entry_tuple_gt (PySem.F.args_tuple_gt_2 _ _) (gt_body l b items items2 n n2 dd dd2 sl sl2 ns ms hi hj)
  ⟨ho,ho2,show Value.bool (lexLt ms ns)≠Value.notImplemented∧Q (.bool (lexLt ms ns)) s from ⟨(fun x=>nomatch x),h⟩⟩ hu
theorem cat_nil {t b:Addr} {ws:List Value} {Q:Value→Shared→Prop} (ht:IsTup s.heap t ([]:List Value).toArray) (hb:IsTup s.heap b ws.toArray) (h:Q (.ref b) s):wpAny (model prog w) A (binaryOp .Add (.ref t) (.ref b)) Q E s:=by
 obtain ⟨⟨cls,dd,data,sl⟩,ho,hc,n,hd⟩:=id ht
 obtain ⟨⟨cls2,dd2,data2,sl2⟩,ho2,hc2,n2,hd2⟩:=id hb
 simp only at hc hd hc2 hd2
 subst hc hd hc2 hd2
 exact concat_meets ⟨_,ho,rfl⟩ ⟨_,ho2,rfl⟩ noFill_tuple_add seq_tuple_add PySem.F.slot_tuple_add PySem.F.entry_tuple_add (PySem.F.args_tuple_add_2 _ _) (tuple_addW0 t b _ ws.toArray n n2 dd dd2 sl sl2 (by simp)) ⟨ho,ho2,h⟩
end
end LTu
namespace L2
open PySem PySem.Spec PyProof.Rows
section
variable {X:Cx} {K:PySem.W.Frag} {e st:Expr} {te ts:TE} {pos p2:Pos}
theorem pe_globI {x:Str} {i:Int} {pos:Pos} (hg:Gl X x) (hm:∃ t,X.mg x=some (.int i t)) (hd:(x == ("__debug__" : Str))=false:=by decide):PE X (.Name x pos) (tC (.int i)):=
 hm.elim fun _ h=>pe_glob (v:=.int i) hg h ⟨_,rfl⟩ hd
def rGtT (K:PySem.W.Frag):R2:=fun x y H Q=>∃ a b ns ms,x=.ref a∧y=.ref b∧SqT K H a (ns.map V.int)∧SqT K H b (ms.map V.int)∧Q (.bl (HT.lexLt ms ns)) H
theorem op_gtT (hu:X.A.units<cLine):OpR X (compareOp .Gt) (rGtT X.K):=by
 intro pins s σ H x y v u Q I rx ry h
 obtain ⟨a,b,ns,ms,rfl,rfl,ha,hb,q⟩:=h
 cases rx
 cases ry
 obtain ⟨its,r1,p1,_⟩:=I.tuple ha
 obtain ⟨its2,r2,p2,_⟩:=I.tuple hb
 exact LTu.gt_tup p1 p2 (intsAre_of r1) (intsAre_of r2) hu ⟨.bl (HT.lexLt ms ns),H,I,rfl,q⟩
theorem opGtK (h:X.K=K) (hu:X.A.units+64<cLine):OpR X (compareOp .Gt) (fun x y H Q=>(rI0 fun i j=>.bl (decide (j<i))) x y H Q∨rGtT K x y H Q):=by subst h; exact op_gt.or (op_gtT (by omega))
def rCatU (K:PySem.W.Frag):R2:=fun x y H Q=>∃ a b xs ys,x=.ref a∧y=.ref b∧SqT K H a xs∧SqT K H b ys∧xs.length+ys.length≤sizeLine∧(xs=[]→Q (.ref b) H)∧(xs≠[]→ys=[]→Q (.ref a) H)∧(xs≠[]→ys≠[]→∀ p,H p=none→Q (.ref p) (upd H p (.tup (xs++ys))))
theorem op_catU:OpR X (binaryOp .Add) (rCatU X.K):=by
 intro pins s σ H x y v u Q I rx ry h
 obtain ⟨a,b,xs,ys,rfl,rfl,ha,hb,hz,q0,q1,q2⟩:=h
 by_cases hx:xs=[]
 ·subst hx
  cases rx
  cases ry
  obtain ⟨its,r1,p1,_⟩:=I.tuple ha
  obtain ⟨its2,r2,p2,_⟩:=I.tuple hb
  cases r1
  exact LTu.cat_nil p1 p2 ⟨.ref b,H,I,rfl,q0 rfl⟩
 ·exact op_catT pins s σ H (.ref a) (.ref b) v u Q I rx ry ⟨a,b,xs,ys,rfl,rfl,ha,hb,hx,hz,q1 hx,q2 hx⟩
theorem opBK (h:X.K=K):OpR X (binaryOp .Add) (fun x y H Q=>(rI0 fun i j=>.int (i+j)) x y H Q∨(rCatL K x y H Q∨rCatU K x y H Q)):=by subst h; exact op_add.or (op_catL.or op_catU)
def rSlU (K:PySem.W.Frag):V→Option Int→Option Int→Hp→VK→Prop:=fun x lo hi H Q=>∃ a xs,x=.ref a∧SqT K H a xs∧
 ((HT.sIx xs.length 0 lo=0∧HT.sIx xs.length xs.length hi=xs.length)→Q (.ref a) H)∧(¬ (HT.sIx xs.length 0 lo=0∧HT.sIx xs.length xs.length hi=xs.length)→∀ p,H p=none→Q (.ref p) (upd H p (.tup (cutV xs lo hi))))
theorem sl_any:SlR X (rSlU X.K):=by
 intro pins s σ H x v vl vu lo hi sl Q I rx hs pl pu h
 obtain ⟨a,xs,rfl,hx,q1,q2⟩:=h
 by_cases hw:HT.sIx xs.length 0 lo=0∧HT.sIx xs.length xs.length hi=xs.length
 ·cases rx
  obtain ⟨its,r,ht,hz⟩:=I.tuple hx
  have hlen:its.toArray.size=xs.length:=by rw [List.size_toArray]; exact r.length.symm
  refine ⟨"tuple",_,PyProof.Rows.slot_tuple_getitem.lookup,ht.typeIs,?_⟩
  exact LTu.get_whole ht hs pl pu (by rw [hlen]; exact hw) ⟨.ref a,H,I,rfl,q1 hw⟩
 ·exact sl_tup pins s σ H (.ref a) v vl vu lo hi sl Q I rx hs pl pu ⟨a,xs,rfl,hx,hw,q2 hw⟩
theorem slUK (h:X.K=K):SlR X (fun x lo hi H Q=>rSlL K x lo hi H Q∨rSlU K x lo hi H Q):=by
 subst h
 exact sl_list.or sl_any
end
section
variable {X:Cx} {a b c d:Expr} {ta tb tc td:TE} {pos:Pos}
theorem pt_chain3 {op op' op'':CmpOp} {r r' r'':R2} (ho:OpR X (compareOp op) r) (ho':OpR X (compareOp op') r') (ho'':OpR X (compareOp op'') r'') (ha:PE X a ta) (hb:PE X b tb) (hc:PE X c tc) (hd:PE X d td)
  (hm:lastMarks [op,op',op''] [b,c,d]=false:=by with_unfolding_all rfl):PT X (.Compare a [op,op',op''] [b,c,d] pos) (tTest (tChain3 r r' r'' ta tb tc td)):=by
 intro pins s σ H Q I h
 refine isTrue_chain (thn (ha pins s σ H _ I h) fun v s1 ⟨x,H1,I1,r1,q1⟩=>test_link (thn (hb pins s1 σ H1 _ I1 q1) fun u s2 ⟨y,H2,I2,r2,q2⟩=>
  thn (ho pins s2 σ H2 x y v u _ I2 r1 r2 q2) fun e s3 ⟨z,H3,I3,r3,k,ez,q3⟩=>?_)) hm
 subst ez
 cases r3
 refine wpAny_truthy_bool ?_
 cases k with
 | false=>
  obtain ⟨k',e',q'⟩:=q3
  cases e'
  exact (ite_ff ⟨H3,I3,q'⟩)
 | true=>
  refine ite_tt (test_link (thn (hc pins s3 σ H3 _ I3 q3) fun w' s4 ⟨z',H4,I4,r4,q4⟩=>thn (ho' pins s4 σ H4 y z' u w' _ I4 r2 r4 q4) fun e' s5 ⟨z2,H5,I5,r5,k',ez',q5⟩=>?_))
  subst ez'
  cases r5
  refine wpAny_truthy_bool ?_
  cases k' with
  | false=>
   obtain ⟨k2,e2,q2'⟩:=q5
   cases e2
   exact (ite_ff ⟨H5,I5,q2'⟩)
  | true=>
   refine ite_tt (test_last (thn (hd pins s5 σ H5 _ I5 q5) fun w2 s6 ⟨z3,H6,I6,r6,q6⟩=>thn (ho'' pins s6 σ H6 z' z3 w' w2 _ I6 r4 r6 q6) fun e3 s7 ⟨z4,H7,I7,r7,k3,e3',q7⟩=>?_))
   subst e3'
   cases r7
   exact wpAny_truthy_bool ⟨H7,I7,q7⟩
end
end L2
namespace LTu
open PySem PyProof.Rows HT
section
variable {s:Shared} {prog:Program} {w:World} {A:Around} {E:Value→Shared→Prop}
end
end LTu
namespace L2
open PySem PyProof.Rows HT
section
variable {X:Cx} {K:PySem.W.Frag} {e up st:Expr} {te tu ts:TE} {p2 pos:Pos}
end
end L2
namespace LTu
open PySem PyProof.Rows HT
section
variable {s:Shared} {prog:Program} {w:World} {A:Around} {E:Value→Shared→Prop}
end
end LTu
namespace L2
open PySem PyProof.Rows HT
section
variable {X:Cx} {K:PySem.W.Frag} {e lo st:Expr} {te tl ts:TE} {p2 pos:Pos}
end
end L2
namespace L2
open PySem PySem.Spec PyProof.Rows
section
variable {X:Cx}
end
def rCatS:R2:=fun x y H Q=>∃ i j,x=.str i∧y=.str j∧i.length+j.length≤sizeLine∧Q (.str (i++j)) H
section
variable {X:Cx}
theorem op_catS:OpR X (binaryOp .Add) rCatS:=op_add_str
theorem small_text:∀ i:Nat,i<10→(Str.ofString (toString ((i:Nat):Int))).length=1:=by decide
end
section
variable {X:Cx}
end
def rSplit:V→List V→Hp→VK→Prop:=fun x vs H Q=>∃ z c,x=.str z∧vs=[.str ⟨#[c]⟩]∧z.length≤1000∧∀ l,H l=none→Q (.ref l) (upd H l (.lst ((Txt.split z ⟨#[c]⟩).map V.str)))
def rJoin (K:PySem.W.Frag):V→List V→Hp→VK→Prop:=fun x vs H Q=>∃ z p ws,x=.str z∧vs=[.ref p]∧SqL K H p (ws.map V.str)∧JoinOk z ws=true∧Q (.str (Txt.join z ws)) H
section
variable {X:Cx} {pins:List (Addr×Obj)} {σ:St} {H:Hp} {s:Shared}
theorem strs_vals:∀{l:List (Str×Tok)},Vals ((l.map (·.1)).map V.str) (strValues l)
 | []=>.nil
 | (x,t)::l=>.cons ⟨t,rfl⟩ strs_vals
theorem vals_strs:∀{ws:List Str} {us:List Value},Vals (ws.map V.str) us→∃ l:List (Str×Tok),us=strValues l∧l.map (·.1)=ws
 | [],_,h=>by cases h; exact ⟨[],rfl,rfl⟩
 | w::ws,_,h=>by
  cases h with
  | cons r h=>
   obtain ⟨t,rfl⟩:=r
   obtain ⟨l,rfl,rfl⟩:=vals_strs h
   exact ⟨(w,t)::l,rfl,rfl⟩
theorem Inv.texts (I:Inv X pins σ H s) {Q:VK} {k:Nat} {l:List (Str×Tok)} (hl:l.length≤sizeLine) (q:∀ a,H a=none→Q (.ref a) (upd H a (.lst ((l.map (·.1)).map V.str)))):EP X pins σ Q (.ref s.heap.objs.size) { s with toks:=k,heap:=s.heap.push { cls:=.type "list",data:=.seq (strValues l).toArray } }:=
 ⟨.ref _,_,I.lnew (t':=k) strs_vals (by rw [List.length_map,List.length_map]; exact hl),rfl,q _ (I.hok.fresh (Nat.le_refl _))⟩
theorem mt_split:MtR X "str.split" rSplit:=by
 intro pins s σ H x vs v us Q I rx rv h
 obtain ⟨z,c,rfl,rfl,hz,q⟩:=h
 obtain ⟨t,rfl⟩:=rx
 obtain ⟨u,rfl,t',rfl⟩:=vals1 rv
 have big:1002≤sizeLine:=by decide
 have pl:=PyProof.Rows.split_le z ⟨#[c]⟩
 have self:∀ k,Txt.split z ⟨#[c]⟩=[z]→EP X pins σ Q (.ref s.heap.objs.size) { s with toks:=k,heap:=s.heap.push { cls:=.type "list",data:=.seq #[.str z t] } }:=fun k e=>
  I.texts (l:=[(z,t)]) (by show 1≤_; omega) fun a ha=>by rw [e] at q; exact q a ha
 by_cases h1:(decide (z.length<(⟨#[c]⟩:Str).length) || decide (PySem.Builtin.Str.strKind z<PySem.Builtin.Str.strKind ⟨#[c]⟩))=true
 ·exact call_meets F.slot_str_split (typeIs_str _ _ _) F.entry_str_split (F.args_str_split_2 _ _) (meets_str_split_cannot_occur z ⟨#[c]⟩ t t' h1) (self _ (if_pos h1))
 have h1':=Bool.eq_false_iff.mpr h1
 by_cases h2:(Builtin.Str.occurrences z ⟨#[c]⟩ 0 z.length (z.length+1)).isEmpty=true
 ·exact call_meets F.slot_str_split (typeIs_str _ _ _) F.entry_str_split (F.args_str_split_2 _ _) (meets_str_split_not_found z ⟨#[c]⟩ t t' h1' rfl h2) (self _ ((if_neg h1).trans (if_pos h2)))
 have e:Txt.split z ⟨#[c]⟩=Builtin.Str.partsBetween z (Builtin.Str.occurrences z ⟨#[c]⟩ 0 z.length (z.length+1)) (⟨#[c]⟩:Str).length:=(if_neg h1).trans (if_neg h2)
 rw [e] at pl q
 refine call_meets F.slot_str_split (typeIs_str _ _ _) F.entry_str_split (F.args_str_split_2 _ _) (meets_str_split_sep z ⟨#[c]⟩ t t' h1' rfl (Bool.eq_false_iff.mpr h2) (by omega) (by omega)) ?_
 rw [strsFrom_eq]
 refine I.texts ?_ ?_
 ·have:=congrArg List.length (numbered_texts s.toks (Builtin.Str.partsBetween z (Builtin.Str.occurrences z ⟨#[c]⟩ 0 z.length (z.length+1)) (⟨#[c]⟩:Str).length))
  rw [List.length_map] at this
  omega
 ·rw [numbered_texts]
  exact q
theorem mt_join {K:PySem.W.Frag} (h:X.K=K):MtR X "str.join" (rJoin K):=by
 subst h
 intro pins s σ H x vs v us Q I rx rv h
 obtain ⟨z,p,ws,rfl,rfl,hp,ok,q⟩:=h
 obtain ⟨t,rfl⟩:=rx
 obtain ⟨u,rfl,ru⟩:=vals1 rv
 cases ru
 obtain ⟨its,r,ht,hz⟩:=I.list hp
 obtain ⟨l,rfl,e⟩:=vals_strs r
 exact SC.join ht.isList e ok fun t' k=>⟨.str _,H,I.tok _,⟨_,rfl⟩,q⟩
end
section
variable {X:Cx} {pins:List (Addr×Obj)} {σ:St} {H:Hp} {s:Shared}
def figS (n:Nat):Str:=Str.ofString (toString ((n:Nat):Int))
theorem call_intS:CallR X (.type "int") (fun xs H Q=>∃ n:Nat,xs=[.str (figS n)]∧n<10∧Q (.int n) H):=by
 intro pins s σ H xs us Q I r h
 obtain ⟨n,rfl,hn,q⟩:=h
 obtain ⟨u,rfl,t,rfl⟩:=vals1 r
 exact PySem.W.KIN.call_num (by omega) (by omega) ⟨.int n,H,I.tok _,⟨_,rfl⟩,q⟩
theorem pe_globS {x z:Str} {pos:Pos} (hg:Gl X x) (hm:∃ t,X.mg x=some (.str z t)) (hd:(x == ("__debug__" : Str))=false:=by decide):PE X (.Name x pos) (tC (.str z)):=
 hm.elim fun _ h=>pe_glob (v:=.str z) hg h ⟨_,rfl⟩ hd
def tFmt (ta ts tb:TE):TE:=fun σ H Q=>ta σ H fun v H1=>∃ i:Nat,v=.int i∧i<10∧ts σ H1 fun y H2=>∃ z,y=.str z∧z.length≤100∧tb σ H2 fun u H3=>∃ j:Nat,u=.int j∧j<10∧Q (.str (figS i++z++figS j)) H3
theorem empty_app (x:Str):Str.empty++x=x:=by
 refine Str.ext' ?_
 show #[]++x.cps=x.cps
 exact Array.empty_append ..
theorem fig_len {n:Nat} (h:n<10):(figS n).length=1:=small_text n h
theorem pe_fmt {a c b:Expr} {ta ts tb:TE} {p1 p2 p3 pos} (ha:PE X a ta) (hs:PE X c ts) (hb:PE X b tb):PE X (.JoinedStr [.FormattedValue a (-1) none p1,.FormattedValue c (-1) none p2,.FormattedValue b (-1) none p3] pos) (tFmt ta ts tb):=by
 intro pins s σ H Q I h
 have big:1000≤sizeLine:=by decide
 have small:∀ i:Nat,i<10→(((i:Nat):Int)).natAbs.log2<1920:=fun i hi=>Nat.lt_of_le_of_lt (Nat.log2_le_self _) (by rw [Int.natAbs_natCast]; omega)
 refine JoinedStr_many (joinParts_cons (FormattedValue_plain (thn (ha pins s σ H _ I h) fun v s1 ⟨x,H1,I1,r1,i,e,i1,q1⟩=>?_)))
 subst e
 obtain ⟨t,rfl⟩:=r1
 have l1:(Str.empty++figS i).length=1:=by rw [strLen_append,fig_len i1]; rfl
 refine formatField_int_small (small i i1) ?_
 refine ⟨by show (Str.empty++figS i).length≤_; omega,joinParts_cons (FormattedValue_plain (thn (hs pins _ σ H1 _ (I1.tok _) q1) fun v2 s2 ⟨y,H2,I2,r2,z,e2,z1,q2⟩=>?_))⟩
 subst e2
 obtain ⟨t2,rfl⟩:=r2
 have l2:((Str.empty++figS i)++z).length=1+z.length:=by rw [strLen_append,l1]
 refine formatField_str (fun t' tk=>⟨by show ((Str.empty++figS i)++z).length≤_; omega,?_⟩) (by omega)
 refine joinParts_cons (FormattedValue_plain (thn (hb pins _ σ H2 _ (I2.tok _) q2) fun v3 s3 ⟨y3,H3,I3,r3,j,e3,j1,q3⟩=>?_))
 subst e3
 obtain ⟨t3,rfl⟩:=r3
 refine formatField_int_small (small j j1) ?_
 have l3:((Str.empty++figS i)++z++figS j).length≤sizeLine:=by rw [strLen_append,l2,fig_len j1]; omega
 refine ⟨l3,joinParts_nil ⟨.str _,H3,(I3.tok _).tok _,⟨_,rfl⟩,?_⟩ l3⟩
 show Q (.str (Str.empty++figS i++z++figS j)) H3
 rw [empty_app]
 exact q3
end
section
variable {X:Cx}
end
def rSlS:V→Option Int→Option Int→Hp→VK→Prop:=fun x lo hi H Q=>∃ z,x=.str z∧z.length≤1000∧∀ y,y.length≤z.length→Q (.str y) H
def digS:Str:=Str.ofString "0123456789"
def rIdxF:V→List V→Hp→VK→Prop:=fun x vs H Q=>∃ n:Nat,x=.str digS∧vs=[.str ⟨#[48+n]⟩]∧n<10∧Q (.int n) H
section
variable {X:Cx}
theorem picked_le (z:Str) (l u:Option (Int×Tok)):(slicePicked z l u none).length≤z.length:=indices_len_le _ _ z.length
theorem sl_S:SlR X rSlS:=by
 intro pins s σ H x v vl vu lo hi sl Q I rx hs pl pu h
 obtain ⟨z,rfl,hz,q⟩:=h
 obtain ⟨t,rfl⟩:=rx
 have big:1000≤sizeLine:=by decide
 refine ⟨"str",_,F.slot_str_getitem.lookup,typeIs_str s _ t,?_⟩
 have done:∀(l u:Option (Int×Tok)),s.heap.IsSlice sl l u none→wpAny (model X.prog X.w) X.A (getItem (.str z t) (.ref sl)) (EP X pins σ Q) X.xe s:=fun l u hsl=>by
  refine wpAny_getItem_str_slice (l:=l) (u:=u) (st:=none) hsl rfl ?_
  unfold sliceMade
  split
  ·exact ⟨.str _,H,I.tok _,⟨_,rfl⟩,q z (Nat.le_refl _)⟩
  ·have hl:((slicePicked z l u none).filterMap (z.cps[·]?)).toArray.size≤z.length:=by
    rw [List.size_toArray]
    exact Nat.le_trans (List.length_filterMap_le _ _) (picked_le z l u)
   exact ⟨Nat.le_trans hl (Nat.le_trans hz big),.str _,H,I.tok _,⟨_,rfl⟩,q _ hl⟩
 cases pl with
 | none=>
  cases pu with
  | none=>exact done none none hs
  | int j t'=>exact done none (some (j,t')) hs
 | int i t1=>
  cases pu with
  | none=>exact done (some (i,t1)) none hs
  | int j t'=>exact done (some (i,t1)) (some (j,t')) hs
theorem dig_at:∀ n:Nat,n<10→∃ r,Builtin.Str.occurrences digS ⟨#[48+n]⟩ 0 digS.length 1=n::r:=by
 intro n hn
 have all:∀ n:Nat,n<10→Builtin.Str.occurrences digS ⟨#[48+n]⟩ 0 digS.length 1=[n]:=by decide +kernel
 exact ⟨[],all n hn⟩
theorem mt_idxF:MtR X "str.index" rIdxF:=by
 intro pins s σ H x vs v us Q I rx rv h
 obtain ⟨n,rfl,rfl,hn,q⟩:=h
 obtain ⟨t,rfl⟩:=rx
 obtain ⟨u,rfl,t',rfl⟩:=vals1 rv
 obtain ⟨r,e⟩:=dig_at n hn
 exact SC.index e ⟨.int n,H,I.tok _,⟨_,rfl⟩,q⟩
end
section
variable {X:Cx}
def tRevX (te ts:TE):TE:=fun σ H Q=>te σ H fun x H1=>ts σ H1 fun y H2=>y=.int (-1)∧∃ z,x=.str z∧z.length≤1000∧∀ y:Str,y.length≤z.length→Q (.str y) H2
theorem pe_revX {e st:Expr} {te ts:TE} {p2 pos:Pos} (he:PE X e te) (hs:PE X st ts):PE X (.Subscript e (.Slice none none (some st) p2) pos) (tRevX te ts):=by
 intro pins s σ H Q I h
 refine Subscript_ (thn (he pins s σ H _ I h) fun v s1 ⟨x,H1,I1,r1,q1⟩=>?_)
 refine wpAny_Slice ?_
 rw [evalPart_none,evalPart_some]
 refine wpAny_pure (wpAny_pure (thn (hs pins s1 σ H1 _ I1 q1) fun u s3 ⟨y,H3,I3,r3,ey,z,ex,hz,q⟩=>?_))
 subst ey ex
 obtain ⟨tk,rfl⟩:=r3
 obtain ⟨t,rfl⟩:=r1
 have I4:Inv X pins σ H3 { s3 with heap:=s3.heap.push { cls:=.type "slice",data:=.fields #[.none,.none,.int (-1) tk] } }:=I3.kept (t':=s3.toks) fun b ob q=>Heap.get?_push_of_some _ q
 have hsl:=Heap.IsSliceOf.new s3.heap .none .none (.int (-1) tk)
 have big:1000≤sizeLine:=by decide
 show wpAny (model X.prog X.w) X.A (subscriptTail e (.Slice none none (some st) p2) (.str z t) (.ref s3.heap.objs.size)) (EP X pins σ Q) X.xe { s3 with heap:=s3.heap.push { cls:=.type "slice",data:=.fields #[.none,.none,.int (-1) tk] } }
 refine tail_any (ops:=[.str z t,.ref s3.heap.objs.size]) (typeIs_str _ _ t) F.slot_str_getitem.lookup ?_ (by with_unfolding_all rfl)
 refine wpAny_getItem_str_slice (l:=none) (u:=none) (st:=some (-1,tk)) hsl rfl ?_
 unfold sliceMade
 rw [show ((((some (-1,tk):Option (Int×Tok)).map fun x=>x.fst).getD 1 == 1) && ((slicePicked z none none (some (-1,tk))).length == z.length))=false from rfl,if_neg Bool.false_ne_true]
 have hl:((slicePicked z none none (some (-1,tk))).filterMap (z.cps[·]?)).toArray.size≤z.length:=by
  rw [List.size_toArray]
  refine Nat.le_trans (List.length_filterMap_le _ _) ?_
  have e:slicePicked z none none (some (-1,tk))=(List.range z.length).map fun k=>z.length - 1 - k:=picked_rev z.length
  rw [e,List.length_map,List.length_range]
  exact Nat.le_refl _
 exact ⟨Nat.le_trans hl (Nat.le_trans hz big),.str _,H3,I4.tok _,⟨_,rfl⟩,q _ hl⟩
end
section
variable {w:World} {prog:Program} {s:Shared} {A:Around} {E:Value→Shared→Prop}
end
section
variable {X:Cx}
end
section
variable {X:Cx} {pins:List (Addr×Obj)} {σ:St} {H:Hp} {s:Shared} {A:Around} {E:Value→Shared→Prop} {z TI TO i1 i2 l1 l2 S:Addr} {xs ys:List V}
end
section
variable {X:Cx}
end
end L2
namespace L2
open PySem PyProof.Rows
section
variable {prog:Program} {w:World} {A:Around} {E:Value→Shared→Prop} {s:Shared} {e it:Addr} {fp:List Addr} {n:Nat} {P:Nat→Value→Prop} {S:Nat→Heap→Prop}
end
section
variable {prog:Program} {w:World} {A:Around} {E:Value→Shared→Prop} {s:Shared} {e it l:Addr} {xs:Array Value}
end
section
variable {prog:Program} {w:World} {A:Around} {E:Value→Shared→Prop} {s:Shared} {e it l d:Addr} {xs:List V} {us:List Value}
end
end L2
namespace L2
open PySem Spec
open PyProof.Rows
section
variable {X:Cx}
end
end L2
namespace L2
open PySem PySem.Spec PyProof.Rows
section
variable {prog:Program} {w:World} {A:Around} {E:Value→Shared→Prop} {s:Shared} {e it T:Addr} {i:Nat}
end
section
variable {X:Cx}
end
section
variable {prog:Program} {w:World} {A:Around} {E:Value→Shared→Prop} {s:Shared} {e it l:Addr} {xs:Array Value}
end
section
variable {X:Cx}
end
section
variable {w:World} {prog:Program} {s:Shared} {A:Around} {E:Value→Shared→Prop}
end
section
variable {X:Cx}
end
section
variable {w:World} {prog:Program} {s:Shared} {A:Around} {E:Value→Shared→Prop} {a b:Addr} {S T:Int→Bool} {n m:Nat}
section
variable {es:Array (Int×Value)} {ep:Nat}
end
end
section
variable {X:Cx}
end
end L2
namespace L2
open PySem PySem.Spec PyProof.Rows PySem.W
section
variable {prog:Program} {w:World} {A:Around} {E:Value→Shared→Prop} {s:Shared} {d v it:Addr} {es:Array DictEntry} {ep:Nat}
end
end L2
namespace LSo
open PySem PySem.W PyProof.Rows
section
variable {prog:Program} {w:World} {A:Around} {E:Value→Shared→Prop} {s:Shared}
end
end LSo
namespace L2
open PySem PySem.Spec PyProof.Rows PySem.W
section
variable {X:Cx} {pins:List (Addr×Obj)} {σ:St} {H:Hp} {s:Shared}
end
section
variable {prog:Program} {w:World} {A:Around} {E:Value→Shared→Prop} {s:Shared} {d v it:Addr} {es:Array DictEntry} {ep:Nat}
end
section
variable {X:Cx}
end
section
variable {prog:Program} {w:World} {A:Around} {E:Value→Shared→Prop} {s:Shared} {d v it:Addr} {es:Array DictEntry} {ep:Nat}
end
end L2
namespace L4
open PySem L2
inductive Pl where
 | li (xs:List D) | di (ks:List (Key×D)) | dt (ks:List (List Key×D)) | ex (φ:Hp→Addr→HO→Prop)
inductive Sl where
 | u | d (x:D) | o (p:Pl) | f (K:PySem.W.Frag) (xs:List D)
inductive Rs where
 | d (x:D) | o (p:Pl) | b (i:Nat) | raw (v:V)
abbrev Sl.l (xs:List D):Sl:=.o (.li xs)
abbrev Rs.l (xs:List D):Rs:=.o (.li xs)
def DensK {κ:Type} (G:Hp):List (κ×D)→List (κ×V)→Prop
 | [],vs=>vs=[]
 | x::xs,vs=>∃ v r,vs=(x.1,v)::r∧Den G x.2 v∧DensK G xs r
theorem DensK.mono {κ:Type} {G G':Hp} (g:Same G G'):∀{xs:List (κ×D)} {vs:List (κ×V)},DensK G xs vs→DensK G' xs vs
 | [],_,h=>h
 | _::_,_,⟨v,r,e,h1,h2⟩=>⟨v,r,e,Den.mono g _ _ h1,DensK.mono g h2⟩
def PlOk (G:Hp):Pl→Addr→HO→Prop
 | .li xs,_,o=>∃ vs,o=.lst vs∧Dens G xs vs
 | .di ks,_,o=>∃ vs,o=.dK vs∧DensK G ks vs
 | .dt ks,_,o=>∃ vs,o=.dT vs∧DensK G ks vs
 | .ex φ,a,o=>(∀ xs,o≠.tup xs)∧∀ G',Same G G'→φ G' a o
theorem PlOk.ntup {G:Hp} {p:Pl} {a:Addr} {o:HO} (h:PlOk G p a o) (xs:List V):o≠.tup xs:=by
 cases p with
 | ex φ=>exact h.1 xs
 | _=>obtain ⟨_,rfl,_⟩:=h; exact fun z=>by cases z
theorem PlOk.mono {G G':Hp} (g:Same G G') {p:Pl} {a:Addr} {o:HO} (h:PlOk G p a o):PlOk G' p a o:=by
 cases p with
 | li xs=>obtain ⟨vs,e,h⟩:=h; exact ⟨vs,e,Dens.mono g _ _ h⟩
 | di ks=>obtain ⟨vs,e,h⟩:=h; exact ⟨vs,e,h.mono g⟩
 | dt ks=>obtain ⟨vs,e,h⟩:=h; exact ⟨vs,e,h.mono g⟩
 | ex φ=>exact ⟨h.1,fun G2 g2=>h.2 G2 (g.trans g2)⟩
def SlOk (G H:Hp):Sl→Option V→Prop
 | .u,_=>True
 | .d x,o=>∃ v,o=some v∧Den G x v
 | .o p,o=>∃ a vs,o=some (.ref a)∧H a=some vs∧PlOk G p a vs
 | .f K xs,o=>∃ a vs,o=some (.ref a)∧SqL K G a vs∧Dens G xs vs
def owns (ρ:List Sl) (σ:St) (a:Addr):Prop:=∃(i:Nat) (xs:Pl),ρ[i]? = some (Sl.o xs)∧σ[i]? = some (some (V.ref a))
structure SI (G F:Hp) (ρ:List Sl) (σ:St) (H:Hp):Prop where
 ok:∀(i:Nat) (s:Sl),ρ[i]? = some s→∃ o,σ[i]? = some o∧SlOk G H s o
 g:Same G H
 f:Same F H
 gf:∀ a o,F a=some o→G a=none
 nd:∀(i j:Nat) (a:Addr) (xs ys:Pl),ρ[i]? = some (Sl.o xs)→ρ[j]? = some (Sl.o ys)→σ[i]? = some (some (V.ref a))→σ[j]? = some (some (V.ref a))→i=j
 out:∀ a,owns ρ σ a→G a=none∧F a=none
 ft:∀ a xs,F a≠some (.tup xs)
def RsOk (G F:Hp) (ρ:List Sl) (σ:St) (H:Hp):Rs→V→Prop
 | .d x,v=>Den G x v
 | .o xs,v=>∃ a vs,v=.ref a∧H a=some vs∧PlOk G xs a vs∧G a=none∧F a=none∧¬ owns ρ σ a
 | .b i,v=>σ[i]? = some (some v)
 | .raw w,v=>v=w
def hold (r:Rs) (v:V) (H F:Hp):Hp:=match r,v with
 | .o _,.ref a=>fun b=>if b=a then H a else F b
 | _,_=>F
def RsOks (G F:Hp) (ρ:List Sl) (σ:St) (H:Hp):List Rs→List V→Prop
 | [],vs=>vs=[]
 | r::rs,vs=>∃ v vt,vs=v::vt∧RsOk G F ρ σ H r v∧RsOks G (hold r v H F) ρ σ H rs vt
section
variable {G F H:Hp} {ρ:List Sl} {σ:St}
theorem SlOk.up {G' H':Hp} {s:Sl} {o:Option V} (h:SlOk G H s o) (g:Same G G') (e:∀ xs a vs,s=.o xs→o=some (.ref a)→H a=some vs→H' a=some vs):SlOk G' H' s o:=by
 cases s with
 | u=>trivial
 | d x=>obtain ⟨v,h1,h2⟩:=h; exact ⟨v,h1,Den.mono g _ _ h2⟩
 | o xs=>obtain ⟨a,vs,h1,h2,h3⟩:=h; exact ⟨a,vs,h1,e xs a vs rfl h1 h2,h3.mono g⟩
 | f K xs=>
  obtain ⟨a,vs,h1,h2,h3⟩:=h
  exact ⟨a,vs,h1,g.seq h2,Dens.mono g _ _ h3⟩
theorem hold_same (r:Rs) (v:V) (h:RsOk G F ρ σ H r v):Same F (hold r v H F):=by
 cases r with
 | o xs=>
  obtain ⟨a,vs,rfl,h1,h2,h3,h4,h5⟩:=h
  intro b o e
  show (if b=a then H a else F b)=some o
  rw [if_neg]
  ·exact e
  ·intro z; subst z; rw [h4] at e; cases e
 | _=>exact Same.refl _
theorem SI.held (I:SI G F ρ σ H) {r:Rs} {v:V} (h:RsOk G F ρ σ H r v):SI G (hold r v H F) ρ σ H:=by
 cases r with
 | o xs=>
  obtain ⟨a,vs,rfl,h1,h2,h3,h4,h5⟩:=h
  refine ⟨I.ok,I.g,fun b o e=>?_,fun b o e=>?_,I.nd,fun b hb=>?_,fun b xs e=>?_⟩
  ·by_cases z:b=a
   ·subst z
    have e':(if b=b then H b else F b)=some o:=e
    rw [if_pos rfl] at e'
    exact e'
   ·have e':(if b=a then H a else F b)=some o:=e
    rw [if_neg z] at e'
    exact I.f _ _ e'
  ·by_cases z:b=a
   ·subst z; exact h3
   ·have e':(if b=a then H a else F b)=some o:=e
    rw [if_neg z] at e'
    exact I.gf _ _ e'
  ·have nb:b≠a:=fun z=>h5 (z ▸ hb)
   refine ⟨(I.out b hb).1,?_⟩
   show (if b=a then H a else F b)=none
   rw [if_neg nb]
   exact (I.out b hb).2
  ·have e':(if b=a then H a else F b)=some (.tup xs):=e
   by_cases z:b=a
   ·rw [if_pos z,h1] at e'
    exact h2.ntup xs (Option.some.inj e')
   ·rw [if_neg z] at e'
    exact I.ft b xs e'
 | _=>exact I
theorem SI.freed {G' H':Hp} {ρ':List Sl} {r:Rs} {v:V} (h:RsOk G F ρ σ H r v) (g:Same G G') (I':SI G' (hold r v H F) ρ' σ H'):SI G' F ρ' σ H'∧RsOk G' F ρ' σ H' r v:=by
 cases r with
 | o xs=>
  obtain ⟨a,vs,rfl,h1,h2,h3,h4,h5⟩:=h
  have fa:hold (.o xs) (.ref a) H F a=some vs:=by
   show (if a=a then H a else F a)=_
   rw [if_pos rfl]; exact h1
  have fs:Same F (hold (.o xs) (.ref a) H F):=hold_same (ρ:=ρ) (σ:=σ) (G:=G) (.o xs) (.ref a) ⟨a,vs,rfl,h1,h2,h3,h4,h5⟩
  refine ⟨⟨I'.ok,I'.g,fun b o e=>I'.f _ _ (fs _ _ e),fun b o e=>I'.gf _ _ (fs _ _ e),I'.nd,fun b hb=>⟨(I'.out b hb).1,fs.free (I'.out b hb).2⟩,fun b xs e=>I'.ft b xs (fs _ _ e)⟩,a,vs,rfl,I'.f _ _ fa,h2.mono g,I'.gf _ _ fa,h4,fun q=>?_⟩
  rw [(I'.out a q).2] at fa
  cases fa
 | d x=>exact ⟨I',Den.mono g _ _ h⟩
 | b i=>exact ⟨I',h⟩
 | raw w=>exact ⟨I',h⟩
theorem RsOk.weak {F':Hp} (e:Same F' F) {r:Rs} {v:V} (h:RsOk G F ρ σ H r v):RsOk G F' ρ σ H r v:=by
 cases r with
 | o xs=>
  obtain ⟨a,vs,rfl,h1,h2,h3,h4,h5⟩:=h
  exact ⟨a,vs,rfl,h1,h2,h3,e.free h4,h5⟩
 | d x=>exact h
 | b i=>exact h
 | raw w=>exact h
end
def Fin (G F:Hp) (σ:St) (Φ:Rs→List Sl→Prop) (Q:VK):Prop:=∀ G' H' v r ρ',Φ r ρ'→Same G G'→SI G' F ρ' σ H'→RsOk G' F ρ' σ H' r v→Q v H'
def wpV (te:TE) (ρ:List Sl) (Φ:Rs→List Sl→Prop):Prop:=∀ G F σ H,SI G F ρ σ H→∀ Q:VK,Fin G F σ Φ Q→te σ H Q
def wpT (tt:TT) (ρ:List Sl) (Φ:Bool→List Sl→Prop):Prop:=∀ G F σ H,SI G F ρ σ H→∀ Q:Bool→Hp→Prop,(∀ G' H' b ρ',Φ b ρ'→Same G G'→SI G' F ρ' σ H'→Q b H')→tt σ H Q
def wpA (ta:TA) (ρ:List Sl) (Φ:List Rs→List Sl→Prop):Prop:=∀ G F σ H,SI G F ρ σ H→∀ Q:List V→Hp→Prop,(∀ G' H' vs rs ρ',Φ rs ρ'→Same G G'→SI G' F ρ' σ H'→RsOks G' F ρ' σ H' rs vs→Q vs H')→ta σ H Q
def OpV (r2:R2) (x y:Rs) (ρ:List Sl) (Φ:Rs→List Sl→Prop):Prop:=∀ G F σ H vx vy,SI G F ρ σ H→RsOk G F ρ σ H x vx→RsOk G (hold x vx H F) ρ σ H y vy→∀ Q:VK,Fin G F σ Φ Q→r2 vx vy H Q
def CallV (r:List V→Hp→VK→Prop) (rs:List Rs) (ρ:List Sl) (Φ:Rs→List Sl→Prop):Prop:=∀ G F σ H vs,SI G F ρ σ H→RsOks G F ρ σ H rs vs→∀ Q:VK,Fin G F σ Φ Q→r vs H Q
theorem Fin.at {G F:Hp} {σ:St} {Φ Ψ:Rs→List Sl→Prop} {Q:VK} (h:Fin G F σ Φ Q) {G':Hp} (g:Same G G') (e:∀ r ρ,Ψ r ρ→Φ r ρ):Fin G' F σ Ψ Q:=fun G2 H2 v r ρ2 p g2 I ok=>h G2 H2 v r ρ2 (e _ _ p) (g.trans g2) I ok
section
variable {ρ:List Sl} {Φ:Rs→List Sl→Prop}
theorem wpV.mono {te:TE} {Ψ:Rs→List Sl→Prop} (h:wpV te ρ Φ) (e:∀ r ρ',Φ r ρ'→Ψ r ρ'):wpV te ρ Ψ:=fun G F σ H I Q q=>h G F σ H I Q (q.at (Same.refl _) e)
theorem v_op {r2:R2} {ta tb:TE} (h:wpV ta ρ fun x ρ1=>wpV tb ρ1 fun y ρ2=>OpV r2 x y ρ2 Φ):wpV (tOp r2 ta tb) ρ Φ:=by
 intro G F σ H I Q q
 refine h G F σ H I _ fun G1 H1 vx x ρ1 h1 g1 I1 ok1=>?_
 refine h1 G1 (hold x vx H1 F) σ H1 (I1.held ok1) _ fun G2 H2 vy y ρ2 h2 g2 I2 ok2=>?_
 obtain ⟨I3,ok3⟩:=SI.freed ok1 g2 I2
 have eh:hold x vx H2 F=hold x vx H1 F:=by
  cases x with
  | o xs=>
   obtain ⟨a,vs,rfl,z1,z2,z3,z4,z5⟩:=ok1
   obtain ⟨a',vs',z,y1,y2,y3,y4,y5⟩:=ok3
   cases z
   funext b
   show (if b=a then H2 a else F b)=(if b=a then H1 a else F b)
   by_cases e:b=a
   ·rw [if_pos e,if_pos e,z1]
    have:hold (.o xs) (.ref a) H1 F a=some vs:=by
     show (if a=a then H1 a else F a)=_
     rw [if_pos rfl]; exact z1
    exact I2.f _ _ this
   ·rw [if_neg e,if_neg e]
  | _=>rfl
 exact h2 G2 F σ H2 vx vy I3 ok3 (by rw [eh]; exact ok2) Q (q.at (g1.trans g2) fun _ _ p=>p)
theorem v_un {r:V→Hp→VK→Prop} {ta:TE} (h:wpV ta ρ fun x ρ1=>CallV (fun vs H Q=>∃ v,vs=[v]∧r v H Q) [x] ρ1 Φ):wpV (tUn r ta) ρ Φ:=by
 intro G F σ H I Q q
 refine h G F σ H I _ fun G1 H1 vx x ρ1 h1 g1 I1 ok1=>?_
 obtain ⟨v,e,z⟩:=h1 G1 F σ H1 [vx] I1 ⟨vx,[],rfl,ok1,rfl⟩ Q (q.at g1 fun _ _ p=>p)
 cases e
 exact z
theorem a_nil {Φ:List Rs→List Sl→Prop} (h:Φ [] ρ):wpA tNil ρ Φ:=fun G F σ H I Q q=>q G H [] [] ρ h (Same.refl _) I rfl
theorem RsOks.cons {F:Hp} {σ:St} {H1 G1 G2 H2:Hp} {ρ1 ρ2:List Sl} {x:Rs} {vx:V} {rs:List Rs} {vs:List V} (ok1:RsOk G1 F ρ1 σ H1 x vx) (g2:Same G1 G2) (I2:SI G2 (hold x vx H1 F) ρ2 σ H2) (oks:RsOks G2 (hold x vx H1 F) ρ2 σ H2 rs vs) :
  SI G2 F ρ2 σ H2∧RsOks G2 F ρ2 σ H2 (x::rs) (vx::vs):=by
 obtain ⟨I3,ok3⟩:=SI.freed ok1 g2 I2
 have eh:hold x vx H2 F=hold x vx H1 F:=by
  cases x with
  | o xs=>
   obtain ⟨a,vs,rfl,z1,z2,z3,z4,z5⟩:=ok1
   funext b
   show (if b=a then H2 a else F b)=(if b=a then H1 a else F b)
   by_cases e:b=a
   ·rw [if_pos e,if_pos e,z1]
    have:hold (.o xs) (.ref a) H1 F a=some vs:=by
     show (if a=a then H1 a else F a)=_
     rw [if_pos rfl]; exact z1
    exact I2.f _ _ this
   ·rw [if_neg e,if_neg e]
  | _=>rfl
 exact ⟨I3,vx,vs,rfl,ok3,by rw [eh]; exact oks⟩
theorem a_cons {Φ:List Rs→List Sl→Prop} {te:TE} {ta:TA} (h:wpV te ρ fun x ρ1=>wpA ta ρ1 fun rs ρ2=>Φ (x::rs) ρ2):wpA (tCons te ta) ρ Φ:=by
 intro G F σ H I Q q
 refine h G F σ H I _ fun G1 H1 vx x ρ1 h1 g1 I1 ok1=>?_
 refine h1 G1 (hold x vx H1 F) σ H1 (I1.held ok1) _ fun G2 H2 vs rs ρ2 h2 g2 I2 oks=>?_
 obtain ⟨I3,ok3⟩:=RsOks.cons ok1 g2 I2 oks
 exact q G2 H2 (vx::vs) (x::rs) ρ2 h2 (g1.trans g2) I3 ok3
theorem v_cb {r:List V→Hp→VK→Prop} {t:TA} (h:wpA t ρ fun rs ρ1=>CallV r rs ρ1 Φ):wpV (tCB r t) ρ Φ:=by
 intro G F σ H I Q q
 refine h G F σ H I _ fun G1 H1 vs rs ρ1 h1 g1 I1 oks=>?_
 exact h1 G1 F σ H1 vs I1 oks Q (q.at g1 fun _ _ p=>p)
theorem v_var_d {i:Nat} {x:D} (hi:ρ[i]? = some (.d x)) (h:Φ (.d x) ρ):wpV (tVar i) ρ Φ:=fun G F σ H I Q q=>by
 obtain ⟨o,e,v,rfl,hv⟩:=I.ok i _ hi
 exact ⟨v,e,q G H v _ ρ h (Same.refl _) I hv⟩
theorem v_var_l {i:Nat} {xs:List D} (hi:ρ[i]? = some (.l xs)) (h:Φ (.b i) ρ):wpV (tVar i) ρ Φ:=fun G F σ H I Q q=>by
 obtain ⟨o,e,a,vs,rfl,hv⟩:=I.ok i _ hi
 exact ⟨_,e,q G H (.ref a) _ ρ h (Same.refl _) I e⟩
theorem v_var_f {i:Nat} {K:PySem.W.Frag} {xs:List D} (hi:ρ[i]? = some (.f K xs)) (h:Φ (.b i) ρ):wpV (tVar i) ρ Φ:=fun G F σ H I Q q=>by
 obtain ⟨o,e,a,vs,rfl,hv⟩:=I.ok i _ hi
 exact ⟨_,e,q G H (.ref a) _ ρ h (Same.refl _) I e⟩
theorem v_int {i:Int} (h:Φ (.d (.int i)) ρ):wpV (tC (.int i)) ρ Φ:=fun G F σ H I Q q=>q G H _ _ ρ h (Same.refl _) I (show Den G (.int i) (.int i) from rfl)
theorem v_bl {b:Bool} (h:Φ (.d (.bl b)) ρ):wpV (tC (.bl b)) ρ Φ:=fun G F σ H I Q q=>q G H _ _ ρ h (Same.refl _) I (show Den G (.bl b) (.bl b) from rfl)
theorem v_non (h:Φ (.d .non) ρ):wpV (tC .non) ρ Φ:=fun G F σ H I Q q=>q G H _ _ ρ h (Same.refl _) I (show Den G .non .non from rfl)
theorem v_str {x:Str} (h:Φ (.d (.str x)) ρ):wpV (tC (.str x)) ρ Φ:=fun G F σ H I Q q=>q G H _ _ ρ h (Same.refl _) I (show Den G (.str x) (.str x) from rfl)
theorem v_raw {w:V} (h:Φ (.raw w) ρ):wpV (tC w) ρ Φ:=fun G F σ H I Q q=>q G H _ _ ρ h (Same.refl _) I (show w=w from rfl)
end
def rd (ρ:List Sl):Rs→Option D
 | .d x=>some x
 | .o (.li xs)=>some (.lst xs)
 | .b i=>match ρ[i]? with
  | some (.o (.li xs))=>some (.lst xs)
  | some (.d x)=>some x
  | _=>none
 | _=>none
def rdE (ρ:List Sl):Rs→Option D
 | .d x=>some x
 | .o (.li xs)=>some (.lst xs)
 | .b i=>match ρ[i]? with
  | some (.o (.li xs))=>some (.lst xs)
  | some (.d x)=>some x
  | _=>none
 | _=>none
section
variable {G F H:Hp} {ρ:List Sl} {σ:St} {r:Rs} {v:V} {K:PySem.W.Frag}
theorem readE (I:SI G F ρ σ H) (h:RsOk G F ρ σ H r v) {x:D} (e:rdE ρ r=some x):Den H x v∧((∀ ys,x≠.lst ys)→Den G x v)∧∀ ys,x=.lst ys→∃ a vs,v=.ref a∧H a=some (.lst vs)∧Dens G ys vs:=by
 cases r with
 | d y=>
  have e':y=x:=Option.some.inj e
  subst e'
  refine ⟨Den.mono I.g _ _ h,fun _=>h,fun ys z=>?_⟩
  subst z
  obtain ⟨a,vs,h1,h2,h3⟩:=h
  exact ⟨a,vs,h1,I.g _ _ h2,h3⟩
 | o p=>
  cases p with
  | di _=>cases e
  | dt _=>cases e
  | ex _=>cases e
  | li xs=>
   have e':D.lst xs=x:=Option.some.inj e
   subst e'
   obtain ⟨a,_,rfl,h1,⟨vs,rfl,h2⟩,h3,h4,h5⟩:=h
   refine ⟨⟨a,vs,rfl,h1,Dens.mono I.g _ _ h2⟩,fun z=>absurd rfl (z xs),fun ys z=>?_⟩
   cases z
   exact ⟨a,vs,rfl,h1,h2⟩
 | b i=>
  have h':σ[i]? = some (some v):=h
  unfold rdE at e
  cases hi:ρ[i]? with
  | none=>simp only [hi] at e; cases e
  | some s=>
   obtain ⟨o,e1,e2⟩:=I.ok i s hi
   rw [h'] at e1
   cases e1
   cases s with
   | u=>simp only [hi] at e; cases e
   | f _ xs=>simp only [hi] at e; cases e
   | d y=>
    simp only [hi] at e
    have e':y=x:=Option.some.inj e
    subst e'
    obtain ⟨w,z,h⟩:=e2
    cases z
    refine ⟨Den.mono I.g _ _ h,fun _=>h,fun ys z=>?_⟩
    subst z
    obtain ⟨a,vs,h1,h2,h3⟩:=h
    exact ⟨a,vs,h1,I.g _ _ h2,h3⟩
   | o p=>
    cases p with
    | di _=>simp only [hi] at e; cases e
    | dt _=>simp only [hi] at e; cases e
    | ex _=>simp only [hi] at e; cases e
    | li xs=>
     simp only [hi] at e
     have e':D.lst xs=x:=Option.some.inj e
     subst e'
     obtain ⟨a,_,z,h1,vs,rfl,h2⟩:=e2
     cases z
     refine ⟨⟨a,vs,rfl,h1,Dens.mono I.g _ _ h2⟩,fun z=>absurd rfl (z xs),fun ys z=>?_⟩
     cases z
     exact ⟨a,vs,rfl,h1,h2⟩
 | raw w=>cases e
theorem rdE_of_rd {x:D} (e:rd ρ r=some x):rdE ρ r=some x:=by
 cases r <;> exact e
theorem read_lst (I:SI G F ρ σ H) (h:RsOk G F ρ σ H r v) {xs:List D} (e:rd ρ r=some (.lst xs)):∃ a vs,v=.ref a∧SqL K H a vs∧Dens G xs vs:=by
 obtain ⟨a,vs,h1,h2,h3⟩:=(readE I h (rdE_of_rd e)).2.2 xs rfl
 exact ⟨a,vs,h1,SqL.of h2,h3⟩
theorem read_G (I:SI G F ρ σ H) (h:RsOk G F ρ σ H r v) {x:D} (e:rd ρ r=some x) (n:∀ ys,x≠.lst ys):Den G x v:=(readE I h (rdE_of_rd e)).2.1 n
theorem read_tup (I:SI G F ρ σ H) (h:RsOk G F ρ σ H r v) {xs:List D} (e:rd ρ r=some (.tup xs)):∃ a vs,v=.ref a∧G a=some (.tup vs)∧Dens G xs vs:=read_G I h e (fun ys z=>by cases z)
theorem read_int (I:SI G F ρ σ H) (h:RsOk G F ρ σ H r v) {i:Int} (e:rd ρ r=some (.int i)):v=.int i:=read_G I h e (fun ys z=>by cases z)
theorem read_bl (I:SI G F ρ σ H) (h:RsOk G F ρ σ H r v) {i:Bool} (e:rd ρ r=some (.bl i)):v=.bl i:=read_G I h e (fun ys z=>by cases z)
theorem read_non (I:SI G F ρ σ H) (h:RsOk G F ρ σ H r v) (e:rd ρ r=some .non):v=.non:=read_G I h e (fun ys z=>by cases z)
theorem SI.new {p:Addr} {o:HO} (I:SI G F ρ σ H) (hp:H p=none):SI G F ρ σ (upd H p o):=
 ⟨fun i s e=>let ⟨o',e1,e2⟩:=I.ok i s e; ⟨o',e1,e2.up (Same.refl _) fun xs a vs _ _ z=>Same.new hp _ _ z⟩,I.g.trans (Same.new hp),I.f.trans (Same.new hp),I.gf,I.nd,I.out,I.ft⟩
theorem SI.newG {p:Addr} {o:HO} (I:SI G F ρ σ H) (hp:H p=none):SI (upd G p o) F ρ σ (upd H p o)∧Same G (upd G p o):=by
 have gp:G p=none:=I.g.free hp
 have fp:F p=none:=I.f.free hp
 refine ⟨⟨fun i s e=>let ⟨o',e1,e2⟩:=I.ok i s e; ⟨o',e1,e2.up (Same.new gp) fun xs a vs _ _ z=>Same.new hp _ _ z⟩,fun b u e=>?_,I.f.trans (Same.new hp),fun b u e=>?_,I.nd,fun b hb=>⟨?_,(I.out b hb).2⟩,I.ft⟩,Same.new gp⟩
 ·by_cases z:b=p
  ·subst z; rw [upd_same] at e ⊢; exact e
  ·rw [upd_ne z] at e ⊢; exact I.g _ _ e
 ·have z:b≠p:=fun z=>by subst z; rw [fp] at e; cases e
  rw [upd_ne z]; exact I.gf _ _ e
 ·obtain ⟨i,xs,h1,h2⟩:=hb
  obtain ⟨o',e1,a,vs,z,h3,_⟩:=I.ok i _ h1
  rw [h2] at e1
  cases e1
  cases z
  rw [upd_ne (ne_of_none h3 hp)]
  exact (I.out b ⟨i,xs,h1,h2⟩).1
theorem fin_d {Φ:Rs→List Sl→Prop} {Q:VK} (q:Fin G F σ Φ Q) (I:SI G F ρ σ H) {x:D} (hv:Den G x v) (h:Φ (.d x) ρ):Q v H:=q G H v (.d x) ρ h (Same.refl _) I hv
theorem fin_int {Φ:Rs→List Sl→Prop} {Q:VK} (q:Fin G F σ Φ Q) (I:SI G F ρ σ H) {i:Int} (h:Φ (.d (.int i)) ρ):Q (.int i) H:=fin_d q I (x:=.int i) rfl h
theorem fin_bl {Φ:Rs→List Sl→Prop} {Q:VK} (q:Fin G F σ Φ Q) (I:SI G F ρ σ H) {i:Bool} (h:Φ (.d (.bl i)) ρ):Q (.bl i) H:=fin_d q I (x:=.bl i) rfl h
theorem fin_str {Φ:Rs→List Sl→Prop} {Q:VK} (q:Fin G F σ Φ Q) (I:SI G F ρ σ H) {i:Str} (h:Φ (.d (.str i)) ρ):Q (.str i) H:=fin_d q I (x:=.str i) rfl h
theorem fin_tup {Φ:Rs→List Sl→Prop} {Q:VK} (q:Fin G F σ Φ Q) (I:SI G F ρ σ H) {xs:List D} {vs:List V} (hv:Dens G xs vs) (h:Φ (.d (.tup xs)) ρ) {p:Addr} (hp:H p=none):Q (.ref p) (upd H p (.tup vs)):=by
 obtain ⟨I2,g⟩:=I.newG (o:=.tup vs) hp
 exact q _ _ _ _ ρ h g I2 ⟨p,vs,rfl,upd_same,Dens.mono g _ _ hv⟩
theorem fin_lst {Φ:Rs→List Sl→Prop} {Q:VK} (q:Fin G F σ Φ Q) (I:SI G F ρ σ H) {xs:List D} {vs:List V} (hv:Dens G xs vs) (h:Φ (.l xs) ρ) {p:Addr} (hp:H p=none):Q (.ref p) (upd H p (.lst vs)):=by
 refine q G _ _ _ ρ h (Same.refl _) (I.new hp) ⟨p,_,rfl,upd_same,⟨vs,rfl,hv⟩,I.g.free hp,I.f.free hp,?_⟩
 rintro ⟨i,ys,h1,h2⟩
 obtain ⟨o',e1,a,ws,z,h3,_⟩:=I.ok i _ h1
 rw [h2] at e1
 cases e1
 cases z
 rw [hp] at h3
 cases h3
theorem SI.putO {i:Nat} {xs ys:Pl} {a:Addr} {vs:HO} (I:SI G F ρ σ H) (hi:ρ[i]? = some (.o xs)) (ha:σ[i]? = some (some (.ref a))) (hv:PlOk G ys a vs):SI G F (ρ.set i (.o ys)) σ (upd H a vs):=by
 have oa:=I.out a ⟨i,xs,hi,ha⟩
 have il:i<ρ.length:=(List.getElem?_eq_some_iff.mp hi).1
 refine ⟨fun j s e=>?_,fun b u e=>?_,fun b u e=>?_,I.gf,fun j k b us ws h1 h2 h3 h4=>?_,fun b hb=>?_,I.ft⟩
 ·rw [List.getElem?_set] at e
  by_cases z:i=j
  ·subst z
   rw [if_pos rfl,if_pos il] at e
   cases e
   exact ⟨_,ha,a,vs,rfl,upd_same,hv⟩
  ·rw [if_neg z] at e
   obtain ⟨o',e1,e2⟩:=I.ok j s e
   refine ⟨o',e1,e2.up (Same.refl _) fun us b ws h1 h2 h3=>?_⟩
   subst h1 h2
   rw [upd_ne]
   ·exact h3
   ·intro q; subst q
    exact z (I.nd i j b xs us hi e ha e1)
 ·rw [upd_ne]
  ·exact I.g _ _ e
  ·intro q; subst q; rw [oa.1] at e; cases e
 ·rw [upd_ne]
  ·exact I.f _ _ e
  ·intro q; subst q; rw [oa.2] at e; cases e
 ·have w:∀(n:Nat) (zs:Pl),(ρ.set i (.o ys))[n]? = some (.o zs)→∃ zs',ρ[n]? = some (.o zs'):=fun n zs h=>by
   rw [List.getElem?_set] at h
   by_cases z:i=n
   ·subst z; exact ⟨xs,hi⟩
   ·rw [if_neg z] at h; exact ⟨zs,h⟩
  obtain ⟨u1,w1⟩:=w j us h1
  obtain ⟨u2,w2⟩:=w k ws h2
  exact I.nd j k b u1 u2 w1 w2 h3 h4
 ·obtain ⟨n,zs,h1,h2⟩:=hb
  rw [List.getElem?_set] at h1
  by_cases z:i=n
  ·subst z; exact I.out b ⟨i,xs,hi,h2⟩
  ·rw [if_neg z] at h1; exact I.out b ⟨n,zs,h1,h2⟩
theorem SI.put {i:Nat} {xs ys:List D} {a:Addr} {vs:List V} (I:SI G F ρ σ H) (hi:ρ[i]? = some (.l xs)) (ha:σ[i]? = some (some (.ref a))) (hv:Dens G ys vs):SI G F (ρ.set i (.l ys)) σ (upd H a (.lst vs)):=I.putO hi ha ⟨vs,rfl,hv⟩
theorem SI.freeze {i:Nat} {xs:List D} (I:SI G F ρ σ H) (hi:ρ[i]? = some (.l xs)):∃ G',Same G G'∧SI G' F (ρ.set i (.d (.lst xs))) σ H:=by
 obtain ⟨o,ha,a,_,rfl,h1,vs,rfl,h2⟩:=I.ok i _ hi
 have oa:=I.out a ⟨i,.li xs,hi,ha⟩
 have il:i<ρ.length:=(List.getElem?_eq_some_iff.mp hi).1
 have sg:Same G (upd G a (.lst vs)):=Same.new oa.1
 refine ⟨upd G a (.lst vs),sg,fun j s e=>?_,fun b u e=>?_,I.f,fun b u e=>?_,fun j k b us ws e1 e2 h3 h4=>?_,fun b hb=>?_,I.ft⟩
 ·rw [List.getElem?_set] at e
  by_cases z:i=j
  ·subst z
   rw [if_pos rfl,if_pos il] at e
   cases e
   exact ⟨_,ha,_,rfl,a,vs,rfl,upd_same,Dens.mono sg _ _ h2⟩
  ·rw [if_neg z] at e
   obtain ⟨o',e1,e2⟩:=I.ok j s e
   exact ⟨o',e1,e2.up sg fun _ _ _ _ _ z=>z⟩
 ·by_cases z:b=a
  ·subst z; rw [upd_same] at e; cases e; exact h1
  ·rw [upd_ne z] at e; exact I.g _ _ e
 ·have z:b≠a:=fun z=>by subst z; rw [oa.2] at e; cases e
  rw [upd_ne z]; exact I.gf _ _ e
 ·have w:∀(n:Nat) (zs:Pl),(ρ.set i (.d (.lst xs)))[n]? = some (.o zs)→ρ[n]? = some (.o zs):=fun n zs h=>by
   rw [List.getElem?_set] at h
   by_cases z:i=n
   ·subst z; rw [if_pos rfl,if_pos il] at h; cases h
   ·rw [if_neg z] at h; exact h
  exact I.nd j k b us ws (w j us e1) (w k ws e2) h3 h4
 ·obtain ⟨n,zs,e1,e2⟩:=hb
  have z:i≠n:=fun z=>by subst z; rw [List.getElem?_set,if_pos rfl,if_pos il] at e1; cases e1
  rw [List.getElem?_set,if_neg z] at e1
  have nb:b≠a:=fun q=>by subst q; exact z (I.nd i n b (.li xs) zs hi e1 ha e2)
  rw [upd_ne nb]
  exact I.out b ⟨n,zs,e1,e2⟩
theorem SI.lay {xs:List D} {v:V} (I:SI G F ρ σ H) (h:RsOk G F ρ σ H (.l xs) v):∃ G',Same G G'∧SI G' F ρ σ H∧Den G' (.lst xs) v:=by
 obtain ⟨a,_,rfl,h1,⟨vs,rfl,h2⟩,h3,h4,h5⟩:=h
 have sg:Same G (upd G a (.lst vs)):=Same.new h3
 refine ⟨upd G a (.lst vs),sg,⟨fun j s e=>let ⟨o',e1,e2⟩:=I.ok j s e; ⟨o',e1,e2.up sg fun _ _ _ _ _ z=>z⟩,fun b u e=>?_,I.f,fun b u e=>?_,I.nd,fun b hb=>?_,I.ft⟩,a,vs,rfl,upd_same,Dens.mono sg _ _ h2⟩
 ·by_cases z:b=a
  ·subst z; rw [upd_same] at e; cases e; exact h1
  ·rw [upd_ne z] at e; exact I.g _ _ e
 ·have z:b≠a:=fun z=>by subst z; rw [h4] at e; cases e
  rw [upd_ne z]; exact I.gf _ _ e
 ·have nb:b≠a:=fun q=>by subst q; exact h5 hb
  rw [upd_ne nb]
  exact I.out b hb
def Rs.sl:Rs→Sl
 | .d x=>.d x
 | .o p=>.o p
 | _=>.u
theorem SI.asg {i:Nat} {v:V} (I:SI G F ρ σ H) (h:RsOk G F ρ σ H r v):SI G F (ρ.set i r.sl) (σ.set i (some v)) H:=by
 have base:∀ j,j≠i→(σ.set i (some v))[j]? = σ[j]?:=fun j hj=>by rw [List.getElem?_set,if_neg hj.symm]
 have own:∀(n:Nat) (zs:Pl) (b:Addr),(ρ.set i r.sl)[n]? = some (.o zs)→(σ.set i (some v))[n]? = some (some (.ref b))→(n=i∧v=.ref b∧r=.o zs)∨(n≠i∧ρ[n]? = some (.o zs)∧σ[n]? = some (some (.ref b))):=fun n zs b h1 h2=>by
  by_cases z:i=n
  ·subst z
   rw [List.getElem?_set,if_pos rfl] at h1 h2
   by_cases q:i<ρ.length
   ·by_cases q2:i<σ.length
    ·rw [if_pos q] at h1
     rw [if_pos q2] at h2
     cases r with
     | o xs=>cases h1; cases h2; exact .inl ⟨rfl,rfl,rfl⟩
     | d x=>cases h1
     | b x=>cases h1
     | raw x=>cases h1
    ·rw [if_neg q2] at h2; cases h2
   ·rw [if_neg q] at h1; cases h1
  ·rw [List.getElem?_set,if_neg z] at h1
   rw [List.getElem?_set,if_neg z] at h2
   exact .inr ⟨fun e=>z e.symm,h1,h2⟩
 refine ⟨fun j s e=>?_,I.g,I.f,I.gf,fun j k b us ws h1 h2 h3 h4=>?_,fun b hb=>?_,I.ft⟩
 ·rw [List.getElem?_set] at e
  by_cases z:i=j
  ·subst z
   rw [if_pos rfl] at e
   by_cases q:i<ρ.length
   ·rw [if_pos q] at e
    cases e
    obtain ⟨o,ho,_⟩:=I.ok i ρ[i] (List.getElem?_eq_getElem q)
    have q2:i<σ.length:=(List.getElem?_eq_some_iff.mp ho).1
    refine ⟨some v,by rw [List.getElem?_set,if_pos rfl,if_pos q2],?_⟩
    cases r with
    | d x=>exact ⟨v,rfl,h⟩
    | o xs=>
     obtain ⟨a,vs,rfl,h1,h2,_⟩:=h
     exact ⟨a,vs,rfl,h1,h2⟩
    | b x=>trivial
    | raw x=>trivial
   ·rw [if_neg q] at e; cases e
  ·rw [if_neg z] at e
   obtain ⟨o',e1,e2⟩:=I.ok j s e
   exact ⟨o',by rw [base j (fun q=>z q.symm)]; exact e1,e2⟩
 ·rcases own j us b h1 h3 with ⟨rfl,e1,e2⟩ | ⟨n1,e1,e2⟩
  ·rcases own k ws b h2 h4 with ⟨rfl,_,_⟩ | ⟨n2,e3,e4⟩
   ·rfl
   ·subst e2
    obtain ⟨a,vs,z,_,_,_,_,h5⟩:=h
    rw [e1] at z
    cases z
    exact absurd ⟨k,ws,e3,e4⟩ h5
  ·rcases own k ws b h2 h4 with ⟨rfl,e3,e4⟩ | ⟨n2,e3,e4⟩
   ·subst e4
    obtain ⟨a,vs,z,_,_,_,_,h5⟩:=h
    rw [e3] at z
    cases z
    exact absurd ⟨j,us,e1,e2⟩ h5
   ·exact I.nd j k b us ws e1 e3 e2 e4
 ·obtain ⟨n,zs,e1,e2⟩:=hb
  rcases own n zs b e1 e2 with ⟨rfl,e3,e4⟩ | ⟨_,e3,e4⟩
  ·subst e4
   obtain ⟨a,vs,z,_,_,h3,h4,_⟩:=h
   rw [e3] at z
   cases z
   exact ⟨h3,h4⟩
  ·exact I.out b ⟨n,zs,e3,e4⟩
end
section
variable {ρ:List Sl} {Φ:Rs→List Sl→Prop} {x y:Rs} {K:PySem.W.Frag} {r2 r3:R2}
theorem OpV.l (h:OpV r2 x y ρ Φ):OpV (fun a b H Q=>r2 a b H Q∨r3 a b H Q) x y ρ Φ:=fun G F σ H vx vy I h1 h2 Q q=>.inl (h G F σ H vx vy I h1 h2 Q q)
theorem OpV.r (h:OpV r3 x y ρ Φ):OpV (fun a b H Q=>r2 a b H Q∨r3 a b H Q) x y ρ Φ:=fun G F σ H vx vy I h1 h2 Q q=>.inr (h G F σ H vx vy I h1 h2 Q q)
theorem ok2 {G F H:Hp} {σ:St} {vx vy:V} (h1:RsOk G F ρ σ H x vx) (h2:RsOk G (hold x vx H F) ρ σ H y vy):RsOk G F ρ σ H y vy:=h2.weak (hold_same x vx h1)
theorem o_i0 {k:Int→Int→Int} {i j:Int} (hx:rd ρ x=some (.int i)) (hy:rd ρ y=some (.int j)) (h:Φ (.d (.int (k i j))) ρ):OpV (rI0 fun i j=>.int (k i j)) x y ρ Φ:=fun G F σ H vx vy I h1 h2 Q q=>
 ⟨i,j,read_int I h1 hx,read_int I (ok2 h1 h2) hy,fin_int q I h⟩
theorem o_b0 {k:Int→Int→Bool} {i j:Int} (hx:rd ρ x=some (.int i)) (hy:rd ρ y=some (.int j)) (h:Φ (.d (.bl (k i j))) ρ):OpV (rI0 fun i j=>.bl (k i j)) x y ρ Φ:=fun G F σ H vx vy I h1 h2 Q q=>
 ⟨i,j,read_int I h1 hx,read_int I (ok2 h1 h2) hy,fin_bl q I h⟩
theorem o_ic {C:Int→Int→Prop} {k:Int→Int→Int} {i j:Int} (hx:rd ρ x=some (.int i)) (hy:rd ρ y=some (.int j)) (hc:C i j) (h:Φ (.d (.int (k i j))) ρ):OpV (rI C fun i j=>.int (k i j)) x y ρ Φ:=fun G F σ H vx vy I h1 h2 Q q=>
 ⟨i,j,read_int I h1 hx,read_int I (ok2 h1 h2) hy,hc,fin_int q I h⟩
theorem u_i {k:Int→Int} {i:Int} (hx:rd ρ x=some (.int i)) (h:Φ (.d (.int (k i))) ρ):CallV (fun vs H Q=>∃ v,vs=[v]∧rU (fun i=>.int (k i)) v H Q) [x] ρ Φ:=fun G F σ H vs I h1 Q q=>by
 obtain ⟨v,vt,rfl,ok,e⟩:=h1
 have e':vt=[]:=e
 subst e'
 exact ⟨v,rfl,i,read_int I ok hx,fin_int q I h⟩
theorem o_catL {xs ys:List D} (hx:rd ρ x=some (.lst xs)) (hy:rd ρ y=some (.lst ys)) (hz:xs.length+ys.length≤sizeLine) (h:Φ (.l (xs++ys)) ρ):OpV (rCatL K) x y ρ Φ:=fun G F σ H vx vy I h1 h2 Q q=>by
 obtain ⟨a,vs,rfl,s1,d1⟩:=read_lst (K:=K) I h1 hx
 obtain ⟨b,ws,rfl,s2,d2⟩:=read_lst (K:=K) I (ok2 h1 h2) hy
 exact ⟨a,b,vs,ws,rfl,rfl,s1,s2,by rw [d1.length,d2.length]; exact hz,fun p hp=>fin_lst q I (d1.append d2) h hp⟩
theorem den_at {H:Hp} {xs:List D} {vs:List V} (h:Dens H xs vs) {i:Int} {d:D} (e:atI xs i=some d):∃ v,atI vs i=some v∧Den H d v:=by
 unfold atI at e ⊢
 rw [h.length]
 cases z:ixN xs.length i with
 | none=>rw [z] at e; cases e
 | some j=>
  rw [z] at e
  have e':xs[j]? = some d:=e
  obtain ⟨v,e1,e2⟩:=h.get' e'
  exact ⟨v,e1,e2⟩
theorem o_ixL {xs:List D} {i:Int} {d:D} (hx:rd ρ x=some (.lst xs)) (hy:rd ρ y=some (.int i)) (hi:atI xs i=some d) (h:Φ (.d d) ρ):OpV (rIx K) x y ρ Φ:=fun G F σ H vx vy I h1 h2 Q q=>by
 obtain ⟨a,vs,rfl,s1,d1⟩:=read_lst (K:=K) I h1 hx
 obtain ⟨v,e1,e2⟩:=den_at d1 hi
 exact .inl ⟨a,vs,i,v,rfl,read_int I (ok2 h1 h2) hy,s1,e1,fin_d q I e2 h⟩
theorem o_ixT {xs:List D} {i:Int} {d:D} (hx:rd ρ x=some (.tup xs)) (hy:rd ρ y=some (.int i)) (hi:atI xs i=some d) (h:Φ (.d d) ρ):OpV (rIx K) x y ρ Φ:=fun G F σ H vx vy I h1 h2 Q q=>by
 obtain ⟨a,vs,rfl,s1,d1⟩:=read_tup I h1 hx
 obtain ⟨v,e1,e2⟩:=den_at d1 hi
 exact .inr (.inl ⟨a,vs,i,v,rfl,read_int I (ok2 h1 h2) hy,SqT.of (I.g _ _ s1),e1,fin_d q I e2 h⟩)
theorem o_eqL {b:Bool} {l m:List D} (hx:rdE ρ x=some (.lst l)) (hy:rdE ρ y=some (.lst m)) (hd:dDepths l≤50) (h:Φ (.d (.bl (if b then !dEqs l m else dEqs l m))) ρ) (hd2:dDepths m≤50:=by first | exact Nat.le_of_ble_eq_true rfl | exact dep_int _ | assumption):OpV (rEqD b) x y ρ Φ:=fun G F σ H vx vy I h1 h2 Q q=>
 ⟨l,m,.inr ⟨(readE I h1 hx).1,(readE I (ok2 h1 h2) hy).1⟩,hd,hd2,fin_bl q I h⟩
theorem o_eqT {b:Bool} {l m:List D} (hx:rdE ρ x=some (.tup l)) (hy:rdE ρ y=some (.tup m)) (hd:dDepths l≤50) (h:Φ (.d (.bl (if b then !dEqs l m else dEqs l m))) ρ) (hd2:dDepths m≤50:=by first | exact Nat.le_of_ble_eq_true rfl | exact dep_int _ | assumption):OpV (rEqD b) x y ρ Φ:=fun G F σ H vx vy I h1 h2 Q q=>
 ⟨l,m,.inl ⟨(readE I h1 hx).1,(readE I (ok2 h1 h2) hy).1⟩,hd,hd2,fin_bl q I h⟩
def dV:D→Option V
 | .non=>some .non | .bl b=>some (.bl b) | .int i=>some (.int i) | .str s=>some (.str s) | _=>none
theorem read_dV {G F H:Hp} {σ:St} {v w:V} {d:D} (I:SI G F ρ σ H) (h:RsOk G F ρ σ H x v) (e:rd ρ x=some d) (hw:dV d=some w):v=w:=by
 have n:∀ ys,d≠.lst ys:=fun ys z=>by subst z; cases hw
 have g:=read_G I h e n
 cases d with
 | non=>cases hw; exact g
 | bl b=>cases hw; exact g
 | int i=>cases hw; exact g
 | str s=>cases hw; exact g
 | tup l=>cases hw
 | lst l=>cases hw
 | dic=>cases hw
theorem o_eqS {d e:D} {v w:V} (hx:rd ρ x=some d) (hy:rd ρ y=some e) (hv:dV d=some v) (hw:dV e=some w) (hs:scal v w=true) (h:Φ (.d (.bl (decide (v=w)))) ρ):OpV rEq x y ρ Φ:=fun G F σ H vx vy I h1 h2 Q q=>by
 cases read_dV I h1 hx hv
 cases read_dV I (ok2 h1 h2) hy hw
 exact ⟨hs,fin_bl q I h⟩
theorem o_neS {d e:D} {v w:V} (hx:rd ρ x=some d) (hy:rd ρ y=some e) (hv:dV d=some v) (hw:dV e=some w) (hs:scal v w=true) (h:Φ (.d (.bl (!decide (v=w)))) ρ):OpV rNe x y ρ Φ:=fun G F σ H vx vy I h1 h2 Q q=>by
 cases read_dV I h1 hx hv
 cases read_dV I (ok2 h1 h2) hy hw
 exact ⟨hs,fin_bl q I h⟩
theorem o_eqI {i j:Int} (hx:rd ρ x=some (.int i)) (hy:rd ρ y=some (.int j)) (h:Φ (.d (.bl (decide (i=j)))) ρ):OpV rEq x y ρ Φ:=by
 refine o_eqS hx hy rfl rfl rfl ?_
 have e:decide (V.int i=V.int j)=decide (i=j):=decide_eq_decide.mpr ⟨fun z=>by cases z; rfl,fun z=>by rw [z]⟩
 rw [e]; exact h
theorem o_neI {i j:Int} (hx:rd ρ x=some (.int i)) (hy:rd ρ y=some (.int j)) (h:Φ (.d (.bl (!decide (i=j)))) ρ):OpV rNe x y ρ Φ:=by
 refine o_neS hx hy rfl rfl rfl ?_
 have e:decide (V.int i=V.int j)=decide (i=j):=decide_eq_decide.mpr ⟨fun z=>by cases z; rfl,fun z=>by rw [z]⟩
 rw [e]; exact h
theorem o_eqB {i j:Bool} (hx:rd ρ x=some (.bl i)) (hy:rd ρ y=some (.bl j)) (h:Φ (.d (.bl (i == j))) ρ):OpV rEq x y ρ Φ:=by
 refine o_eqS hx hy rfl rfl rfl ?_
 have e:decide (V.bl i=V.bl j)=(i == j):=by cases i <;> cases j <;> rfl
 rw [e]; exact h
theorem o_ltT {ns ms:List Int} (hx:rd ρ x=some (.tup (ns.map D.int))) (hy:rd ρ y=some (.tup (ms.map D.int))) (h:Φ (.d (.bl (HT.lexLt ns ms))) ρ):OpV (rLtT K) x y ρ Φ:=fun G F σ H vx vy I h1 h2 Q q=>by
 obtain ⟨a,vs,rfl,s1,d1⟩:=read_tup I h1 hx
 obtain ⟨b,ws,rfl,s2,d2⟩:=read_tup I (ok2 h1 h2) hy
 have e1:=d1.ints_eq
 have e2:=d2.ints_eq
 subst e1 e2
 exact ⟨a,b,ns,ms,rfl,rfl,SqT.of (I.g _ _ s1),SqT.of (I.g _ _ s2),fin_bl q I h⟩
end
section
variable {ρ:List Sl} {Φ:Rs→List Sl→Prop} {x y:Rs} {K:PySem.W.Frag}
theorem one_of {G F H:Hp} {σ:St} {vs:List V} (h:RsOks G F ρ σ H [x] vs):∃ v,vs=[v]∧RsOk G F ρ σ H x v:=by
 obtain ⟨v,vt,rfl,ok,e⟩:=h
 have e':vt=[]:=e
 subst e'
 exact ⟨v,rfl,ok⟩
theorem two_of {G F H:Hp} {σ:St} {vs:List V} (h:RsOks G F ρ σ H [x,y] vs):∃ v w,vs=[v,w]∧RsOk G F ρ σ H x v∧RsOk G F ρ σ H y w:=by
 obtain ⟨v,vt,rfl,ok,h2⟩:=h
 obtain ⟨w,rfl,ok'⟩:=one_of h2
 exact ⟨v,w,rfl,ok,ok2 ok ok'⟩
theorem c_lenL {xs:List D} (hx:rd ρ x=some (.lst xs)) (h:Φ (.d (.int xs.length)) ρ):CallV (fun xs H Q=>∃ p ys,xs=[.ref p]∧(SqL K H p ys∨SqT K H p ys)∧Q (.int ys.length) H) [x] ρ Φ:=fun G F σ H vs I h1 Q q=>by
 obtain ⟨v,rfl,ok⟩:=one_of h1
 obtain ⟨a,ws,rfl,s1,d1⟩:=read_lst (K:=K) I ok hx
 refine ⟨a,ws,rfl,.inl s1,?_⟩
 rw [d1.length]
 exact fin_int q I h
theorem c_lenT {xs:List D} (hx:rd ρ x=some (.tup xs)) (h:Φ (.d (.int xs.length)) ρ):CallV (fun xs H Q=>∃ p ys,xs=[.ref p]∧(SqL K H p ys∨SqT K H p ys)∧Q (.int ys.length) H) [x] ρ Φ:=fun G F σ H vs I h1 Q q=>by
 obtain ⟨v,rfl,ok⟩:=one_of h1
 obtain ⟨a,ws,rfl,s1,d1⟩:=read_tup I ok hx
 refine ⟨a,ws,rfl,.inr (SqT.of (I.g _ _ s1)),?_⟩
 rw [d1.length]
 exact fin_int q I h
theorem c_tupleL {xs:List D} (hx:rd ρ x=some (.lst xs)) (h:Φ (.d (.tup xs)) ρ):CallV (fun xs H Q=>∃ p ys,xs=[.ref p]∧((SqL K H p ys∧∀ l,H l=none→Q (.ref l) (upd H l (.tup ys)))∨(SqT K H p ys∧Q (.ref p) H))) [x] ρ Φ:=fun G F σ H vs I h1 Q q=>by
 obtain ⟨v,rfl,ok⟩:=one_of h1
 obtain ⟨a,ws,rfl,s1,d1⟩:=read_lst (K:=K) I ok hx
 exact ⟨a,ws,rfl,.inl ⟨s1,fun l hl=>fin_tup q I d1 h hl⟩⟩
theorem c_listT {xs:List D} (hx:rd ρ x=some (.tup xs)) (h:Φ (.l xs) ρ):CallV (fun xs H Q=>∃ p ys,xs=[.ref p]∧(SqL K H p ys∨SqT K H p ys)∧∀ l,H l=none→Q (.ref l) (upd H l (.lst ys))) [x] ρ Φ:=fun G F σ H vs I h1 Q q=>by
 obtain ⟨v,rfl,ok⟩:=one_of h1
 obtain ⟨a,ws,rfl,s1,d1⟩:=read_tup I ok hx
 exact ⟨a,ws,rfl,.inr (SqT.of (I.g _ _ s1)),fun l hl=>fin_lst q I d1 h hl⟩
theorem c_ii {k:Int→Int→Int} {i j:Int} (hx:rd ρ x=some (.int i)) (hy:rd ρ y=some (.int j)) (h:Φ (.d (.int (k i j))) ρ):CallV (fun xs H Q=>∃ i j,xs=[.int i,.int j]∧Q (.int (k i j)) H) [x,y] ρ Φ:=fun G F σ H vs I h1 Q q=>by
 obtain ⟨v,w,rfl,o1,o2⟩:=two_of h1
 cases read_int I o1 hx
 cases read_int I o2 hy
 exact ⟨i,j,rfl,fin_int q I h⟩
theorem bls_of {H:Hp}:∀{bs:List Bool} {vs:List V},Dens H (bs.map D.bl) vs→vs=bs.map V.bl
 | [],vs,h=>h
 | b::bs,vs,h=>by
  obtain ⟨v,r,rfl,h1,h2⟩:=h
  have h1':v=.bl b:=h1
  subst h1'
  rw [bls_of h2,List.map_cons]
theorem c_all {bs:List Bool} (hx:rdE ρ x=some (.lst (bs.map D.bl))) (h:Φ (.d (.bl (bs.all id))) ρ):CallV (fun xs H Q=>∃(p:Addr) (bs:List Bool),xs=[.ref p]∧H p=some (.lst (bs.map V.bl))∧Q (.bl (bs.all id)) H) [x] ρ Φ:=fun G F σ H vs I h1 Q q=>by
 obtain ⟨v,rfl,ok⟩:=one_of h1
 obtain ⟨a,ws,rfl,s1,d1⟩:=(readE I ok hx).2.2 _ rfl
 rw [bls_of d1] at s1
 exact ⟨a,bs,rfl,s1,fin_bl q I h⟩
def tyD:D→String
 | .non=>"NoneType" | .bl _=>"bool" | .int _=>"int" | .str _=>"str" | .tup _=>"tuple" | .lst _=>"list" | .dic=>"dict"
theorem tyOf {H:Hp} {d:D} {v:V} (h:Den H d v):TyOf K H v (.type (tyD d)):=by
 cases d with
 | non=>cases (show v=_ from h); exact .non
 | bl b=>cases (show v=_ from h); exact .bl b
 | int b=>cases (show v=_ from h); exact .int b
 | str b=>cases (show v=_ from h); exact .str b
 | tup l=>obtain ⟨a,xs,rfl,h1,_⟩:=h; exact .tup h1
 | lst l=>obtain ⟨a,xs,rfl,h1,_⟩:=h; exact .lst h1
 | dic=>obtain ⟨a,xs,rfl,h1⟩:=h; exact .dK h1
theorem c_isinst {d:D} {T:String} {b:Bool} (hx:rdE ρ x=some d) (hb:PySem.W.kitOne K (.type (tyD d)) (.type T)=some b) (h:Φ (.d (.bl b)) ρ):CallV (fun xs H Q=>∃ x t T b,xs=[x,.ty T]∧TyOf K H x t∧PySem.W.kitOne K t (.type T)=some b∧Q (.bl b) H) [x,.raw (.ty T)] ρ Φ:=fun G F σ H vs I h1 Q q=>by
 obtain ⟨v,w,rfl,o1,o2⟩:=two_of h1
 cases (show w=V.ty T from o2)
 exact ⟨v,_,T,b,rfl,tyOf (readE I o1 hx).1,hb,fin_bl q I h⟩
theorem c_int_b {k:Bool} (hx:rd ρ x=some (.bl k)) (h:Φ (.d (.int (if k then 1 else 0))) ρ):CallV (fun xs H Q=>(∃ i,xs=[.int i]∧Q (.int i) H)∨∃ k,xs=[.bl k]∧Q (.int (if k then 1 else 0)) H) [x] ρ Φ:=fun G F σ H vs I h1 Q q=>by
 obtain ⟨v,rfl,ok⟩:=one_of h1
 cases read_bl I ok hx
 exact .inr ⟨k,rfl,fin_int q I h⟩
end
def Rs.it:Rs→Option D
 | .d x=>some x
 | .o (.li xs)=>some (.lst xs)
 | _=>none
def its:List Rs→Option (List D)
 | []=>some []
 | r::rs=>match r.it,its rs with | some d,some ds=>some (d::ds) | _,_=>none
theorem its_cons {r:Rs} {rs:List Rs} {ds:List D} (h:its (r::rs)=some ds):∃ d dt,r.it=some d∧its rs=some dt∧ds=d::dt:=by
 unfold its at h
 cases e1:r.it with
 | none=>rw [e1] at h; cases h
 | some d=>
  cases e2:its rs with
  | none=>rw [e1,e2] at h; cases h
  | some dt=>rw [e1,e2] at h; cases h; exact ⟨d,dt,rfl,rfl,rfl⟩
theorem lay1 {G F H:Hp} {ρ:List Sl} {σ:St} {r:Rs} {v:V} {d:D} (I:SI G F ρ σ H) (h:RsOk G F ρ σ H r v) (e:r.it=some d):∃ G',Same G G'∧SI G' F ρ σ H∧Den G' d v:=by
 cases r with
 | d x=>cases e; exact ⟨G,Same.refl _,I,h⟩
 | o p=>cases p with
  | li xs=>cases e; exact I.lay h
  | di _=>cases e
  | dt _=>cases e
  | ex _=>cases e
 | b i=>cases e
 | raw w=>cases e
theorem lays:∀{rs:List Rs} {ds:List D} {G F H:Hp} {ρ:List Sl} {σ:St} {vs:List V},SI G F ρ σ H→RsOks G F ρ σ H rs vs→its rs=some ds→∃ G',Same G G'∧SI G' F ρ σ H∧Dens G' ds vs
 | [],ds,G,F,H,ρ,σ,vs,I,h,e=>by
  cases e
  exact ⟨G,Same.refl _,I,h⟩
 | r::rs,ds,G,F,H,ρ,σ,vs,I,h,e=>by
  obtain ⟨v,vt,rfl,ok,oks⟩:=h
  obtain ⟨d,dt,e1,e2,rfl⟩:=its_cons e
  obtain ⟨G1,g1,I1,d1⟩:=lays (I.held ok) oks e2
  obtain ⟨I2,ok2⟩:=SI.freed ok g1 I1
  obtain ⟨G2,g2,I3,d2⟩:=lay1 I2 ok2 e1
  exact ⟨G2,g1.trans g2,I3,v,vt,rfl,d2,Dens.mono g2 _ _ d1⟩
section
variable {ρ:List Sl} {Φ:Rs→List Sl→Prop} {t:TA}
theorem v_tup (h:wpA t ρ fun rs ρ1=>∃ ds,its rs=some ds∧ds.length≤sizeLine∧Φ (.d (.tup ds)) ρ1):wpV (tTup t) ρ Φ:=by
 intro G F σ H I Q q
 refine h G F σ H I _ fun G1 H1 vs rs ρ1 ⟨ds,e,hl,h1⟩ g1 I1 oks=>?_
 obtain ⟨G2,g2,I2,dn⟩:=lays I1 oks e
 exact ⟨by rw [dn.length]; exact hl,fun p hp=>fin_tup (q.at (g1.trans g2) fun _ _ z=>z) I2 dn h1 hp⟩
theorem v_lst (h:wpA t ρ fun rs ρ1=>∃ ds,its rs=some ds∧ds.length≤sizeLine∧Φ (.l ds) ρ1):wpV (tLst t) ρ Φ:=by
 intro G F σ H I Q q
 refine h G F σ H I _ fun G1 H1 vs rs ρ1 ⟨ds,e,hl,h1⟩ g1 I1 oks=>?_
 obtain ⟨G2,g2,I2,dn⟩:=lays I1 oks e
 exact ⟨by rw [dn.length]; exact hl,fun p hp=>fin_lst (q.at (g1.trans g2) fun _ _ z=>z) I2 dn h1 hp⟩
end
def truD:D→Option Bool
 | .non=>some false | .bl b=>some b | .int i=>some (i != 0) | .tup l=>some !l.isEmpty | .lst l=>some !l.isEmpty | .str _=>none | .dic=>none
theorem truV {G F H:Hp} {ρ:List Sl} {σ:St} {r:Rs} {v:V} {d:D} {k:Bool} {K:PySem.W.Frag} (I:SI G F ρ σ H) (h:RsOk G F ρ σ H r v) (e:rd ρ r=some d) (t:truD d=some k):TruV K v H k:=by
 cases d with
 | non=>cases read_non I h e; cases t; exact rfl
 | bl b=>cases read_bl I h e; cases t; exact rfl
 | int i=>cases read_int I h e; cases t; exact rfl
 | str s=>cases t
 | dic=>cases t
 | tup l=>
  cases t
  obtain ⟨a,ws,rfl,s1,d1⟩:=read_tup I h e
  refine .inr (.inl ⟨ws,SqT.of (I.g _ _ s1),?_⟩)
  have:=d1.length
  cases ws <;> cases l <;> first | rfl | cases this
 | lst l=>
  cases t
  obtain ⟨a,ws,rfl,s1,d1⟩:=read_lst (K:=K) I h e
  refine .inl ⟨ws,s1,?_⟩
  have:=d1.length
  cases ws <;> cases l <;> first | rfl | cases this
section
variable {ρ:List Sl} {Φ:Rs→List Sl→Prop} {Ψ:Bool→List Sl→Prop} {ta tb:TE} {t u:TT} {K:PySem.W.Frag}
theorem t_test (h:wpV ta ρ fun r ρ1=>∃ b,rd ρ1 r=some (.bl b)∧Ψ b ρ1):wpT (tTest ta) ρ Ψ:=by
 intro G F σ H I Q q
 refine h G F σ H I _ fun G1 H1 v r ρ1 ⟨b,e,h1⟩ g1 I1 ok1=>?_
 exact ⟨b,read_bl I1 ok1 e,q G1 H1 b ρ1 h1 g1 I1⟩
theorem t_tru (h:wpV ta ρ fun r ρ1=>∃ d b,rd ρ1 r=some d∧truD d=some b∧Ψ b ρ1):wpT (tTru K ta) ρ Ψ:=by
 intro G F σ H I Q q
 refine h G F σ H I _ fun G1 H1 v r ρ1 ⟨d,b,e,e2,h1⟩ g1 I1 ok1=>?_
 exact ⟨b,truV I1 ok1 e e2,q G1 H1 b ρ1 h1 g1 I1⟩
theorem t_true (h:Ψ true ρ):wpT tTrue ρ Ψ:=fun G F σ H I Q q=>q G H true ρ h (Same.refl _) I
theorem t_and (h:wpT t ρ fun b ρ1=>if b=true then wpT u ρ1 Ψ else Ψ false ρ1):wpT (tAnd t u) ρ Ψ:=by
 intro G F σ H I Q q
 refine h G F σ H I _ fun G1 H1 b ρ1 h1 g1 I1=>?_
 cases b with
 | true=>exact (by simpa using h1:wpT u ρ1 Ψ) G1 F σ H1 I1 Q fun G2 H2 b ρ2 h2 g2 I2=>q G2 H2 b ρ2 h2 (g1.trans g2) I2
 | false=>exact q G1 H1 false ρ1 (by simpa using h1) g1 I1
theorem t_or (h:wpT t ρ fun b ρ1=>if b=true then Ψ true ρ1 else wpT u ρ1 Ψ):wpT (tOr t u) ρ Ψ:=by
 intro G F σ H I Q q
 refine h G F σ H I _ fun G1 H1 b ρ1 h1 g1 I1=>?_
 cases b with
 | true=>exact q G1 H1 true ρ1 (by simpa using h1) g1 I1
 | false=>exact (by simpa using h1:wpT u ρ1 Ψ) G1 F σ H1 I1 Q fun G2 H2 b ρ2 h2 g2 I2=>q G2 H2 b ρ2 h2 (g1.trans g2) I2
theorem t_not (h:wpT t ρ fun b ρ1=>Ψ (!b) ρ1):wpT (tNot t) ρ Ψ:=by
 intro G F σ H I Q q
 exact h G F σ H I _ fun G1 H1 b ρ1 h1 g1 I1=>q G1 H1 (!b) ρ1 h1 g1 I1
theorem wpT.mono {Ψ':Bool→List Sl→Prop} (h:wpT t ρ Ψ) (e:∀ b ρ',Ψ b ρ'→Ψ' b ρ'):wpT t ρ Ψ':=fun G F σ H I Q q=>h G F σ H I Q fun G1 H1 b ρ1 h1 g1 I1=>q G1 H1 b ρ1 (e _ _ h1) g1 I1
theorem t_andJ {b c:Bool} (h1:wpT t ρ fun x ρ1=>x=b∧ρ1=ρ) (h2:b=true→wpT u ρ fun x ρ1=>x=c∧ρ1=ρ) (h:Ψ (b && c) ρ):wpT (tAnd t u) ρ Ψ:=by
 refine t_and (h1.mono ?_)
 rintro x ρ1 ⟨rfl,rfl⟩
 cases x with
 | true=>rw [if_pos rfl]; exact (h2 rfl).mono fun x ρ1 ⟨e1,e2⟩=>by subst e1 e2; exact h
 | false=>exact h
theorem v_and (h:wpV ta ρ fun r ρ1=>∃ b,rd ρ1 r=some (.bl b)∧if b=true then wpV tb ρ1 Φ else Φ (.d (.bl false)) ρ1):wpV (tAndV ta tb) ρ Φ:=by
 intro G F σ H I Q q
 refine h G F σ H I _ fun G1 H1 v r ρ1 ⟨b,e,h1⟩ g1 I1 ok1=>?_
 refine ⟨b,read_bl I1 ok1 e,?_⟩
 cases b with
 | true=>exact (by simpa using h1:wpV tb ρ1 Φ) G1 F σ H1 I1 Q (q.at g1 fun _ _ z=>z)
 | false=>exact q G1 H1 _ (.d (.bl false)) ρ1 (by simpa using h1) g1 I1 rfl
theorem v_or (h:wpV ta ρ fun r ρ1=>∃ b,rd ρ1 r=some (.bl b)∧if b=true then Φ (.d (.bl true)) ρ1 else wpV tb ρ1 Φ):wpV (tOrV ta tb) ρ Φ:=by
 intro G F σ H I Q q
 refine h G F σ H I _ fun G1 H1 v r ρ1 ⟨b,e,h1⟩ g1 I1 ok1=>?_
 refine ⟨b,read_bl I1 ok1 e,?_⟩
 cases b with
 | true=>exact q G1 H1 _ (.d (.bl true)) ρ1 (by simpa using h1) g1 I1 rfl
 | false=>exact (by simpa using h1:wpV tb ρ1 Φ) G1 F σ H1 I1 Q (q.at g1 fun _ _ z=>z)
theorem v_andJ {b c:Bool} (h1:wpV ta ρ fun x ρ1=>x=.d (.bl b)∧ρ1=ρ) (h2:b=true→wpV tb ρ fun x ρ1=>x=.d (.bl c)∧ρ1=ρ) (h:Φ (.d (.bl (b && c))) ρ):wpV (tAndV ta tb) ρ Φ:=by
 refine v_and (h1.mono ?_)
 rintro x ρ1 ⟨rfl,rfl⟩
 refine ⟨b,rfl,?_⟩
 cases b with
 | true=>rw [if_pos rfl]; exact (h2 rfl).mono fun x ρ1 ⟨e1,e2⟩=>by subst e1 e2; exact h
 | false=>exact h
theorem v_orJ {b c:Bool} (h1:wpV ta ρ fun x ρ1=>x=.d (.bl b)∧ρ1=ρ) (h2:b=false→wpV tb ρ fun x ρ1=>x=.d (.bl c)∧ρ1=ρ) (h:Φ (.d (.bl (b || c))) ρ):wpV (tOrV ta tb) ρ Φ:=by
 refine v_or (h1.mono ?_)
 rintro x ρ1 ⟨rfl,rfl⟩
 refine ⟨b,rfl,?_⟩
 cases b with
 | true=>exact h
 | false=>exact (h2 rfl).mono fun x ρ1 ⟨e1,e2⟩=>by subst e1 e2; exact h
theorem v_not (h:wpV ta ρ fun r ρ1=>∃ d b,rd ρ1 r=some d∧truD d=some b∧Φ (.d (.bl (!b))) ρ1):wpV (tNotT ta K) ρ Φ:=by
 intro G F σ H I Q q
 refine h G F σ H I _ fun G1 H1 v r ρ1 ⟨d,b,e,e2,h1⟩ g1 I1 ok1=>?_
 exact ⟨b,truV I1 ok1 e e2,q G1 H1 _ _ ρ1 h1 g1 I1 (show Den G1 (.bl (!b)) (.bl (!b)) from rfl)⟩
theorem v_if (h:wpT t ρ fun b ρ1=>if b=true then wpV ta ρ1 Φ else wpV tb ρ1 Φ):wpV (tIf t ta tb) ρ Φ:=by
 intro G F σ H I Q q
 refine h G F σ H I _ fun G1 H1 b ρ1 h1 g1 I1=>?_
 cases b with
 | true=>exact (by simpa using h1:wpV ta ρ1 Φ) G1 F σ H1 I1 Q (q.at g1 fun _ _ z=>z)
 | false=>exact (by simpa using h1:wpV tb ρ1 Φ) G1 F σ H1 I1 Q (q.at g1 fun _ _ z=>z)
end
structure VE where
 nx:List Sl→Prop
 rt:Rs→List Sl→Prop
 bk:List Sl→Prop:=fun _=>False
 ct:List Sl→Prop:=fun _=>False
def Kp (B:List Nat) (σ σ':St):Prop:=∀ i∈B,σ'[i]? = σ[i]?
theorem Kp.refl (B:List Nat) (σ:St):Kp B σ σ:=fun _ _=>rfl
theorem Kp.trans {B:List Nat} {σ σ1 σ2:St} (a:Kp B σ σ1) (b:Kp B σ1 σ2):Kp B σ σ2:=fun i hi=>(b i hi).trans (a i hi)
def NX (B:List Nat) (G F:Hp) (σ:St) (Ψ:List Sl→Prop) (N:St→Hp→Prop):Prop:=∀ G' σ' H' ρ',Ψ ρ'→Same G G'→Kp B σ σ'→SI G' F ρ' σ' H'→N σ' H'
def RT (B:List Nat) (G F:Hp) (σ:St) (Ψ:Rs→List Sl→Prop) (N:VK):Prop:=∀ G' σ' H' ρ' r v,Ψ r ρ'→Same G G'→Kp B σ σ'→SI G' F ρ' σ' H'→RsOk G' F ρ' σ' H' r v→N v H'
theorem NX.at {B:List Nat} {G F:Hp} {σ:St} {Ψ:List Sl→Prop} {N:St→Hp→Prop} (h:NX B G F σ Ψ N) {G':Hp} {σ':St} (g:Same G G') (k:Kp B σ σ'):NX B G' F σ' Ψ N:=fun G2 σ2 H2 ρ2 p g2 k2 I=>h G2 σ2 H2 ρ2 p (g.trans g2) (k.trans k2) I
theorem RT.at {B:List Nat} {G F:Hp} {σ:St} {Ψ:Rs→List Sl→Prop} {N:VK} (h:RT B G F σ Ψ N) {G':Hp} {σ':St} (g:Same G G') (k:Kp B σ σ'):RT B G' F σ' Ψ N:=fun G2 σ2 H2 ρ2 r v p g2 k2 I ok=>h G2 σ2 H2 ρ2 r v p (g.trans g2) (k.trans k2) I ok
def wpS (B:List Nat) (ts:TS) (ρ:List Sl) (Ψ:VE):Prop:=∀ G F σ H,SI G F ρ σ H→∀ D:Ends,NX B G F σ Ψ.nx D.nx→RT B G F σ Ψ.rt D.rt→NX B G F σ Ψ.bk D.bk→NX B G F σ Ψ.ct D.ct→ts D σ H
def wpG (B:List Nat) (g:TG) (r:Rs) (ρ:List Sl) (Φ:List Sl→Prop):Prop:=∀ G F σ H v,SI G F ρ σ H→RsOk G F ρ σ H r v→∀ N:St→Hp→Prop,NX B G F σ Φ N→g v σ H N
def wpGs (B:List Nat) (g:TGs) (ds:List D) (ρ:List Sl) (Φ:List Sl→Prop):Prop:=∀ G F σ H vs,SI G F ρ σ H→Dens G ds vs→∀ N:St→Hp→Prop,NX B G F σ Φ N→g vs σ H N
section
variable {B:List Nat} {ρ:List Sl} {Ψ:VE} {t u:TS} {te:TE} {c:TT}
theorem s_seq (h:wpS B t ρ { Ψ with nx:=fun ρ1=>wpS B u ρ1 Ψ }):wpS B (tSeq t u) ρ Ψ:=by
 intro G F σ H I D n r b ct
 refine h G F σ H I _ ?_ r b ct
 intro G1 σ1 H1 ρ1 h1 g1 k1 I1
 exact h1 G1 F σ1 H1 I1 D (n.at g1 k1) (r.at g1 k1) (b.at g1 k1) (ct.at g1 k1)
theorem s_next (h:Ψ.nx ρ):wpS B tNext ρ Ψ:=fun G F σ H I D n r b ct=>n G σ H ρ h (Same.refl _) (Kp.refl _ _) I
theorem s_drop (h:wpV te ρ fun _ ρ1=>Ψ.nx ρ1):wpS B (tDrop te) ρ Ψ:=fun G F σ H I D n r b ct=>
 h G F σ H I _ fun G1 H1 v x ρ1 h1 g1 I1 _=>n G1 σ H1 ρ1 h1 g1 (Kp.refl _ _) I1
theorem s_ret (h:wpV te ρ fun r ρ1=>Ψ.rt r ρ1):wpS B (tRet te) ρ Ψ:=fun G F σ H I D n r b ct=>
 h G F σ H I _ fun G1 H1 v x ρ1 h1 g1 I1 ok=>r G1 σ H1 ρ1 x v h1 g1 (Kp.refl _ _) I1 ok
theorem s_if (h:wpT c ρ fun b ρ1=>if b=true then wpS B t ρ1 Ψ else wpS B u ρ1 Ψ):wpS B (tIfS c t u) ρ Ψ:=by
 intro G F σ H I D n r b ct
 refine h G F σ H I _ fun G1 H1 x ρ1 h1 g1 I1=>?_
 cases x with
 | true=>exact (by simpa using h1:wpS B t ρ1 Ψ) G1 F σ H1 I1 D (n.at g1 (Kp.refl _ _)) (r.at g1 (Kp.refl _ _)) (b.at g1 (Kp.refl _ _)) (ct.at g1 (Kp.refl _ _))
 | false=>exact (by simpa using h1:wpS B u ρ1 Ψ) G1 F σ H1 I1 D (n.at g1 (Kp.refl _ _)) (r.at g1 (Kp.refl _ _)) (b.at g1 (Kp.refl _ _)) (ct.at g1 (Kp.refl _ _))
theorem s_asg {g:TG} (h:wpV te ρ fun r ρ1=>wpG B g r ρ1 Ψ.nx):wpS B (tAsg te g) ρ Ψ:=by
 intro G F σ H I D n r b ct
 refine h G F σ H I _ fun G1 H1 v x ρ1 h1 g1 I1 ok=>?_
 exact h1 G1 F σ H1 v I1 ok _ (n.at g1 (Kp.refl _ _))
theorem g_name {i:Nat} {r:Rs} {Φ:List Sl→Prop} (hi:B.contains i=false) (h:Φ (ρ.set i r.sl)):wpG B (gName i) r ρ Φ:=by
 intro G F σ H v I ok N n
 refine n G _ H _ h (Same.refl _) (fun j hj=>?_) (I.asg (i:=i) ok)
 rw [List.getElem?_set,if_neg]
 intro z; subst z
 rw [List.contains_eq_mem,decide_eq_false_iff_not] at hi
 exact hi hj
theorem gs_nil {Φ:List Sl→Prop} (h:Φ ρ):wpGs B gNil [] ρ Φ:=fun G F σ H vs I d N n=>⟨d,n G σ H ρ h (Same.refl _) (Kp.refl _ _) I⟩
theorem gs_cons {g:TG} {gs:TGs} {x:D} {ds:List D} {Φ:List Sl→Prop} (h:wpG B g (.d x) ρ fun ρ1=>wpGs B gs ds ρ1 Φ):wpGs B (gCons g gs) (x::ds) ρ Φ:=by
 intro G F σ H vs I d N n
 obtain ⟨v,r,rfl,d1,d2⟩:=d
 refine ⟨v,r,rfl,h G F σ H v I d1 _ ?_⟩
 intro G1 σ1 H1 ρ1 h1 g1 k1 I1
 exact h1 G1 F σ1 H1 r I1 (Dens.mono g1 _ _ d2) N (n.at g1 k1)
theorem g_tup {K:PySem.W.Frag} {k:Nat} {gs:TGs} {r:Rs} {ds:List D} {Φ:List Sl→Prop} (e:rd ρ r=some (.tup ds)) (hk:ds.length=k) (h:wpGs B gs ds ρ Φ):wpG B (gTup K k gs) r ρ Φ:=by
 intro G F σ H v I ok N n
 obtain ⟨a,vs,rfl,h1,h2⟩:=read_tup I ok e
 exact ⟨a,vs,rfl,SqT.of (I.g _ _ h1),by rw [h2.length]; exact hk,h G F σ H vs I h2 N n⟩
theorem dens_set {H:Hp}:∀{xs:List D} {vs:List V} {d:D} {v:V} (j:Nat),Dens H xs vs→Den H d v→Dens H (xs.set j d) (vs.set j v)
 | [],vs,d,v,j,h,g=>by cases (show vs=[] from h); exact rfl
 | x::xs,vs,d,v,0,h,g=>by
  obtain ⟨w,r,rfl,h1,h2⟩:=h
  exact ⟨v,r,rfl,g,h2⟩
 | x::xs,vs,d,v,j+1,h,g=>by
  obtain ⟨w,r,rfl,h1,h2⟩:=h
  exact ⟨w,r.set j v,rfl,h1,dens_set j h2 g⟩
def sq:D→Option (List D)
 | .tup l=>some l
 | .lst l=>some l
 | _=>none
end
section
variable {ρ:List Sl} {Φ:Rs→List Sl→Prop} {K:PySem.W.Frag} {t:TA} {i:Nat} {xs:List D}
theorem v_bm {T:String} {r:V→List V→Hp→VK→Prop} {to:TE} (h:wpV to ρ fun o ρ1=>(T = "list"∧∃ xs,rd ρ1 o=some (.lst xs))∧wpA t ρ1 fun rs ρ2=>CallV (fun vs H Q=>∃ v vt,vs=v::vt∧r v vt H Q) (o::rs) ρ2 Φ):wpV (tBM K T r to t) ρ Φ:=by
 intro G F σ H I Q q
 refine h G F σ H I _ fun G1 H1 v o ρ1 ⟨⟨eT,xs,hx⟩,h1⟩ g1 I1 ok1=>?_
 obtain ⟨a,ws,rfl,s1,d1⟩:=read_lst (K:=K) I1 ok1 hx
 refine ⟨.inl ⟨eT,ws,s1⟩,?_⟩
 refine h1 G1 (hold o (.ref a) H1 F) σ H1 (I1.held ok1) _ fun G2 H2 vs rs ρ2 h2 g2 I2 oks=>?_
 obtain ⟨I3,ok3⟩:=RsOks.cons ok1 g2 I2 oks
 obtain ⟨v,vt,e,z⟩:=h2 G2 F σ H2 (.ref a::vs) I3 ok3 Q (q.at (g1.trans g2) fun _ _ p=>p)
 cases e
 exact z
theorem slotL {G F H:Hp} {σ:St} {v:V} (I:SI G F ρ σ H) (hi:ρ[i]? = some (.l xs)) (ok:RsOk G F ρ σ H (.b i) v):∃ a vs,v=.ref a∧σ[i]? = some (some (.ref a))∧H a=some (.lst vs)∧Dens G xs vs:=by
 obtain ⟨o,e,a,_,z,h1,vs,rfl,h2⟩:=I.ok i _ hi
 have ok':σ[i]? = some (some v):=ok
 rw [ok'] at e
 cases e
 cases z
 exact ⟨a,vs,rfl,ok',h1,h2⟩
theorem m_append {r:Rs} {d:D} (hi:ρ[i]? = some (.l xs)) (hr:r.it=some d) (hz:xs.length<sizeLine) (h:Φ (.d .non) (ρ.set i (.l (xs++[d])))):CallV (fun vs H Q=>∃ v vt,vs=v::vt∧rAppend v vt H Q) [.b i,r] ρ Φ:=by
 intro G F σ H vs I oks Q q
 obtain ⟨v,w,rfl,o1,o2⟩:=two_of oks
 obtain ⟨G1,g1,I1,dn⟩:=lay1 I o2 hr
 obtain ⟨a,us,rfl,e1,h1,h2⟩:=slotL I1 hi o1
 refine ⟨_,_,rfl,a,us,w,rfl,rfl,h1,by rw [h2.length]; exact hz,?_⟩
 exact q G1 _ .non (.d .non) _ h g1 (I1.put hi e1 (h2.snoc dn)) rfl
end
end L4
namespace L2
open PySem PySem.Spec PyProof.Rows
end L2
namespace L4
open PySem L2
variable {ρ:List Sl} {Φ:Rs→List Sl→Prop} {K:PySem.W.Frag}
def argS (ρ:List Sl):Rs→Sl
 | .d x=>.d x
 | .o xs=>.o xs
 | .b i=>(ρ[i]?).getD .u
 | .raw _=>.u
def isB:List Rs→List Nat
 | []=>[]
 | .b i::rs=>i::isB rs
 | _::rs=>isB rs
theorem mem_isB {i:Nat}:∀{rs:List Rs},i∈isB rs↔Rs.b i∈rs
 | []=>by simp [isB]
 | .b j::rs=>by
  have ih:=mem_isB (i:=i) (rs:=rs)
  simp only [isB,List.mem_cons,ih,Rs.b.injEq]
 | .d x::rs=>by
  have ih:=mem_isB (i:=i) (rs:=rs)
  simp only [isB,List.mem_cons,ih]
  exact ⟨.inr,fun h=>h.resolve_left (fun z=>by cases z)⟩
 | .o x::rs=>by
  have ih:=mem_isB (i:=i) (rs:=rs)
  simp only [isB,List.mem_cons,ih]
  exact ⟨.inr,fun h=>h.resolve_left (fun z=>by cases z)⟩
 | .raw x::rs=>by
  have ih:=mem_isB (i:=i) (rs:=rs)
  simp only [isB,List.mem_cons,ih]
  exact ⟨.inr,fun h=>h.resolve_left (fun z=>by cases z)⟩
theorem isB_inj {i:Nat}:∀{rs:List Rs} {j k:Nat},(isB rs).Nodup→rs[j]? = some (.b i)→rs[k]? = some (.b i)→j=k
 | [],j,k,n,h1,h2=>by simp at h1
 | r::rs,j,k,n,h1,h2=>by
  have nt:(isB rs).Nodup:=by
   cases r with
   | b i=>exact (List.nodup_cons.mp n).2
   | d x=>exact n
   | o x=>exact n
   | raw x=>exact n
  cases j with
  | zero=>
   cases k with
   | zero=>rfl
   | succ k=>
    simp at h1 h2
    subst h1
    exact absurd (mem_isB.mpr (List.mem_of_getElem? h2)) (List.nodup_cons.mp n).1
  | succ j=>
   cases k with
   | zero=>
    simp at h1 h2
    subst h2
    exact absurd (mem_isB.mpr (List.mem_of_getElem? h1)) (List.nodup_cons.mp n).1
   | succ k=>exact congrArg (· + 1) (isB_inj nt (by simpa using h1:rs[j]? = some (.b i)) (by simpa using h2:rs[k]? = some (.b i)))
def kept (ρ:List Sl) (σ:St) (rs:List Rs) (a:Addr):Prop:=∃(i:Nat) (xs:Pl),ρ[i]? = some (Sl.o xs)∧σ[i]? = some (some (V.ref a))∧Rs.b i∉rs
open Classical in
noncomputable def foc (H F:Hp) (ρ:List Sl) (σ:St) (rs:List Rs):Hp:=fun a=>if kept ρ σ rs a then H a else F a
def wb (ρ:List Sl):List Rs→List Sl→List Sl
 | [],_=>ρ
 | .b i::rs,as=>match ρ[i]? with
  | some (.o _)=>wb (ρ.set i (as.headD .u)) rs as.tail
  | _=>wb ρ rs as.tail
 | _::rs,as=>wb ρ rs as.tail
theorem wb_get {i:Nat} {s:Sl}:∀{rs:List Rs} {ρ as:List Sl},(wb ρ rs as)[i]? = some s→(∃ j:Nat,rs[j]? = some (Rs.b i)∧(as[j]? = some s∨s=.u))∨(ρ[i]? = some s∧((∃ xs,s=.o xs)→Rs.b i∉rs))
 | [],ρ,as,h=>.inr ⟨h,fun _=>List.not_mem_nil⟩
 | r::rs,ρ,as,h=>by
  have tl:∀ j:Nat,as.tail[j]? = as[j+1]?:=fun j=>by cases as <;> simp
  have go:∀ ρ':List Sl,(wb ρ' rs as.tail)[i]? = some s→(∃ j:Nat,(r::rs)[j]? = some (Rs.b i)∧(as[j]? = some s∨s=.u))∨(ρ'[i]? = some s∧((∃ xs,s=.o xs)→Rs.b i∉rs)):=fun ρ' h=>by
   rcases wb_get h with ⟨j,h1,h2⟩ | h1
   ·exact .inl ⟨j+1,by simpa using h1,by rw [← tl]; exact h2⟩
   ·exact .inr h1
  cases r with
  | b k=>
   unfold wb at h
   cases e:ρ[k]? with
   | none=>
    simp only [e] at h
    rcases go ρ h with q | ⟨q1,q2⟩
    ·exact .inl q
    ·refine .inr ⟨q1,fun z m=>?_⟩
     rcases List.mem_cons.mp m with m | m
     ·cases m; rw [e] at q1; cases q1
     ·exact q2 z m
   | some s'=>
    cases s' with
    | o ys=>
     simp only [e] at h
     rcases go _ h with q | ⟨q1,q2⟩
     ·exact .inl q
     ·by_cases z:k=i
      ·subst z
       rw [List.getElem?_set,if_pos rfl,if_pos (List.getElem?_eq_some_iff.mp e).1] at q1
       cases as with
       | nil=>exact .inl ⟨0,rfl,.inr (Option.some.inj q1).symm⟩
       | cons s0 as'=>exact .inl ⟨0,rfl,.inl q1⟩
      ·rw [List.getElem?_set,if_neg z] at q1
       refine .inr ⟨q1,fun z' m=>?_⟩
       rcases List.mem_cons.mp m with m | m
       ·cases m; exact z rfl
       ·exact q2 z' m
    | _=>
     simp only [e] at h
     rcases go ρ h with q | ⟨q1,q2⟩
     ·exact .inl q
     ·refine .inr ⟨q1,fun z m=>?_⟩
      rcases List.mem_cons.mp m with m | m
      ·cases m
       obtain ⟨xs,z⟩:=z
       rw [z,e] at q1
       cases q1
      ·exact q2 z m
  | d x=>
   rcases go ρ h with q | ⟨q1,q2⟩
   ·exact .inl q
   ·exact .inr ⟨q1,fun z m=>q2 z ((List.mem_cons.mp m).resolve_left fun z=>by cases z)⟩
  | o x=>
   rcases go ρ h with q | ⟨q1,q2⟩
   ·exact .inl q
   ·exact .inr ⟨q1,fun z m=>q2 z ((List.mem_cons.mp m).resolve_left fun z=>by cases z)⟩
  | raw x=>
   rcases go ρ h with q | ⟨q1,q2⟩
   ·exact .inl q
   ·exact .inr ⟨q1,fun z m=>q2 z ((List.mem_cons.mp m).resolve_left fun z=>by cases z)⟩
section
variable {G F H:Hp} {ρ:List Sl} {σ:St}
theorem RsOks.get:∀{rs:List Rs} {F:Hp} {vs:List V} {j:Nat} {v:V},RsOks G F ρ σ H rs vs→vs[j]? = some v→∃ r,rs[j]? = some r∧RsOk G F ρ σ H r v
 | [],F,vs,j,v,h,e=>by cases (show vs=[] from h); simp at e
 | r::rs,F,vs,j,v,h,e=>by
  obtain ⟨w,vt,rfl,ok,oks⟩:=h
  cases j with
  | zero=>simp at e; subst e; exact ⟨r,rfl,ok⟩
  | succ j=>
   obtain ⟨r',h1,h2⟩:=RsOks.get oks (by simpa using e:vt[j]? = some v)
   exact ⟨r',by simpa using h1,h2.weak (hold_same r w ok)⟩
theorem RsOks.len:∀{rs:List Rs} {F:Hp} {vs:List V},RsOks G F ρ σ H rs vs→vs.length=rs.length
 | [],F,vs,h=>by cases (show vs=[] from h); rfl
 | r::rs,F,vs,h=>by
  obtain ⟨w,vt,rfl,ok,oks⟩:=h
  rw [List.length_cons,List.length_cons,oks.len]
theorem RsOks.apart:∀{rs:List Rs} {F:Hp} {vs:List V} {j k:Nat} {a:Addr} {xs ys:Pl},RsOks G F ρ σ H rs vs→rs[j]? = some (.o xs)→rs[k]? = some (.o ys)→vs[j]? = some (.ref a)→vs[k]? = some (.ref a)→j=k
 | [],F,vs,j,k,a,xs,ys,h,h1,_,_,_=>by simp at h1
 | r::rs,F,vs,j,k,a,xs,ys,h,h1,h2,h3,h4=>by
  obtain ⟨w,vt,rfl,ok,oks⟩:=h
  have no:∀(n:Nat) (zs us:Pl),r=.o us→w=.ref a→rs[n]? = some (.o zs)→vt[n]? = some (.ref a)→False:=fun n zs us e1 e2 e3 e4=>by
   subst e1 e2
   obtain ⟨r',q1,q2⟩:=RsOks.get oks e4
   rw [e3] at q1
   cases q1
   obtain ⟨b,ws,z,_,_,_,z5,_⟩:=q2
   cases z
   obtain ⟨b,ws',z,y1,_⟩:=ok
   cases z
   have:hold (.o us) (.ref a) H F a=some ws':=by
    show (if a=a then H a else F a)=_
    rw [if_pos rfl]; exact y1
   rw [this] at z5
   cases z5
  cases j with
  | zero=>
   cases k with
   | zero=>rfl
   | succ k=>simp at h1 h2 h3 h4; exact (no k ys xs h1 h3 h2 h4).elim
  | succ j=>
   cases k with
   | zero=>simp at h1 h2 h3 h4; exact (no j xs ys h2 h4 h1 h3).elim
   | succ k=>exact congrArg (· + 1) (RsOks.apart oks (by simpa using h1:rs[j]? = some (.o xs)) (by simpa using h2:rs[k]? = some (.o ys)) (by simpa using h3:vt[j]? = some (.ref a)) (by simpa using h4))
theorem foc_kept {rs:List Rs} {a:Addr} (h:kept ρ σ rs a):foc H F ρ σ rs a=H a:=by unfold foc; rw [if_pos h]
theorem foc_not {rs:List Rs} {a:Addr} (h:¬ kept ρ σ rs a):foc H F ρ σ rs a=F a:=by unfold foc; rw [if_neg h]
theorem foc_same {rs:List Rs} (I:SI G F ρ σ H):Same F (foc H F ρ σ rs):=fun b o e=>by
 rw [foc_not]
 ·exact e
 ·rintro ⟨i,xs,h1,h2,_⟩
  rw [(I.out b ⟨i,xs,h1,h2⟩).2] at e
  cases e
theorem SI.focus {rs:List Rs} {vs:List V} (I:SI G F ρ σ H) (oks:RsOks G F ρ σ H rs vs) (nb:(isB rs).Nodup):SI G (foc H F ρ σ rs) (rs.map (argS ρ)) (vs.map some) H:=by
 have get:∀(j:Nat) (s:Sl),(rs.map (argS ρ))[j]? = some s→∃ r v,rs[j]? = some r∧s=argS ρ r∧vs[j]? = some v∧RsOk G F ρ σ H r v:=fun j s e=>by
  rw [List.getElem?_map] at e
  cases z:rs[j]? with
  | none=>rw [z] at e; cases e
  | some r=>
   rw [z] at e
   have hj:j<vs.length:=by rw [oks.len]; exact (List.getElem?_eq_some_iff.mp z).1
   obtain ⟨r',q1,q2⟩:=oks.get (List.getElem?_eq_getElem hj)
   rw [z] at q1
   cases q1
   exact ⟨r,vs[j],rfl,(Option.some.inj e).symm,List.getElem?_eq_getElem hj,q2⟩
 have own:∀(j:Nat) (xs:Pl) (a:Addr),(rs.map (argS ρ))[j]? = some (.o xs)→(vs.map some)[j]? = some (some (.ref a))→G a=none∧F a=none∧((∃ ys,rs[j]? = some (.o ys)∧vs[j]? = some (.ref a)∧¬ owns ρ σ a)∨∃ i,rs[j]? = some (.b i)∧ρ[i]? = some (.o xs)∧σ[i]? = some (some (.ref a))):=fun j xs a h1 h2=>by
  obtain ⟨r,v,e1,e2,e3,ok⟩:=get j _ h1
  rw [List.getElem?_map,e3] at h2
  cases h2
  cases r with
  | d x=>cases e2
  | raw x=>cases e2
  | o ys=>
   obtain ⟨b,ws,z,z1,z2,z3,z4,z5⟩:=ok
   cases z
   exact ⟨z3,z4,.inl ⟨ys,e1,e3,z5⟩⟩
  | b i=>
   have e2':Sl.o xs=(ρ[i]?).getD .u:=e2
   cases z:ρ[i]? with
   | none=>rw [z] at e2'; cases e2'
   | some s=>
    rw [z] at e2'
    cases (show Sl.o xs=s from e2')
    have o:=I.out a ⟨i,xs,z,ok⟩
    exact ⟨o.1,o.2,.inr ⟨i,e1,z,ok⟩⟩
 refine ⟨fun j s e=>?_,I.g,fun b o e=>?_,fun b o e=>?_,fun j k a xs ys h1 h2 h3 h4=>?_,fun a ha=>?_,fun b ws e=>?ft⟩
 case ft=>
  by_cases z:kept ρ σ rs b
  ·rw [foc_kept z] at e
   obtain ⟨i,xs,h1,h2,_⟩:=z
   obtain ⟨o,q1,a,us,q2,q3,q4⟩:=I.ok i _ h1
   rw [h2] at q1
   cases q1
   cases q2
   rw [q3] at e
   exact q4.ntup ws (Option.some.inj e)
  ·rw [foc_not z] at e
   exact I.ft b ws e
 ·obtain ⟨r,v,e1,e2,e3,ok⟩:=get j s e
  refine ⟨some v,by rw [List.getElem?_map,e3]; rfl,?_⟩
  subst e2
  cases r with
  | d x=>exact ⟨v,rfl,ok⟩
  | raw x=>trivial
  | o ys=>
   obtain ⟨b,ws,z,z1,z2,z3,z4,z5⟩:=ok
   subst z
   exact ⟨b,ws,rfl,z1,z2⟩
  | b i=>
   have ok':σ[i]? = some (some v):=ok
   show SlOk G H ((ρ[i]?).getD .u) (some v)
   cases z:ρ[i]? with
   | none=>trivial
   | some s=>
    obtain ⟨o,q1,q2⟩:=I.ok i s z
    rw [ok'] at q1
    cases q1
    exact q2
 ·by_cases z:kept ρ σ rs b
  ·rw [foc_kept z] at e; exact e
  ·rw [foc_not z] at e; exact I.f _ _ e
 ·by_cases z:kept ρ σ rs b
  ·obtain ⟨i,xs,h1,h2,_⟩:=z
   exact (I.out b ⟨i,xs,h1,h2⟩).1
  ·rw [foc_not z] at e; exact I.gf _ _ e
 ·obtain ⟨_,_,o1⟩:=own j xs a h1 h3
  obtain ⟨_,_,o2⟩:=own k ys a h2 h4
  rcases o1 with ⟨us,q1,q2,q3⟩ | ⟨i,q1,q2,q3⟩
  ·rcases o2 with ⟨ws,p1,p2,p3⟩ | ⟨i',p1,p2,p3⟩
   ·exact oks.apart q1 p1 q2 p2
   ·exact absurd ⟨i',ys,p2,p3⟩ q3
  ·rcases o2 with ⟨ws,p1,p2,p3⟩ | ⟨i',p1,p2,p3⟩
   ·exact absurd ⟨i,xs,q2,q3⟩ p3
   ·have e:=I.nd i i' a xs ys q2 p2 q3 p3
    subst e
    exact isB_inj nb q1 p1
 ·obtain ⟨j,xs,h1,h2⟩:=ha
  obtain ⟨g,f,o⟩:=own j xs a h1 h2
  refine ⟨g,?_⟩
  rw [foc_not]
  ·exact f
  ·rintro ⟨i,us,e1,e2,e3⟩
   rcases o with ⟨ys,q1,q2,q3⟩ | ⟨i',q1,q2,q3⟩
   ·exact q3 ⟨i,us,e1,e2⟩
   ·have e:=I.nd i i' a us xs e1 q2 e2 q3
    subst e
    exact e3 (List.mem_of_getElem? q1)
theorem SI.unfocus {rs:List Rs} {vs:List V} {G' H':Hp} {as:List Sl} (I:SI G F ρ σ H) (oks:RsOks G F ρ σ H rs vs) (g:Same G G') (I':SI G' (foc H F ρ σ rs) as (vs.map some) H'):SI G' F (wb ρ rs as) σ H':=by
 have hf:=foc_same (rs:=rs) I
 have at':∀{i j:Nat},rs[j]? = some (.b i)→∃ v,vs[j]? = some v∧σ[i]? = some (some v):=fun {i j} e=>by
  have hj:j<vs.length:=by rw [oks.len]; exact (List.getElem?_eq_some_iff.mp e).1
  obtain ⟨r',q1,q2⟩:=oks.get (List.getElem?_eq_getElem hj)
  rw [e] at q1
  cases q1
  exact ⟨_,List.getElem?_eq_getElem hj,q2⟩
 have own:∀(i:Nat) (xs:Pl) (a:Addr),(wb ρ rs as)[i]? = some (.o xs)→σ[i]? = some (some (.ref a))→(∃ j:Nat,rs[j]? = some (Rs.b i)∧as[j]? = some (Sl.o xs)∧(vs.map some)[j]? = some (some (V.ref a)))∨(ρ[i]? = some (.o xs)∧kept ρ σ rs a):=fun i xs a h1 h2=>by
  rcases wb_get h1 with ⟨j,e1,e2⟩ | ⟨e1,e2⟩
  ·obtain ⟨v,q1,q2⟩:=at' e1
   rw [h2] at q2
   cases q2
   refine .inl ⟨j,e1,e2.resolve_right (fun z=>nomatch z),by rw [List.getElem?_map,q1]; rfl⟩
  ·exact .inr ⟨e1,i,xs,e1,h2,e2 ⟨xs,rfl⟩⟩
 have keptH:∀ a,kept ρ σ rs a→∃ ws,H a=some ws∧foc H F ρ σ rs a=some ws:=fun a k=>by
  obtain ⟨i,xs,e1,e2,e3⟩:=k
  obtain ⟨o,q1,b,ws,z,q2,q3⟩:=I.ok i _ e1
  rw [e2] at q1
  cases q1
  cases z
  exact ⟨ws,q2,by rw [foc_kept ⟨i,xs,e1,e2,e3⟩]; exact q2⟩
 refine ⟨fun i s e=>?_,I'.g,fun b o e=>I'.f _ _ (hf _ _ e),fun b o e=>I'.gf _ _ (hf _ _ e),fun i k a xs ys h1 h2 h3 h4=>?_,fun a ha=>?_,fun b xs e=>I'.ft b xs (hf _ _ e)⟩
 ·rcases wb_get e with ⟨j,e1,e2⟩ | ⟨e1,e2⟩
  ·obtain ⟨v,q1,q2⟩:=at' e1
   refine ⟨_,q2,?_⟩
   rcases e2 with e2 | rfl
   ·obtain ⟨o,p1,p2⟩:=I'.ok j s e2
    rw [List.getElem?_map,q1] at p1
    cases p1
    exact p2
   ·trivial
  ·obtain ⟨o,p1,p2⟩:=I.ok i s e1
   refine ⟨o,p1,p2.up g fun xs a ws z1 z2 z3=>?_⟩
   subst z1 z2
   obtain ⟨ws',k1,k2⟩:=keptH a ⟨i,xs,e1,p1,e2 ⟨xs,rfl⟩⟩
   rw [z3] at k1
   cases k1
   exact I'.f _ _ k2
 ·rcases own i xs a h1 h3 with ⟨j1,p1,p2,p3⟩ | ⟨p1,p2⟩
  ·rcases own k ys a h2 h4 with ⟨j2,q1,q2,q3⟩ | ⟨q1,q2⟩
   ·have e:=I'.nd j1 j2 a xs ys p2 q2 p3 q3
    subst e
    rw [p1] at q1
    cases q1
    rfl
   ·obtain ⟨ws,k1,k2⟩:=keptH a q2
    rw [(I'.out a ⟨j1,xs,p2,p3⟩).2] at k2
    cases k2
  ·rcases own k ys a h2 h4 with ⟨j2,q1,q2,q3⟩ | ⟨q1,q2⟩
   ·obtain ⟨ws,k1,k2⟩:=keptH a p2
    rw [(I'.out a ⟨j2,ys,q2,q3⟩).2] at k2
    cases k2
   ·exact I.nd i k a xs ys p1 q1 h3 h4
 ·obtain ⟨i,xs,h1,h2⟩:=ha
  rcases own i xs a h1 h2 with ⟨j1,p1,p2,p3⟩ | ⟨p1,p2⟩
  ·have o:=I'.out a ⟨j1,xs,p2,p3⟩
   exact ⟨o.1,hf.free o.2⟩
  ·obtain ⟨ws,k1,k2⟩:=keptH a p2
   exact ⟨I'.gf _ _ k2,(I.out a ⟨i,xs,p1,h2⟩).2⟩
theorem RsOk.unfocus {rs:List Rs} {vs:List V} {G' H':Hp} {as:List Sl} {r:Rs} {v:V} {d:D} (I:SI G F ρ σ H) (oks:RsOks G F ρ σ H rs vs) (hr:r.it=some d) (ok:RsOk G' (foc H F ρ σ rs) as (vs.map some) H' r v):RsOk G' F (wb ρ rs as) σ H' r v:=by
 have hf:=foc_same (rs:=rs) I
 cases r with
 | d x=>exact ok
 | b i=>cases hr
 | raw w=>cases hr
 | o xs=>
  obtain ⟨a,ws,rfl,h1,h2,h3,h4,h5⟩:=ok
  refine ⟨a,ws,rfl,h1,h2,h3,hf.free h4,?_⟩
  rintro ⟨i,ys,e1,e2⟩
  rcases wb_get e1 with ⟨j,q1,q2⟩ | ⟨q1,q2⟩
  ·have hj:j<vs.length:=by rw [oks.len]; exact (List.getElem?_eq_some_iff.mp q1).1
   obtain ⟨r',p1,p2⟩:=oks.get (List.getElem?_eq_getElem hj)
   rw [q1] at p1
   cases p1
   have p2':σ[i]? = some (some vs[j]):=p2
   rw [e2] at p2'
   refine h5 ⟨j,ys,q2.resolve_right (fun z=>nomatch z),?_⟩
   rw [List.getElem?_map,List.getElem?_eq_getElem hj,← Option.some.inj p2']
   rfl
  ·obtain ⟨o,p1,b,ws',z,p2,p3⟩:=I.ok i _ q1
   rw [e2] at p1
   cases p1
   cases z
   rw [foc_kept ⟨i,ys,q1,e2,q2 ⟨ys,rfl⟩⟩,p2] at h4
   cases h4
end
abbrev PV:=List Sl→(Rs→List Sl→Prop)→Prop
def spV (P:PV):Sp:=fun vs H Q _=>∃ as Φ G F,P as Φ∧as.length=vs.length∧SI G F as (vs.map some) H∧Fin G F (vs.map some) Φ Q
theorem v_call {P:PV} {E:XK} {t:TA} {ρ:List Sl} {Φ:Rs→List Sl→Prop} (h:wpA t ρ fun rs ρ1=>(isB rs).Nodup∧P (rs.map (argS ρ1)) fun r as=>(∃ d,r.it=some d)∧Φ r (wb ρ1 rs as)):wpV (tCall (spV P) [] E t) ρ Φ:=by
 intro G F σ H I Q q
 refine h G F σ H I _ fun G1 H1 vs rs ρ1 ⟨nb,h1⟩ g1 I1 oks=>?_
 show spV P (vs++[]) H1 Q E
 rw [List.append_nil]
 refine ⟨_,_,G1,_,h1,by rw [List.length_map,oks.len],I1.focus oks nb,?_⟩
 intro G2 H2 v r as ⟨⟨d,ed⟩,h2⟩ g2 I2 ok
 exact q G2 H2 v r _ h2 (g1.trans g2) (I1.unfocus oks g2 I2) (RsOk.unfocus I1 oks ed ok)
def sel (c:Nat) (B:List Nat) (n:Nat) (ρ:List Sl):List Sl:=(List.range n).map fun j=>if B.contains (c+j) then (ρ[c+j]?).getD .u else .u
theorem sel_get {c:Nat} {B:List Nat} {n:Nat} {ρ:List Sl} {j:Nat} {s:Sl} (h:(sel c B n ρ)[j]? = some s):j<n∧(s=.u∨(c+j∈B∧ρ[c+j]? = some s)):=by
 unfold sel at h
 rw [List.getElem?_map] at h
 by_cases z:j<n
 ·rw [List.getElem?_range z] at h
  refine ⟨z,?_⟩
  have h':(if B.contains (c+j)=true then (ρ[c+j]?).getD .u else .u)=s:=Option.some.inj h
  by_cases q:B.contains (c+j)=true
  ·rw [if_pos q] at h'
   rw [List.contains_eq_mem,decide_eq_true_iff] at q
   cases e:ρ[c+j]? with
   | none=>rw [e] at h'; exact .inl h'.symm
   | some s'=>
    rw [e] at h'
    have h2:s'=s:=h'
    subst h2
    exact .inr ⟨q,rfl⟩
  ·rw [if_neg q] at h'; exact .inl h'.symm
 ·rw [List.getElem?_eq_none (Nat.le_trans (Nat.le_of_eq List.length_range) (by omega))] at h
  cases h
theorem SI.sel {G F H:Hp} {ρ:List Sl} {σ σ0:St} {c n:Nat} {B:List Nat} {vs:List V} (I:SI G F ρ σ H) (k:Kp B σ0 σ) (h0:∀ j v,vs[j]? = some v→σ0[c+j]? = some (some v)) (hn:n≤vs.length):SI G F (sel c B n ρ) (vs.map some) H:=by
 have own:∀(j:Nat) (xs:Pl) (a:Addr),(L4.sel c B n ρ)[j]? = some (.o xs)→(vs.map some)[j]? = some (some (.ref a))→ρ[c+j]? = some (.o xs)∧σ[c+j]? = some (some (.ref a)):=fun j xs a h1 h2=>by
  obtain ⟨z,q⟩:=sel_get h1
  obtain ⟨m,q⟩:=q.resolve_left fun z=>by cases z
  refine ⟨q,?_⟩
  rw [k _ m]
  rw [List.getElem?_map] at h2
  cases e:vs[j]? with
  | none=>rw [e] at h2; cases h2
  | some v=>rw [e] at h2; cases h2; exact h0 j _ e
 refine ⟨fun j s e=>?_,I.g,I.f,I.gf,fun i j a xs ys h1 h2 h3 h4=>?_,fun a ⟨j,xs,h1,h2⟩=>?_,I.ft⟩
 ·obtain ⟨z,q⟩:=sel_get e
  have hj:j<vs.length:=by omega
  refine ⟨some vs[j],by rw [List.getElem?_map,List.getElem?_eq_getElem hj]; rfl,?_⟩
  rcases q with rfl | ⟨m,q⟩
  ·trivial
  ·obtain ⟨o,e1,e2⟩:=I.ok _ s q
   rw [k _ m,h0 j _ (List.getElem?_eq_getElem hj)] at e1
   cases e1
   exact e2
 ·obtain ⟨p1,p2⟩:=own i xs a h1 h3
  obtain ⟨q1,q2⟩:=own j ys a h2 h4
  have:=I.nd _ _ a xs ys p1 q1 p2 q2
  omega
 ·obtain ⟨p1,p2⟩:=own j xs a h1 h2
  exact I.out a ⟨_,xs,p1,p2⟩
theorem RsOk.sel {G F H:Hp} {ρ:List Sl} {σ σ0:St} {c n:Nat} {B:List Nat} {vs:List V} {r:Rs} {v:V} {d:D} (hr:r.it=some d) (ok:RsOk G F ρ σ H r v) (k:Kp B σ0 σ) (h0:∀ j v,vs[j]? = some v→σ0[c+j]? = some (some v)):RsOk G F (sel c B n ρ) (vs.map some) H r v:=by
 cases r with
 | d x=>exact ok
 | b i=>cases hr
 | raw w=>cases hr
 | o xs=>
  obtain ⟨a,ws,rfl,h1,h2,h3,h4,h5⟩:=ok
  refine ⟨a,ws,rfl,h1,h2,h3,h4,?_⟩
  rintro ⟨j,ys,e1,e2⟩
  obtain ⟨z,q⟩:=sel_get e1
  obtain ⟨m,q⟩:=q.resolve_left fun z=>by cases z
  refine h5 ⟨_,ys,q,?_⟩
  rw [k _ m]
  rw [List.getElem?_map] at e2
  cases e:vs[j]? with
  | none=>rw [e] at e2; cases e2
  | some v=>rw [e] at e2; cases e2; exact h0 j _ e
theorem SI.ext {G F H:Hp} {as:List Sl} {vs:List V} (I:SI G F as (vs.map some) H) (c k:Nat) (hl:as.length=vs.length):SI G F (List.replicate c .u++(as++List.replicate k .u)) (List.replicate c none++(vs.map some++List.replicate k none)) H:=by
 have get:∀(i:Nat) (s:Sl),(List.replicate c Sl.u++(as++List.replicate k Sl.u))[i]? = some s→(s=.u∧i<c+as.length+k)∨(c≤i∧i - c<as.length∧as[i - c]? = some s):=fun i s e=>by
  by_cases z:i<c
  ·rw [List.getElem?_append_left (by rw [List.length_replicate]; exact z),List.getElem?_replicate,if_pos z] at e
   exact .inl ⟨(Option.some.inj e).symm,by omega⟩
  ·rw [List.getElem?_append_right (by rw [List.length_replicate]; omega),List.length_replicate] at e
   by_cases q:i - c<as.length
   ·rw [List.getElem?_append_left q] at e
    exact .inr ⟨by omega,q,e⟩
   ·rw [List.getElem?_append_right (by omega),List.getElem?_replicate] at e
    by_cases y:i - c - as.length<k
    ·rw [if_pos y] at e; exact .inl ⟨(Option.some.inj e).symm,by omega⟩
    ·rw [if_neg y] at e; cases e
 have st:∀ i,c≤i→i - c<as.length→(List.replicate c none++(vs.map some++List.replicate k none))[i]? = (vs.map some)[i - c]?:=fun i h1 h2=>by
  rw [List.getElem?_append_right (by rw [List.length_replicate]; exact h1),List.length_replicate,List.getElem?_append_left (by rw [List.length_map]; omega)]
 have own:∀(i:Nat) (xs:Pl),(List.replicate c Sl.u++(as++List.replicate k Sl.u))[i]? = some (.o xs)→c≤i∧i - c<as.length∧as[i - c]? = some (.o xs):=fun i xs e=>(get i _ e).resolve_left fun z=>by cases z.1
 refine ⟨fun i s e=>?_,I.g,I.f,I.gf,fun i j a xs ys h1 h2 h3 h4=>?_,fun a ⟨i,xs,h1,h2⟩=>?_,I.ft⟩
 ·rcases get i s e with ⟨rfl,z⟩ | ⟨z1,z2,z3⟩
  ·have hl2:(List.replicate c none++(vs.map some++List.replicate k none)).length=c+vs.length+k:=by
    rw [List.length_append,List.length_append,List.length_replicate,List.length_replicate,List.length_map]; omega
   have hi:i<(List.replicate c none++(vs.map some++List.replicate k none)).length:=by rw [hl2,← hl]; exact z
   exact ⟨_,List.getElem?_eq_getElem hi,trivial⟩
  ·obtain ⟨o,e1,e2⟩:=I.ok _ s z3
   exact ⟨o,by rw [st i z1 z2]; exact e1,e2⟩
 ·obtain ⟨p1,p2,p3⟩:=own i xs h1
  obtain ⟨q1,q2,q3⟩:=own j ys h2
  rw [st i p1 p2] at h3
  rw [st j q1 q2] at h4
  have:=I.nd _ _ a xs ys p3 q3 h3 h4
  omega
 ·obtain ⟨p1,p2,p3⟩:=own i xs h1
  rw [st i p1 p2] at h2
  exact I.out a ⟨_,xs,p3,h2⟩
theorem fn_ok {P:Program} {w:World} {K:PySem.W.Frag} {mg:Str→Option Value} {base:Heap} {x qual:Str} {st:Stmt} {f:Addr} {fd:FuncData} {N ps:List Str} {k:Nat} {pv:PV} (F:Fun K x qual st f fd) (S:FnScope N ps (defScope st)) (B:List Nat)
  (len:∀ as Φ,pv as Φ→as.length=ps.length)
  (hbody:∀(cdv:Value) (A:Around) (outer:List Env) (s:Shared) (H:Hp) (E:XK),Room k (A.deeper (PyProof.Rows.envOfC qual (defScope st) s.heap.objs.size f cdv))→
   ∃ t,PSs (cxOf CX0 P w K mg base N qual (defScope st) f cdv A outer s H E).nox (defBody st) t∧
    ∀ as Φ,pv as Φ→wpS B t (as++List.replicate (N.length - ps.length) .u) { nx:=fun ρ=>Φ (.d .non) (sel 0 B ps.length ρ),rt:=fun r ρ=>(∃ d,r.it=some d)∧Φ r (sel 0 B ps.length ρ) }) :
  FnOk P w K mg base CX0 (k+1) f fd ps (spV pv):=by
 have len':∀ vs H Q E,spV pv vs H Q E→vs.length=ps.length:=fun vs H Q E h=>by
  obtain ⟨as,Φ,G,F,p,l,_⟩:=h
  rw [← l]; exact len as Φ p
 refine F.ok S len' fun cdv A outer s H vs Q E hr h=>?_
 obtain ⟨t,ht,hw⟩:=hbody cdv A outer s H E hr
 refine ⟨t,ht,?_⟩
 have hl:=len' vs H Q E h
 obtain ⟨as,Φ,G,F',p,l,I,q⟩:=h
 have I0:=I.ext 0 (N.length - ps.length) l
 rw [List.replicate_zero,List.replicate_zero,List.nil_append,List.nil_append] at I0
 have es:L2.start N vs=vs.map some++List.replicate (N.length - ps.length) none:=by unfold L2.start; rw [hl]
 have h0:∀ j v,vs[j]? = some v→(vs.map some++List.replicate (N.length - ps.length) none)[0+j]? = some (some v):=fun j v e=>by
  rw [Nat.zero_add,List.getElem?_append_left (by rw [List.length_map]; exact (List.getElem?_eq_some_iff.mp e).1),List.getElem?_map,e]
  rfl
 rw [es]
 refine hw as Φ p G F' _ H I0 _ ?_ ?_ ?_ ?_
 ·intro G1 σ1 H1 ρ1 h1 g1 k1 I1
  exact q G1 H1 .non (.d .non) _ h1 g1 (I1.sel k1 h0 (Nat.le_of_eq hl.symm)) rfl
 ·intro G1 σ1 H1 ρ1 r v ⟨⟨d,ed⟩,h1⟩ g1 k1 I1 ok
  exact q G1 H1 v r _ h1 g1 (I1.sel k1 h0 (Nat.le_of_eq hl.symm)) (RsOk.sel ed ok k1 h0)
 ·intro G1 σ1 H1 ρ1 h1
  exact h1.elim
 ·intro G1 σ1 H1 ρ1 h1
  exact h1.elim
abbrev PX:=List Sl→Value→Prop
def spX (P:PX):Sp:=fun vs H _ E=>∃ as cls G F,P as cls∧as.length=vs.length∧SI G F as (vs.map some) H∧∀ H',Same G H'→Same F H'→E cls none H'
def wpX (ts:TS) (E:XK) (ρ:List Sl) (cls:Value):Prop:=∀ G F σ H,SI G F ρ σ H→∀ D:Ends,(∀ H',Same G H'→Same F H'→E cls none H')→ts D σ H
section
variable {E:XK} {ρ:List Sl} {cls:Value}
theorem x_seq {t u:TS} (h:wpX t E ρ cls):wpX (tSeq t u) E ρ cls:=fun G F σ H I D k=>h G F σ H I _ k
theorem x_if {c:TT} {t u:TS} (h:wpT c ρ fun b ρ1=>if b=true then wpX t E ρ1 cls else wpX u E ρ1 cls):wpX (tIfS c t u) E ρ cls:=fun G F σ H I D k=>by
 refine h G F σ H I _ fun G1 H1 b ρ1 h1 g1 I1=>?_
 cases b with
 | true=>exact h1 G1 F σ H1 I1 D fun H' a f=>k H' (g1.trans a) f
 | false=>exact h1 G1 F σ H1 I1 D fun H' a f=>k H' (g1.trans a) f
theorem x_raise {ta:TA} (h:wpA ta ρ fun rs _=>rs.length≤1000):wpX (tRaise ta (E cls none)) E ρ cls:=fun G F σ H I D k=>by
 refine h G F σ H I _ fun G1 H1 vs rs ρ1 h1 g1 I1 oks=>⟨Nat.le_trans (Nat.le_of_eq oks.len) h1,k H1 (g1.trans I1.g) I1.f⟩
end
def Src (J:It) (G F:Hp) (xs:List D):Prop:=∀(i:Nat) (G' H':Hp),Same G G'→Same G' H'→Same F H'→
 (i<xs.length→J.go i H'∧∀ x H2,J.yld i H' x H2→∃ d,xs[i]? = some d∧((H2=H'∧Den G' d x)∨∃ p o,H' p=none∧H2=upd H' p o∧Den (upd G' p o) d x))∧(i=xs.length→J.stop i H')
def wpI (wi:TI) (ρ:List Sl) (Φ:List D→List Sl→Prop):Prop:=∀ G F σ H,SI G F ρ σ H→∀ R:It→Hp→Prop,(∀ G' H' J xs ρ',Φ xs ρ'→Same G G'→SI G' F ρ' σ H'→Src J G' F xs→R J H')→wi σ H R
section
variable {ρ:List Sl} {Φ:List D→List Sl→Prop} {K:PySem.W.Frag}
def irng (lo:Int) (n:Nat):List D:=(List.range n).map fun k:Nat=>D.int (lo+k)
theorem irng_len (lo:Int) (n:Nat):(irng lo n).length=n:=by unfold irng; rw [List.length_map,List.length_range]
theorem irng_get {lo:Int} {n k:Nat} (h:k<n):(irng lo n)[k]? = some (.int (lo+k)):=by unfold irng; rw [List.getElem?_map,List.getElem?_range h]; rfl
theorem src_range (lo:Int) (n:Nat) (G F:Hp):Src (Itr lo n) G F (irng lo n):=by
 intro i G' H' _ _ _
 rw [irng_len]
 refine ⟨fun hi=>⟨hi,fun x H2 y=>?_⟩,fun hi=>Nat.le_of_eq hi.symm⟩
 obtain ⟨e,y⟩:=y
 subst e y
 exact ⟨_,irng_get hi,.inl ⟨rfl,rfl⟩⟩
theorem i_r1 {ta:TA} (h:wpA ta ρ fun rs ρ1=>∃ j:Int,(∃ r,rs=[r]∧rd ρ1 r=some (.int j))∧-(2 ^ 62)≤j∧j<2 ^ 62∧Φ (irng 0 j.toNat) ρ1):wpI (iRng1 ta) ρ Φ:=by
 intro G F σ H I R q
 refine h G F σ H I _ fun G1 H1 vs rs ρ1 ⟨j,⟨x,er,ex⟩,l1,l2,h1⟩ g1 I1 oks=>?_
 subst er
 obtain ⟨v,rfl,ok⟩:=one_of oks
 cases read_int I1 ok ex
 exact ⟨j,rfl,l1,l2,q G1 H1 _ _ ρ1 h1 g1 I1 (src_range _ _ _ _)⟩
theorem i_r2 {ta:TA} (h:wpA ta ρ fun rs ρ1=>∃ i j:Int,(∃ r r',rs=[r,r']∧rd ρ1 r=some (.int i)∧rd ρ1 r'=some (.int j))∧(-(2 ^ 62)≤i∧i<2 ^ 62∧-(2 ^ 62)≤j∧j<2 ^ 62)∧Φ (irng i (j - i).toNat) ρ1):wpI (iRng2 ta) ρ Φ:=by
 intro G F σ H I R q
 refine h G F σ H I _ fun G1 H1 vs rs ρ1 ⟨i,j,⟨x,x',er,ex,ex'⟩,l1,h1⟩ g1 I1 oks=>?_
 subst er
 obtain ⟨v,v',rfl,ok,ok'⟩:=two_of oks
 cases read_int I1 ok ex
 cases read_int I1 ok' ex'
 exact ⟨i,j,rfl,l1,q G1 H1 _ _ ρ1 h1 g1 I1 (src_range _ _ _ _)⟩
theorem src_tup {a:Addr} {ws:List V} {xs:List D} {G F:Hp} (h1:G a=some (.tup ws)) (h2:Dens G xs ws):Src (Itt K a) G F xs:=by
 intro i G' H' g gh _
 have st:SqT K H' a ws:=SqT.of (gh _ _ (g _ _ h1))
 have hl:=h2.length
 refine ⟨fun hi=>?_,fun hi=>⟨ws,st,by omega⟩⟩
 have hi2:i<ws.length:=by omega
 refine ⟨⟨ws,ws[i],st,List.getElem?_eq_getElem hi2⟩,fun x H2 y=>?_⟩
 obtain ⟨e,y⟩:=y
 subst e
 obtain ⟨d,e1,e2⟩:=h2.get (y ws st)
 exact ⟨d,e1,.inl ⟨rfl,Den.mono g _ _ e2⟩⟩
theorem src_lst {a:Addr} {ws:List V} {xs:List D} {G F:Hp} (h1:∀ G' H',Same G G'→Same G' H'→Same F H'→SqL K H' a ws) (h2:Dens G xs ws):Src (Itl K a) G F xs:=by
 intro i G' H' g gh gf
 have st:SqL K H' a ws:=h1 G' H' g gh gf
 have hl:=h2.length
 refine ⟨fun hi=>?_,fun hi=>⟨ws,st,by omega⟩⟩
 have hi2:i<ws.length:=by omega
 refine ⟨⟨ws,ws[i],st,List.getElem?_eq_getElem hi2⟩,fun x H2 y=>?_⟩
 obtain ⟨e,y⟩:=y
 subst e
 obtain ⟨d,e1,e2⟩:=h2.get (y ws st)
 exact ⟨d,e1,.inl ⟨rfl,Den.mono g _ _ e2⟩⟩
theorem i_any {tl:TE} (h:wpV tl ρ fun r ρ1=>∃ d xs,r.it=some d∧sq d=some xs∧Φ xs ρ1):wpI (iAny K tl) ρ Φ:=by
 intro G F σ H I R q
 refine h G F σ H I _ fun G0 H1 v x ρ1 ⟨d,xs,e1,e2,h1⟩ g0 I0 ok=>?_
 obtain ⟨G1,g1',I1,dn⟩:=lay1 I0 ok e1
 have g1:=g0.trans g1'
 cases d with
 | tup l=>
  cases e2
  obtain ⟨a,ws,rfl,k1,k2⟩:=dn
  exact ⟨a,rfl,.inr ⟨⟨ws,SqT.of (I1.g _ _ k1)⟩,q G1 H1 _ _ ρ1 h1 g1 I1 (src_tup k1 k2)⟩⟩
 | lst l=>
  cases e2
  obtain ⟨a,ws,rfl,k1,k2⟩:=dn
  exact ⟨a,rfl,.inl ⟨⟨ws,SqL.of (I1.g _ _ k1)⟩,q G1 H1 _ _ ρ1 h1 g1 I1 (src_lst (fun G' H' g gh _=>SqL.of (gh _ _ (g _ _ k1))) k2)⟩⟩
 | non=>cases e2
 | bl _=>cases e2
 | int _=>cases e2
 | str _=>cases e2
 | dic=>cases e2
end
theorem s_for {B:List Nat} {ρ:List Sl} {Ψ:VE} {wi:TI} {g:TG} {tb:TS} (h:wpI wi ρ fun xs ρ1=>∃ Jv:Nat→List Sl→Prop,Jv 0 ρ1∧
  (∀ k x ρ,xs[k]? = some x→Jv k ρ→wpG B g (.d x) ρ fun ρ2=>wpS B tb ρ2 { nx:=Jv (k+1),ct:=Jv (k+1),bk:=Ψ.nx,rt:=Ψ.rt })∧∀ ρ,Jv xs.length ρ→Ψ.nx ρ):wpS B (tFor wi g tb) ρ Ψ:=by
 intro G F σ H I D n r b ct
 refine h G F σ H I _ fun G1 H1 J xs ρ1 ⟨Jv,i0,st,en⟩ g1 I1 S=>?_
 refine ⟨fun i m σ' H'=>m=xs.length - i∧i≤xs.length∧∃ G' ρ',Jv i ρ'∧Same G1 G'∧Kp B σ σ'∧SI G' F ρ' σ' H',⟨xs.length,by simp,Nat.zero_le _,G1,ρ1,i0,Same.refl _,Kp.refl _ _,I1⟩,?_⟩
 rintro i m σ2 H2 ⟨rfl,hi,G2,ρ2,p2,g2,k2,I2⟩
 obtain ⟨s1,s2⟩:=S i G2 H2 g2 I2.g I2.f
 by_cases hlt:i<xs.length
 ·obtain ⟨go,yl⟩:=s1 hlt
  refine .inr ⟨go,fun σ' H'=>∃ G' ρ',Jv (i+1) ρ'∧Same G1 G'∧Kp B σ σ'∧SI G' F ρ' σ' H',fun σ' H' p'=>⟨xs.length - (i+1),by omega,rfl,hlt,p'⟩,fun x H' y=>?_⟩
  obtain ⟨d,ed,yy⟩:=yl x H' y
  have fin:∀ G3,Same G2 G3→SI G3 F ρ2 σ2 H'→Den G3 d x→g x σ2 H' fun σ3 H3=>tb { D with nx:=fun σ' H'=>∃ G' ρ',Jv (i+1) ρ'∧Same G1 G'∧Kp B σ σ'∧SI G' F ρ' σ' H',ct:=fun σ' H'=>∃ G' ρ',Jv (i+1) ρ'∧Same G1 G'∧Kp B σ σ'∧SI G' F ρ' σ' H',bk:=D.nx } σ3 H3:=fun G3 g3 I3 dn=>by
   refine st i d ρ2 ed p2 G3 F σ2 _ x I3 dn _ ?_
   intro G4 σ4 H4 ρ4 h4 g4 k4 I4
   have gg:=(g2.trans g3).trans g4
   refine h4 G4 F σ4 H4 I4 _ ?_ (r.at (g1.trans gg) (k2.trans k4)) ?_ ?_
   ·exact fun G5 σ5 H5 ρ5 p5 g5 k5 I5=>⟨G5,ρ5,p5,gg.trans g5,(k2.trans k4).trans k5,I5⟩
   ·exact n.at (g1.trans gg) (k2.trans k4)
   ·exact fun G5 σ5 H5 ρ5 p5 g5 k5 I5=>⟨G5,ρ5,p5,gg.trans g5,(k2.trans k4).trans k5,I5⟩
  rcases yy with ⟨e,dn⟩ | ⟨p,o,hp,e,dn⟩
  ·subst e
   exact fin G2 (Same.refl _) I2 dn
  ·subst e
   obtain ⟨I3,g3⟩:=I2.newG (o:=o) hp
   exact fin _ g3 I3 dn
 ·have e:i=xs.length:=by omega
  subst e
  exact .inl ⟨s2 rfl,n G2 σ2 H2 ρ2 (en ρ2 p2) (g1.trans g2) k2 I2⟩
def capt (fr:List (Str×Nat)):List Rs:=fr.map fun p=>Rs.b p.2
def known (ρ:List Sl) (fr:List (Str×Nat)):Prop:=∀ p∈fr,∃ s,ρ[p.2]? = some s∧s≠.u
theorem capt_ok {G F H:Hp} {ρ:List Sl} {σ:St} (I:SI G F ρ σ H):∀{fr:List (Str×Nat)},known ρ fr→∃ vs:List V,RsOks G F ρ σ H (capt fr) vs∧(fr.map fun p=>(σ[p.2]?).join)=vs.map some
 | [],_=>⟨[],rfl,rfl⟩
 | p::fr,h=>by
  obtain ⟨vs,h1,h2⟩:=capt_ok I (fr:=fr) fun q hq=>h q (List.mem_cons_of_mem _ hq)
  obtain ⟨s,e,ne⟩:=h p List.mem_cons_self
  obtain ⟨o,e1,e2⟩:=I.ok _ s e
  have:∃ v,o=some v:=by
   cases s with
   | u=>exact absurd rfl ne
   | d x=>obtain ⟨v,z,_⟩:=e2; exact ⟨v,z⟩
   | o x=>obtain ⟨a,_,z,_⟩:=e2; exact ⟨_,z⟩
   | f _ x=>obtain ⟨a,_,z,_⟩:=e2; exact ⟨_,z⟩
  obtain ⟨v,rfl⟩:=this
  refine ⟨v::vs,⟨v,vs,rfl,e1,h1⟩,?_⟩
  rw [List.map_cons,List.map_cons,h2,e1]
  rfl
def inner (own:List Str) (fr:List (Str×Nat)) (ρ:List Sl):List Sl:=List.replicate own.length .u++fr.map fun p=>(ρ[p.2]?).getD .u
def bnd (own:List Str) (fr:List (Str×Nat)):List Nat:=(List.range fr.length).map (own.length + ·)
def outer (own:List Str) (fr:List (Str×Nat)) (ρ ρc:List Sl):List Sl:=wb ρ (capt fr) (ρc.drop own.length)
theorem sel_drop {c n:Nat} {ρ:List Sl} (h:ρ.length=c+n):sel c ((List.range n).map (c + ·)) n ρ=ρ.drop c:=by
 apply List.ext_getElem?
 intro j
 unfold sel
 rw [List.getElem?_map,List.getElem?_drop]
 by_cases z:j<n
 ·rw [List.getElem?_range z]
  have m:((List.range n).map (c + ·)).contains (c+j)=true:=by
   rw [List.contains_eq_mem,decide_eq_true_iff]
   exact List.mem_map.mpr ⟨j,List.mem_range.mpr z,rfl⟩
  show some (if ((List.range n).map (c + ·)).contains (c+j)=true then (ρ[c+j]?).getD .u else .u)=_
  rw [if_pos m]
  have:c+j<ρ.length:=by omega
  rw [List.getElem?_eq_getElem this]
  rfl
 ·rw [List.getElem?_eq_none (Nat.le_trans (Nat.le_of_eq List.length_range) (by omega)),List.getElem?_eq_none (by omega)]
  rfl
theorem comp_main {own:List Str} {fr:List (Str×Nat)} {J:It} {g:TG} {tt:TT} {te:TE} {ρ:List Sl} {Φ:Rs→List Sl→Prop} {G F H:Hp} {σ:St} {Q:VK} {xs:List D} (I:SI G F ρ σ H) (kn:known ρ fr) (nd:(isB (capt fr)).Nodup)
  (S:Src J G (foc H F ρ σ (capt fr)) xs) (Jv:Nat→List D→List Sl→Prop) (j0:Jv 0 [] (inner own fr ρ)) (jl:∀ k ys ρc,Jv k ys ρc→ys.length<sizeLine∧ρc.length=own.length+fr.length)
  (st:∀ k x ys ρc,xs[k]? = some x→Jv k ys ρc→wpG (bnd own fr) g (.d x) ρc fun ρ2=>wpT tt ρ2 fun b ρ3=>if b=true then wpV te ρ3 fun r ρ4=>∃ d,r.it=some d∧Jv (k+1) (ys++[d]) ρ4 else Jv (k+1) ys ρ3)
  (en:∀ ys ρc,Jv xs.length ys ρc→Φ (.l ys) (outer own fr ρ ρc)) (q:Fin G F σ Φ Q) (A:Addr) (hA:H A=none):CompBody J g tt te (stComp own fr σ) H A fun H2=>Q (.ref A) H2:=by
 obtain ⟨vs,oks,ev⟩:=capt_ok I kn
 have I1:=I.focus oks nd
 have lv:vs.length=fr.length:=by rw [oks.len]; unfold capt; rw [List.length_map]
 have as_eq:(capt fr).map (argS ρ)=fr.map fun p=>(ρ[p.2]?).getD .u:=by unfold capt; rw [List.map_map]; rfl
 rw [as_eq] at I1
 have I2:=I1.ext own.length 0 (by rw [List.length_map,lv])
 have e1:(List.replicate own.length Sl.u++((fr.map fun p=>(ρ[p.2]?).getD .u)++List.replicate 0 Sl.u))=inner own fr ρ:=by unfold inner; rw [List.replicate_zero,List.append_nil]
 have e2:(List.replicate own.length none++(vs.map some++List.replicate 0 none))=stComp own fr σ:=by
  unfold stComp
  rw [List.replicate_zero,List.append_nil,ev]
  congr 1
  rw [List.map_const']
 rw [e1,e2] at I2
 generalize hF2:foc H F ρ σ (capt fr)=F2 at S I1 I2
 have FA:F2 A=none:=I1.f.free hA
 have h0:∀(j:Nat) (v:V),vs[j]? = some v→(stComp own fr σ)[own.length+j]? = some (some v):=fun j v e=>by
  rw [← e2,List.getElem?_append_right (by rw [List.length_replicate]; omega),List.length_replicate,Nat.add_sub_cancel_left,List.replicate_zero,List.append_nil,List.getElem?_map,e]
  rfl
 have fr1:∀ ys,Same F2 (upd F2 A (.lst ys)):=fun ys=>Same.new FA
 refine ⟨fun i m ys σ' H'=>m=xs.length - i∧i≤xs.length∧∃ G' ds ρc,Jv i ds ρc∧Same G G'∧Kp (bnd own fr) (stComp own fr σ) σ'∧SI G' (upd F2 A (.lst ys)) ρc σ' H'∧Dens G' ds ys,⟨xs.length,by simp,Nat.zero_le _,G,[],_,j0,Same.refl _,Kp.refl _ _,?_,rfl⟩,?_⟩
 ·have I3:=I2.new (o:=.lst []) hA
  refine ⟨I3.ok,I3.g,fun b o e=>?_,fun b o e=>?_,I3.nd,fun b hb=>⟨(I3.out b hb).1,?_⟩,fun b us e=>?ft⟩
  case ft=>
   by_cases z:b=A
   ·rw [z,upd_same] at e
    cases e
   ·rw [upd_ne z] at e
    exact I3.ft b us e
  ·by_cases z:b=A
   ·subst z; rw [upd_same] at e ⊢; exact e
   ·rw [upd_ne z] at e; exact I3.f _ _ e
  ·by_cases z:b=A
   ·subst z; exact I2.g.free hA
   ·rw [upd_ne z] at e; exact I3.gf _ _ e
  ·have nb:b≠A:=fun z=>by
    subst z
    obtain ⟨i,zs,q1,q2⟩:=hb
    obtain ⟨o,p1,a,ws,z,p2,p3⟩:=I2.ok i _ q1
    rw [q2] at p1
    cases p1
    cases z
    rw [hA] at p2
    cases p2
   rw [upd_ne nb]
   exact (I3.out b hb).2
 ·rintro i m ys σ2 H2 ⟨rfl,hi,G2,ds,ρ2,p2,g2,k2,I4,dn⟩
  have hHA:H2 A=some (.lst ys):=I4.f _ _ upd_same
  have lds:=dn.length
  obtain ⟨jl1,jl2⟩:=jl i ds ρ2 p2
  refine ⟨hHA,?_⟩
  obtain ⟨s1,s2⟩:=S i G2 H2 g2 I4.g ((fr1 ys).trans I4.f)
  by_cases hlt:i<xs.length
  ·obtain ⟨go,yl⟩:=s1 hlt
   refine .inr ⟨go,by rw [lds]; exact jl1,fun ys' σ' H'=>∃ G' ds ρc,Jv (i+1) ds ρc∧Same G G'∧Kp (bnd own fr) (stComp own fr σ) σ'∧SI G' (upd F2 A (.lst ys')) ρc σ' H'∧Dens G' ds ys',fun ys' σ' H' p'=>⟨xs.length - (i+1),by omega,rfl,hlt,p'⟩,fun x H' y=>?_⟩
   obtain ⟨d,ed,yy⟩:=yl x H' y
   have fin:∀ G3,Same G2 G3→SI G3 (upd F2 A (.lst ys)) ρ2 σ2 H'→Den G3 d x→g x σ2 H' fun σ4 H4=>tt σ4 H4 fun b H5=>if b=true then te σ4 H5 fun y H6=>H6 A=some (.lst ys)∧∃ G' ds ρc,Jv (i+1) ds ρc∧Same G G'∧Kp (bnd own fr) (stComp own fr σ) σ4∧SI G' (upd F2 A (.lst (ys++[y]))) ρc σ4 (upd H6 A (.lst (ys++[y])))∧Dens G' ds (ys++[y])
     else ∃ G' ds ρc,Jv (i+1) ds ρc∧Same G G'∧Kp (bnd own fr) (stComp own fr σ) σ4∧SI G' (upd F2 A (.lst ys)) ρc σ4 H5∧Dens G' ds ys:=fun G3 g3 I3 dx=>by
    refine st i d ds ρ2 ed p2 G3 (upd F2 A (.lst ys)) σ2 H' x I3 dx _ ?_
    intro G4 σ4 H4 ρ4 h4 g4 k4 I5
    refine h4 G4 _ σ4 H4 I5 _ fun G5 H5 b ρ5 h5 g5 I6=>?_
    have gg:=((g2.trans g3).trans g4).trans g5
    cases b with
    | false=>
     rw [if_neg Bool.false_ne_true] at h5 ⊢
     exact ⟨G5,ds,ρ5,h5,gg,k2.trans k4,I6,Dens.mono ((g3.trans g4).trans g5) _ _ dn⟩
    | true=>
     rw [if_pos rfl] at h5 ⊢
     refine h5 G5 _ σ4 H5 I6 _ fun G6 H6 y r ρ6 ⟨d',ed',h6⟩ g6 I7 ok=>?_
     obtain ⟨G7,g7,I8,dy⟩:=lay1 I7 ok ed'
     have hA6:H6 A=some (.lst ys):=I8.f _ _ upd_same
     refine ⟨hA6,G7,ds++[d'],ρ6,h6,(gg.trans g6).trans g7,k2.trans k4,?_,Dens.snoc (Dens.mono (((g3.trans g4).trans g5).trans (g6.trans g7)) _ _ dn) dy⟩
     have gA:G7 A=none:=I8.gf _ _ upd_same
     have oA:∀ b,owns ρ6 σ4 b→b≠A:=fun b hb z=>by
      subst z
      have:=(I8.out b hb).2
      rw [upd_same] at this
      cases this
     refine ⟨fun j s e=>?_,fun b o e=>?_,fun b o e=>?_,fun b o e=>?_,I8.nd,fun b hb=>?_,fun b us e=>?ft⟩
     case ft=>
      by_cases z:b=A
      ·rw [z,upd_same] at e
       cases e
      ·rw [upd_ne z] at e
       exact I8.ft b us (by rw [upd_ne z]; exact e)
     ·obtain ⟨o,q1,q2⟩:=I8.ok j s e
      refine ⟨o,q1,q2.up (Same.refl _) fun us a ws z1 z2 z3=>?_⟩
      subst z1 z2
      rw [upd_ne (oA a ⟨j,us,e,q1⟩)]
      exact z3
     ·rw [upd_ne]
      ·exact I8.g _ _ e
      ·intro z; subst z; rw [gA] at e; cases e
     ·by_cases z:b=A
      ·subst z; rw [upd_same] at e ⊢; exact e
      ·rw [upd_ne z] at e ⊢
       exact I8.f _ _ (by rw [upd_ne z]; exact e)
     ·by_cases z:b=A
      ·subst z; exact gA
      ·rw [upd_ne z] at e
       exact I8.gf _ _ (by rw [upd_ne z]; exact e)
     ·refine ⟨(I8.out b hb).1,?_⟩
      have:=(I8.out b hb).2
      rw [upd_ne (oA b hb)] at this ⊢
      exact this
   rcases yy with ⟨e,dx⟩ | ⟨p,o,hp,e,dx⟩
   ·subst e
    exact fin G2 (Same.refl _) I4 dx
   ·subst e
    obtain ⟨I3,g3⟩:=I4.newG (o:=o) hp
    exact fin _ g3 I3 dx
  ·have e:i=xs.length:=by omega
   subst e
   refine .inl ⟨s2 rfl,?_⟩
   have gA:G2 A=none:=I4.gf _ _ upd_same
   have I5:SI G2 F2 ρ2 σ2 H2:=⟨I4.ok,I4.g,(fr1 ys).trans I4.f,fun b o e=>I4.gf _ _ (fr1 ys _ _ e),I4.nd,fun b hb=>⟨(I4.out b hb).1,(fr1 ys).free (I4.out b hb).2⟩,fun b us e=>I4.ft b us (fr1 ys _ _ e)⟩
   have ok5:RsOk G2 F2 ρ2 σ2 H2 (.l ds) (.ref A):=⟨A,_,rfl,hHA,⟨ys,rfl,dn⟩,gA,FA,fun hb=>by
    have:=(I4.out A hb).2
    rw [upd_same] at this
    cases this⟩
   have I6:=I5.sel (n:=fr.length) k2 h0 (Nat.le_of_eq lv.symm)
   have ok6:=RsOk.sel (n:=fr.length) (d:=.lst ds) rfl ok5 k2 h0
   have es:sel own.length (bnd own fr) fr.length ρ2=ρ2.drop own.length:=sel_drop jl2
   rw [es,← hF2] at I6 ok6
   have I7:=I.unfocus oks g2 I6
   have ok7:=RsOk.unfocus (d:=.lst ds) I oks rfl ok6
   exact q G2 H2 _ _ _ (en ds ρ2 p2) g2 I7 ok7
theorem v_comp {own:List Str} {fr:List (Str×Nat)} {wi:TI} {g:TG} {tt:TT} {te:TE} {ρ:List Sl} {Φ:Rs→List Sl→Prop} (h:wpI wi ρ fun xs ρ1=>known ρ1 fr∧(isB (capt fr)).Nodup∧∃ Jv:Nat→List D→List Sl→Prop,Jv 0 [] (inner own fr ρ1)∧
  (∀ k ys ρc,Jv k ys ρc→ys.length<sizeLine∧ρc.length=own.length+fr.length)∧
  (∀ k x ys ρc,xs[k]? = some x→Jv k ys ρc→wpG (bnd own fr) g (.d x) ρc fun ρ2=>wpT tt ρ2 fun b ρ3=>if b=true then wpV te ρ3 fun r ρ4=>∃ d,r.it=some d∧Jv (k+1) (ys++[d]) ρ4 else Jv (k+1) ys ρ3)∧
  ∀ ys ρc,Jv xs.length ys ρc→Φ (.l ys) (outer own fr ρ1 ρc)):wpV (tComp own fr wi g tt te) ρ Φ:=by
 intro G F σ H I Q q
 refine h G F σ H I _ fun G1 H1 J xs ρ1 ⟨kn,nd,Jv,j0,jl,st,en⟩ g1 I1 S A hA=>?_
 refine comp_main I1 kn nd (fun i G' H' a b c=>S i G' H' a b ((foc_same I1).trans c)) Jv j0 jl st en (q.at g1 fun _ _ z=>z) A hA
theorem v_comp_l {own:List Str} {fr:List (Str×Nat)} {g:TG} {tt:TT} {te:TE} {ρ:List Sl} {Φ:Rs→List Sl→Prop} {K:PySem.W.Frag} {s:Nat} {xs:List D} (hs:ρ[s]? = some (.l xs)) (hn:Rs.b s∉capt fr) (kn:known ρ fr) (nd:(isB (capt fr)).Nodup) (Jv:Nat→List D→List Sl→Prop) (j0:Jv 0 [] (inner own fr ρ))
  (jl:∀ k ys ρc,Jv k ys ρc→ys.length<sizeLine∧ρc.length=own.length+fr.length)
  (st:∀ k x ys ρc,xs[k]? = some x→Jv k ys ρc→wpG (bnd own fr) g (.d x) ρc fun ρ2=>wpT tt ρ2 fun b ρ3=>if b=true then wpV te ρ3 fun r ρ4=>∃ d,r.it=some d∧Jv (k+1) (ys++[d]) ρ4 else Jv (k+1) ys ρ3)
  (en:∀ ys ρc,Jv xs.length ys ρc→Φ (.l ys) (outer own fr ρ ρc)):wpV (tComp own fr (iAny K (tVar s)) g tt te) ρ Φ:=by
 intro G F σ H I Q q
 obtain ⟨o,e,a,_,rfl,k1,ws,rfl,k2⟩:=I.ok s _ hs
 have ka:kept ρ σ (capt fr) a:=⟨s,.li xs,hs,e,hn⟩
 refine ⟨_,e,a,rfl,.inl ⟨⟨ws,SqL.of k1⟩,fun A hA=>?_⟩⟩
 refine comp_main I kn nd (src_lst (fun G' H' _ _ c=>SqL.of (c a _ (by rw [foc_kept ka]; exact k1))) k2) Jv j0 jl st en q A hA
section
variable {G F H:Hp} {ρ:List Sl} {σ:St} {A:Addr}
end
section
variable {ρ:List Sl} {Φ:Rs→List Sl→Prop} {K:PySem.W.Frag} {t:TA} {i:Nat} {xs:List D} {rL rT:V→List V→Hp→VK→Prop} {to:TE}
theorem v_bm2 (h:wpV to ρ fun o ρ1=>(∃ xs,rd ρ1 o=some (.lst xs)∧wpA t ρ1 fun rs ρ2=>CallV (fun vs H Q=>∃ v vt,vs=v::vt∧rL v vt H Q) (o::rs) ρ2 Φ)∨(∃ xs,rd ρ1 o=some (.tup xs)∧wpA t ρ1 fun rs ρ2=>CallV (fun vs H Q=>∃ v vt,vs=v::vt∧rT v vt H Q) (o::rs) ρ2 Φ)):wpV (tBM2 K rL rT to t) ρ Φ:=by
 intro G F σ H I Q q
 refine h G F σ H I _ fun G1 H1 v o ρ1 h0 g1 I1 ok1=>?_
 rcases h0 with ⟨xs,hx,h1⟩ | ⟨xs,hx,h1⟩
 ·obtain ⟨a,ws,rfl,s1,d1⟩:=read_lst (K:=K) I1 ok1 hx
  refine .inl ⟨⟨a,ws,rfl,s1⟩,?_⟩
  refine h1 G1 (hold o (.ref a) H1 F) σ H1 (I1.held ok1) _ fun G2 H2 vs rs ρ2 h2 g2 I2 oks=>?_
  obtain ⟨I3,ok3⟩:=RsOks.cons ok1 g2 I2 oks
  obtain ⟨v,vt,e,z⟩:=h2 G2 F σ H2 (.ref a::vs) I3 ok3 Q (q.at (g1.trans g2) fun _ _ p=>p)
  cases e
  exact z
 ·obtain ⟨a,ws,rfl,s1,d1⟩:=read_tup I1 ok1 hx
  refine .inr ⟨⟨a,ws,rfl,I1.g _ _ s1⟩,?_⟩
  refine h1 G1 (hold o (.ref a) H1 F) σ H1 (I1.held ok1) _ fun G2 H2 vs rs ρ2 h2 g2 I2 oks=>?_
  obtain ⟨I3,ok3⟩:=RsOks.cons ok1 g2 I2 oks
  obtain ⟨v,vt,e,z⟩:=h2 G2 F σ H2 (.ref a::vs) I3 ok3 Q (q.at (g1.trans g2) fun _ _ p=>p)
  cases e
  exact z
theorem m_indexT {o r:Rs} {d:D} {j:Nat} (ho:rdE ρ o=some (.tup xs)) (hr:rdE ρ r=some d) (hd:dDepths xs≤50) (hj:FirstAt d xs j) (h:Φ (.d (.int j)) ρ) (hd2:dDepth d≤50:=by first | exact Nat.le_of_ble_eq_true rfl | assumption):CallV (fun vs H Q=>∃ v vt,vs=v::vt∧rIndexT v vt H Q) [o,r] ρ Φ:=by
 intro G F σ H vs I oks Q q
 obtain ⟨v,w,rfl,o1,o2⟩:=two_of oks
 have d1:=(readE I o1 ho).1
 obtain ⟨a,ws,e,_⟩:=id d1
 subst e
 exact ⟨_,_,rfl,a,xs,d,w,j,rfl,rfl,d1,(readE I o2 hr).1,hd,hd2,hj,fin_int q I h⟩
theorem dens_take {H:Hp}:∀{xs:List D} {vs:List V} (n:Nat),Dens H xs vs→Dens H (xs.take n) (vs.take n)
 | xs,vs,0,h=>by rw [List.take_zero,List.take_zero]; exact rfl
 | [],vs,n+1,h=>by cases (show vs=[] from h); exact rfl
 | x::xs,vs,n+1,h=>by
  obtain ⟨w,r,rfl,h1,h2⟩:=h
  exact ⟨w,r.take n,rfl,h1,dens_take n h2⟩
theorem dens_drop {H:Hp}:∀{xs:List D} {vs:List V} (n:Nat),Dens H xs vs→Dens H (xs.drop n) (vs.drop n)
 | xs,vs,0,h=>h
 | [],vs,n+1,h=>by cases (show vs=[] from h); exact rfl
 | x::xs,vs,n+1,h=>by
  obtain ⟨w,r,rfl,h1,h2⟩:=h
  exact dens_drop n h2
theorem m_insert {r r2:Rs} {k:Nat} {d:D} (hi:ρ[i]? = some (.l xs)) (hr:rd ρ r=some (.int k)) (hr2:r2.it=some d) (hk:k<2 ^ 62) (hz:xs.length<sizeLine) (h:Φ (.d .non) (ρ.set i (.l (xs.take k++d::xs.drop k)))):CallV (fun vs H Q=>∃ v vt,vs=v::vt∧rInsert v vt H Q) [.b i,r,r2] ρ Φ:=by
 intro G F σ H vs I oks Q q
 obtain ⟨v,vt,rfl,o1,oks2⟩:=oks
 obtain ⟨w,u,rfl,o2,o3⟩:=two_of oks2
 obtain ⟨G1,g1,I1,dn⟩:=lay1 I o3 hr2
 cases read_int I o2 hr
 obtain ⟨a,us,rfl,e1,h1,h2⟩:=slotL I1 hi o1
 refine ⟨_,_,rfl,a,us,k,u,rfl,rfl,h1,by omega,by omega,by rw [h2.length]; exact hz,?_⟩
 rw [Int.toNat_natCast]
 exact q G1 _ .non (.d .non) _ h g1 (I1.put hi e1 ((dens_take k h2).append ⟨u,_,rfl,dn,dens_drop k h2⟩)) rfl
def wpO (to:TO) (ρ:List Sl) (Φ:Option Int→List Sl→Prop):Prop:=∀ G F σ H,SI G F ρ σ H→∀ Q:Option Int→Hp→Prop,(∀ G' H' o ρ',Φ o ρ'→Same G G'→SI G' F ρ' σ H'→Q o H')→to σ H Q
theorem p_none {Φ:Option Int→List Sl→Prop} (h:Φ none ρ):wpO tNoPart ρ Φ:=fun G F σ H I Q q=>q G H none ρ h (Same.refl _) I
theorem p_some {Φ:Option Int→List Sl→Prop} {te:TE} (h:wpV te ρ fun r ρ1=>∃ i,rd ρ1 r=some (.int i)∧Φ (some i) ρ1):wpO (tPart te) ρ Φ:=fun G F σ H I Q q=>
 h G F σ H I _ fun G1 H1 v r ρ1 ⟨i,e,h1⟩ g1 I1 ok=>⟨i,read_int I1 ok e,q G1 H1 (some i) ρ1 h1 g1 I1⟩
def cutD (xs:List D) (lo hi:Option Int):List D:=(xs.drop (HT.sIx xs.length 0 lo)).take (HT.sIx xs.length xs.length hi - HT.sIx xs.length 0 lo)
theorem cut_dens {H:Hp} {xs:List D} {vs:List V} {lo hi:Option Int} (h:Dens H xs vs):Dens H (cutD xs lo hi) (cutV vs lo hi):=by
 unfold cutD cutV
 rw [h.length]
 exact dens_take _ (dens_drop _ h)
def SlV (r:V→Option Int→Option Int→Hp→VK→Prop) (x:Rs) (lo hi:Option Int) (ρ:List Sl) (Φ:Rs→List Sl→Prop):Prop:=∀ G F σ H v,SI G F ρ σ H→RsOk G F ρ σ H x v→∀ Q:VK,Fin G F σ Φ Q→r v lo hi H Q
theorem v_sl {r:V→Option Int→Option Int→Hp→VK→Prop} {te:TE} {tl th:TO} (h:wpV te ρ fun x ρ1=>wpO tl ρ1 fun lo ρ2=>wpO th ρ2 fun hi ρ3=>SlV r x lo hi ρ3 Φ):wpV (tSl r te tl th) ρ Φ:=by
 intro G F σ H I Q q
 refine h G F σ H I _ fun G1 H1 v x ρ1 h1 g1 I1 ok1=>?_
 refine h1 G1 (hold x v H1 F) σ H1 (I1.held ok1) _ fun G2 H2 lo ρ2 h2 g2 I2=>?_
 refine h2 G2 _ σ H2 I2 _ fun G3 H3 hi ρ3 h3 g3 I3=>?_
 obtain ⟨I4,ok4⟩:=SI.freed ok1 (g2.trans g3) I3
 exact h3 G3 F σ H3 v I4 ok4 Q (q.at ((g1.trans g2).trans g3) fun _ _ z=>z)
theorem sl_L {x:Rs} {lo hi:Option Int} (hx:rd ρ x=some (.lst xs)) (h:Φ (.l (cutD xs lo hi)) ρ):SlV (rSlL K) x lo hi ρ Φ:=fun G F σ H v I ok Q q=>by
 obtain ⟨a,ws,rfl,s1,d1⟩:=read_lst (K:=K) I ok hx
 exact ⟨a,ws,rfl,s1,fun p hp=>fin_lst q I (cut_dens d1) h hp⟩
end
def zipD:List D→List D→List D
 | x::xs,y::ys=>.tup [x,y]::zipD xs ys
 | _,_=>[]
theorem min_end {i a b:Nat} (h:i=min a b):a=i∨(i<a∧b=i):=(Nat.lt_or_ge b a).elim (fun q=>have e:=h.trans (Nat.min_eq_right (Nat.le_of_lt q)); .inr ⟨Nat.lt_of_le_of_lt (Nat.le_of_eq e) q,e.symm⟩) fun q=>.inl (h.trans (Nat.min_eq_left q)).symm
theorem zipD_len:∀(xs ys:List D),(zipD xs ys).length=min xs.length ys.length
 | [],ys=>by simp [zipD]
 | x::xs,[]=>by simp [zipD]
 | x::xs,y::ys=>(congrArg (· + 1) (zipD_len xs ys)).trans (Nat.add_min_add_right ..).symm
theorem zipD_get:∀{xs ys:List D} {i:Nat} {x y:D},xs[i]? = some x→ys[i]? = some y→(zipD xs ys)[i]? = some (.tup [x,y])
 | [],ys,i,x,y,h1,h2=>by simp at h1
 | a::xs,[],i,x,y,h1,h2=>by simp at h2
 | a::xs,b::ys,0,x,y,h1,h2=>by simp at h1 h2; subst h1 h2; rfl
 | a::xs,b::ys,i+1,x,y,h1,h2=>by
  show (zipD xs ys)[i]? = _
  exact zipD_get (by simpa using h1) (by simpa using h2)
theorem src_zip {l1 l2:Addr} {us ws:List V} {xs ys:List D} {G F:Hp} (h1:G l1=some (.tup us)) (h2:Dens G xs us) (k1:G l2=some (.tup ws)) (k2:Dens G ys ws):Src (Itz l1 l2) G F (zipD xs ys):=by
 intro i G' H' g gh _
 have e1:H' l1=some (.tup us):=gh _ _ (g _ _ h1)
 have e2:H' l2=some (.tup ws):=gh _ _ (g _ _ k1)
 have a1:=h2.length
 have a2:=k2.length
 rw [zipD_len,← a1,← a2]
 refine ⟨fun hi=>?_,fun hi=>⟨us,ws,e1,e2,min_end hi⟩⟩
 have i1:i<us.length:=Nat.lt_of_lt_of_le hi (Nat.min_le_left ..)
 have i2:i<ws.length:=Nat.lt_of_lt_of_le hi (Nat.min_le_right ..)
 refine ⟨⟨us,ws,us[i],ws[i],e1,e2,List.getElem?_eq_getElem i1,List.getElem?_eq_getElem i2⟩,fun x H2 y=>?_⟩
 obtain ⟨T,rfl,hT,hall⟩:=y
 have hH:=hall us ws _ _ e1 e2 (List.getElem?_eq_getElem i1) (List.getElem?_eq_getElem i2)
 obtain ⟨d1,p1,p2⟩:=h2.get (List.getElem?_eq_getElem i1)
 obtain ⟨d2,q1,q2⟩:=k2.get (List.getElem?_eq_getElem i2)
 refine ⟨_,zipD_get p1 q1,.inr ⟨T,_,hT,hH,T,_,rfl,upd_same,?_⟩⟩
 have gT:G' T=none:=gh.free hT
 exact ⟨_,_,rfl,Den.mono (g.trans (Same.new gT)) _ _ p2,_,_,rfl,Den.mono (g.trans (Same.new gT)) _ _ q2,rfl⟩
theorem i_zip {ρ:List Sl} {Φ:List D→List Sl→Prop} {ta:TA} (h:wpA ta ρ fun rs ρ1=>∃ xs ys,(∃ r r',rs=[r,r']∧rd ρ1 r=some (.tup xs)∧rd ρ1 r'=some (.tup ys))∧Φ (zipD xs ys) ρ1):wpI (iZip ta) ρ Φ:=by
 intro G F σ H I R q
 refine h G F σ H I _ fun G1 H1 vs rs ρ1 ⟨xs,ys,⟨x,x',er,ex,ex'⟩,h1⟩ g1 I1 oks=>?_
 subst er
 obtain ⟨v,v',rfl,ok,ok'⟩:=two_of oks
 obtain ⟨a,us,rfl,s1,d1⟩:=read_tup I1 ok ex
 obtain ⟨b,ws,rfl,s2,d2⟩:=read_tup I1 ok' ex'
 exact ⟨a,b,rfl,⟨us,I1.g _ _ s1⟩,⟨ws,I1.g _ _ s2⟩,q G1 H1 _ _ ρ1 h1 g1 I1 (src_zip s1 d1 s2 d2)⟩
def caps (fr:List (Str×Nat)) (ρ:List Sl):List Sl:=fr.map fun p=>(ρ[p.2]?).getD .u
theorem set_same {ρ:List Sl} {i:Nat} {s:Sl} (h:ρ[i]? = some s):ρ.set i s=ρ:=by
 apply List.ext_getElem?
 intro j
 rw [List.getElem?_set]
 by_cases z:i=j
 ·subst z
  rw [if_pos rfl,if_pos (List.getElem?_eq_some_iff.mp h).1,h]
 ·rw [if_neg z]
theorem wb_same:∀(fr:List (Str×Nat)) (ρ:List Sl),wb ρ (capt fr) (caps fr ρ)=ρ
 | [],ρ=>rfl
 | p::fr,ρ=>by
  show (match ρ[p.2]? with | some (.o _)=>wb (ρ.set p.2 ((caps (p::fr) ρ).headD .u)) (capt fr) (caps (p::fr) ρ).tail | _=>wb ρ (capt fr) (caps (p::fr) ρ).tail)=ρ
  have e:(caps (p::fr) ρ).tail=caps fr ρ:=rfl
  rw [e]
  cases h:ρ[p.2]? with
  | none=>exact wb_same fr ρ
  | some s=>
   cases s with
   | o xs=>
    have e2:(caps (p::fr) ρ).headD .u=.o xs:=by
     show (ρ[p.2]?).getD .u=_
     rw [h]; rfl
    rw [e2,set_same h]
    exact wb_same fr ρ
   | _=>exact wb_same fr ρ
theorem outer_same {own:List Str} {fr:List (Str×Nat)} {ρ os:List Sl} (h:os.length=own.length):outer own fr ρ (os++caps fr ρ)=ρ:=by
 unfold outer
 rw [← h,List.drop_left]
 exact wb_same fr ρ
section
variable {α:Type} {own:List Str} {fr:List (Str×Nat)} {g:TG} {tt:TT} {te:TE} {ρ:List Sl} {Φ:Rs→List Sl→Prop}
def Pure1 (own:List Str) (fr:List (Str×Nat)) (g:TG) (tt:TT) (te:TE) (ρ:List Sl) (x:D) (b:Bool) (d:D):Prop:=∀ os:List Sl,os.length=own.length→wpG (bnd own fr) g (.d x) (os++caps fr ρ) fun ρ2=>
 (∃ os',os'.length=own.length∧ρ2=os'++caps fr ρ)∧wpT tt ρ2 (fun c ρ3=>c=b∧ρ3=ρ2)∧(b=true→wpV te ρ2 fun r ρ4=>r.it=some d∧ρ4=ρ2)
theorem wpG.mono {B:List Nat} {g:TG} {r:Rs} {ρ:List Sl} {Φ Ψ:List Sl→Prop} (h:wpG B g r ρ Φ) (e:∀ ρ',Φ ρ'→Ψ ρ'):wpG B g r ρ Ψ:=fun G F σ H v I ok N n=>h G F σ H v I ok N fun G1 σ1 H1 ρ1 p g1 k1 I1=>n G1 σ1 H1 ρ1 (e _ p) g1 k1 I1
def PureJ (own:List Str) (fr:List (Str×Nat)) (ρ:List Sl) (l:List α) (p:α→Bool) (f:α→D):Nat→List D→List Sl→Prop:=fun k ys ρc=>ys=(((l.take k).filter p).map f)∧∃ os,os.length=own.length∧ρc=os++caps fr ρ
theorem pure_step {enc:α→D} {l:List α} {p:α→Bool} {f:α→D} (st:∀ a∈l,Pure1 own fr g tt te ρ (enc a) (p a) (f a)):∀ k x ys ρc,(l.map enc)[k]? = some x→PureJ own fr ρ l p f k ys ρc→wpG (bnd own fr) g (.d x) ρc fun ρ2=>wpT tt ρ2 fun b ρ3=>if b=true then wpV te ρ3 fun r ρ4=>∃ d,r.it=some d∧PureJ own fr ρ l p f (k+1) (ys++[d]) ρ4 else PureJ own fr ρ l p f (k+1) ys ρ3:=by
 rintro k x ys ρc hx ⟨rfl,os,ho,rfl⟩
 rw [List.getElem?_map] at hx
 cases ha:l[k]? with
 | none=>rw [ha] at hx; cases hx
 | some a=>
  rw [ha] at hx
  have hx':enc a=x:=Option.some.inj hx
  subst hx'
  refine (st a (List.mem_of_getElem? ha) os ho).mono ?_
  rintro ρ2 ⟨⟨os',ho',rfl⟩,h1,h2⟩
  refine h1.mono ?_
  rintro c ρ3 ⟨rfl,rfl⟩
  have et:(l.take (k+1)).filter p=(l.take k).filter p++if p a=true then [a] else []:=by
   rw [List.take_add_one,ha,List.filter_append]
   congr 1
   cases hpa:p a <;> simp [hpa]
  cases hp:p a with
  | true=>
   rw [if_pos rfl]
   refine (h2 hp).mono ?_
   rintro r ρ4 ⟨e1,rfl⟩
   refine ⟨_,e1,?_,os',ho',rfl⟩
   rw [et,if_pos hp,List.map_append]
   rfl
  | false=>
   rw [if_neg Bool.false_ne_true]; refine ⟨?_,os',ho',rfl⟩
   rw [et,hp,if_neg Bool.false_ne_true,List.append_nil]
theorem pure_len {l:List α} {p:α→Bool} {f:α→D} (hl:l.length<sizeLine):∀ k ys ρc,PureJ own fr ρ l p f k ys ρc→ys.length<sizeLine∧ρc.length=own.length+fr.length:=by
 rintro k ys ρc ⟨rfl,os,ho,rfl⟩
 constructor
 ·rw [List.length_map]
  refine Nat.lt_of_le_of_lt (List.length_filter_le _ _) ?_
  rw [List.length_take]
  omega
 ·rw [List.length_append,ho]
  unfold caps
  rw [List.length_map]
theorem v_pure {wi:TI} (enc:α→D) (l:List α) (p:α→Bool) (f:α→D) (h:wpI wi ρ fun xs ρ1=>xs=l.map enc∧l.length<sizeLine∧known ρ1 fr∧(isB (capt fr)).Nodup∧(∀ a∈l,Pure1 own fr g tt te ρ1 (enc a) (p a) (f a))∧Φ (.l ((l.filter p).map f)) ρ1):wpV (tComp own fr wi g tt te) ρ Φ:=by
 refine v_comp fun G F σ H I R q=>h G F σ H I R fun G1 H1 J xs ρ1 ⟨e,hl,kn,nd,st,fin⟩ g1 I1 S=>q G1 H1 J xs ρ1 ?_ g1 I1 S
 subst e
 refine ⟨kn,nd,PureJ own fr ρ1 l p f,⟨rfl,_,List.length_replicate,rfl⟩,pure_len hl,pure_step st,?_⟩
 rintro ys ρc ⟨rfl,os,ho,rfl⟩
 rw [outer_same ho,List.length_map,List.take_length]
 exact fin
theorem v_pureL {K:PySem.W.Frag} {s:Nat} (enc:α→D) (l:List α) (p:α→Bool) (f:α→D) (hs:ρ[s]? = some (.l (l.map enc))) (hn:(isB (capt fr)).contains s=false) (hl:l.length<sizeLine) (kn:known ρ fr) (nd:(isB (capt fr)).Nodup) (st:∀ a∈l,Pure1 own fr g tt te ρ (enc a) (p a) (f a)) (fin:Φ (.l ((l.filter p).map f)) ρ):wpV (tComp own fr (iAny K (tVar s)) g tt te) ρ Φ:=by
 have hn':Rs.b s∉capt fr:=fun z=>by
  rw [List.contains_eq_mem,decide_eq_false_iff_not] at hn
  exact hn (mem_isB.mpr z)
 refine v_comp_l hs hn' kn nd (PureJ own fr ρ l p f) ⟨rfl,_,List.length_replicate,rfl⟩ (pure_len hl) (pure_step st) ?_
 rintro ys ρc ⟨rfl,os,ho,rfl⟩
 rw [outer_same ho,List.length_map,List.take_length]
 exact fin
theorem filter_true {l:List α}:l.filter (fun _=>true)=l:=List.filter_eq_self.mpr fun _ _=>rfl
theorem len1 {os:List Sl} (h:os.length=1):∃ a,os=[a]:=List.length_eq_one_iff.mp h
theorem lenS {k:Nat}:∀{os:List Sl},os.length=k+1→∃ a r,os=a::r∧r.length=k
 | a::r,h=>⟨a,r,rfl,Nat.succ.inj h⟩
theorem len2 {os:List Sl} (h:os.length=2):∃ a b,os=[a,b]:=(lenS h).elim fun a e=>e.elim fun _ g=>(len1 g.2).elim fun b z=>⟨a,b,g.1.trans (congrArg _ z)⟩
theorem len3 {os:List Sl} (h:os.length=3):∃ a b c,os=[a,b,c]:=(lenS h).elim fun a e=>e.elim fun _ g=>(len2 g.2).elim fun b z=>z.elim fun c y=>⟨a,b,c,g.1.trans (congrArg _ y)⟩
end
theorem zipD_map {α β:Type} (f:α→D) (g:β→D):∀(l:List α) (m:List β),zipD (l.map f) (m.map g)=(l.zip m).map fun p=>.tup [f p.1,g p.2]
 | [],_=>rfl
 | _::_,[]=>rfl
 | a::l,b::m=>by
  simp only [List.map_cons,zipD,List.zip_cons_cons,zipD_map f g l m]
theorem irng_map (lo:Int) (n:Nat):irng lo n=(List.range n).map fun k:Nat=>D.int (lo+k):=rfl
theorem g_put {B:List Nat} {ρ:List Sl} {r:Rs} {to ti:TE} {Φ:List Sl→Prop} (h:∃ d,r.it=some d∧wpV to ρ fun o ρ2=>∃ i,o=.b i∧wpV ti ρ2 fun ix ρ3=>∃ k j xs,rd ρ3 ix=some (.int k)∧ρ3[i]? = some (.l xs)∧ixN xs.length k=some j∧Φ (ρ3.set i (.l (xs.set j d)))):wpG B (gSub to ti rSetL) r ρ Φ:=by
 intro G F σ H v I ok N n
 obtain ⟨d,ed,h1⟩:=h
 obtain ⟨G1',g1',I1',dn⟩:=lay1 I ok ed
 refine h1 G1' F σ H I1' _ fun G2 H2 w o ρ2 ⟨i,eo,h2⟩ g2 I2 ok2=>?_
 subst eo
 refine h2 G2 F σ H2 I2 _ fun G3 H3 z ix ρ3 ⟨k,j,xs,e1,e2,e3,h3⟩ g3 I3 ok3=>?_
 obtain ⟨o',e4,a,_,e5,h4,vs,rfl,h5⟩:=I3.ok i _ e2
 have ok2':σ[i]? = some (some w):=ok2
 rw [ok2'] at e4
 cases e4
 cases e5
 refine ⟨a,vs,k,j,rfl,read_int I3 ok3 e1,h4,by rw [h5.length]; exact e3,?_⟩
 exact n G3 σ _ _ h3 ((g1'.trans g2).trans g3) (Kp.refl _ _) (I3.put e2 ok2 (dens_set j h5 (Den.mono (g2.trans g3) _ _ dn)))
theorem o_ixLe {ρ:List Sl} {Φ:Rs→List Sl→Prop} {x y:Rs} {K:PySem.W.Frag} {xs:List D} {i:Int} (hx:rd ρ x=some (.lst xs)) (hy:rd ρ y=some (.int i)) (h:∃ d,atI xs i=some d∧Φ (.d d) ρ):OpV (rIx K) x y ρ Φ:=let ⟨_,h1,h2⟩:=h; o_ixL hx hy h1 h2
def isBl:D→Bool
 | .bl _=>true
 | _=>false
theorem isBl_of {d:D} (h:isBl d=true):∃ b,d=.bl b:=by
 cases d with
 | bl b=>exact ⟨b,rfl⟩
 | _=>cases h
theorem ex_bl {ds:List D} {w:Int} {Ψ:D→Prop} (h:ds.all isBl=true) (h0:0≤w) (h1:w<(ds.length:Int)) (k:∀ b,Ψ (.bl b)):∃ d,atI ds w=some d∧Ψ d:=by
 obtain ⟨j,rfl⟩:∃ j:Nat,w=(j:Int):=⟨w.toNat,by omega⟩
 have hj:j<ds.length:=by omega
 obtain ⟨b,e⟩:=isBl_of (List.all_eq_true.mp h ds[j] (List.getElem_mem hj))
 exact ⟨.bl b,atI_nat (by rw [List.getElem?_eq_getElem hj,e]),k b⟩
def knownB (ρ:List Sl) (fr:List (Str×Nat)):Bool:=fr.all fun p=>match ρ[p.2]? with | some .u=>false | some _=>true | none=>false
theorem known_of {ρ:List Sl} {fr:List (Str×Nat)} (h:knownB ρ fr=true):known ρ fr:=fun p hp=>by
 have q:=(List.all_eq_true.mp h) p hp
 cases e:ρ[p.2]? with
 | none=>rw [e] at q; cases q
 | some s=>
  rw [e] at q
  cases s with
  | u=>cases q
  | d x=>exact ⟨_,rfl,by intro z; cases z⟩
  | o x=>exact ⟨_,rfl,by intro z; cases z⟩
  | f _ x=>exact ⟨_,rfl,by intro z; cases z⟩
theorem cut_from (xs:List D) (j:Nat):cutD xs (some (j:Int)) none=xs.drop j:=by
 unfold cutD
 rw [HT.sIx_nat,HT.sIx_none]
 by_cases h:j≤xs.length
 ·rw [Nat.min_eq_left h,List.take_of_length_le (by rw [List.length_drop]; omega)]
 ·rw [Nat.min_eq_right (by omega),List.drop_of_length_le (Nat.le_refl _),List.drop_of_length_le (by omega),List.take_nil]
theorem cut_to (xs:List D) (j:Nat):cutD xs none (some (j:Int))=xs.take j:=by
 unfold cutD
 rw [HT.sIx_nat,HT.sIx_none,List.drop_zero,Nat.sub_zero]
 by_cases h:j≤xs.length
 ·rw [Nat.min_eq_left h]
 ·(rw [Nat.min_eq_right (by omega)]); rw [List.take_of_length_le (Nat.le_refl _),List.take_of_length_le (by omega)]
theorem szl {n:Nat} (h:n≤1000):n≤sizeLine:=Nat.le_of_lt (small1000 h)
theorem dep_map {α:Type} {f:α→D} {k:Nat} (h:∀ a,dDepth (f a)≤k):∀ l:List α,dDepths (l.map f)≤k
 | []=>Nat.zero_le _
 | a::l=>by
  show max (dDepth (f a)) (dDepths (l.map f))≤k
  have:=h a
  have:=dep_map h l
  omega
theorem dEq_int (a b:Int):dEq (.int a) (.int b)=decide (a=b):=by simp [dEq,Bool.beq_eq_decide_eq]
theorem dep_int (ns:List Int):dDepths (ns.map D.int)≤50:=Nat.le_trans (dep_map (f:=D.int) (k:=0) (fun a=>Nat.le_refl _) ns) (by decide)
section
variable {ρ:List Sl} {Φ:Rs→List Sl→Prop} {x y:Rs} {K:PySem.W.Frag}
theorem dEqs_nil (l:List D):dEqs l []=l.isEmpty:=by cases l <;> simp [dEqs]
theorem o_neNil {l:List D} (hx:rdE ρ x=some (.lst l)) (hy:rdE ρ y=some (.lst [])) (hd:dDepths l≤50) (h:Φ (.d (.bl !l.isEmpty)) ρ):OpV (fun x y H Q=>rNe x y H Q∨rEqD true x y H Q) x y ρ Φ:=by
 refine OpV.r (o_eqL hx hy hd ?_)
 rw [if_pos rfl,dEqs_nil]
 exact h
end
section
variable {ρ:List Sl} {Φ:Rs→List Sl→Prop} {ta tb tc td:TE} {r r' r'':R2}
abbrev IsD (d:D) (ρ:List Sl):Rs→List Sl→Prop:=fun x ρ1=>x=.d d∧ρ1=ρ
theorem v_chainJ {b c:Bool} {x y z:D} (h1:wpV ta ρ (IsD x ρ)) (h2:wpV tb ρ (IsD y ρ)) (h3:OpV r (.d x) (.d y) ρ (IsD (.bl b) ρ)) (h4:b=true→wpV tc ρ (IsD z ρ)) (h5:b=true→OpV r' (.d y) (.d z) ρ (IsD (.bl c) ρ)) (h:Φ (.d (.bl (b && c))) ρ):wpV (tChain r r' ta tb tc) ρ Φ:=by
 intro G F σ H I Q q
 refine h1 G F σ H I _ fun G1 H1 v1 x1 ρ1 ⟨e1,e2⟩ g1 I1 ok1=>?_
 subst e1 e2
 refine h2 G1 F σ H1 I1 _ fun G2 H2 v2 x2 ρ2 ⟨e1,e2⟩ g2 I2 ok2=>?_
 subst e1 e2
 have ok1':RsOk G2 F ρ2 σ H2 (.d x) v1:=Den.mono g2 _ _ ok1
 refine h3 G2 F σ H2 v1 v2 I2 ok1' ok2 _ fun G3 H3 v3 x3 ρ3 ⟨e1,e2⟩ g3 I3 ok3=>?_
 subst e1 e2
 have e3:v3=.bl b:=ok3
 refine ⟨b,e3,?_⟩
 have gg:=(g1.trans g2).trans g3
 cases b with
 | false=>
  rw [if_neg Bool.false_ne_true]; exact q G3 H3 _ (.d (.bl false)) ρ3 h gg I3 rfl
 | true=>
  rw [if_pos rfl]
  refine h4 rfl G3 F σ H3 I3 _ fun G4 H4 v4 x4 ρ4 ⟨e1,e2⟩ g4 I4 ok4=>?_
  subst e1 e2
  have ok2':RsOk G4 F ρ4 σ H4 (.d y) v2:=Den.mono (g3.trans g4) _ _ ok2
  refine h5 rfl G4 F σ H4 v2 v4 I4 ok2' ok4 _ fun G5 H5 v5 x5 ρ5 ⟨e1,e2⟩ g5 I5 ok5=>?_
  subst e1 e2
  exact q G5 H5 v5 (.d (.bl (true && c))) ρ5 h ((gg.trans g4).trans g5) I5 ok5
theorem v_chain3J {b c e:Bool} {x y z u:D} (h1:wpV ta ρ (IsD x ρ)) (h2:wpV tb ρ (IsD y ρ)) (h3:OpV r (.d x) (.d y) ρ (IsD (.bl b) ρ)) (h4:b=true→wpV tc ρ (IsD z ρ)) (h5:b=true→OpV r' (.d y) (.d z) ρ (IsD (.bl c) ρ)) (h6:c=true→wpV td ρ (IsD u ρ)) (h7:c=true→OpV r'' (.d z) (.d u) ρ (IsD (.bl e) ρ)) (h:Φ (.d (.bl (b && (c && e)))) ρ):wpV (tChain3 r r' r'' ta tb tc td) ρ Φ:=by
 intro G F σ H I Q q
 refine h1 G F σ H I _ fun G1 H1 v1 x1 ρ1 ⟨e1,e2⟩ g1 I1 ok1=>?_
 subst e1 e2
 refine h2 G1 F σ H1 I1 _ fun G2 H2 v2 x2 ρ2 ⟨e1,e2⟩ g2 I2 ok2=>?_
 subst e1 e2
 have ok1':RsOk G2 F ρ2 σ H2 (.d x) v1:=Den.mono g2 _ _ ok1
 refine h3 G2 F σ H2 v1 v2 I2 ok1' ok2 _ fun G3 H3 v3 x3 ρ3 ⟨e1,e2⟩ g3 I3 ok3=>?_
 subst e1 e2
 have e3:v3=.bl b:=ok3
 refine ⟨b,e3,?_⟩
 have gg:=(g1.trans g2).trans g3
 cases b with
 | false=>
  rw [if_neg Bool.false_ne_true]; exact q G3 H3 _ (.d (.bl false)) ρ3 h gg I3 rfl
 | true=>
  rw [if_pos rfl]
  refine h4 rfl G3 F σ H3 I3 _ fun G4 H4 v4 x4 ρ4 ⟨e1,e2⟩ g4 I4 ok4=>?_
  subst e1 e2
  have ok2':RsOk G4 F ρ4 σ H4 (.d y) v2:=Den.mono (g3.trans g4) _ _ ok2
  refine h5 rfl G4 F σ H4 v2 v4 I4 ok2' ok4 _ fun G5 H5 v5 x5 ρ5 ⟨e1,e2⟩ g5 I5 ok5=>?_
  subst e1 e2
  have e5:v5=.bl c:=ok5
  refine ⟨c,e5,?_⟩
  have g45:=(gg.trans g4).trans g5
  cases c with
  | false=>
   rw [if_neg (by decide)]
   exact q G5 H5 _ (.d (.bl false)) ρ5 h g45 I5 rfl
  | true=>
   rw [if_pos rfl]
   refine h6 rfl G5 F σ H5 I5 _ fun G6 H6 v6 x6 ρ6 ⟨e1,e2⟩ g6 I6 ok6=>?_
   subst e1 e2
   have ok4':RsOk G6 F ρ6 σ H6 (.d z) v4:=Den.mono (g5.trans g6) _ _ ok4
   refine h7 rfl G6 F σ H6 v4 v6 I6 ok4' ok6 _ fun G7 H7 v7 x7 ρ7 ⟨e1,e2⟩ g7 I7 ok7=>?_
   subst e1 e2
   exact q G7 H7 v7 (.d (.bl (true && (true && e)))) ρ7 h ((g45.trans g6).trans g7) I7 ok7
end
theorem s_cut {B:List Nat} {t u:TS} {ρ:List Sl} {Ψ:VE} (M:List Sl→Prop) (h1:wpS B t ρ { Ψ with nx:=M }) (h2:∀ ρ1,M ρ1→wpS B u ρ1 Ψ):wpS B (tSeq t u) ρ Ψ:=by
 refine s_seq ?_
 intro G F σ H I D n r b ct
 refine h1 G F σ H I D ?_ r b ct
 intro G1 σ1 H1 ρ1 m g1 k1 I1
 exact n G1 σ1 H1 ρ1 (h2 ρ1 m) g1 k1 I1
theorem o_catF {ρ:List Sl} {Φ:Rs→List Sl→Prop} {x:Rs} {K:PySem.W.Frag} {i:Nat} {xs ys:List D} (hx:rd ρ x=some (.lst xs)) (hy:ρ[i]? = some (.f K ys)) (hz:xs.length+ys.length≤sizeLine) (h:Φ (.l (xs++ys)) ρ):OpV (rCatL K) x (.b i) ρ Φ:=fun G F σ H vx vy I h1 h2 Q q=>by
 obtain ⟨a,vs,rfl,s1,d1⟩:=read_lst (K:=K) I h1 hx
 obtain ⟨o,e,b,ws,rfl,k1,k2⟩:=I.ok i _ hy
 have h2':σ[i]? = some (some vy):=h2
 rw [h2'] at e
 cases e
 exact ⟨a,b,vs,ws,rfl,rfl,s1,I.g.seq k1,by rw [d1.length,k2.length]; exact hz,fun p hp=>fin_lst q I (d1.append k2) h hp⟩
def spLaw (K:PySem.W.Frag):Sp:=fun vs H Q _=>∃(a:Addr) (ns:List Int),vs=[.ref a]∧SqL K H a (ns.map V.int)∧ns.length≤63∧∀ H',Q (.bl true) H'
theorem law_ok {P:Program} {w:World} {K:PySem.W.Frag} {mg:Str→Option Value} {base:Heap} {qual:Str} {x:Str} {st:Stmt} {f:Addr} {fd:FuncData} {N:List Str} {k:Nat} (F:Fun K x qual st f fd) (S:FnScope N ["script"] (defScope st))
  (hbody:∀(cdv:Value) (A:Around) (outer:List Env) (s:Shared) (H:Hp) (E:XK),Room k (A.deeper (PyProof.Rows.envOfC qual (defScope st) s.heap.objs.size f cdv))→
   ∃ t,PSs (cxOf CX0 P w K mg base N qual (defScope st) f cdv A outer s H E).nox (defBody st) t∧
    ∀ ns:List Int,ns.length≤63→wpS [0] t (.f K (ns.map D.int)::List.replicate (N.length - 1) .u) { nx:=fun _=>False,rt:=fun r _=>r=.d (.bl true) }) :
  FnOk P w K mg base CX0 (k+1) f fd ["script"] (spLaw K):=by
 refine F.ok S (fun vs H Q E h=>?_) fun cdv A outer s H vs Q E hr h=>?_
 ·obtain ⟨a,ns,rfl,_⟩:=h
  rfl
 ·obtain ⟨t,ht,hw⟩:=hbody cdv A outer s H E hr
  refine ⟨t,ht,?_⟩
  obtain ⟨a,ns,rfl,hS,hl,fin⟩:=h
  have I:SI H (fun _=>none) [.f K (ns.map D.int)] ([V.ref a].map some) H:=by
   refine ⟨fun i s e=>?_,Same.refl _,fun b o e=>(nomatch e),fun b o e=>(nomatch e),fun i j b xs ys h1=>?_,fun b ⟨i,xs,h1,_⟩=>?_,fun b xs e=>(nomatch e)⟩
   ·cases i with
    | zero=>
     cases e
     exact ⟨_,rfl,a,_,rfl,hS,Dens.ints _ _⟩
    | succ i=>simp at e
   ·cases i with
    | zero=>cases h1
    | succ i=>simp at h1
   ·cases i with
    | zero=>cases h1
    | succ i=>simp at h1
  have I0:=I.ext 0 (N.length - 1) rfl
  rw [List.replicate_zero,List.replicate_zero,List.nil_append,List.nil_append] at I0
  refine hw ns hl H (fun _=>none) _ H I0 _ ?_ ?_ ?_ ?_
  ·intro G1 σ1 H1 ρ1 h1
   exact h1.elim
  ·intro G1 σ1 H1 ρ1 r v h1 g1 k1 I1 ok
   have h1':r=.d (.bl true):=h1
   subst h1'
   have e:v=.bl true:=ok
   rw [e]
   exact fin H1
  ·intro G1 σ1 H1 ρ1 h1
   exact h1.elim
  ·intro G1 σ1 H1 ρ1 h1
   exact h1.elim
def isNon:D→Bool
 | .non=>true
 | _=>false
theorem den_non {H:Hp} {d:D} {v:V} (h:Den H d v):decide (v=.non)=isNon d:=by
 cases d with
 | non=>cases (show v=_ from h); rfl
 | bl b=>cases (show v=_ from h); rfl
 | int b=>cases (show v=_ from h); rfl
 | str b=>cases (show v=_ from h); rfl
 | tup l=>obtain ⟨a,xs,rfl,_⟩:=h; rfl
 | lst l=>obtain ⟨a,xs,rfl,_⟩:=h; rfl
 | dic=>obtain ⟨a,xs,rfl,_⟩:=h; rfl
theorem o_isN {ρ:List Sl} {Φ:Rs→List Sl→Prop} {x:Rs} {d:D} (hx:rdE ρ x=some d) (h:Φ (.d (.bl (isNon d))) ρ):OpV (fun x y H Q=>y=.non∧Q (.bl (decide (x=.non))) H) x (.d .non) ρ Φ:=fun G F σ H vx vy I h1 h2 Q q=>by
 refine ⟨h2,?_⟩
 rw [den_non (readE I h1 hx).1]
 exact fin_bl q I h
theorem o_notN {ρ:List Sl} {Φ:Rs→List Sl→Prop} {x:Rs} {d:D} (hx:rdE ρ x=some d) (h:Φ (.d (.bl (!isNon d))) ρ):OpV (fun x y H Q=>y=.non∧Q (.bl (!decide (x=.non))) H) x (.d .non) ρ Φ:=fun G F σ H vx vy I h1 h2 Q q=>by
 refine ⟨h2,?_⟩
 rw [den_non (readE I h1 hx).1]
 exact fin_bl q I h
theorem o_neT_same {ρ:List Sl} {Φ:Rs→List Sl→Prop} {x y:Rs} {l:List D} (hx:rdE ρ x=some (.tup l)) (hy:rdE ρ y=some (.tup l)) (hd:dDepths l≤50) (h:Φ (.d (.bl false)) ρ):OpV (fun x y H Q=>rNe x y H Q∨rEqD true x y H Q) x y ρ Φ:=by
 refine OpV.r (o_eqT hx hy hd ?_)
 rw [if_pos rfl,dEqs_refl]
 exact h
def isT:Option HO→Bool
 | some (.tup _)=>true
 | _=>false
def tups (G:Hp):Hp:=fun a=>if isT (G a)=true then G a else none
def both (G G':Hp):Hp:=fun a=>if G' a=none then G a else G' a
section
variable {G F H:Hp} {as:List Sl} {σ:St}
end
def anew (G G3:Hp) (a:Addr) (vs:List V):Hp:=fun b=>if b=a then some (.lst vs) else if isT (G3 b)=true then G3 b else if G b=none then none else G3 b
section
variable {ρ:List Sl} {Φ:Rs→List Sl→Prop} {K:PySem.W.Frag} {x:Rs}
end
end L4
namespace L2
open PySem PySem.Spec PyProof.Rows
section
variable {X:Cx}
end
end L2
namespace L4
open PySem L2
section
variable {ρ:List Sl} {Φ:Rs→List Sl→Prop} {K:PySem.W.Frag} {x:Rs}
end
end L4
namespace L2
open PySem PySem.Spec PyProof.Rows
section
variable {X:Cx}
end
end L2
namespace L4
open PySem L2
section
variable {ρ:List Sl} {Φ:Rs→List Sl→Prop} {K:PySem.W.Frag} {x:Rs}
end
section
variable {ρ:List Sl} {Φ:Rs→List Sl→Prop} {K:PySem.W.Frag} {x y:Rs} {B:List Nat} {Ψ:VE}
theorem s_freeze {t:TS} {i:Nat} {xs:List D} (hi:ρ[i]? = some (.l xs)) (h:wpS B t (ρ.set i (.d (.lst xs))) Ψ):wpS B t ρ Ψ:=by
 intro G F σ H I D n r b ct
 obtain ⟨G',g,I'⟩:=I.freeze hi
 exact h G' F σ H I' D (n.at g (Kp.refl _ _)) (r.at g (Kp.refl _ _)) (b.at g (Kp.refl _ _)) (ct.at g (Kp.refl _ _))
end
section
variable {ρ:List Sl} {Φ:Rs→List Sl→Prop} {x y:Rs} {K:PySem.W.Frag}
theorem SlV.l {r r':V→Option Int→Option Int→Hp→VK→Prop} {lo hi:Option Int} (h:SlV r x lo hi ρ Φ):SlV (fun a l u H Q=>r a l u H Q∨r' a l u H Q) x lo hi ρ Φ:=fun G F σ H v I ok Q q=>.inl (h G F σ H v I ok Q q)
theorem SlV.r {r r':V→Option Int→Option Int→Hp→VK→Prop} {lo hi:Option Int} (h:SlV r' x lo hi ρ Φ):SlV (fun a l u H Q=>r a l u H Q∨r' a l u H Q) x lo hi ρ Φ:=fun G F σ H v I ok Q q=>.inr (h G F σ H v I ok Q q)
theorem sl_U {xs:List D} {lo hi:Option Int} (hx:rd ρ x=some (.tup xs)) (h:Φ (.d (.tup (cutD xs lo hi))) ρ):SlV (rSlU K) x lo hi ρ Φ:=fun G F σ H v I ok Q q=>by
 have g1:=read_G I ok hx (fun _ z=>by cases z)
 obtain ⟨a,vs,rfl,s1,d1⟩:=read_tup I ok hx
 refine ⟨a,vs,rfl,SqT.of (I.g _ _ s1),fun hw=>?_,fun _ p hp=>fin_tup q I (cut_dens d1) h hp⟩
 rw [d1.length] at hw
 unfold cutD at h
 rw [hw.1,hw.2,List.drop_zero,Nat.sub_zero,List.take_length] at h
 exact fin_d q I g1 h
end
section
variable {ρ:List Sl} {Φ:Rs→List Sl→Prop} {K:PySem.W.Frag} {x y:Rs}
end
section
variable {ρ:List Sl} {Φ:Rs→List Sl→Prop} {x y:Rs}
theorem o_catS {a b:Str} (hx:rd ρ x=some (.str a)) (hy:rd ρ y=some (.str b)) (hz:a.length+b.length≤sizeLine) (h:Φ (.d (.str (a++b))) ρ):OpV rCatS x y ρ Φ:=fun G F σ H vx vy I h1 h2 Q q=>by
 cases read_dV I h1 hx rfl
 cases read_dV I (ok2 h1 h2) hy rfl
 exact ⟨a,b,rfl,rfl,hz,fin_str q I h⟩
end
section
variable {ρ:List Sl} {Φ:Rs→List Sl→Prop}
end
theorem strs_dens {G:Hp}:∀{ws:List Str},Dens G (ws.map D.str) (ws.map V.str)
 | []=>rfl
 | w::ws=>⟨_,_,rfl,rfl,strs_dens⟩
theorem dens_strs {G:Hp}:∀{ws:List Str} {vs:List V},Dens G (ws.map D.str) vs→vs=ws.map V.str
 | [],vs,h=>h
 | w::ws,vs,h=>by
  obtain ⟨v,r,rfl,h1,h2⟩:=h
  rw [dens_strs h2,show v=V.str w from h1]
  rfl
section
variable {ρ:List Sl} {Φ:Rs→List Sl→Prop} {x y:Rs} {K:PySem.W.Frag}
theorem v_split {to:TE} {ta:TA} (h:wpV to ρ fun o ρ1=>∃ z,o=.d (.str z)∧wpA ta ρ1 fun rs ρ2=>∃ c,rs=[.d (.str ⟨#[c]⟩)]∧z.length≤1000∧Φ (.l ((Txt.split z ⟨#[c]⟩).map D.str)) ρ2):wpV (tBM K "str" rSplit to ta) ρ Φ:=by
 intro G F σ H I Q q
 refine h G F σ H I _ fun G1 H1 v o ρ1 ⟨z,eo,h1⟩ g1 I1 ok1=>?_
 subst eo
 have ev:v=.str z:=ok1
 subst ev
 refine ⟨rfl,h1 G1 F σ H1 I1 _ fun G2 H2 vs rs ρ2 ⟨c,er,hz,h2⟩ g2 I2 oks=>?_⟩
 subst er
 obtain ⟨w,rfl,ok2⟩:=one_of oks
 have ew:w=.str ⟨#[c]⟩:=ok2
 subst ew
 exact ⟨z,c,rfl,rfl,hz,fun p hp=>fin_lst (q.at (g1.trans g2) fun _ _ z=>z) I2 strs_dens h2 hp⟩
theorem v_join {to:TE} {ta:TA} (h:wpV to ρ fun o ρ1=>∃ z,o=.d (.str z)∧wpA ta ρ1 fun rs ρ2=>∃ ws,(∃ r,rs=[r]∧rdE ρ2 r=some (.lst (ws.map D.str)))∧JoinOk z ws=true∧Φ (.d (.str (Txt.join z ws))) ρ2):wpV (tBM K "str" (rJoin K) to ta) ρ Φ:=by
 intro G F σ H I Q q
 refine h G F σ H I _ fun G1 H1 v o ρ1 ⟨z,eo,h1⟩ g1 I1 ok1=>?_
 subst eo
 have ev:v=.str z:=ok1
 subst ev
 refine ⟨rfl,h1 G1 F σ H1 I1 _ fun G2 H2 vs rs ρ2 ⟨ws,⟨r,er,ex⟩,ok,h2⟩ g2 I2 oks=>?_⟩
 subst er
 obtain ⟨w,rfl,ok2⟩:=one_of oks
 obtain ⟨a,us,rfl,s1,d1⟩:=(readE I2 ok2 ex).2.2 _ rfl
 have eu:=dens_strs d1
 subst eu
 exact ⟨z,a,ws,rfl,rfl,SqL.of s1,ok,fin_str (q.at (g1.trans g2) fun _ _ z=>z) I2 h2⟩
theorem v_fmt {ta ts tb:TE} (h:wpV ta ρ fun r ρ1=>∃ i:Nat,r=.d (.int i)∧i<10∧wpV ts ρ1 fun y ρ2=>∃ z,y=.d (.str z)∧z.length≤100∧wpV tb ρ2 fun u ρ3=>∃ j:Nat,u=.d (.int j)∧j<10∧Φ (.d (.str (figS i++z++figS j))) ρ3):wpV (tFmt ta ts tb) ρ Φ:=by
 intro G F σ H I Q q
 refine h G F σ H I _ fun G1 H1 v r ρ1 ⟨i,er,i1,h1⟩ g1 I1 ok1=>?_
 subst er
 refine ⟨i,ok1,i1,h1 G1 F σ H1 I1 _ fun G2 H2 v2 y ρ2 ⟨z,ey,z1,h2⟩ g2 I2 ok2=>?_⟩
 subst ey
 refine ⟨z,ok2,z1,h2 G2 F σ H2 I2 _ fun G3 H3 v3 u ρ3 ⟨j,eu,j1,h3⟩ g3 I3 ok3=>?_⟩
 subst eu
 exact ⟨j,ok3,j1,fin_str (q.at ((g1.trans g2).trans g3) fun _ _ z=>z) I3 h3⟩
theorem c_lenS {a:Str} (hx:rd ρ x=some (.str a)) (hz:a.length≤sizeLine) (h:Φ (.d (.int a.length)) ρ):CallV (fun xs H Q=>∃ z,xs=[.str z]∧z.length≤sizeLine∧Q (.int z.length) H) [x] ρ Φ:=fun G F σ H vs I h1 Q q=>by
 obtain ⟨v,rfl,o1⟩:=one_of h1
 cases read_dV I o1 hx rfl
 exact ⟨a,rfl,hz,fin_int q I h⟩
theorem c_intS {n:Nat} (hx:rd ρ x=some (.str (figS n))) (hn:n<10) (h:Φ (.d (.int n)) ρ):CallV (fun xs H Q=>∃ n:Nat,xs=[.str (figS n)]∧n<10∧Q (.int n) H) [x] ρ Φ:=fun G F σ H vs I h1 Q q=>by
 obtain ⟨v,rfl,o1⟩:=one_of h1
 cases read_dV I o1 hx rfl
 exact ⟨n,rfl,hn,fin_int q I h⟩
theorem o_ixS {z:Str} {i:Int} {c:Nat} (hx:rd ρ x=some (.str z)) (hy:rd ρ y=some (.int i)) (hz:z.length≤sizeLine) (hi:atI z.cps.toList i=some c) (h:Φ (.d (.str ⟨#[c]⟩)) ρ):OpV (rIx K) x y ρ Φ:=fun G F σ H vx vy I h1 h2 Q q=>by
 cases read_dV I h1 hx rfl
 exact .inr (.inr ⟨z,i,c,rfl,read_int I (ok2 h1 h2) hy,hz,hi,fin_str q I h⟩)
theorem o_ninS {a b:Str} (hx:rd ρ x=some (.str a)) (hy:rd ρ y=some (.str b)) (h:Φ (.d (.bl (!(!(Builtin.Str.occurrences b a 0 b.length 1).isEmpty)))) ρ):OpV (fun x y H Q=>∃ i j,x=.str i∧y=.str j∧Q (.bl (!(!(Builtin.Str.occurrences j i 0 j.length 1).isEmpty))) H) x y ρ Φ:=fun G F σ H vx vy I h1 h2 Q q=>by
 cases read_dV I h1 hx rfl
 cases read_dV I (ok2 h1 h2) hy rfl
 exact ⟨a,b,rfl,rfl,fin_bl q I h⟩
end
section
variable {ρ:List Sl} {Φ:Rs→List Sl→Prop} {x y:Rs} {K:PySem.W.Frag}
theorem sl_Sd {z:Str} {lo hi:Option Int} (hx:rd ρ x=some (.str z)) (hz:z.length≤1000) (h:∀ y:Str,y.length≤z.length→Φ (.d (.str y)) ρ):SlV rSlS x lo hi ρ Φ:=fun G F σ H v I ok Q q=>by
 cases read_dV I ok hx rfl
 exact ⟨z,rfl,hz,fun y hy=>fin_str q I (h y hy)⟩
theorem v_idxF {to:TE} {ta:TA} (h:wpV to ρ fun o ρ1=>o=.d (.str digS)∧wpA ta ρ1 fun rs ρ2=>∃ n:Nat,rs=[.d (.str ⟨#[48+n]⟩)]∧n<10∧Φ (.d (.int n)) ρ2):wpV (tBM K "str" rIdxF to ta) ρ Φ:=by
 intro G F σ H I Q q
 refine h G F σ H I _ fun G1 H1 v o ρ1 ⟨eo,h1⟩ g1 I1 ok1=>?_
 subst eo
 have ev:v=.str digS:=ok1
 subst ev
 refine ⟨rfl,h1 G1 F σ H1 I1 _ fun G2 H2 vs rs ρ2 ⟨n,er,hn,h2⟩ g2 I2 oks=>?_⟩
 subst er
 obtain ⟨w,rfl,ok2⟩:=one_of oks
 have ew:w=.str ⟨#[48+n]⟩:=ok2
 subst ew
 exact ⟨n,rfl,rfl,hn,fin_int (q.at (g1.trans g2) fun _ _ z=>z) I2 h2⟩
end
theorem v_revX {ρ:List Sl} {Φ:Rs→List Sl→Prop} {te ts:TE} (h:wpV te ρ fun r ρ1=>∃ z,r=.d (.str z)∧z.length≤1000∧wpV ts ρ1 fun t ρ2=>t=.d (.int (-1))∧∀ y:Str,y.length≤z.length→Φ (.d (.str y)) ρ2):wpV (tRevX te ts) ρ Φ:=by
 intro G F σ H I Q q
 refine h G F σ H I _ fun G1 H1 v r ρ1 ⟨z,er,hz,h1⟩ g1 I1 ok1=>?_
 subst er
 have ev:v=.str z:=ok1
 subst ev
 refine h1 G1 F σ H1 I1 _ fun G2 H2 u t ρ2 ⟨et,h2⟩ g2 I2 ok2=>?_
 subst et
 exact ⟨ok2,z,rfl,hz,fun y hy=>fin_str (q.at (g1.trans g2) fun _ _ z=>z) I2 (h2 y hy)⟩
section
variable {B:List Nat} {K:PySem.W.Frag} {n i:Nat} {Ch:Addr} {tb:XK→TS} {ts:Value→Addr→TS} {ρ:List Sl} {Ψ:VE} {cls:Value} {E:XK} {G F H H':Hp} {σ:St}
end
section
variable {B:List Nat} {K:PySem.W.Frag} {n i j:Nat} {Ch:Addr} {tb:XK→TS} {ts:Value→Addr→TS} {ρ:List Sl} {Ψ:VE} {cls:Value}
theorem s_tryNT (h:∀ E,wpS B (tb E) ρ Ψ):wpS B (tTryN K n i Ch tb ts) ρ Ψ:=fun G F σ H I D nx r b ct=>h _ G F σ H I D nx r b ct
def TellsN (ts:Value→Addr→TS) (i j:Nat) (cls:Value) (v:V):Prop:=∀(a:Addr) (D:Ends) (σ:St) (H:Hp),H a=none→i<σ.length→(∀ H',Same H H'→D.nx ((σ.set i (some (.ref a))).set j (some v)) H')→ts cls a D (σ.set i (some (.ref a))) H
theorem s_tryNX {v:V} {d:D} (hi:i<n) (hj:j<n) (ij:i≠j) (h:∀ E,wpX (tb E) E ρ cls) (em:PySem.W.exmOne K cls (.ref Ch)=some true) (tl:TellsN ts i j cls v) (dn:∀ G,Den G d v) (h2:Ψ.nx ((List.replicate n Sl.u).set j (.d d))):wpS [] (tTryN K n i Ch tb ts) ρ Ψ:=by
 intro G F σ H I D nx r b ct
 refine h _ G F σ H I D fun H1 a f=>⟨em,fun σ' e he hl=>tl e _ σ' H1 he (by rw [hl]; exact hi) fun H2 k2=>?_⟩
 have no:∀(k:Nat) (p:Pl),((List.replicate n Sl.u).set j (.d d))[k]? = some (.o p)→False:=fun k p e=>by
  by_cases z:j=k
  ·subst z
   rw [List.getElem?_set_self (by rw [List.length_replicate]; exact hj)] at e
   cases e
  ·rw [List.getElem?_set_ne z,List.getElem?_replicate] at e
   split at e <;> cases e
 refine nx G _ H2 _ h2 (Same.refl _) (fun k hk=>absurd hk List.not_mem_nil) ⟨fun k s e=>?_,a.trans k2,f.trans k2,I.gf,fun k l b p q e1 _ _ _=>(no k p e1).elim,fun b ⟨k,p,e1,_⟩=>(no k p e1).elim,I.ft⟩
 by_cases z:j=k
 ·subst z
  rw [List.getElem?_set_self (by rw [List.length_replicate]; exact hj)] at e
  cases e
  rw [List.getElem?_set_ne ij,List.getElem?_set_self (by rw [List.length_set,hl]; exact hj)]
  exact ⟨_,rfl,v,rfl,dn G⟩
 ·rw [List.getElem?_set_ne z,List.getElem?_replicate] at e
  split at e
  ·cases e
   rename_i kn
   have:k<(((σ'.set i (some (V.ref e))).set j (some v)).set i none).length:=by
    rw [List.length_set,List.length_set,List.length_set,hl]
    exact kn
   exact ⟨_,List.getElem?_eq_getElem this,trivial⟩
  ·cases e
end
section
variable {ρ:List Sl} {Φ:Rs→List Sl→Prop} {x y:Rs} {K:PySem.W.Frag}
end
section
variable {ρ:List Sl} {Φ:Rs→List Sl→Prop} {x y:Rs} {K:PySem.W.Frag}
end
section
variable {ρ:List Sl} {Φ:Rs→List Sl→Prop} {x y:Rs} {K:PySem.W.Frag}
end
section
variable {ρ:List Sl} {Φ:Rs→List Sl→Prop} {x y:Rs} {K:PySem.W.Frag} {G F H:Hp} {σ:St}
theorem c_divmod {i j:Int} (hx:rd ρ x=some (.int i)) (hy:rd ρ y=some (.int j)) (hc:CDiv i j) (h:Φ (.d (.tup [.int (i / j),.int (i % j)])) ρ):CallV (fun xs H Q=>∃ i j,xs=[.int i,.int j]∧CDiv i j∧∀ p,H p=none→Q (.ref p) (upd H p (.tup [.int (i / j),.int (i % j)]))) [x,y] ρ Φ:=fun G F σ H vs I h1 Q q=>by
 obtain ⟨v,w,rfl,o1,o2⟩:=two_of h1
 cases read_int I o1 hx
 cases read_int I o2 hy
 exact ⟨i,j,rfl,hc,fun p hp=>fin_tup q I (xs:=[.int (i / j),.int (i % j)]) ⟨_,_,rfl,rfl,_,_,rfl,rfl,rfl⟩ h hp⟩
def isIntB:D→Bool
 | .int _=>true | .bl _=>true | _=>false
def isBoolB:D→Bool
 | .bl _=>true | _=>false
def isTupB:D→Bool
 | .tup _=>true | _=>false
theorem kit_int (K:PySem.W.Frag) (d:D):PySem.W.kitOne K (.type (tyD d)) (.type "int")=some (isIntB d):=by cases d <;> rfl
theorem kit_bool (K:PySem.W.Frag) (d:D):PySem.W.kitOne K (.type (tyD d)) (.type "bool")=some (isBoolB d):=by cases d <;> rfl
theorem kit_tup (K:PySem.W.Frag) (d:D):PySem.W.kitOne K (.type (tyD d)) (.type "tuple")=some (isTupB d):=by cases d <;> rfl
theorem isTup_of {d:D} (h:isTupB d=true):∃ l,d=.tup l:=by
 cases d with
 | tup l=>exact ⟨l,rfl⟩
 | _=>cases h
end
end L4
namespace L2
open PySem PySem.Spec PyProof.Rows PySem.W
section
variable {X:Cx}
end
end L2
namespace L4
open PySem L2
section
variable {ρ:List Sl} {Φ:Rs→List Sl→Prop} {K:PySem.W.Frag} {x:Rs}
end
section
variable {ρ:List Sl} {Φ:Rs→List Sl→Prop} {x y:Rs} {K:PySem.W.Frag} {G F H:Hp} {σ:St}
theorem c_strI {i:Int} (hx:rd ρ x=some (.int i)) (hb:i.natAbs.log2<1920) (h:Φ (.d (.str (toString i))) ρ):CallV (fun xs H Q=>∃ i:Int,xs=[.int i]∧i.natAbs.log2<1920∧Q (.str (toString i)) H) [x] ρ Φ:=fun G F σ H vs I h1 Q q=>by
 obtain ⟨v,rfl,o1⟩:=one_of h1
 cases read_int I o1 hx
 exact ⟨i,rfl,hb,q G H _ _ ρ h (Same.refl _) I (show Den G (.str (toString i)) (.str (toString i)) from rfl)⟩
end
open PyProof.Rows (step_dedup step_length firstMet)
section
variable {ρ:List Sl} {Φ:Rs→List Sl→Prop} {x y:Rs} {K:PySem.W.Frag} {G F H:Hp} {σ:St}
end
section
variable {κ:Type} [DecidableEq κ]
end
section
variable {ρ:List Sl} {Φ:Rs→List Sl→Prop} {x y:Rs} {K:PySem.W.Frag} {G F H:Hp} {σ:St} {B:List Nat} {Ψ:VE}
end
section
variable {ρ:List Sl} {Φ:Rs→List Sl→Prop} {x y:Rs} {K:PySem.W.Frag} {B:List Nat} {Ψ:VE}
end
section
variable {ρ:List Sl} {Φ:Rs→List Sl→Prop}
end
section
variable {G F H:Hp} {ρ:List Sl} {σ:St} {p:Addr} {o:HO}
end
section
variable {ρ:List Sl} {Φ:Rs→List Sl→Prop}
end
section
variable {ρ:List Sl} {Φ:Rs→List Sl→Prop} {x:Rs}
end
section
variable {ρ:List Sl} {Φ:Rs→List Sl→Prop}
end
section
variable {ρ:List Sl} {Φ:Rs→List Sl→Prop}
end
section
variable {ρ:List Sl} {Φ:Rs→List Sl→Prop} {B:List Nat} {Ψ:VE}
end
section
variable {ρ:List Sl} {Φ:Rs→List Sl→Prop}
end
section
variable {ρ:List Sl} {Φ:Rs→List Sl→Prop} {B:List Nat} {Ψ:VE}
end
section
variable {G F H:Hp} {ρ:List Sl} {σ:St}
end
section
variable {B:List Nat} {ρ:List Sl} {Ψ:VE}
end
def tSeqN (t u:TS):TS:=tSeq t u
section
variable {B:List Nat} {ρ:List Sl} {Ψ:VE}
theorem s_seqN {t u:TS} (h:wpS B t ρ { Ψ with nx:=fun ρ1=>wpS B u ρ1 Ψ }):wpS B (tSeqN t u) ρ Ψ:=s_seq h
theorem s_psi {t:TS} (h:let Φ:=Ψ; wpS B t ρ Φ):wpS B t ρ Ψ:=h
theorem nm2 {t1 t2:TS} (h:let Φ:=Ψ; let y2:=t2; let y1:=tSeqN t1 y2; wpS B y1 ρ Φ):wpS B (tSeq t1 t2) ρ Ψ:=h
theorem nm3 {t1 t2 t3:TS} (h:let Φ:=Ψ; let y3:=t3; let y2:=tSeqN t2 y3; let y1:=tSeqN t1 y2; wpS B y1 ρ Φ):wpS B (tSeq t1 (tSeq t2 t3)) ρ Ψ:=h
theorem nm4 {t1 t2 t3 t4:TS} (h:let Φ:=Ψ; let y4:=t4; let y3:=tSeqN t3 y4; let y2:=tSeqN t2 y3; let y1:=tSeqN t1 y2; wpS B y1 ρ Φ):wpS B (tSeq t1 (tSeq t2 (tSeq t3 t4))) ρ Ψ:=h
theorem nm5 {t1 t2 t3 t4 t5:TS} (h:let Φ:=Ψ; let y5:=t5; let y4:=tSeqN t4 y5; let y3:=tSeqN t3 y4; let y2:=tSeqN t2 y3; let y1:=tSeqN t1 y2; wpS B y1 ρ Φ):wpS B (tSeq t1 (tSeq t2 (tSeq t3 (tSeq t4 t5)))) ρ Ψ:=h
theorem nm6 {t1 t2 t3 t4 t5 t6:TS} (h:let Φ:=Ψ; let y6:=t6; let y5:=tSeqN t5 y6; let y4:=tSeqN t4 y5; let y3:=tSeqN t3 y4; let y2:=tSeqN t2 y3; let y1:=tSeqN t1 y2; wpS B y1 ρ Φ):wpS B (tSeq t1 (tSeq t2 (tSeq t3 (tSeq t4 (tSeq t5 t6))))) ρ Ψ:=h
theorem nm8 {t1 t2 t3 t4 t5 t6 t7 t8:TS} (h:let Φ:=Ψ; let y8:=t8; let y7:=tSeqN t7 y8; let y6:=tSeqN t6 y7; let y5:=tSeqN t5 y6; let y4:=tSeqN t4 y5; let y3:=tSeqN t3 y4; let y2:=tSeqN t2 y3; let y1:=tSeqN t1 y2; wpS B y1 ρ Φ):wpS B (tSeq t1 (tSeq t2 (tSeq t3 (tSeq t4 (tSeq t5 (tSeq t6 (tSeq t7 t8))))))) ρ Ψ:=h
theorem nf14 {t1 t2 t3 t4 t5 t6 t7 t8 t9 t10 t11 t12 t13 t14:TS} {wi:TI} {g:TG} (h:let Φ:=Ψ; let y14:=t14; let y13:=tSeqN t13 y14; let y12:=tSeqN t12 y13; let y11:=tSeqN t11 y12; let y10:=tSeqN t10 y11; let y9:=tSeqN t9 y10; let y8:=tSeqN t8 y9; let y7:=tSeqN t7 y8; let y6:=tSeqN t6 y7; let y5:=tSeqN t5 y6; let y4:=tSeqN t4 y5; let y3:=tSeqN t3 y4; let y2:=tSeqN t2 y3; let y1:=tSeqN t1 y2; wpS B (tFor wi g y1) ρ Φ):wpS B (tFor wi g (tSeq t1 (tSeq t2 (tSeq t3 (tSeq t4 (tSeq t5 (tSeq t6 (tSeq t7 (tSeq t8 (tSeq t9 (tSeq t10 (tSeq t11 (tSeq t12 (tSeq t13 t14)))))))))))))) ρ Ψ:=h
def Le:List Sl→List Sl→Prop
 | [],[]=>True
 | _::ρ,.u::τ=>Le ρ τ
 | s::ρ,.d x::τ=>s=.d x∧Le ρ τ
 | s::ρ,.o x::τ=>s=.o x∧Le ρ τ
 | s::ρ,.f K x::τ=>s=.f K x∧Le ρ τ
 | _,_=>False
theorem Le.at_:∀{ρ τ:List Sl},Le ρ τ→∀(i:Nat) (s:Sl),τ[i]? = some s→(s=.u∧∃ t,ρ[i]? = some t)∨ρ[i]? = some s
 | [],[],_,i,s,e=>by cases e
 | _::ρ,.u::τ,h,0,s,e=>.inl ⟨(Option.some.inj e).symm,_,rfl⟩
 | _::ρ,.u::τ,h,i+1,s,e=>Le.at_ (ρ:=ρ) (τ:=τ) h i s e
 | _::ρ,.d x::τ,h,0,s,e=>.inr ((congrArg some h.1).trans e)
 | _::ρ,.d x::τ,h,i+1,s,e=>Le.at_ (ρ:=ρ) (τ:=τ) h.2 i s e
 | _::ρ,.o x::τ,h,0,s,e=>.inr ((congrArg some h.1).trans e)
 | _::ρ,.o x::τ,h,i+1,s,e=>Le.at_ (ρ:=ρ) (τ:=τ) h.2 i s e
 | _::ρ,.f K x::τ,h,0,s,e=>.inr ((congrArg some h.1).trans e)
 | _::ρ,.f K x::τ,h,i+1,s,e=>Le.at_ (ρ:=ρ) (τ:=τ) h.2 i s e
theorem SI.le {G F H:Hp} {σ:St} {τ:List Sl} (l:Le ρ τ) (I:SI G F ρ σ H):SI G F τ σ H:=by
 have own:∀{i:Nat} {p:Pl},τ[i]? = some (.o p)→ρ[i]? = some (.o p):=fun e=>(l.at_ _ _ e).resolve_left fun z=>by cases z.1
 refine ⟨fun i s e=>?_,I.g,I.f,I.gf,fun i j a xs ys h1 h2=>I.nd i j a xs ys (own h1) (own h2),fun a ⟨i,xs,h1,h2⟩=>I.out a ⟨i,xs,own h1,h2⟩,I.ft⟩
 rcases l.at_ i s e with ⟨rfl,t,z⟩ | z
 ·obtain ⟨o,h1,_⟩:=I.ok i t z
  exact ⟨o,h1,trivial⟩
 ·exact I.ok i s z
theorem s_le {t:TS} {τ:List Sl} (l:Le ρ τ) (h:wpS B t τ Ψ):wpS B t ρ Ψ:=fun G F σ H I=>h G F σ H (I.le l)
theorem g_leD {g:TG} {d:D} {τ:List Sl} {Φ:List Sl→Prop} (l:Le ρ τ) (h:wpG B g (.d d) τ Φ):wpG B g (.d d) ρ Φ:=fun G F σ H v I ok=>h G F σ H v (I.le l) ok
end
def wpR (E:XK) (cls:Value) (ts:TS) (ρ:List Sl) (J:List Sl→Prop):Prop:=∀ G F σ H,SI G F ρ σ H→∀ D:Ends,(∀ H',Same G H'→Same F H'→E cls none H')→NX [] G F σ J D.nx→ts D σ H
section
variable {E:XK} {cls:Value} {ρ:List Sl} {J:List Sl→Prop} {t u:TS}
theorem kp_nil {σ σ':St}:Kp [] σ σ':=fun _ h=>absurd h List.not_mem_nil
theorem r_of (h:wpS [] t ρ { nx:=J,rt:=fun _ _=>False }):wpR E cls t ρ J:=fun G F σ H I D k n=>h G F σ H I D n (fun _ _ _ _ _ _ z=>z.elim) (fun _ _ _ _ z=>z.elim) (fun _ _ _ _ z=>z.elim)
theorem x_of (h:wpR E cls t ρ fun _=>False):wpX t E ρ cls:=fun G F σ H I D k=>h G F σ H I D k (fun _ _ _ _ z=>z.elim)
theorem r_seq (h:wpR E cls t ρ fun ρ1=>wpR E cls u ρ1 J):wpR E cls (tSeq t u) ρ J:=fun G F σ H I D k n=>by
 refine h G F σ H I _ k fun G1 σ1 H1 ρ1 h1 g1 k1 I1=>?_
 exact h1 G1 F σ1 H1 I1 D (fun H' a f=>k H' (g1.trans a) f) (n.at g1 k1)
theorem r_cut (M:List Sl→Prop) (h:wpR E cls t ρ M) (h2:∀ ρ1,M ρ1→wpR E cls u ρ1 J):wpR E cls (tSeq t u) ρ J:=r_seq fun G F σ H I D k n=>h G F σ H I D k fun G1 σ1 H1 ρ1 m g1 k1 I1=>n G1 σ1 H1 ρ1 (h2 ρ1 m) g1 k1 I1
theorem r_if {c:TT} (h:wpT c ρ fun b ρ1=>if b=true then wpR E cls t ρ1 J else wpR E cls u ρ1 J):wpR E cls (tIfS c t u) ρ J:=fun G F σ H I D k n=>by
 refine h G F σ H I _ fun G1 H1 b ρ1 h1 g1 I1=>?_
 cases b with
 | true=>exact h1 G1 F σ H1 I1 D (fun H' a f=>k H' (g1.trans a) f) (n.at g1 kp_nil)
 | false=>exact h1 G1 F σ H1 I1 D (fun H' a f=>k H' (g1.trans a) f) (n.at g1 kp_nil)
end
end L4
namespace L2
open PySem
def Has (P:Program) (w:World) (K:PySem.W.Frag) (mg:Str→Option Value) (base:Heap) (x:Str) (st:Stmt) (ps:List Str) (k:Nat) (sp:Sp):Prop:=∃ f fd,DefAt K mg x st ps f fd∧FnOk P w K mg base CX0 k f fd ps sp
section
variable {X:Cx} {x:Str} {pos:Pos}
theorem pe_cd {st:Stmt} {ps:List Str} {j k:Nat} {sp:Sp} {e:Expr} {es:List Expr} {t:TA} {p:Pos} (h:Has X.prog X.w X.K X.mg X.base x st ps k sp) (hr:Room j X.A) (ha:PA X (e::es) t) (hk:k≤j:=by decide) (hg:Gl X x:=by rfl) (hdb:(x == ("__debug__" : Str))=false:=by decide) (he:starEach (e::es) X.env=(false,eval e X.env)::starEach es X.env:=by rfl) (hpl:(backTo pos (starEach es X.env)).any (·.1)=false:=by rfl):PE X (.Call (.Name x p) (e::es) [] pos) (tCall sp [] E0 t):=
 let ⟨_,_,D,F⟩:=h
 pe_call F (hr.mono hk) hg D.mg D.fn.kp D.bd .nil pass0 ha hdb he hpl
theorem pe_x {K:PySem.W.Frag} {a b:Expr} {ta tb:TE} (ha:PE X a ta) (hb:PE X b tb) (hK:X.K=K:=by rfl) (hs:PlainIx b:=by exact fun _ _=>rfl):PE X (.Subscript a b pos) (tOp (rIx K) ta tb):=pe_ix (ixK hK) ha hb hs
theorem ps_s (i:Nat) {P:List Str} {sc:Scope} {e:Expr} {te:TE} {pos':Pos} (S:FnScope X.N P sc) (he:PE X e te) (hi:X.N[i]? = some x:=by rfl) (hx:Loc X.env.scope x:=by first | exact .inl rfl | exact .inr rfl) (hs:swapsWith e (some (.Name x pos')) pos.line X.env=pure false:=by rfl) (hf:X.fn x=true∨X.env.scope.names.lookup x=some .local:=by first | exact .inl rfl | exact .inr rfl | assumption):PS X (.Assign [.Name x pos'] e pos) (tAsg te (gName i)):=ps_set S.nd hi hx he hs hf
theorem pg_n (i:Nat) {P:List Str} {sc:Scope} (S:FnScope X.N P sc) (hi:X.N[i]? = some x:=by rfl) (hx:Loc X.env.scope x:=by first | exact .inl rfl | exact .inr rfl) (hf:X.fn x=true∨X.env.scope.names.lookup x=some .local:=by first | exact .inl rfl | exact .inr rfl | assumption):PG X (.Name x pos) (gName i):=pg_name S.nd hi hx hf
theorem pg_c (i:Nat) {N:List Str} {scope:Scope} {cl:List (Str×Addr)} {C:Addr} {s0:Shared} {H0:Hp} {fp:List Addr} (hi:N[i]? = some x:=by rfl) (hN:N.Nodup:=by decide +kernel) (hx:Loc (compCx X N scope cl C s0 H0 fp).env.scope x:=by first | exact .inl rfl | exact .inr rfl) (hf:(compCx X N scope cl C s0 H0 fp).fn x=true∨(compCx X N scope cl C s0 H0 fp).env.scope.names.lookup x=some .local:=by first | exact .inl rfl | exact .inr rfl | assumption):PG (compCx X N scope cl C s0 H0 fp) (.Name x pos) (gName i):=pg_name (X:=compCx X N scope cl C s0 H0 fp) hN hi hx hf
end
end L2
namespace L4
theorem ite_no {a b:Prop} (h:b):if false=true then a else b:=h
end L4
namespace L4
open PySem L2
theorem comp_mainX {own:List Str} {fr:List (Str×Nat)} {J:It} {g:TG} {tt:TT} {te:TE} {ρ:List Sl} {Φ:Rs→List Sl→Prop} {G F H:Hp} {σ:St} {Q:VK} {xs:List D} (I:SI G F ρ σ H) (kn:known ρ fr) (nd:(isB (capt fr)).Nodup)
  (S:Src J G (foc H F ρ σ (capt fr)) xs) (Jv:Nat→List D→List Sl→Prop) (j0:Jv 0 [] (inner own fr ρ)) (jl:∀ k ys ρc,Jv k ys ρc→ys.length<sizeLine∧ρc.length=own.length+fr.length)
  (st:∀ k x ys ρc,xs[k]? = some x→Jv k ys ρc→wpG (bnd own fr) g (.d x) ρc fun ρ2=>wpT tt ρ2 fun b ρ3=>if b=true then (∀ G5 F5 σ5 H5,SI G5 F5 ρ3 σ5 H5→Same G G5→Same F F5→∀ Q:VK,Fin G5 F5 σ5 (fun r ρ4=>∃ d,r.it=some d∧Jv (k+1) (ys++[d]) ρ4) Q→te σ5 H5 Q) else Jv (k+1) ys ρ3)
  (en:∀ ys ρc,Jv xs.length ys ρc→Φ (.l ys) (outer own fr ρ ρc)) (q:Fin G F σ Φ Q) (A:Addr) (hA:H A=none):CompBody J g tt te (stComp own fr σ) H A fun H2=>Q (.ref A) H2:=by
 obtain ⟨vs,oks,ev⟩:=capt_ok I kn
 have I1:=I.focus oks nd
 have lv:vs.length=fr.length:=by rw [oks.len]; unfold capt; rw [List.length_map]
 have as_eq:(capt fr).map (argS ρ)=fr.map fun p=>(ρ[p.2]?).getD .u:=by unfold capt; rw [List.map_map]; rfl
 rw [as_eq] at I1
 have I2:=I1.ext own.length 0 (by rw [List.length_map,lv])
 have e1:(List.replicate own.length Sl.u++((fr.map fun p=>(ρ[p.2]?).getD .u)++List.replicate 0 Sl.u))=inner own fr ρ:=by unfold inner; rw [List.replicate_zero,List.append_nil]
 have e2:(List.replicate own.length none++(vs.map some++List.replicate 0 none))=stComp own fr σ:=by
  unfold stComp
  rw [List.replicate_zero,List.append_nil,ev]
  congr 1
  rw [List.map_const']
 rw [e1,e2] at I2
 have fF:Same F (foc H F ρ σ (capt fr)):=foc_same I
 generalize hF2:foc H F ρ σ (capt fr)=F2 at S I1 I2 fF
 have FA:F2 A=none:=I1.f.free hA
 have h0:∀(j:Nat) (v:V),vs[j]? = some v→(stComp own fr σ)[own.length+j]? = some (some v):=fun j v e=>by
  rw [← e2,List.getElem?_append_right (by rw [List.length_replicate]; omega),List.length_replicate,Nat.add_sub_cancel_left,List.replicate_zero,List.append_nil,List.getElem?_map,e]
  rfl
 have fr1:∀ ys,Same F2 (upd F2 A (.lst ys)):=fun ys=>Same.new FA
 refine ⟨fun i m ys σ' H'=>m=xs.length - i∧i≤xs.length∧∃ G' ds ρc,Jv i ds ρc∧Same G G'∧Kp (bnd own fr) (stComp own fr σ) σ'∧SI G' (upd F2 A (.lst ys)) ρc σ' H'∧Dens G' ds ys,⟨xs.length,by simp,Nat.zero_le _,G,[],_,j0,Same.refl _,Kp.refl _ _,?_,rfl⟩,?_⟩
 ·have I3:=I2.new (o:=.lst []) hA
  refine ⟨I3.ok,I3.g,fun b o e=>?_,fun b o e=>?_,I3.nd,fun b hb=>⟨(I3.out b hb).1,?_⟩,fun b us e=>?ft⟩
  case ft=>
   by_cases z:b=A
   ·rw [z,upd_same] at e
    cases e
   ·rw [upd_ne z] at e
    exact I3.ft b us e
  ·by_cases z:b=A
   ·subst z; rw [upd_same] at e ⊢; exact e
   ·rw [upd_ne z] at e; exact I3.f _ _ e
  ·by_cases z:b=A
   ·subst z; exact I2.g.free hA
   ·rw [upd_ne z] at e; exact I3.gf _ _ e
  ·have nb:b≠A:=fun z=>by
    subst z
    obtain ⟨i,zs,q1,q2⟩:=hb
    obtain ⟨o,p1,a,ws,z,p2,p3⟩:=I2.ok i _ q1
    rw [q2] at p1
    cases p1
    cases z
    rw [hA] at p2
    cases p2
   rw [upd_ne nb]
   exact (I3.out b hb).2
 ·rintro i m ys σ2 H2 ⟨rfl,hi,G2,ds,ρ2,p2,g2,k2,I4,dn⟩
  have hHA:H2 A=some (.lst ys):=I4.f _ _ upd_same
  have lds:=dn.length
  obtain ⟨jl1,jl2⟩:=jl i ds ρ2 p2
  refine ⟨hHA,?_⟩
  obtain ⟨s1,s2⟩:=S i G2 H2 g2 I4.g ((fr1 ys).trans I4.f)
  by_cases hlt:i<xs.length
  ·obtain ⟨go,yl⟩:=s1 hlt
   refine .inr ⟨go,by rw [lds]; exact jl1,fun ys' σ' H'=>∃ G' ds ρc,Jv (i+1) ds ρc∧Same G G'∧Kp (bnd own fr) (stComp own fr σ) σ'∧SI G' (upd F2 A (.lst ys')) ρc σ' H'∧Dens G' ds ys',fun ys' σ' H' p'=>⟨xs.length - (i+1),by omega,rfl,hlt,p'⟩,fun x H' y=>?_⟩
   obtain ⟨d,ed,yy⟩:=yl x H' y
   have fin:∀ G3,Same G2 G3→SI G3 (upd F2 A (.lst ys)) ρ2 σ2 H'→Den G3 d x→g x σ2 H' fun σ4 H4=>tt σ4 H4 fun b H5=>if b=true then te σ4 H5 fun y H6=>H6 A=some (.lst ys)∧∃ G' ds ρc,Jv (i+1) ds ρc∧Same G G'∧Kp (bnd own fr) (stComp own fr σ) σ4∧SI G' (upd F2 A (.lst (ys++[y]))) ρc σ4 (upd H6 A (.lst (ys++[y])))∧Dens G' ds (ys++[y])
     else ∃ G' ds ρc,Jv (i+1) ds ρc∧Same G G'∧Kp (bnd own fr) (stComp own fr σ) σ4∧SI G' (upd F2 A (.lst ys)) ρc σ4 H5∧Dens G' ds ys:=fun G3 g3 I3 dx=>by
    refine st i d ds ρ2 ed p2 G3 (upd F2 A (.lst ys)) σ2 H' x I3 dx _ ?_
    intro G4 σ4 H4 ρ4 h4 g4 k4 I5
    refine h4 G4 _ σ4 H4 I5 _ fun G5 H5 b ρ5 h5 g5 I6=>?_
    have gg:=((g2.trans g3).trans g4).trans g5
    cases b with
    | false=>
     rw [if_neg Bool.false_ne_true] at h5 ⊢
     exact ⟨G5,ds,ρ5,h5,gg,k2.trans k4,I6,Dens.mono ((g3.trans g4).trans g5) _ _ dn⟩
    | true=>
     rw [if_pos rfl] at h5 ⊢
     refine h5 G5 _ σ4 H5 I6 gg (fF.trans (fr1 ys)) _ fun G6 H6 y r ρ6 ⟨d',ed',h6⟩ g6 I7 ok=>?_
     obtain ⟨G7,g7,I8,dy⟩:=lay1 I7 ok ed'
     have hA6:H6 A=some (.lst ys):=I8.f _ _ upd_same
     refine ⟨hA6,G7,ds++[d'],ρ6,h6,(gg.trans g6).trans g7,k2.trans k4,?_,Dens.snoc (Dens.mono (((g3.trans g4).trans g5).trans (g6.trans g7)) _ _ dn) dy⟩
     have gA:G7 A=none:=I8.gf _ _ upd_same
     have oA:∀ b,owns ρ6 σ4 b→b≠A:=fun b hb z=>by
      subst z
      have:=(I8.out b hb).2
      rw [upd_same] at this
      cases this
     refine ⟨fun j s e=>?_,fun b o e=>?_,fun b o e=>?_,fun b o e=>?_,I8.nd,fun b hb=>?_,fun b us e=>?ft⟩
     case ft=>
      by_cases z:b=A
      ·rw [z,upd_same] at e
       cases e
      ·rw [upd_ne z] at e
       exact I8.ft b us (by rw [upd_ne z]; exact e)
     ·obtain ⟨o,q1,q2⟩:=I8.ok j s e
      refine ⟨o,q1,q2.up (Same.refl _) fun us a ws z1 z2 z3=>?_⟩
      subst z1 z2
      rw [upd_ne (oA a ⟨j,us,e,q1⟩)]
      exact z3
     ·rw [upd_ne]
      ·exact I8.g _ _ e
      ·intro z; subst z; rw [gA] at e; cases e
     ·by_cases z:b=A
      ·subst z; rw [upd_same] at e ⊢; exact e
      ·rw [upd_ne z] at e ⊢
       exact I8.f _ _ (by rw [upd_ne z]; exact e)
     ·by_cases z:b=A
      ·subst z; exact gA
      ·rw [upd_ne z] at e
       exact I8.gf _ _ (by rw [upd_ne z]; exact e)
     ·refine ⟨(I8.out b hb).1,?_⟩
      have:=(I8.out b hb).2
      rw [upd_ne (oA b hb)] at this ⊢
      exact this
   rcases yy with ⟨e,dx⟩ | ⟨p,o,hp,e,dx⟩
   ·subst e
    exact fin G2 (Same.refl _) I4 dx
   ·subst e
    obtain ⟨I3,g3⟩:=I4.newG (o:=o) hp
    exact fin _ g3 I3 dx
  ·have e:i=xs.length:=by omega
   subst e
   refine .inl ⟨s2 rfl,?_⟩
   have gA:G2 A=none:=I4.gf _ _ upd_same
   have I5:SI G2 F2 ρ2 σ2 H2:=⟨I4.ok,I4.g,(fr1 ys).trans I4.f,fun b o e=>I4.gf _ _ (fr1 ys _ _ e),I4.nd,fun b hb=>⟨(I4.out b hb).1,(fr1 ys).free (I4.out b hb).2⟩,fun b us e=>I4.ft b us (fr1 ys _ _ e)⟩
   have ok5:RsOk G2 F2 ρ2 σ2 H2 (.l ds) (.ref A):=⟨A,_,rfl,hHA,⟨ys,rfl,dn⟩,gA,FA,fun hb=>by
    have:=(I4.out A hb).2
    rw [upd_same] at this
    cases this⟩
   have I6:=I5.sel (n:=fr.length) k2 h0 (Nat.le_of_eq lv.symm)
   have ok6:=RsOk.sel (n:=fr.length) (d:=.lst ds) rfl ok5 k2 h0
   have es:sel own.length (bnd own fr) fr.length ρ2=ρ2.drop own.length:=sel_drop jl2
   rw [es,← hF2] at I6 ok6
   have I7:=I.unfocus oks g2 I6
   have ok7:=RsOk.unfocus (d:=.lst ds) I oks rfl ok6
   exact q G2 H2 _ _ _ (en ds ρ2 p2) g2 I7 ok7
def spE (P:PV) (PX':PX):Sp:=fun vs H Q E=>spV P vs H Q E∨spX PX' vs H Q E
def wpVX (te:TE) (E:XK) (ρ:List Sl) (cls:Value):Prop:=∀ G F σ H,SI G F ρ σ H→∀ Q:VK,(∀ H',Same G H'→Same F H'→E cls none H')→te σ H Q
def wpAX (ta:TA) (E:XK) (ρ:List Sl) (cls:Value):Prop:=∀ G F σ H,SI G F ρ σ H→∀ Q:List V→Hp→Prop,(∀ H',Same G H'→Same F H'→E cls none H')→ta σ H Q
section
variable {E:XK} {ρ:List Sl} {cls:Value} {P:PV} {px:PX} {te:TE} {ta:TA} {Φ:Rs→List Sl→Prop}
theorem v_callE (h:wpA ta ρ fun rs ρ1=>(isB rs).Nodup∧P (rs.map (argS ρ1)) fun r as=>(∃ d,r.it=some d)∧Φ r (wb ρ1 rs as)):wpV (tCall (spE P px) [] E ta) ρ Φ:=by
 intro G F σ H I Q q
 refine h G F σ H I _ fun G1 H1 vs rs ρ1 ⟨nb,h1⟩ g1 I1 oks=>?_
 show spE P px (vs++[]) H1 Q E
 rw [List.append_nil]
 refine .inl ⟨_,_,G1,_,h1,by rw [List.length_map,oks.len],I1.focus oks nb,?_⟩
 intro G2 H2 v r as ⟨⟨d,ed⟩,h2⟩ g2 I2 ok
 exact q G2 H2 v r _ h2 (g1.trans g2) (I1.unfocus oks g2 I2) (RsOk.unfocus I1 oks ed ok)
theorem vx_call (h:wpA ta ρ fun rs ρ1=>(isB rs).Nodup∧px (rs.map (argS ρ1)) cls):wpVX (tCall (spE P px) [] E ta) E ρ cls:=fun G F σ H I Q k=>by
 refine h G F σ H I _ fun G1 H1 vs rs ρ1 ⟨nb,h1⟩ g1 I1 oks=>?_
 show spE P px (vs++[]) H1 Q E
 rw [List.append_nil]
 exact .inr ⟨_,cls,G1,_,h1,by rw [List.length_map,oks.len],I1.focus oks nb,fun H' a f=>k H' (g1.trans a) ((foc_same (rs:=rs) I1).trans f)⟩
theorem ax_here (h:wpVX te E ρ cls):wpAX (tCons te ta) E ρ cls:=fun G F σ H I Q k=>h G F σ H I _ k
theorem ax_cons (h:wpV te ρ fun x ρ1=>(∃ d,x=.d d)∧wpAX ta E ρ1 cls):wpAX (tCons te ta) E ρ cls:=by
 intro G F σ H I Q k
 refine h G F σ H I _ fun G1 H1 vx x ρ1 ⟨⟨d,e⟩,h1⟩ g1 I1 ok1=>?_
 subst e
 exact h1 G1 F σ H1 I1 _ fun H' a f=>k H' (g1.trans a) f
theorem vx_tup (h:wpAX ta E ρ cls):wpVX (tTup ta) E ρ cls:=fun G F σ H I Q k=>h G F σ H I _ k
theorem x_ret (h:wpVX te E ρ cls):wpX (tRet te) E ρ cls:=fun G F σ H I D k=>h G F σ H I _ k
theorem x_asgV {g:TG} (h:wpVX te E ρ cls):wpX (tAsg te g) E ρ cls:=fun G F σ H I D k=>h G F σ H I _ k
end
section
variable {α:Type} {own:List Str} {fr:List (Str×Nat)} {g:TG} {tt:TT} {te:TE} {ρ:List Sl} {E:XK} {cls:Value}
def Raise1 (E:XK) (cls:Value) (own:List Str) (fr:List (Str×Nat)) (g:TG) (tt:TT) (te:TE) (ρ:List Sl) (x:D):Prop:=∀ os:List Sl,os.length=own.length→wpG (bnd own fr) g (.d x) (os++caps fr ρ) fun ρ2=>wpT tt ρ2 fun c ρ3=>c=true∧wpVX te E ρ3 cls
theorem vx_pure {wi:TI} (enc:α→D) (l:List α) (p:α→Bool) (f:α→D) (h:wpI wi ρ fun xs ρ1=>xs=l.map enc∧l.length<sizeLine∧known ρ1 fr∧(isB (capt fr)).Nodup∧∃ k a,l[k]? = some a∧(∀ b∈l.take k,Pure1 own fr g tt te ρ1 (enc b) (p b) (f b))∧Raise1 E cls own fr g tt te ρ1 (enc a)):wpVX (tComp own fr wi g tt te) E ρ cls:=by
 intro G F σ H I Q kx
 refine h G F σ H I _ fun G1 H1 J xs ρ1 ⟨e,hl,kn,nd,k0,a0,ha,before,rs⟩ g1 I1 S A hA=>?_
 subst e
 have kl:k0<l.length:=(List.getElem?_eq_some_iff.mp ha).1
 refine comp_mainX (Φ:=fun _ _=>False) I1 kn nd (fun i G' H' a b c=>S i G' H' a b ((foc_same I1).trans c)) (fun k ys ρc=>k≤k0∧PureJ own fr ρ1 (l.take k0) p f k ys ρc) ⟨Nat.zero_le _,rfl,_,List.length_replicate,rfl⟩ (fun k ys ρc h=>pure_len (by rw [List.length_take]; omega) k ys ρc h.2) ?_ (fun ys ρc h=>?_) (fun _ _ _ _ _ z=>z.elim) A hA
 ·rintro k x ys ρc hx ⟨hk,hj⟩
  by_cases z:k<k0
  ·have st:=pure_step (p:=p) before k x ys ρc (by rw [List.getElem?_map] at hx ⊢; rw [List.getElem?_take,if_pos z]; exact hx) hj
   refine wpG.mono st fun ρ2 h2=>h2.mono fun b ρ3 h3=>?_
   cases b with
   | false=>rw [if_neg Bool.false_ne_true] at h3 ⊢; exact ⟨z,h3⟩
   | true=>
    rw [if_pos rfl] at h3 ⊢
    exact fun G5 F5 σ5 H5 I5 _ _ Q' q'=>h3 G5 F5 σ5 H5 I5 Q' (q'.at (Same.refl _) fun r ρ4 ⟨d,e1,e2⟩=>⟨d,e1,z,e2⟩)
  ·have ek:k=k0:=by omega
   subst ek
   rw [List.getElem?_map,ha] at hx
   have hx':enc a0=x:=Option.some.inj hx
   subst hx'
   obtain ⟨_,os,ho,rfl⟩:=hj
   refine wpG.mono (rs os ho) fun ρ2 h2=>h2.mono fun b ρ3 ⟨eb,h3⟩=>?_
   subst eb
   rw [if_pos rfl]
   exact fun G5 F5 σ5 H5 I5 g5 f5 Q' _=>h3 G5 F5 σ5 H5 I5 Q' fun H' a f=>kx H' ((g1.trans g5).trans a) (f5.trans f)
 ·have:=h.1
  rw [List.length_map] at this
  omega
end
theorem fn_okE {P:Program} {w:World} {K:PySem.W.Frag} {mg:Str→Option Value} {base:Heap} {x qual:Str} {st:Stmt} {f:Addr} {fd:FuncData} {N ps:List Str} {k:Nat} {pv:PV} {px:PX} (F:Fun K x qual st f fd) (S:FnScope N ps (defScope st)) (B:List Nat)
  (len:∀ as Φ,pv as Φ→as.length=ps.length) (lenX:∀ as cls,px as cls→as.length=ps.length)
  (hbody:∀(cdv:Value) (A:Around) (outer:List Env) (s:Shared) (H:Hp) (E:XK),Room k (A.deeper (PyProof.Rows.envOfC qual (defScope st) s.heap.objs.size f cdv))→
   ∃ t,PSs (cxOf (CXA P w) P w K mg base N qual (defScope st) f cdv A outer s H E) (defBody st) t∧
    (∀ as Φ,pv as Φ→wpS B t (as++List.replicate (N.length - ps.length) .u) { nx:=fun ρ=>Φ (.d .non) (sel 0 B ps.length ρ),rt:=fun r ρ=>(∃ d,r.it=some d)∧Φ r (sel 0 B ps.length ρ) })∧
    ∀ as cls,px as cls→wpX t E (as++List.replicate (N.length - ps.length) .u) cls) :
  FnOk P w K mg base (CXA P w) (k+1) f fd ps (spE pv px):=by
 obtain ⟨oc,od,kV,doc,pm,an,cdv,ct,osl,rfl,lk,hcd⟩:=F.ex
 have len':∀ vs H Q E,spE pv px vs H Q E→vs.length=ps.length:=fun vs H Q E h=>by
  rcases h with ⟨as,Φ,G,F,p,l,_⟩ | ⟨as,cls,G,F,p,l,_⟩
  ·rw [← l]
   exact len as Φ p
  ·rw [← l]
   exact lenX as cls p
 refine fn_of lk hcd S len' fun A outer s H vs Q E hr h=>?_
 obtain ⟨t,ht,hw,hwx⟩:=hbody cdv A outer s H E hr
 refine ⟨t,ht,?_⟩
 have hl:=len' vs H Q E h
 have es:L2.start N vs=vs.map some++List.replicate (N.length - ps.length) none:=by unfold L2.start; rw [hl]
 have h0:∀ j v,vs[j]? = some v→(vs.map some++List.replicate (N.length - ps.length) none)[0+j]? = some (some v):=fun j v e=>by
  rw [Nat.zero_add,List.getElem?_append_left (by rw [List.length_map]; exact (List.getElem?_eq_some_iff.mp e).1),List.getElem?_map,e]
  rfl
 rw [es]
 rcases h with ⟨as,Φ,G,F',p,l,I,q⟩ | ⟨as,cls,G,F',p,l,I,q⟩
 ·have I0:=I.ext 0 (N.length - ps.length) l
  rw [List.replicate_zero,List.replicate_zero,List.nil_append,List.nil_append] at I0
  refine hw as Φ p G F' _ H I0 _ ?_ ?_ ?_ ?_
  ·intro G1 σ1 H1 ρ1 h1 g1 k1 I1
   exact q G1 H1 .non (.d .non) _ h1 g1 (I1.sel k1 h0 (Nat.le_of_eq hl.symm)) rfl
  ·intro G1 σ1 H1 ρ1 r v ⟨⟨d,ed⟩,h1⟩ g1 k1 I1 ok
   exact q G1 H1 v r _ h1 g1 (I1.sel k1 h0 (Nat.le_of_eq hl.symm)) (RsOk.sel ed ok k1 h0)
  ·intro G1 σ1 H1 ρ1 h1
   exact h1.elim
  ·intro G1 σ1 H1 ρ1 h1
   exact h1.elim
 ·have I0:=I.ext 0 (N.length - ps.length) l
  rw [List.replicate_zero,List.replicate_zero,List.nil_append,List.nil_append] at I0
  exact hwx as cls p G F' _ H I0 _ q
theorem fn_calm {P:Program} {w:World} {K:PySem.W.Frag} {mg:Str→Option Value} {base:Heap} {k:Nat} {f:Addr} {fd:FuncData} {ps:List Str} {pv:PV} {px:PX} (h:FnOk P w K mg base (CXA P w) k f fd ps (spE pv px)):FnOk P w K mg base CX0 k f fd ps (spV pv):=by
 refine ⟨fun vs H Q E z=>h.len vs H Q E (.inl z),fun A outer s H args us vs Q E hr he hb hv z=>?_⟩
 refine codeAny_mono (h.run A outer s H args us vs Q (fun _ _ _=>False) hr he hb hv (.inl z)) fun r s' q=>?_
 cases r with
 | ok f=>cases f <;> exact q
 | error e=>
  obtain ⟨_,_,_,_,_,_,_,_,_,_,q⟩:=q
  exact q.elim
section
variable {E:XK} {cls:Value} {ρ:List Sl} {J:List Sl→Prop} {t u:TS}
theorem r_x (h:wpX t E ρ cls):wpR E cls t ρ J:=fun G F σ H I D k _=>h G F σ H I D k
theorem x_then (M:List Sl→Prop) (h:wpS [] t ρ { nx:=M,rt:=fun _ _=>False }) (h2:∀ ρ1,M ρ1→wpX u E ρ1 cls):wpX (tSeq t u) E ρ cls:=x_of (r_cut M (r_of h) fun ρ1 m=>r_x (h2 ρ1 m))
end
end L4
namespace L2
open PySem
def HasE (P:Program) (w:World) (K:PySem.W.Frag) (mg:Str→Option Value) (base:Heap) (x:Str) (st:Stmt) (ps:List Str) (k:Nat) (sp:Sp):Prop:=∃ f fd,DefAt K mg x st ps f fd∧FnOk P w K mg base (CXA P w) k f fd ps sp
theorem HasE.calm {P:Program} {w:World} {K:PySem.W.Frag} {mg:Str→Option Value} {base:Heap} {x:Str} {st:Stmt} {ps:List Str} {k:Nat} {pv:L4.PV} {px:L4.PX} (h:HasE P w K mg base x st ps k (L4.spE pv px)):Has P w K mg base x st ps k (L4.spV pv):=let ⟨f,d,D,F⟩:=h; ⟨f,d,D,L4.fn_calm F⟩
section
variable {X:Cx} {x:Str} {pos:Pos}
theorem pe_cdE {E:XK} {st:Stmt} {ps:List Str} {j k:Nat} {sp:Sp} {e:Expr} {es:List Expr} {t:TA} {p:Pos} (h:HasE X.prog X.w X.K X.mg X.base x st ps k sp) (hr:Room j X.A) (hx:Passes (CXA X.prog X.w) X E) (ha:PA X (e::es) t) (hk:k≤j:=by decide) (hg:Gl X x:=by rfl) (hdb:(x == ("__debug__" : Str))=false:=by decide) (he:starEach (e::es) X.env=(false,eval e X.env)::starEach es X.env:=by rfl) (hpl:(backTo pos (starEach es X.env)).any (·.1)=false:=by rfl):PE X (.Call (.Name x p) (e::es) [] pos) (tCall sp [] E t):=
 let ⟨_,_,D,F⟩:=h
 pe_call F (hr.mono hk) hg D.mg D.fn.kp D.bd .nil hx ha hdb he hpl
theorem pg_cX (i:Nat) {N:List Str} {scope:Scope} {cl:List (Str×Addr)} {C:Addr} {s0:Shared} {H0:Hp} {fp:List Addr} {xe:Value→Shared→Prop} (hi:N[i]? = some x:=by rfl) (hN:N.Nodup:=by decide +kernel) (hx:Loc (compCx X N scope cl C s0 H0 fp).env.scope x:=by first | exact .inl rfl | exact .inr rfl) (hf:(compCx X N scope cl C s0 H0 fp).fn x=true∨(compCx X N scope cl C s0 H0 fp).env.scope.names.lookup x=some .local:=by first | exact .inl rfl | exact .inr rfl | assumption):PG ((compCx X N scope cl C s0 H0 fp).inner [] xe) (.Name x pos) (gName i):=pg_name (X:=(compCx X N scope cl C s0 H0 fp).inner [] xe) hN hi hx hf
end
end L2
namespace PySem.W.Fast
def tw17026128640383804736:=0
def tw10028078168662020576:=0
def tw15702978852843531840:=0
def tw5628345205653451328:=0
def tw693459840419491392:=0
def tw9287745878124205024:=0
def tw10573196507842230273:=0
def tw7097938867658572865:=0
def tw8502217580903622849:=0
def tw8186104782293841153:=0
def tw1416935743998656897:=0
def tw96807055410183617:=0
def tw5728013681440121409:=0
def tw3535187493579668161:=0
def tw3399026257197812641:=0
def tw13724806187129149377:=0
def tw8227397322680134625:=0
def tw12494611021746845698:=0
def tw16720950832439367842:=0
def tw1513503150789126306:=0
def tw1093605801121146018:=0
def tw13290676017515384066:=0
def tw293061500202327330:=0
def tw4114998394565935554:=0
def tw4256907608268011074:=0
def tw363678311311612514:=0
def tw16654475411511774882:=0
def tw9892349273059958434:=0
def tw3861037346423749635:=0
def tw11399779304923642083:=0
def tw15615434785272934979:=0
def tw8169728560767047299:=0
def tw17290233246304951971:=0
def tw3280120101509188547:=0
def tw16286812513078882372:=0
def tw4287637344479710852:=0
def tw9343676322831569732:=0
def tw15241231224106903428:=0
def tw16524229371938536356:=0
def tw12284324880028255397:=0
def tw3003073657361452293:=0
def tw9450457738038848069:=0
def tw6302412744667834981:=0
def tw2617209362786571877:=0
def tw6041283798538058437:=0
def tw17381265661111380677:=0
def tw15463817002532945669:=0
def tw18076027882609857317:=0
def tw14877791956055089029:=0
def tw8008396311665587430:=0
def tw10898256473992208614:=0
def tw12682194096581895494:=0
def tw5008163225618629990:=0
def tw17121920468952998310:=0
def tw1245905105727855078:=0
def tw11856577306037290598:=0
def tw8392885460997764902:=0
def tw4231392947949940614:=0
def tw10350485972623015878:=0
def tw17660687306342226951:=0
def tw10995449157280265223:=0
def tw1219031524246535271:=0
def tw9112179975486260391:=0
def tw14333808031403621799:=0
def tw16376791341181728295:=0
def tw1710260433831061223:=0
def tw16458291273455144775:=0
def tw3739983228284785543:=0
def tw12948527233403309991:=0
def tw2337559149457290280:=0
def tw1926888776649276488:=0
def tw266188072706061832:=0
def tw2450393159876429416:=0
def tw6641087831219815176:=0
def tw7966190564459969448:=0
def tw6327099953322350665:=0
def tw7089438043502480777:=0
def tw4524106697961397673:=0
def tw13395558300464268745:=0
def tw8850909523487827657:=0
def tw10574746886119673898:=0
def tw16880484606459071658:=0
def tw7641086789095303370:=0
def tw3042273591385992426:=0
def tw7610256036885285098:=0
def tw14322279539866401034:=0
def tw14595861783865340298:=0
def tw4454461408465622570:=0
def tw2528611370413045290:=0
def tw16181171036902460010:=0
def tw16933136563454289674:=0
def tw15194222291598173130:=0
def tw9729710966012653579:=0
def tw4197715057661465867:=0
def tw9594448383992411563:=0
def tw2993139638378701355:=0
def tw1138141679214906955:=0
def tw7913385465686278827:=0
def tw6544387567986985643:=0
def tw2057949051944306411:=0
def tw6122569666635887788:=0
def tw6501390639615481132:=0
def tw1115208591954339244:=0
def tw7446211987749546508:=0
def tw5075708631044685580:=0
def tw6342687118165616492:=0
def tw4984418047970253869:=0
def tw8596600437243957325:=0
def tw12251787433067937101:=0
def tw8285420744683503053:=0
def tw6509201418836425197:=0
def tw9340531950565181933:=0
def tw39472549869497869:=0
def tw2428688162986174445:=0
def tw13830020465331185678:=0
def tw7485904773012643918:=0
def tw2650749147243894894:=0
def tw13251568597421106350:=0
def tw9031034312561279150:=0
def tw2474622519654665678:=0
def tw322590387206532686:=0
def tw9274201994188048974:=0
def tw6949484347136992238:=0
def tw3017958575908507887:=0
def tw17549064681422862703:=0
def tw577560851066516911:=0
def tw11366462138905378255:=0
def tw8032118521016384975:=0
def tw11014046443582974479:=0
def tw13149460280482154127:=0
def tw10573624532224838319:=0
def tw1366183499838088975:=0
def tw8680207170025289551:=0
def tw15177235908718378959:=0
def tw8462672338079948816:=0
def tw14975218904336666672:=0
def tw9875382410951278672:=0
def tw12812136767507225712:=0
def tw2259368210680924432:=0
def tw1071501179013973328:=0
def tw18066883697533376912:=0
def tw9488489482984036816:=0
def tw290849305263082000:=0
def tw13194808888319358544:=0
def tw2200591236692886192:=0
def tw10965853215445017424:=0
def tw14248653197769291632:=0
def tw17697115434770641937:=0
def tw3160736257301295313:=0
def tw16874227484589343185:=0
def tw16527574991900868209:=0
def tw12575893367841903249:=0
def tw5005797492078644881:=0
def tw7123466957902919345:=0
def tw17164257499205211025:=0
def tw4430487603326975921:=0
def tw3470928406019818449:=0
def tw9108540817676379346:=0
def tw10620443409765871858:=0
def tw4281537606104411378:=0
def tw14924992908217612658:=0
def tw3825858412982904274:=0
def tw12990047664633180722:=0
def tw7219517467443540978:=0
def tw2512056445773471730:=0
def tw8262881112401389619:=0
def tw16629111963549232243:=0
def tw12041290591143140659:=0
def tw16942864076894169491:=0
def tw2630131041788330419:=0
def tw2188734736060615123:=0
def tw9943454981927996179:=0
def tw15762598494752247924:=0
def tw2552022196715421940:=0
def tw15245710623893831988:=0
def tw1356656553840080276:=0
def tw15565395651361763860:=0
def tw1382024674273356340:=0
def tw12400015862077256372:=0
def tw10854154306421332724:=0
def tw14184097606980167765:=0
def tw17057397734792921237:=0
def tw6232177276906341589:=0
def tw4471912516602592565:=0
def tw12671438726734944917:=0
def tw15623143402448091829:=0
def tw17854265635250792277:=0
def tw3170692342968052629:=0
def tw6421692428257086614:=0
def tw10205661721720530294:=0
def tw2704238131591392790:=0
def tw6092382599181448822:=0
def tw419664930625798806:=0
def tw12596282719057223574:=0
def tw14325180508913384503:=0
def tw8807698426999255159:=0
def tw7573158267169845431:=0
def tw6991729817398020311:=0
def tw11822579699266350679:=0
def tw11755354387165186679:=0
def tw5599790305142076279:=0
def tw1676432405716795512:=0
def tw4383206166274096376:=0
def tw10278731397265832568:=0
def tw13975769067538771640:=0
def tw5111154073510147928:=0
def tw10462557943271270296:=0
def tw15508320897842144409:=0
def tw8747892306529220825:=0
def tw2870641111369591001:=0
def tw6074197603955760441:=0
def tw13728391297685805753:=0
def tw8172864731215617753:=0
def tw7899904628013668570:=0
def tw13422206705564962202:=0
def tw822948868398127610:=0
def tw8189665296634350298:=0
def tw2376338298400019162:=0
def tw2255668161477569274:=0
def tw9087231534125377755:=0
def tw16271855931677112699:=0
def tw13799460357808000411:=0
def tw5073215711214295451:=0
def tw2409514982078328443:=0
def tw16556690630605167451:=0
def tw13337625412989152123:=0
def tw5948113431229573051:=0
def tw1540433166328683483:=0
def tw12808623355690964955:=0
def tw1945358245156944924:=0
def tw4495735779402869820:=0
def tw11037898335243054172:=0
def tw9251318916081116252:=0
def tw923255719553370236:=0
def tw13037320346199515292:=0
def tw14954078449813889212:=0
def tw14359334863857037692:=0
def tw10497017558018495036:=0
def tw2269038034572105308:=0
def tw15372722890745217756:=0
def tw14159904003071023068:=0
def tw4361024176658024925:=0
def tw6915781833330557437:=0
def tw5801466982523745149:=0
def tw1425520512941547646:=0
def tw12434597899221381342:=0
def tw16960422990699314430:=0
def tw7372874564081110270:=0
def tw428409276386738494:=0
def tw15373416149391635870:=0
def tw3782206149724469726:=0
def tw6132176698077968094:=0
def tw16185116335944896286:=0
def tw11661401402775733214:=0
def tw4022212483810167967:=0
def tw12548434789132412095:=0
def tw3420175195357557023:=0
def tw6359619287961723167:=0
def tw9085463175721501151:=0
def tw16854596749175094751:=0
def tw7717074645508246143:=0
def tw4617487311048990463:=0
def tw17076219946394051423:=0
def tw10815586757980915583:=0
def tw7659569029936924607:=0
end PySem.W.Fast
def PySem.W.Fast.tw16474060917858890117:PySem.Program:=PySem.Challenge.pw_rillturn_k60_pointings_written
theorem PySem.W.Fast.te16474060917858890117:PySem.Challenge.pw_rillturn_k60_pointings_written=PySem.W.Fast.tw16474060917858890117:=rfl
namespace K60
open PySem L2 L4
local macro_rules | `(tactic| walk_at "nm")=>`(tactic| first
 | ((with_reducible refine nm8 ?_); intro _ _ _ _ _ _ _ _ _)
 | ((with_reducible refine nm6 ?_); intro _ _ _ _ _ _ _)
 | ((with_reducible refine nm5 ?_); intro _ _ _ _ _ _)
 | ((with_reducible refine nm4 ?_); intro _ _ _ _ _)
 | ((with_reducible refine nm3 ?_); intro _ _ _ _)
 | ((with_reducible refine nm2 ?_); intro _ _ _))
local macro_rules | `(tactic| walk_at "nf")=>`(tactic| first
 | ((with_reducible refine nf14 ?_); intro _ _ _ _ _ _ _ _ _ _ _ _ _ _ _))
local macro_rules | `(tactic| walk_at "ps")=>`(tactic| try ((with_reducible refine s_psi ?_); intro _))
local macro_rules | `(tactic| walk_at "rf")=>`(tactic| first | rfl | decide)
local macro_rules | `(tactic| walk_at "op")=>`(tactic| first
 | ((with_reducible refine' o_i0 ?h1 ?h2 ?_); (case h1=>rfl); (case h2=>rfl))
 | ((with_reducible refine' OpV.l (o_i0 ?h1 ?h2 ?_)); (case h1=>rfl); (case h2=>rfl))
 | ((with_reducible refine' o_b0 ?h1 ?h2 ?_); (case h1=>rfl); (case h2=>rfl))
 | ((with_reducible refine' OpV.l (o_b0 ?h1 ?h2 ?_)); (case h1=>rfl); (case h2=>rfl))
 | ((with_reducible refine' OpV.l (o_eqI ?h1 ?h2 ?_)); (case h1=>rfl); (case h2=>rfl))
 | ((with_reducible refine' OpV.l (o_neI ?h1 ?h2 ?_)); (case h1=>rfl); (case h2=>rfl))
 | ((with_reducible refine' OpV.l (o_eqB ?h1 ?h2 ?_)); (case h1=>rfl); (case h2=>rfl))
 | ((with_reducible refine' o_isN ?h1 ?_); (case h1=>rfl))
 | ((with_reducible refine' o_notN ?h1 ?_); (case h1=>rfl))
 | ((with_reducible refine' o_neNil ?h1 ?h2 ?h3 ?_); (case h1=>rfl); (case h2=>rfl); (case h3=>first | exact dep_int _ | assumption))
 | ((with_reducible refine' OpV.r (OpV.l (o_catL ?h1 ?h2 ?h3 ?_))); (case h1=>rfl); (case h2=>rfl); (case h3=>exact szl (Nat.le_of_ble_eq_true rfl)))
 | ((with_reducible refine' o_ixT ?h1 ?h2 ?h3 ?_); (case h1=>rfl); (case h2=>rfl); (case h3=>rfl))
 | ((with_reducible refine' o_ixL ?h1 ?h2 ?h3 ?_); (case h1=>rfl); (case h2=>rfl); (case h3=>rfl))
 | ((with_reducible refine' o_ixL ?h1 ?h2 ?h3 ?_); (case h1=>rfl); (case h2=>rfl); (case h3=>assumption))
 | ((with_reducible refine' o_ixT ?h1 ?h2 ?h3 ?_); (case h1=>rfl); (case h2=>rfl); (case h3=>assumption)))
local macro_rules | `(tactic| walk_at "ca")=>`(tactic| first
 | ((with_reducible refine' u_i ?h1 ?_); (case h1=>rfl))
 | ((with_reducible refine' c_ii ?h1 ?h2 ?_); (case h1=>rfl); (case h2=>rfl))
 | ((with_reducible refine' c_lenL ?h1 ?_); (case h1=>rfl))
 | ((with_reducible refine' c_lenT ?h1 ?_); (case h1=>rfl))
 | ((with_reducible refine' c_tupleL ?h1 ?_); (case h1=>rfl))
 | ((with_reducible refine' c_listT ?h1 ?_); (case h1=>rfl))
 | ((with_reducible refine' c_int_b ?h1 ?_); (case h1=>rfl))
 | ((with_reducible refine' c_isinst ?h1 ?h2 ?_); (case h1=>rfl); (case h2=>rfl)))
local macro_rules | `(tactic| walk_at "v1")=>`(tactic| first
 | with_reducible refine v_op ?_
 | with_reducible refine v_int ?_
 | ((with_reducible refine' v_var_d ?h ?_); (case h=>rfl))
 | ((with_reducible refine' v_var_l ?h ?_); (case h=>rfl))
 | ((with_reducible refine' v_var_f ?h ?_); (case h=>rfl))
 | with_reducible refine v_cb ?_
 | with_reducible refine v_join ?_
 | with_reducible refine v_split ?_
 | with_reducible refine v_fmt ?_
 | with_reducible refine v_idxF ?_
 | with_reducible refine v_revX ?_
 | with_reducible refine v_bm ?_
 | (refine ⟨⟨rfl,_,(rfl:rd _ _=some (D.lst _))⟩,?_⟩)
 | with_reducible refine a_cons ?_
 | with_reducible refine a_nil ?_
 | with_reducible refine v_tup ?_
 | with_reducible refine v_lst ?_
 | with_reducible refine v_bl ?_
 | with_reducible refine v_non ?_
 | with_reducible refine v_str ?_
 | with_reducible refine v_raw ?_
 | with_reducible refine v_sl ?_
 | with_reducible refine p_none ?_
 | with_reducible refine p_some ?_
 | with_reducible refine v_un ?_
 | with_reducible refine v_not ?_
 | with_reducible refine t_test ?_
 | with_reducible refine t_tru ?_
 | with_reducible refine t_true ?_
 | with_reducible refine t_not ?_
 | with_reducible refine s_seqN ?_
 | walk_at "nm"
 | with_reducible refine s_seq ?_
 | with_reducible refine s_asg ?_
 | ((with_reducible refine' g_name ?h ?_); (case h=>rfl))
 | ((with_reducible refine' g_tup ?h1 ?h2 ?_); (case h1=>rfl); (case h2=>rfl))
 | with_reducible refine gs_cons ?_
 | with_reducible refine g_put ?_
 | (refine ⟨_,(rfl:Rs.it _=some _),?_⟩)
 | (refine ⟨_,(rfl:_=Rs.b _),?_⟩)
 | with_reducible refine gs_nil ?_
 | with_reducible refine s_ret ?_
 | with_reducible refine s_drop ?_
 | with_reducible refine s_if ?_
 | with_reducible refine s_next ?_
 | walk_at "op"
 | walk_at "ca"
 | (refine ⟨_,(rfl:rd _ _=some _),?_⟩)
 | (refine ⟨_,_,(rfl:rd _ _=some _),(rfl:truD _=some _),?_⟩)
 | (refine ⟨_,(rfl:its _=some _),szl (Nat.le_of_ble_eq_true rfl),?_⟩))
local macro_rules | `(tactic| walk_at "v")=>`(tactic| (repeat (walk_at "v1")))
local macro_rules | `(tactic| walk_at "st")=>`(tactic| try dsimp only [List.length_cons,List.length_nil,Nat.reduceAdd,Nat.reduceSub,List.replicate,List.cons_append,List.nil_append,List.set,caps,List.map,Rs.sl,wb,L4.outer,capt,List.drop,inner,List.getElem?_cons_zero,List.getElem?_cons_succ,List.headD,List.tail,argS,Option.getD])
local macro_rules | `(tactic| walk_at "call")=>`(tactic| ((with_reducible refine v_call ?_); walk_at "v"; (refine ⟨of_decide_eq_true rfl,?_⟩); walk_at "st"))
local macro_rules | `(tactic| walk_at "J")=>`(tactic| first
 | ((with_reducible refine' v_orJ ?h1 ?h2 ?_); (case h1=>(walk_at "vJ"; exact ⟨rfl,rfl⟩)); (case h2=>(intro _; walk_at "vJ"; exact ⟨rfl,rfl⟩)))
 | ((with_reducible refine' v_andJ ?h1 ?h2 ?_); (case h1=>(walk_at "vJ"; exact ⟨rfl,rfl⟩)); (case h2=>(intro _; walk_at "vJ"; exact ⟨rfl,rfl⟩)))
 | ((with_reducible refine' t_andJ ?h1 ?h2 ?_); (case h1=>(walk_at "vJ"; exact ⟨rfl,rfl⟩)); (case h2=>(intro _; walk_at "vJ"; exact ⟨rfl,rfl⟩)))
 | ((with_reducible refine' v_chainJ ?h1 ?h2 ?h3 ?h4 ?h5 ?_); (case h1=>(walk_at "vJ"; exact ⟨rfl,rfl⟩)); (case h2=>(walk_at "vJ"; exact ⟨rfl,rfl⟩)); (case h3=>(walk_at "vJ"; exact ⟨rfl,rfl⟩)); (case h4=>(intro _; walk_at "vJ"; exact ⟨rfl,rfl⟩)); (case h5=>(intro _; walk_at "vJ"; exact ⟨rfl,rfl⟩)))
 | ((with_reducible refine' v_chain3J ?h1 ?h2 ?h3 ?h4 ?h5 ?h6 ?h7 ?_); (case h1=>(walk_at "vJ"; exact ⟨rfl,rfl⟩)); (case h2=>(walk_at "vJ"; exact ⟨rfl,rfl⟩)); (case h3=>(walk_at "vJ"; exact ⟨rfl,rfl⟩)); (case h4=>(intro _; walk_at "vJ"; exact ⟨rfl,rfl⟩)); (case h5=>(intro _; walk_at "vJ"; exact ⟨rfl,rfl⟩)); (case h6=>(intro _; walk_at "vJ"; exact ⟨rfl,rfl⟩)); (case h7=>(intro _; walk_at "vJ"; exact ⟨rfl,rfl⟩))))
local macro_rules | `(tactic| walk_at "vJ")=>`(tactic| (repeat (first | walk_at "v1" | walk_at "J")))
local macro_rules | `(tactic| walk_at "sc")=>`(tactic| exact ⟨rfl,rfl,rfl,by decide +kernel,rfl,by decide +kernel,by decide +kernel⟩)
local macro_rules | `(tactic| walk_at "cs")=>`(tactic| exact ⟨rfl,by decide +kernel,by decide +kernel,by repeat' (first | exact trivial | refine ⟨⟨rfl,rfl,by first | exact Or.inl rfl | exact Or.inr rfl⟩,?_⟩),by decide +kernel⟩)
local macro_rules | `(tactic| walk_at "vc")=>`(tactic| (walk_at "v"; walk_at "call"))
local macro_rules | `(tactic| walk_at "sv")=>`(tactic| (walk_at "st"; walk_at "v"))
def top (i:Nat):Stmt:=PySem.Challenge.pw_rillturn_k60_pointings_written.main.body.getD i (.Pass ⟨0,0,0,0⟩)
def figsT:Str:=Str.ofString "0123456789"
structure Txt (mg:Str→Option Value):Prop where
 n_min:mg "min" = none
 n_max:mg "max" = none
 n_tuple:mg "tuple" = none
 n_range:mg "range" = none
 n_len:mg "len" = none
 n_zip:mg "zip" = none
 n_isinstance:mg "isinstance" = none
 n_int:mg "int" = none
 n_bool:mg "bool" = none
 n_list:mg "list" = none
 n_all:mg "all" = none
 n_sorted:mg "sorted" = none
 n_str:mg "str" = none
 n_divmod:mg "divmod" = none
 n_ValueError:mg "ValueError" = none
 g_MOST_PLACES:∃ t,mg "MOST_PLACES" = some (.int 9 t)
 g_MOST_TIES:∃ t,mg "MOST_TIES" = some (.int 20 t)
 g_FIGURES:∃ t,mg "FIGURES" = some (.str figsT t)
abbrev Tie:=Int×Int
def tieD (t:Tie):D:=.tup [.int t.1,.int t.2]
def webD (n:Nat) (ts:List Tie):D:=.tup [.int n,.tup (ts.map tieD)]
abbrev intsD (ns:List Int):List D:=ns.map D.int
theorem ofd {p:Prop} {i:Decidable p} (h:@decide p i=true):p:=@of_decide_eq_true p i h
theorem nb_false {b:Bool} (h:(!b)=true):b=false:=by cases b <;> first | rfl | cases h
theorem nb_true {b:Bool} (h:¬ (!b)=true):b=true:=by cases b <;> first | rfl | exact absurd rfl h
def mk (a b:Int):Tie:=(if b<a then b else a,if b > a then b else a)
def poolD (q:Int×Int×Int):List D:=[.int q.1,.int q.2.1,.int q.2.2]
def pPool:PV:=fun as Φ=>∃ c:Int,as=[.d (.int c)]∧∀ q,Φ (.l (poolD q)) as
def pNext:PV:=fun as Φ=>∃(q:Int×Int×Int) (b:Int),as=[.l (poolD q),.d (.int b)]∧0<b∧b<1073741824∧∀ r q',0≤r→r<b→Φ (.d (.int r)) [.l (poolD q'),.d (.int b)]
section
variable {P:Program} {w:World} {K:PySem.W.Frag} {mg:Str→Option Value} {base:Heap}
theorem sc__law_pool:FnScope ["cell"] ["cell"] (defScope (top 23)):=by walk_at "sc"
theorem ok__law_pool {f:Addr} {fd:FuncData} (F:Fun K "_law_pool" "_law_pool" (top 23) f fd) (T:Txt mg):FnOk P w K mg base CX0 1 f fd ["cell"] (spV pPool):=by
 refine fn_ok F sc__law_pool [0] (fun as Φ h=>?_) (fun cdv A outer s H E hr=>?_)
 ·obtain ⟨c,rfl,_⟩:=h
  rfl
 ·have hu:=hr.units
  refine ⟨_,(pss_one (ps_ret (pe_lst (pa_cons (pe_callB (call_max2 rfl) (by rfl) T.n_max PyProof.Rows.boot_max (pa_cons pe_int (pa_cons (pe_op op_sub (pv 0) (pe_op op_pow pe_int pe_int)) pa_nil))) (pa_cons (pe_op op_mod (pv 0) (pe_op op_pow pe_int pe_int)) (pa_cons pe_int pa_nil)))))),?_⟩
  rintro as Φ ⟨c,rfl,k⟩
  walk_at "sv"
  refine o_ic rfl rfl ⟨by decide,by decide,by decide⟩ ?_
  walk_at "v"
  refine o_ic rfl rfl ⟨by decide,by decide,by decide⟩ ?_
  refine o_ic rfl rfl (by show (0:Int)<_; decide) ?_
  walk_at "v"
  exact ⟨⟨_,rfl⟩,k (_,_,_)⟩
theorem sc__law_next:FnScope ["pool","base","digit","mixed","stir"] ["pool","base"] (defScope (top 24)):=by walk_at "sc"
theorem ok__law_next {f:Addr} {fd:FuncData} (F:Fun K "_law_next" "_law_next" (top 24) f fd) (T:Txt mg):FnOk P w K mg base CX0 1 f fd ["pool","base"] (spV pNext):=by
 refine fn_ok F sc__law_next [0,1] (fun as Φ h=>?_) (fun cdv A outer s H E hr=>?_)
 ·obtain ⟨q,b,rfl,_⟩:=h
  rfl
 ·have hu:=hr.units
  refine ⟨_,(pss_cons (ps_if (pt_cmpR (opGtK (K:=K) rfl hu) (pe_x (pv 0) pe_int) pe_int (nomark _))
   (pss_cons (ps_s 2 sc__law_next (pe_op op_mod (pe_x (pv 0) pe_int) (pv 1)))
    (pss_cons (ps_asg (pe_op op_fdiv (pe_x (pv 0) pe_int) (pv 1)) (pg_sub (pv 0) pe_int set_list))
    (pss_one (ps_ret (pv 2)))))
   pss_nil)
   (pss_cons (ps_asg (pe_op (opBK (K:=K) rfl) (pe_x (pv 0) pe_int) pe_int) (pg_sub (pv 0) pe_int set_list))
   (pss_cons (ps_s 3 sc__law_next (pe_op op_mod (pe_op (opBK (K:=K) rfl) (pe_x (pv 0) pe_int) (pe_op opM pe_int (pe_x (pv 0) pe_int))) pe_int))
   (pss_cons (ps_s 4 sc__law_next (pe_op op_mod (pe_op opM (pe_op (opBK (K:=K) rfl) (pv 3) pe_int) (pe_op (opBK (K:=K) rfl) (pv 3) pe_int)) pe_int))
   (pss_one (ps_ret (pe_op op_mod (pe_op op_fdiv (pe_op op_mod (pe_op opM (pv 4) (pv 4)) pe_int) pe_int) (pv 1)))))))),?_⟩
  rintro as Φ ⟨⟨p0,p1,p2⟩,b,rfl,b0,b1,k⟩
  walk_at "sv"
  refine ite2 (fun hc=>?_) (fun hc=>?_)
  ·walk_at "v"
   refine o_ic rfl rfl b0 ?_
   walk_at "v"
   refine o_ic rfl rfl ⟨b0,b1⟩ ?_
   walk_at "v"
   refine ⟨_,_,_,rfl,rfl,rfl,?_⟩
   walk_at "sv"
   exact ⟨⟨_,rfl⟩,k _ (_,_,_) (Int.emod_nonneg _ (by omega)) (Int.emod_lt_of_pos _ b0)⟩
  ·refine s_next ?_
   walk_at "v"
   refine ⟨_,_,_,rfl,rfl,rfl,?_⟩
   walk_at "st"
   generalize hp2:p2+1=p3
   walk_at "v"
   refine OpV.l (o_ic rfl rfl (.inl ⟨by decide,by decide⟩) ?_)
   walk_at "v"
   refine o_ic rfl rfl (by show (0:Int)<_; decide) ?_
   walk_at "v"
   have e0:(((p0,p1,p2):Int×Int×Int).snd.fst+7919*p3) % 1000000007=(p1+7919*p3) % 1000000007:=rfl
   rw [e0]
   generalize hm:(p1+7919*p3) % 1000000007=m
   have m0:0≤m:=by rw [← hm]; exact Int.emod_nonneg _ (by decide)
   have m1:m<1000000007:=by rw [← hm]; exact Int.emod_lt_of_pos _ (by decide)
   refine OpV.l (o_ic rfl rfl (.inl ⟨by omega,by omega⟩) ?_)
   walk_at "v"
   refine o_ic rfl rfl (by show (0:Int)<_; decide) ?_
   walk_at "v"
   generalize hs:(m+11)*(m+48271) % 998244353=st
   have s0:0≤st:=by rw [← hs]; exact Int.emod_nonneg _ (by decide)
   have s1:st<998244353:=by rw [← hs]; exact Int.emod_lt_of_pos _ (by decide)
   refine OpV.l (o_ic rfl rfl (.inl ⟨by omega,by omega⟩) ?_)
   walk_at "v"
   refine o_ic rfl rfl (by show (0:Int)<_; decide) ?_
   walk_at "v"
   refine o_ic rfl rfl ⟨by decide,by decide⟩ ?_
   walk_at "v"
   refine o_ic rfl rfl b0 ?_
   exact ⟨⟨_,rfl⟩,k _ (p0,p1,p3) (Int.emod_nonneg _ (by omega)) (Int.emod_lt_of_pos _ b0)⟩
end
local macro_rules | `(tactic| walk_at "nm")=>`(tactic| first
 | ((with_reducible refine nm8 ?_); intro _ _ _ _ _ _ _ _ _)
 | ((with_reducible refine nm6 ?_); intro _ _ _ _ _ _ _)
 | ((with_reducible refine nm5 ?_); intro _ _ _ _ _ _)
 | ((with_reducible refine nm4 ?_); intro _ _ _ _ _)
 | ((with_reducible refine nm3 ?_); intro _ _ _ _)
 | ((with_reducible refine nm2 ?_); intro _ _ _))
local macro_rules | `(tactic| walk_at "nf")=>`(tactic| first
 | ((with_reducible refine nf14 ?_); intro _ _ _ _ _ _ _ _ _ _ _ _ _ _ _))
local macro_rules | `(tactic| walk_at "ps")=>`(tactic| try ((with_reducible refine s_psi ?_); intro _))
local macro_rules | `(tactic| walk_at "rf")=>`(tactic| first | rfl | decide)
local macro_rules | `(tactic| walk_at "op")=>`(tactic| first
 | ((with_reducible refine' o_i0 ?h1 ?h2 ?_); (case h1=>rfl); (case h2=>rfl))
 | ((with_reducible refine' OpV.l (o_i0 ?h1 ?h2 ?_)); (case h1=>rfl); (case h2=>rfl))
 | ((with_reducible refine' o_b0 ?h1 ?h2 ?_); (case h1=>rfl); (case h2=>rfl))
 | ((with_reducible refine' OpV.l (o_b0 ?h1 ?h2 ?_)); (case h1=>rfl); (case h2=>rfl))
 | ((with_reducible refine' OpV.l (o_eqI ?h1 ?h2 ?_)); (case h1=>rfl); (case h2=>rfl))
 | ((with_reducible refine' OpV.l (o_neI ?h1 ?h2 ?_)); (case h1=>rfl); (case h2=>rfl))
 | ((with_reducible refine' OpV.l (o_eqB ?h1 ?h2 ?_)); (case h1=>rfl); (case h2=>rfl))
 | ((with_reducible refine' o_isN ?h1 ?_); (case h1=>rfl))
 | ((with_reducible refine' o_notN ?h1 ?_); (case h1=>rfl))
 | ((with_reducible refine' o_neNil ?h1 ?h2 ?h3 ?_); (case h1=>rfl); (case h2=>rfl); (case h3=>first | exact dep_int _ | assumption))
 | ((with_reducible refine' OpV.r (OpV.l (o_catL ?h1 ?h2 ?h3 ?_))); (case h1=>rfl); (case h2=>rfl); (case h3=>exact szl (Nat.le_of_ble_eq_true rfl)))
 | ((with_reducible refine' o_ixT ?h1 ?h2 ?h3 ?_); (case h1=>rfl); (case h2=>rfl); (case h3=>rfl))
 | ((with_reducible refine' o_ixL ?h1 ?h2 ?h3 ?_); (case h1=>rfl); (case h2=>rfl); (case h3=>rfl))
 | ((with_reducible refine' o_ixL ?h1 ?h2 ?h3 ?_); (case h1=>rfl); (case h2=>rfl); (case h3=>assumption))
 | ((with_reducible refine' o_ixT ?h1 ?h2 ?h3 ?_); (case h1=>rfl); (case h2=>rfl); (case h3=>assumption)))
local macro_rules | `(tactic| walk_at "ca")=>`(tactic| first
 | ((with_reducible refine' u_i ?h1 ?_); (case h1=>rfl))
 | ((with_reducible refine' c_ii ?h1 ?h2 ?_); (case h1=>rfl); (case h2=>rfl))
 | ((with_reducible refine' c_lenL ?h1 ?_); (case h1=>rfl))
 | ((with_reducible refine' c_lenT ?h1 ?_); (case h1=>rfl))
 | ((with_reducible refine' c_tupleL ?h1 ?_); (case h1=>rfl))
 | ((with_reducible refine' c_listT ?h1 ?_); (case h1=>rfl))
 | ((with_reducible refine' c_int_b ?h1 ?_); (case h1=>rfl))
 | ((with_reducible refine' c_isinst ?h1 ?h2 ?_); (case h1=>rfl); (case h2=>rfl)))
local macro_rules | `(tactic| walk_at "v1")=>`(tactic| first
 | with_reducible refine v_op ?_
 | with_reducible refine v_int ?_
 | ((with_reducible refine' v_var_d ?h ?_); (case h=>rfl))
 | ((with_reducible refine' v_var_l ?h ?_); (case h=>rfl))
 | ((with_reducible refine' v_var_f ?h ?_); (case h=>rfl))
 | with_reducible refine v_cb ?_
 | with_reducible refine v_join ?_
 | with_reducible refine v_split ?_
 | with_reducible refine v_fmt ?_
 | with_reducible refine v_idxF ?_
 | with_reducible refine v_revX ?_
 | with_reducible refine v_bm ?_
 | (refine ⟨⟨rfl,_,(rfl:rd _ _=some (D.lst _))⟩,?_⟩)
 | with_reducible refine a_cons ?_
 | with_reducible refine a_nil ?_
 | with_reducible refine v_tup ?_
 | with_reducible refine v_lst ?_
 | with_reducible refine v_bl ?_
 | with_reducible refine v_non ?_
 | with_reducible refine v_str ?_
 | with_reducible refine v_raw ?_
 | with_reducible refine v_sl ?_
 | with_reducible refine p_none ?_
 | with_reducible refine p_some ?_
 | with_reducible refine v_un ?_
 | with_reducible refine v_not ?_
 | with_reducible refine t_test ?_
 | with_reducible refine t_tru ?_
 | with_reducible refine t_true ?_
 | with_reducible refine t_not ?_
 | with_reducible refine s_seqN ?_
 | walk_at "nm"
 | with_reducible refine s_seq ?_
 | with_reducible refine s_asg ?_
 | ((with_reducible refine' g_name ?h ?_); (case h=>rfl))
 | ((with_reducible refine' g_tup ?h1 ?h2 ?_); (case h1=>rfl); (case h2=>rfl))
 | with_reducible refine gs_cons ?_
 | with_reducible refine g_put ?_
 | (refine ⟨_,(rfl:Rs.it _=some _),?_⟩)
 | (refine ⟨_,(rfl:_=Rs.b _),?_⟩)
 | with_reducible refine gs_nil ?_
 | with_reducible refine s_ret ?_
 | with_reducible refine s_drop ?_
 | with_reducible refine s_if ?_
 | with_reducible refine s_next ?_
 | walk_at "op"
 | walk_at "ca"
 | (refine ⟨_,(rfl:rd _ _=some _),?_⟩)
 | (refine ⟨_,_,(rfl:rd _ _=some _),(rfl:truD _=some _),?_⟩)
 | (refine ⟨_,(rfl:its _=some _),szl (Nat.le_of_ble_eq_true rfl),?_⟩))
local macro_rules | `(tactic| walk_at "v")=>`(tactic| (repeat (walk_at "v1")))
local macro_rules | `(tactic| walk_at "st")=>`(tactic| try dsimp only [List.length_cons,List.length_nil,Nat.reduceAdd,Nat.reduceSub,List.replicate,List.cons_append,List.nil_append,List.set,caps,List.map,Rs.sl,wb,L4.outer,capt,List.drop,inner,List.getElem?_cons_zero,List.getElem?_cons_succ,List.headD,List.tail,argS,Option.getD])
local macro_rules | `(tactic| walk_at "call")=>`(tactic| ((with_reducible refine v_call ?_); walk_at "v"; (refine ⟨of_decide_eq_true rfl,?_⟩); walk_at "st"))
local macro_rules | `(tactic| walk_at "J")=>`(tactic| first
 | ((with_reducible refine' v_orJ ?h1 ?h2 ?_); (case h1=>(walk_at "vJ"; exact ⟨rfl,rfl⟩)); (case h2=>(intro _; walk_at "vJ"; exact ⟨rfl,rfl⟩)))
 | ((with_reducible refine' v_andJ ?h1 ?h2 ?_); (case h1=>(walk_at "vJ"; exact ⟨rfl,rfl⟩)); (case h2=>(intro _; walk_at "vJ"; exact ⟨rfl,rfl⟩)))
 | ((with_reducible refine' t_andJ ?h1 ?h2 ?_); (case h1=>(walk_at "vJ"; exact ⟨rfl,rfl⟩)); (case h2=>(intro _; walk_at "vJ"; exact ⟨rfl,rfl⟩)))
 | ((with_reducible refine' v_chainJ ?h1 ?h2 ?h3 ?h4 ?h5 ?_); (case h1=>(walk_at "vJ"; exact ⟨rfl,rfl⟩)); (case h2=>(walk_at "vJ"; exact ⟨rfl,rfl⟩)); (case h3=>(walk_at "vJ"; exact ⟨rfl,rfl⟩)); (case h4=>(intro _; walk_at "vJ"; exact ⟨rfl,rfl⟩)); (case h5=>(intro _; walk_at "vJ"; exact ⟨rfl,rfl⟩)))
 | ((with_reducible refine' v_chain3J ?h1 ?h2 ?h3 ?h4 ?h5 ?h6 ?h7 ?_); (case h1=>(walk_at "vJ"; exact ⟨rfl,rfl⟩)); (case h2=>(walk_at "vJ"; exact ⟨rfl,rfl⟩)); (case h3=>(walk_at "vJ"; exact ⟨rfl,rfl⟩)); (case h4=>(intro _; walk_at "vJ"; exact ⟨rfl,rfl⟩)); (case h5=>(intro _; walk_at "vJ"; exact ⟨rfl,rfl⟩)); (case h6=>(intro _; walk_at "vJ"; exact ⟨rfl,rfl⟩)); (case h7=>(intro _; walk_at "vJ"; exact ⟨rfl,rfl⟩))))
local macro_rules | `(tactic| walk_at "vJ")=>`(tactic| (repeat (first | walk_at "v1" | walk_at "J")))
local macro_rules | `(tactic| walk_at "sc")=>`(tactic| exact ⟨rfl,rfl,rfl,by decide +kernel,rfl,by decide +kernel,by decide +kernel⟩)
local macro_rules | `(tactic| walk_at "cs")=>`(tactic| exact ⟨rfl,by decide +kernel,by decide +kernel,by repeat' (first | exact trivial | refine ⟨⟨rfl,rfl,by first | exact Or.inl rfl | exact Or.inr rfl⟩,?_⟩),by decide +kernel⟩)
local macro_rules | `(tactic| walk_at "vc")=>`(tactic| (walk_at "v"; walk_at "call"))
local macro_rules | `(tactic| walk_at "sv")=>`(tactic| (walk_at "st"; walk_at "v"))
def tlt (s t:Tie):Prop:=s.1<t.1∨(s.1=t.1∧s.2<t.2)
structure TiesTo (n:Nat) (ts:List Tie) (i j:Int):Prop where
 ok:∀ t∈ts,0≤t.1∧t.1<t.2∧t.2<(n:Int)∧(t.1<i∨(t.1=i∧t.2<j))
 up:ts.Pairwise tlt
theorem TiesTo.weak {n:Nat} {ts:List Tie} {i j i' j':Int} (h:TiesTo n ts i j) (g:i<i'∨(i=i'∧j≤j')):TiesTo n ts i' j':=
 ⟨fun t ht=>by
  obtain ⟨h1,h2,h3,h4⟩:=h.ok t ht
  refine ⟨h1,h2,h3,?_⟩
  omega,h.up⟩
theorem TiesTo.snoc {n:Nat} {ts:List Tie} {i j:Int} (h:TiesTo n ts i j) (h0:0≤i) (h1:i<j) (h2:j<(n:Int)):TiesTo n (ts++[(i,j)]) i (j+1):=by
 refine ⟨fun t ht=>?_,?_⟩
 ·rcases List.mem_append.mp ht with z | z
  ·obtain ⟨g1,g2,g3,g4⟩:=h.ok t z
   refine ⟨g1,g2,g3,?_⟩
   omega
  ·rw [List.mem_singleton.mp z]
   refine ⟨h0,h1,h2,.inr ⟨rfl,?_⟩⟩
   show j<j+1
   omega
 ·refine List.pairwise_append.mpr ⟨h.up,List.pairwise_singleton _ _,fun s hs t ht=>?_⟩
  rw [List.mem_singleton.mp ht]
  obtain ⟨g1,g2,g3,g4⟩:=h.ok s hs
  exact g4
structure WebOk (n:Nat) (ts:List Tie):Prop where
 pos:1≤n
 few:n≤9
 len:ts.length≤20
 ok:∀ t∈ts,0≤t.1∧t.1<t.2∧t.2<(n:Int)
 up:ts.Pairwise tlt
def pWeb:PV:=fun as Φ=>∃(q:Int×Int×Int) (most:Int),as=[.l (poolD q),.d (.int most)]∧1≤most∧most≤9∧∀ n ts q',WebOk n ts→(n:Int)≤most→Φ (.d (webD n ts)) [.l (poolD q'),.d (.int most)]
theorem atN (bs:List Int) (w:Int) (h0:0≤w) (h1:w<(bs.length:Int)):∃ b,atI (bs.map D.int) w=some (.int b)∧bs[w.toNat]? = some b:=by
 obtain ⟨k,rfl⟩:∃ k:Nat,w=(k:Int):=⟨w.toNat,by omega⟩
 have hk:k<bs.length:=by omega
 exact ⟨bs[k],atI_nat (by rw [List.getElem?_map,List.getElem?_eq_getElem hk]; rfl),by simp [hk]⟩
section
variable {P:Program} {w:World} {K:PySem.W.Frag} {mg:Str→Option Value} {base:Heap}
theorem sc__law_web:FnScope ["pool","most","many","way","lack","cut","roots","some","a","b","chance","lucky"] ["pool","most"] (defScope (top 25)):=by walk_at "sc"
theorem ok__law_web {f:Addr} {fd:FuncData} (F:Fun K "_law_web" "_law_web" (top 25) f fd) (T:Txt mg) (G__law_next:Has P w K mg base "_law_next" (top 24) ["pool","base"] 1 (spV pNext)):FnOk P w K mg base CX0 2 f fd ["pool","most"] (spV pWeb):=by
 refine fn_ok F sc__law_web [0,1] (fun as Φ h=>?_) (fun cdv A outer s H E hr=>?_)
 ·obtain ⟨q,b,rfl,_⟩:=h
  rfl
 ·have hu:=hr.units
  refine ⟨_,(pss_cons (ps_s 2 sc__law_web (pe_op (opBK (K:=K) rfl) pe_int (pe_cd G__law_next hr (pa_cons (pv 0) (pa_cons (pv 1) pa_nil)))))
   (pss_cons (ps_s 3 sc__law_web (pe_cd G__law_next hr (pa_cons (pv 0) (pa_cons pe_int pa_nil))))
   (pss_cons (ps_s 4 sc__law_web (pe_op (opBK (K:=K) rfl) pe_int (pe_cd G__law_next hr (pa_cons (pv 0) (pa_cons pe_int pa_nil)))))
   (pss_cons (ps_s 5 sc__law_web (pe_cd G__law_next hr (pa_cons (pv 0) (pa_cons (pv 2) pa_nil))))
   (pss_cons (ps_setComp (i:=6) rfl sc__law_web.nd rfl rfl (own:=["place"]) (fr:=[("pool",0)]) (by walk_at "cs") (pi_range1 (by rfl) T.n_range (pa_cons (pv 2) pa_nil)) (fun cl C s0 H0 fp=>⟨(pg_c 0),pf_nil,(pe_cd G__law_next hr (pa_cons (pv 1) (pa_cons (pe_callB (call_max2 rfl) (by rfl) T.n_max PyProof.Rows.boot_max (pa_cons pe_int (pa_cons (pv 0) pa_nil))) pa_nil)))⟩))
   (pss_cons (ps_s 7 sc__law_web (pe_lst pa_nil))
   (pss_cons (ps_for PassesOwn.never rfl (pi_range1 (by rfl) T.n_range (pa_cons (pv 2) pa_nil)) (pg_n 8 sc__law_web)
   (pss_one (ps_for PassesOwn.never rfl (pi_range2 (by rfl) T.n_range (pa_cons (pe_op (opBK (K:=K) rfl) (pv 8) pe_int) (pa_cons (pv 2) pa_nil))) (pg_n 9 sc__law_web)
    (pss_cons (ps_s 10 sc__law_web (pe_cd G__law_next hr (pa_cons (pv 0) (pa_cons pe_int pa_nil))))
     (pss_cons (ps_s 11 sc__law_web (pe_lst (pa_cons (pe_or (pe_cmpR (opEq hu) (pe_op (opBK (K:=K) rfl) (pv 8) pe_int) (pv 9) (nomark _)) (pe_one (pe_and (pe_cmpR (opEq hu) (pv 8) pe_int (nomark _)) (pe_one (pe_cmpR (opEq hu) (pe_op (opBK (K:=K) rfl) (pv 9) pe_int) (pv 2) (nomark _)))))) (pa_cons (pe_cmpR (opLtK (K:=K) rfl hu) (pv 10) (pe_op (opBK (K:=K) rfl) (pv 4) pe_int) (nomark _)) (pa_cons (pe_cmpR (opEq hu) (pv 10) pe_int (nomark _)) (pa_cons (pe_cmpR (opEq hu) (pe_x (pv 6) (pv 9)) (pv 8) (nomark _)) pa_nil))))))
     (pss_cons (ps_s 11 sc__law_web (pe_op (opBK (K:=K) rfl) (pv 11) (pe_lst (pa_cons (pe_and (pe_cmpR (opEq hu) (pe_cmpR (opLtK (K:=K) rfl hu) (pv 8) (pv 5) (nomark _)) (pe_cmpR (opLtK (K:=K) rfl hu) (pv 9) (pv 5) (nomark _)) (nomark _)) (pe_one (pe_cmpR (opLtK (K:=K) rfl hu) (pv 10) pe_int (nomark _)))) (pa_cons (pe_cmpR (opLtK (K:=K) rfl hu) (pv 10) (pv 4) (nomark _)) (pa_cons (pe_or (pe_cmpR (opLtK (K:=K) rfl hu) (pv 10) pe_int (nomark _)) (pe_one (pe_cmpR (opEq hu) (pe_x (pv 6) (pv 9)) (pv 8) (nomark _)))) pa_nil))))))
     (pss_one (ps_if (PW.pt (pw_and (pt_truthK (K:=K) rfl (pe_x (pv 11) (pv 3)) (fun _=>rfl)) (pw_and1 (pt_cmpR (opLtK (K:=K) rfl hu) (pe_callB (lenK (K:=K) rfl) (by rfl) T.n_len PySem.boot_len (pa_cons (pv 7) pa_nil)) pe_int (nomark _)))))
     (pss_one (ps_expr (pe_bmK (K:=K) rfl PySem.F.plainAttrs_list PySem.F.slot_list_append PySem.F.type_list_append mt_append (pv 7) (pa_cons (pe_tup (pa_cons (pv 8) (pa_cons (pv 9) pa_nil))) pa_nil))))
     pss_nil))))))))
   (pss_one (ps_ret (pe_tup (pa_cons (pv 2) (pa_cons (pe_callTy (tupleK (K:=K) rfl) (by rfl) T.n_tuple PyProof.Rows.boot_tuple (pa_cons (pv 7) pa_nil)) pa_nil)))))))))))),?_⟩
  rintro as Φ ⟨q,most,rfl,m0,m1,k⟩
  walk_at "st"
  walk_at "vc"
  refine ⟨q,most,rfl,by omega,by omega,fun r q1 r0 r1=>⟨⟨_,rfl⟩,?_⟩⟩
  walk_at "sv"
  obtain ⟨n,hn⟩:∃ n:Nat,(n:Int)=1+r:=⟨(1+r).toNat,by omega⟩
  rw [← hn]
  walk_at "call"
  refine ⟨q1,7,rfl,by decide,by decide,fun wy q2 w0 w1=>⟨⟨_,rfl⟩,?_⟩⟩
  walk_at "st"
  walk_at "vc"
  refine ⟨q2,4,rfl,by decide,by decide,fun lk q3 l0 l1=>⟨⟨_,rfl⟩,?_⟩⟩
  walk_at "st"
  walk_at "vc"
  refine ⟨q3,n,rfl,by omega,by omega,fun ct q4 c0 c1=>⟨⟨_,rfl⟩,?_⟩⟩
  walk_at "sv"
  refine v_comp (i_r1 ?_)
  walk_at "v"
  refine ⟨n,⟨_,rfl,rfl⟩,by omega,by omega,?_,of_decide_eq_true rfl,fun i ys ρc=>∃ s q rs,ρc=[s,.l (poolD q)]∧ys=rs.map D.int∧rs.length=i∧i≤n,⟨_,_,[],rfl,rfl,rfl,Nat.zero_le _⟩,?_,?_,?_⟩
  ·intro p hp
   rw [List.mem_singleton.mp hp]
   exact ⟨_,rfl,by intro z; cases z⟩
  ·rintro i ys ρc ⟨s,q,rs,rfl,rfl,hl,hi⟩
   refine ⟨small1000 ?_,rfl⟩
   rw [List.length_map]
   omega
  ·rintro i x ys ρc hx ⟨s,q,rs,rfl,rfl,hl,hi⟩
   rw [Int.toNat_natCast] at hx
   have hin:i<n:=by
    have:=(List.getElem?_eq_some_iff.mp hx).1
    rw [irng_len] at this
    exact this
   rw [irng_get hin] at hx
   cases hx
   walk_at "v"
   rw [if_pos rfl]
   walk_at "call"
   refine ⟨q,_,rfl,by split <;> omega,by split <;> omega,fun v q' v0 v1=>⟨⟨_,rfl⟩,_,rfl,_,q',rs++[v],rfl,?_,?_,by omega⟩⟩
   ·rw [List.map_append]
    rfl
   ·rw [List.length_append,hl]
    rfl
  ·rintro ys ρc ⟨s,q,rs,rfl,rfl,hl,hi⟩
   rw [irng_len,Int.toNat_natCast] at hl
   walk_at "sv"
   refine s_for (i_r1 ?_)
   walk_at "v"
   refine ⟨n,⟨_,rfl,rfl⟩,by omega,by omega,fun i ρ=>∃ oa ob oc ol ts q,ρ=[.l (poolD q),.d (.int most),.d (.int n),.d (.int wy),.d (.int (2+lk)),.d (.int ct),.l (rs.map D.int),.l (ts.map tieD),oa,ob,oc,ol]∧ts.length≤20∧TiesTo n ts (i:Int) 0,?_,?_,?_⟩
   ·exact ⟨_,_,_,_,[],q,rfl,Nat.zero_le _,fun t ht=>(by cases ht),List.Pairwise.nil⟩
   ·rintro i x ρ hx ⟨oa,ob,oc,ol,ts,q,rfl,len6,to6⟩
    have hin:i<n:=by
     have:=(List.getElem?_eq_some_iff.mp hx).1
     rw [irng_len] at this
     omega
    rw [Int.toNat_natCast,irng_get hin] at hx
    cases hx
    rw [Int.zero_add]
    walk_at "v"
    walk_at "st"
    refine s_for (i_r2 ?_)
    walk_at "v"
    refine ⟨_,n,⟨_,_,rfl,rfl,rfl⟩,⟨by omega,by omega,by omega,by omega⟩,fun j ρ=>∃ ob oc ol ts q,ρ=[.l (poolD q),.d (.int most),.d (.int n),.d (.int wy),.d (.int (2+lk)),.d (.int ct),.l (rs.map D.int),.l (ts.map tieD),.d (.int i),ob,oc,ol]∧ts.length≤20∧TiesTo n ts (i:Int) ((i:Int)+1+(j:Int)),?_,?_,?_⟩
    ·exact ⟨_,_,_,ts,q,rfl,len6,to6.weak (by omega)⟩
    ·rintro j x ρ hx ⟨ob,oc,ol,ts,q,rfl,len7,to7⟩
     have hjn:j<((n:Int) - ((i:Int)+1)).toNat:=by
      have:=(List.getElem?_eq_some_iff.mp hx).1
      rw [irng_len] at this
      exact this
     rw [irng_get hjn] at hx
     cases hx
     have hb:(i:Int)+1+(j:Int)<(n:Int):=by omega
     generalize hbb:(i:Int)+1+(j:Int)=bb at hb to7
     have ej:(i:Int)+1+((j+1:Nat):Int)=bb+1:=by omega
     walk_at "v"
     walk_at "st"
     walk_at "call"
     refine ⟨q,6,rfl,by decide,by decide,fun ch q' ch0 ch1=>⟨⟨_,rfl⟩,?_⟩⟩
     walk_at "st"
     obtain ⟨rv,hrv,_⟩:=atN rs bb (by omega) (by omega)
     walk_at "vJ"
     refine t_and (t_tru ?_)
     walk_at "v"
     refine o_ixLe rfl rfl (ex_bl rfl w0 (by show wy<7; exact w1) fun bw=>?_)
     walk_at "v"
     refine ite2 (fun hw=>?_) (fun hw=>?_)
     ·walk_at "v"
      refine ite2 (fun hc=>?_) (fun hc=>?_)
      ·have hc':ts.length<20:=by
        have:=of_decide_eq_true hc
        rw [List.length_map] at this
        omega
       walk_at "v"
       refine m_append rfl rfl (small1000 (by rw [List.length_map]; omega)) ?_
       walk_at "st"
       have em:ts.map tieD++[D.tup [.int i,.int bb]]=(ts++[((i:Int),bb)]).map tieD:=by
        rw [List.map_append]
        rfl
       have el:(ts++[((i:Int),bb)]).length≤20:=by
        rw [List.length_append]
        show ts.length+1≤20
        omega
       rw [em]
       exact ⟨_,_,_,ts++[((i:Int),bb)],q',rfl,el,(by rw [ej]; exact to7.snoc (by omega) (by omega) hb)⟩
      ·exact s_next ⟨_,_,_,ts,q',rfl,len7,to7.weak (by omega)⟩
     ·rw [if_neg Bool.false_ne_true]
      exact s_next ⟨_,_,_,ts,q',rfl,len7,to7.weak (by omega)⟩
    ·rintro ρ ⟨ob,oc,ol,ts,q,rfl,len7,to7⟩
     exact ⟨_,_,_,_,ts,q,rfl,len7,to7.weak (by omega)⟩
   ·rintro ρ ⟨oa,ob,oc,ol,ts,q,rfl,len6,to6⟩
    walk_at "v"
    refine ⟨⟨_,rfl⟩,k n ts q ⟨by omega,by omega,len6,fun t ht=>?_,to6.up⟩ (by omega)⟩
    obtain ⟨g1,g2,g3,_⟩:=to6.ok t ht
    exact ⟨g1,g2,g3⟩
end
local macro_rules | `(tactic| walk_at "nm")=>`(tactic| first
 | ((with_reducible refine nm8 ?_); intro _ _ _ _ _ _ _ _ _)
 | ((with_reducible refine nm6 ?_); intro _ _ _ _ _ _ _)
 | ((with_reducible refine nm5 ?_); intro _ _ _ _ _ _)
 | ((with_reducible refine nm4 ?_); intro _ _ _ _ _)
 | ((with_reducible refine nm3 ?_); intro _ _ _ _)
 | ((with_reducible refine nm2 ?_); intro _ _ _))
local macro_rules | `(tactic| walk_at "nf")=>`(tactic| first
 | ((with_reducible refine nf14 ?_); intro _ _ _ _ _ _ _ _ _ _ _ _ _ _ _))
local macro_rules | `(tactic| walk_at "ps")=>`(tactic| try ((with_reducible refine s_psi ?_); intro _))
local macro_rules | `(tactic| walk_at "rf")=>`(tactic| first | rfl | decide)
local macro_rules | `(tactic| walk_at "op")=>`(tactic| first
 | ((with_reducible refine' o_i0 ?h1 ?h2 ?_); (case h1=>rfl); (case h2=>rfl))
 | ((with_reducible refine' OpV.l (o_i0 ?h1 ?h2 ?_)); (case h1=>rfl); (case h2=>rfl))
 | ((with_reducible refine' o_b0 ?h1 ?h2 ?_); (case h1=>rfl); (case h2=>rfl))
 | ((with_reducible refine' OpV.l (o_b0 ?h1 ?h2 ?_)); (case h1=>rfl); (case h2=>rfl))
 | ((with_reducible refine' OpV.l (o_eqI ?h1 ?h2 ?_)); (case h1=>rfl); (case h2=>rfl))
 | ((with_reducible refine' OpV.l (o_neI ?h1 ?h2 ?_)); (case h1=>rfl); (case h2=>rfl))
 | ((with_reducible refine' OpV.l (o_eqB ?h1 ?h2 ?_)); (case h1=>rfl); (case h2=>rfl))
 | ((with_reducible refine' o_isN ?h1 ?_); (case h1=>rfl))
 | ((with_reducible refine' o_notN ?h1 ?_); (case h1=>rfl))
 | ((with_reducible refine' o_neNil ?h1 ?h2 ?h3 ?_); (case h1=>rfl); (case h2=>rfl); (case h3=>first | exact dep_int _ | assumption))
 | ((with_reducible refine' OpV.r (OpV.l (o_catL ?h1 ?h2 ?h3 ?_))); (case h1=>rfl); (case h2=>rfl); (case h3=>exact szl (Nat.le_of_ble_eq_true rfl)))
 | ((with_reducible refine' o_ixT ?h1 ?h2 ?h3 ?_); (case h1=>rfl); (case h2=>rfl); (case h3=>rfl))
 | ((with_reducible refine' o_ixL ?h1 ?h2 ?h3 ?_); (case h1=>rfl); (case h2=>rfl); (case h3=>rfl))
 | ((with_reducible refine' o_ixL ?h1 ?h2 ?h3 ?_); (case h1=>rfl); (case h2=>rfl); (case h3=>assumption))
 | ((with_reducible refine' o_ixT ?h1 ?h2 ?h3 ?_); (case h1=>rfl); (case h2=>rfl); (case h3=>assumption)))
local macro_rules | `(tactic| walk_at "ca")=>`(tactic| first
 | ((with_reducible refine' u_i ?h1 ?_); (case h1=>rfl))
 | ((with_reducible refine' c_ii ?h1 ?h2 ?_); (case h1=>rfl); (case h2=>rfl))
 | ((with_reducible refine' c_lenL ?h1 ?_); (case h1=>rfl))
 | ((with_reducible refine' c_lenT ?h1 ?_); (case h1=>rfl))
 | ((with_reducible refine' c_tupleL ?h1 ?_); (case h1=>rfl))
 | ((with_reducible refine' c_listT ?h1 ?_); (case h1=>rfl))
 | ((with_reducible refine' c_int_b ?h1 ?_); (case h1=>rfl))
 | ((with_reducible refine' c_isinst ?h1 ?h2 ?_); (case h1=>rfl); (case h2=>rfl)))
local macro_rules | `(tactic| walk_at "v1")=>`(tactic| first
 | with_reducible refine v_op ?_
 | with_reducible refine v_int ?_
 | ((with_reducible refine' v_var_d ?h ?_); (case h=>rfl))
 | ((with_reducible refine' v_var_l ?h ?_); (case h=>rfl))
 | ((with_reducible refine' v_var_f ?h ?_); (case h=>rfl))
 | with_reducible refine v_cb ?_
 | with_reducible refine v_join ?_
 | with_reducible refine v_split ?_
 | with_reducible refine v_fmt ?_
 | with_reducible refine v_idxF ?_
 | with_reducible refine v_revX ?_
 | with_reducible refine v_bm ?_
 | (refine ⟨⟨rfl,_,(rfl:rd _ _=some (D.lst _))⟩,?_⟩)
 | with_reducible refine a_cons ?_
 | with_reducible refine a_nil ?_
 | with_reducible refine v_tup ?_
 | with_reducible refine v_lst ?_
 | with_reducible refine v_bl ?_
 | with_reducible refine v_non ?_
 | with_reducible refine v_str ?_
 | with_reducible refine v_raw ?_
 | with_reducible refine v_sl ?_
 | with_reducible refine p_none ?_
 | with_reducible refine p_some ?_
 | with_reducible refine v_un ?_
 | with_reducible refine v_not ?_
 | with_reducible refine t_test ?_
 | with_reducible refine t_tru ?_
 | with_reducible refine t_true ?_
 | with_reducible refine t_not ?_
 | with_reducible refine s_seqN ?_
 | walk_at "nm"
 | with_reducible refine s_seq ?_
 | with_reducible refine s_asg ?_
 | ((with_reducible refine' g_name ?h ?_); (case h=>rfl))
 | ((with_reducible refine' g_tup ?h1 ?h2 ?_); (case h1=>rfl); (case h2=>rfl))
 | with_reducible refine gs_cons ?_
 | with_reducible refine g_put ?_
 | (refine ⟨_,(rfl:Rs.it _=some _),?_⟩)
 | (refine ⟨_,(rfl:_=Rs.b _),?_⟩)
 | with_reducible refine gs_nil ?_
 | with_reducible refine s_ret ?_
 | with_reducible refine s_drop ?_
 | with_reducible refine s_if ?_
 | with_reducible refine s_next ?_
 | walk_at "op"
 | walk_at "ca"
 | (refine ⟨_,(rfl:rd _ _=some _),?_⟩)
 | (refine ⟨_,_,(rfl:rd _ _=some _),(rfl:truD _=some _),?_⟩)
 | (refine ⟨_,(rfl:its _=some _),szl (Nat.le_of_ble_eq_true rfl),?_⟩))
local macro_rules | `(tactic| walk_at "v")=>`(tactic| (repeat (walk_at "v1")))
local macro_rules | `(tactic| walk_at "st")=>`(tactic| try dsimp only [List.length_cons,List.length_nil,Nat.reduceAdd,Nat.reduceSub,List.replicate,List.cons_append,List.nil_append,List.set,caps,List.map,Rs.sl,wb,L4.outer,capt,List.drop,inner,List.getElem?_cons_zero,List.getElem?_cons_succ,List.headD,List.tail,argS,Option.getD])
local macro_rules | `(tactic| walk_at "call")=>`(tactic| ((with_reducible refine v_call ?_); walk_at "v"; (refine ⟨of_decide_eq_true rfl,?_⟩); walk_at "st"))
local macro_rules | `(tactic| walk_at "J")=>`(tactic| first
 | ((with_reducible refine' v_orJ ?h1 ?h2 ?_); (case h1=>(walk_at "vJ"; exact ⟨rfl,rfl⟩)); (case h2=>(intro _; walk_at "vJ"; exact ⟨rfl,rfl⟩)))
 | ((with_reducible refine' v_andJ ?h1 ?h2 ?_); (case h1=>(walk_at "vJ"; exact ⟨rfl,rfl⟩)); (case h2=>(intro _; walk_at "vJ"; exact ⟨rfl,rfl⟩)))
 | ((with_reducible refine' t_andJ ?h1 ?h2 ?_); (case h1=>(walk_at "vJ"; exact ⟨rfl,rfl⟩)); (case h2=>(intro _; walk_at "vJ"; exact ⟨rfl,rfl⟩)))
 | ((with_reducible refine' v_chainJ ?h1 ?h2 ?h3 ?h4 ?h5 ?_); (case h1=>(walk_at "vJ"; exact ⟨rfl,rfl⟩)); (case h2=>(walk_at "vJ"; exact ⟨rfl,rfl⟩)); (case h3=>(walk_at "vJ"; exact ⟨rfl,rfl⟩)); (case h4=>(intro _; walk_at "vJ"; exact ⟨rfl,rfl⟩)); (case h5=>(intro _; walk_at "vJ"; exact ⟨rfl,rfl⟩)))
 | ((with_reducible refine' v_chain3J ?h1 ?h2 ?h3 ?h4 ?h5 ?h6 ?h7 ?_); (case h1=>(walk_at "vJ"; exact ⟨rfl,rfl⟩)); (case h2=>(walk_at "vJ"; exact ⟨rfl,rfl⟩)); (case h3=>(walk_at "vJ"; exact ⟨rfl,rfl⟩)); (case h4=>(intro _; walk_at "vJ"; exact ⟨rfl,rfl⟩)); (case h5=>(intro _; walk_at "vJ"; exact ⟨rfl,rfl⟩)); (case h6=>(intro _; walk_at "vJ"; exact ⟨rfl,rfl⟩)); (case h7=>(intro _; walk_at "vJ"; exact ⟨rfl,rfl⟩))))
local macro_rules | `(tactic| walk_at "vJ")=>`(tactic| (repeat (first | walk_at "v1" | walk_at "J")))
local macro_rules | `(tactic| walk_at "sc")=>`(tactic| exact ⟨rfl,rfl,rfl,by decide +kernel,rfl,by decide +kernel,by decide +kernel⟩)
local macro_rules | `(tactic| walk_at "cs")=>`(tactic| exact ⟨rfl,by decide +kernel,by decide +kernel,by repeat' (first | exact trivial | refine ⟨⟨rfl,rfl,by first | exact Or.inl rfl | exact Or.inr rfl⟩,?_⟩),by decide +kernel⟩)
local macro_rules | `(tactic| walk_at "vc")=>`(tactic| (walk_at "v"; walk_at "call"))
local macro_rules | `(tactic| walk_at "sv")=>`(tactic| (walk_at "st"; walk_at "v"))
theorem firstAt_int {d:Int} {l:List Int} (h:d∈l):FirstAt (.int d) (intsD l) (l.idxOf d):=by
 have hj:=List.idxOf_lt_length_iff.mpr h
 refine ⟨⟨.int d,?_,dEq_refl _⟩,fun m c hm hc=>?_⟩
 ·unfold intsD
  rw [List.getElem?_map,List.getElem?_eq_getElem hj,List.getElem_idxOf hj]
  rfl
 ·unfold intsD at hc
  rw [List.getElem?_map] at hc
  have hml:m<l.length:=by omega
  rw [List.getElem?_eq_getElem hml] at hc
  have hc':D.int l[m]=c:=Option.some.inj hc
  rw [← hc',dEq_int,decide_eq_false_iff_not]
  intro z
  have:=List.not_of_lt_findIdx (p:=(· == d)) (xs:=l) (i:=m) hm
  simp [z] at this
theorem dep_ints (ns:List Int):dDepths (intsD ns)≤50:=dep_int ns
def byOrd (ts:List Tie) (o:List Int):List Int:=ts.map fun t=>if o.idxOf t.1<o.idxOf t.2 then 1 else 0
structure IsOrd (n:Nat) (o:List Int):Prop where
 len:o.length=n
 nd:o.Nodup
 all:∀ p,0≤p→p<(n:Int)→p∈o
def pOrdered:PV:=fun as Φ=>∃(n:Nat) (ts:List Tie) (o:List Int),as=[.d (webD n ts),.d (.tup (intsD o))]∧WebOk n ts∧IsOrd n o∧Φ (.d (.tup (intsD (byOrd ts o)))) as
def pOrder:PV:=fun as Φ=>∃(q:Int×Int×Int) (n:Nat),as=[.l (poolD q),.d (.int n)]∧n≤9∧∀ o q',IsOrd n o→Φ (.d (.tup (intsD o))) [.l (poolD q'),.d (.int n)]
def pFall:PV:=fun as Φ=>∃(q:Int×Int×Int) (n:Nat) (ts:List Tie),as=[.l (poolD q),.d (webD n ts)]∧WebOk n ts∧∀ o q',IsOrd n o→Φ (.d (.tup (intsD (byOrd ts o)))) [.l (poolD q'),.d (webD n ts)]
structure OrdTo (i:Nat) (o:List Int):Prop where
 len:o.length=i
 nd:o.Nodup
 all:∀ p,p∈o↔0≤p∧p<(i:Int)
theorem OrdTo.ins {i:Nat} {o:List Int} (h:OrdTo i o) (k:Nat):OrdTo (i+1) (o.take k++(i:Int)::o.drop k):=by
 have pm:(o.take k++(i:Int)::o.drop k).Perm ((i:Int)::o):=by
  have:=List.perm_middle (a:=(i:Int)) (l₁:=o.take k) (l₂:=o.drop k)
  rw [List.take_append_drop] at this
  exact this
 refine ⟨by rw [pm.length_eq,List.length_cons,h.len],?_,fun p=>?_⟩
 ·rw [pm.nodup_iff,List.nodup_cons]
  refine ⟨fun hm=>?_,h.nd⟩
  have:=(h.all _).mp hm
  omega
 ·rw [pm.mem_iff,List.mem_cons,h.all]
  constructor
  ·rintro (rfl | z) <;> omega
  ·rintro ⟨h0,h1⟩
   by_cases z:p=(i:Int)
   ·exact .inl z
   ·exact .inr ⟨h0,by omega⟩
theorem OrdTo.is {n:Nat} {o:List Int} (h:OrdTo n o):IsOrd n o:=⟨h.len,h.nd,fun p h0 h1=>(h.all p).mpr ⟨h0,h1⟩⟩
theorem tie_known {n:Nat} {ts:List Tie} {o:List Int} {t:Tie} (W:WebOk n ts) (O:IsOrd n o) (h:t∈ts):t.1∈o∧t.2∈o:=by
 obtain ⟨h1,h2,h3⟩:=W.ok t h
 exact ⟨O.all _ h1 (by omega),O.all _ (by omega) h3⟩
section
variable {P:Program} {w:World} {K:PySem.W.Frag} {mg:Str→Option Value} {base:Heap}
theorem sc__law_by_order:FnScope ["web","order"] ["web","order"] (defScope (top 27)):=by walk_at "sc"
theorem ok__law_by_order {f:Addr} {fd:FuncData} (F:Fun K "_law_by_order" "_law_by_order" (top 27) f fd) (T:Txt mg):FnOk P w K mg base CX0 1 f fd ["web","order"] (spV pOrdered):=by
 refine fn_ok F sc__law_by_order [0,1] (fun as Φ h=>?_) (fun cdv A outer s H E hr=>?_)
 ·obtain ⟨n,ts,o,rfl,_⟩:=h
  rfl
 ·have hu:=hr.units
  refine ⟨_,(pss_one (ps_ret (pe_callTy (tupleK (K:=K) rfl) (by rfl) T.n_tuple PyProof.Rows.boot_tuple (pa_cons (pe_comp rfl (own:=["a","b"]) (fr:=[("order",1)]) (by walk_at "cs") (pi_anyK (K:=K) rfl (pe_x (pv 0) pe_int)) (fun cl C s0 H0 fp=>⟨(pg_tupK (K:=K) (n:=2) rfl rfl (pgs_cons (pg_c 0) (pgs_cons (pg_c 1) pgs_nil))),pf_nil,(pe_callTy call_int1 (by rfl) T.n_int PyProof.Rows.boot_int (pa_cons (pe_cmpR (opLtK (K:=K) rfl hu) (pe_bm2 (K:=K) rfl PySem.F.plainAttrs_list PySem.F.slot_list_index PySem.F.type_list_index (mt_indexL hu) PySem.F.plainAttrs_tuple PySem.F.slot_tuple_index PySem.F.type_tuple_index (mt_indexT hu) (pv 2) (pa_cons (pv 0) pa_nil)) (pe_bm2 (K:=K) rfl PySem.F.plainAttrs_list PySem.F.slot_list_index PySem.F.type_list_index (mt_indexL hu) PySem.F.plainAttrs_tuple PySem.F.slot_tuple_index PySem.F.type_tuple_index (mt_indexT hu) (pv 2) (pa_cons (pv 1) pa_nil)) (nomark _)) pa_nil))⟩)) pa_nil)))),?_⟩
  rintro as Φ ⟨n,ts,o,rfl,W,O,k⟩
  have W2:=W.len
  walk_at "sv"
  refine v_pure tieD ts (fun _=>true) (fun t=>.int (if o.idxOf t.1<o.idxOf t.2 then 1 else 0)) (i_any ?_)
  walk_at "v"
  refine ⟨_,_,rfl,rfl,rfl,small1000 (by omega),known_of rfl,of_decide_eq_true rfl,?_,?_⟩
  ·rintro ⟨a,b⟩ ht os hos
   obtain ⟨s0,s1,rfl⟩:=len2 hos
   obtain ⟨ka,kb⟩:=tie_known W O ht
   walk_at "v"
   refine ⟨⟨[_,_],rfl,rfl⟩,t_true ⟨rfl,rfl⟩,fun _=>?_⟩
   walk_at "v"
   refine v_bm2 ?_
   walk_at "v"
   refine .inr ⟨_,rfl,?_⟩
   walk_at "v"
   refine m_indexT rfl rfl (dep_ints _) (firstAt_int ka) ?_
   walk_at "v"
   refine v_bm2 ?_
   walk_at "v"
   refine .inr ⟨_,rfl,?_⟩
   walk_at "v"
   refine m_indexT rfl rfl (dep_ints _) (firstAt_int kb) ?_
   walk_at "v"
   refine ⟨?_,rfl⟩
   show some (D.int (if decide ((o.idxOf a:Int)<(o.idxOf b:Int))=true then 1 else 0))=some (D.int (if o.idxOf a<o.idxOf b then 1 else 0))
   by_cases hc:o.idxOf a<o.idxOf b
   ·rw [if_pos hc,if_pos (decide_eq_true (by omega))]
   ·rw [if_neg hc,if_neg (fun z=>hc (by have:=of_decide_eq_true z; omega))]
  ·walk_at "v"
   refine ⟨⟨_,rfl⟩,?_⟩
   have e:(ts.filter fun _=>true).map (fun t:Tie=>D.int (if o.idxOf t.1<o.idxOf t.2 then 1 else 0))=intsD (byOrd ts o):=by
    unfold intsD byOrd
    rw [filter_true,List.map_map]
    rfl
   rw [e]
   exact k
theorem sc__law_order:FnScope ["pool","many","order","place"] ["pool","many"] (defScope (top 26)):=by walk_at "sc"
theorem ok__law_order {f:Addr} {fd:FuncData} (F:Fun K "_law_order" "_law_order" (top 26) f fd) (T:Txt mg) (G__law_next:Has P w K mg base "_law_next" (top 24) ["pool","base"] 1 (spV pNext)):FnOk P w K mg base CX0 2 f fd ["pool","many"] (spV pOrder):=by
 refine fn_ok F sc__law_order [0,1] (fun as Φ h=>?_) (fun cdv A outer s H E hr=>?_)
 ·obtain ⟨q,b,rfl,_⟩:=h
  rfl
 ·have hu:=hr.units
  refine ⟨_,(pss_cons (ps_s 2 sc__law_order (pe_lst pa_nil))
   (pss_cons (ps_for PassesOwn.never rfl (pi_range1 (by rfl) T.n_range (pa_cons (pv 1) pa_nil)) (pg_n 3 sc__law_order)
   (pss_one (ps_expr (pe_bmK (K:=K) rfl PySem.F.plainAttrs_list PySem.F.slot_list_insert PySem.F.type_list_insert mt_insert (pv 2) (pa_cons (pe_cd G__law_next hr (pa_cons (pv 0) (pa_cons (pe_op (opBK (K:=K) rfl) (pv 3) pe_int) pa_nil))) (pa_cons (pv 3) pa_nil))))))
   (pss_one (ps_ret (pe_callTy (tupleK (K:=K) rfl) (by rfl) T.n_tuple PyProof.Rows.boot_tuple (pa_cons (pv 2) pa_nil)))))),?_⟩
  rintro as Φ ⟨q,n,rfl,hn,k⟩
  walk_at "sv"
  walk_at "st"
  refine s_for (i_r1 ?_)
  walk_at "v"
  refine ⟨n,⟨_,rfl,rfl⟩,by omega,by omega,fun i ρ=>∃ q o op,ρ=[.l (poolD q),.d (.int n),.l (intsD o),op]∧OrdTo i o,?_,?_,?_⟩
  ·exact ⟨q,[],_,rfl,rfl,List.nodup_nil,fun p=>⟨fun h=>(nomatch h),fun h=>by omega⟩⟩
  ·rintro i x ρ hx ⟨q,o,op,rfl,O⟩
   have hin:i<n:=by
    have:=(List.getElem?_eq_some_iff.mp hx).1
    rw [irng_len] at this
    omega
   rw [Int.toNat_natCast,irng_get hin,Int.zero_add] at hx
   cases hx
   walk_at "v"
   walk_at "st"
   walk_at "call"
   refine ⟨q,_,rfl,by omega,by omega,fun r q' r0 r1=>⟨⟨_,rfl⟩,?_⟩⟩
   obtain ⟨j,rfl⟩:∃ j:Nat,r=(j:Int):=⟨r.toNat,by omega⟩
   walk_at "sv"
   have hol:=O.len
   refine m_insert (k:=j) rfl rfl rfl (by omega) (small1000 (by unfold intsD; rw [List.length_map]; omega)) ?_
   walk_at "st"
   have em:(intsD o).take j++D.int (i:Int)::(intsD o).drop j=intsD (o.take j++(i:Int)::o.drop j):=by
    unfold intsD
    rw [List.map_append,List.map_cons,List.map_take,List.map_drop]
   rw [em]
   exact ⟨q',_,_,rfl,O.ins j⟩
  ·rintro ρ ⟨q,o,op,rfl,O⟩
   rw [irng_len,Int.toNat_natCast] at O
   walk_at "v"
   exact ⟨⟨_,rfl⟩,k o q O.is⟩
theorem sc__law_fall:FnScope ["pool","web"] ["pool","web"] (defScope (top 28)):=by walk_at "sc"
theorem ok__law_fall {f:Addr} {fd:FuncData} (F:Fun K "_law_fall" "_law_fall" (top 28) f fd) (T:Txt mg) (G__law_order:Has P w K mg base "_law_order" (top 26) ["pool","many"] 2 (spV pOrder))
  (G__law_by_order:Has P w K mg base "_law_by_order" (top 27) ["web","order"] 1 (spV pOrdered)):FnOk P w K mg base CX0 3 f fd ["pool","web"] (spV pFall):=by
 refine fn_ok F sc__law_fall [0,1] (fun as Φ h=>?_) (fun cdv A outer s H E hr=>?_)
 ·obtain ⟨q,n,ts,rfl,_⟩:=h
  rfl
 ·have hu:=hr.units
  refine ⟨_,(pss_one (ps_ret (pe_cd G__law_by_order hr (pa_cons (pv 1) (pa_cons (pe_cd G__law_order hr (pa_cons (pv 0) (pa_cons (pe_x (pv 1) pe_int) pa_nil))) pa_nil))))),?_⟩
  rintro as Φ ⟨q,n,ts,rfl,W,k⟩
  walk_at "sv"
  refine v_call ?_
  walk_at "vc"
  refine ⟨q,n,rfl,W.few,fun o q' O=>⟨⟨_,rfl⟩,?_⟩⟩
  walk_at "sv"
  refine ⟨of_decide_eq_true rfl,n,ts,o,rfl,W,O,⟨⟨_,rfl⟩,?_⟩⟩
  walk_at "st"
  exact ⟨⟨_,rfl⟩,k o q' O⟩
end
def arr (t:Tie) (b:Int):Tie:=if b=1 then t else (t.2,t.1)
def arrsL:List Tie→List Int→List Tie
 | t::ts,b::bs=>arr t b::arrsL ts bs
 | _,_=>[]
theorem arrs_zip:∀(ts:List Tie) (bs:List Int),arrsL ts bs=(ts.zip bs).map fun p=>arr p.1 p.2
 | [],_=>rfl
 | _::_,[]=>rfl
 | t::ts,b::bs=>by
  show arr t b::arrsL ts bs=_
  rw [arrs_zip ts bs]
  rfl
def pArrows:PV:=fun as Φ=>∃(n:Nat) (ts:List Tie) (bs:List Int),as=[.d (webD n ts),.d (.tup (intsD bs))]∧ts.length≤20∧Φ (.l ((arrsL ts bs).map tieD)) as
def Bits (bs:List Int):Prop:=∀ b∈bs,b=0∨b=1
def pLawArrows:PV:=fun as Φ=>∃(n:Nat) (ts:List Tie) (bs:List Int),as=[.d (webD n ts),.d (.tup (intsD bs))]∧ts.length≤20∧Bits bs∧Φ (.l ((arrsL ts bs).map tieD)) as
section
variable {P:Program} {w:World} {K:PySem.W.Frag} {mg:Str→Option Value} {base:Heap}
theorem sc__law_arrows:FnScope ["web","pointing"] ["web","pointing"] (defScope (top 29)):=by walk_at "sc"
theorem ok__law_arrows {f:Addr} {fd:FuncData} (F:Fun K "_law_arrows" "_law_arrows" (top 29) f fd) (T:Txt mg):FnOk P w K mg base CX0 1 f fd ["web","pointing"] (spV pLawArrows):=by
 refine fn_ok F sc__law_arrows [0,1] (fun as Φ h=>?_) (fun cdv A outer s H E hr=>?_)
 ·obtain ⟨n,ts,bs,rfl,_⟩:=h
  rfl
 ·have hu:=hr.units
  refine ⟨_,(pss_one (ps_ret (pe_comp rfl (own:=["number","a","b"]) (fr:=[]) (by walk_at "cs") (pi_zip2 (by rfl) T.n_zip (pa_cons (pe_x (pv 0) pe_int) (pa_cons (pv 1) pa_nil))) (fun cl C s0 H0 fp=>⟨(pg_tupK (K:=K) (n:=2) rfl rfl (pgs_cons (pg_tupK (K:=K) (n:=2) rfl rfl (pgs_cons (pg_c 1) (pgs_cons (pg_c 2) pgs_nil))) (pgs_cons (pg_c 0) pgs_nil))),pf_nil,(pe_x (pe_lst (pa_cons (pe_tup (pa_cons (pv 2) (pa_cons (pv 1) pa_nil))) (pa_cons (pe_tup (pa_cons (pv 1) (pa_cons (pv 2) pa_nil))) pa_nil))) (pv 0))⟩)))),?_⟩
  rintro as Φ ⟨n,ts,bs,rfl,hts,B,k⟩
  walk_at "sv"
  refine v_pure (fun p:Tie×Int=>.tup [tieD p.1,.int p.2]) (ts.zip bs) (fun _=>true) (fun p=>tieD (arr p.1 p.2)) (i_zip ?_)
  walk_at "v"
  refine ⟨_,_,⟨_,_,rfl,rfl,rfl⟩,zipD_map _ _ _ _,?_,known_of rfl,of_decide_eq_true rfl,?_,?_⟩
  ·rw [List.length_zip]
   exact small1000 (by omega)
  ·rintro ⟨t,b⟩ ht os hos
   obtain ⟨s0,s1,s2,rfl⟩:=len3 hos
   walk_at "v"
   refine ⟨⟨[_,_,_],rfl,rfl⟩,t_true ⟨rfl,rfl⟩,fun _=>?_⟩
   walk_at "v"
   have hb:=B b (List.of_mem_zip ht).2
   rcases hb with hb | hb
   ·have hb':b=0:=hb
    subst hb'
    refine o_ixL rfl rfl rfl ?_
    exact ⟨rfl,rfl⟩
   ·have hb':b=1:=hb
    subst hb'
    refine o_ixL rfl rfl rfl ?_
    exact ⟨rfl,rfl⟩
  ·refine ⟨⟨_,rfl⟩,?_⟩
   have e:((ts.zip bs).filter fun _=>true).map (fun p=>tieD (arr p.1 p.2))=(arrsL ts bs).map tieD:=by
    rw [filter_true,arrs_zip,List.map_map]
    rfl
   rw [e]
   exact k
end
section
variable {P:Program} {w:World} {K:PySem.W.Frag} {mg:Str→Option Value} {base:Heap}
theorem sc_arrows:FnScope ["web","pointing"] ["web","pointing"] (defScope (top 12)):=by walk_at "sc"
theorem ok_arrows {f:Addr} {fd:FuncData} (F:Fun K "arrows" "arrows" (top 12) f fd) (T:Txt mg):FnOk P w K mg base CX0 1 f fd ["web","pointing"] (spV pArrows):=by
 refine fn_ok F sc_arrows [0,1] (fun as Φ h=>?_) (fun cdv A outer s H E hr=>?_)
 ·obtain ⟨n,ts,bs,rfl,_⟩:=h
  rfl
 ·have hu:=hr.units
  refine ⟨_,(pss_one (ps_ret (pe_comp rfl (own:=["number","a","b"]) (fr:=[]) (by walk_at "cs") (pi_zip2 (by rfl) T.n_zip (pa_cons (pe_x (pv 0) pe_int) (pa_cons (pv 1) pa_nil))) (fun cl C s0 H0 fp=>⟨(pg_tupK (K:=K) (n:=2) rfl rfl (pgs_cons (pg_tupK (K:=K) (n:=2) rfl rfl (pgs_cons (pg_c 1) (pgs_cons (pg_c 2) pgs_nil))) (pgs_cons (pg_c 0) pgs_nil))),pf_nil,(pe_ifExp (pt_cmpR (opEq hu) (pv 0) pe_int (nomark _)) (pe_tup (pa_cons (pv 1) (pa_cons (pv 2) pa_nil))) (pe_tup (pa_cons (pv 2) (pa_cons (pv 1) pa_nil))))⟩)))),?_⟩
  rintro as Φ ⟨n,ts,bs,rfl,hts,k⟩
  walk_at "sv"
  refine v_pure (fun p:Tie×Int=>.tup [tieD p.1,.int p.2]) (ts.zip bs) (fun _=>true) (fun p=>tieD (arr p.1 p.2)) ?_
  refine i_zip ?_
  walk_at "v"
  refine ⟨_,_,⟨_,_,rfl,rfl,rfl⟩,zipD_map _ _ _ _,?_,(by intro p hp; cases hp),by decide,?_,?_⟩
  ·rw [List.length_zip]
   exact small1000 (by omega)
  ·rintro ⟨t,b⟩ ht os hos
   obtain ⟨s0,s1,s2,rfl⟩:=len3 hos
   walk_at "v"
   refine ⟨⟨[_,_,_],rfl,rfl⟩,t_true ⟨rfl,rfl⟩,fun _=>?_⟩
   refine v_if ?_
   walk_at "v"
   refine ite2 (fun hc=>?_) (fun hc=>?_)
   ·walk_at "v"
    refine ⟨?_,rfl⟩
    unfold arr
    rw [if_pos (of_decide_eq_true hc)]
    rfl
   ·walk_at "v"
    refine ⟨?_,rfl⟩
    unfold arr
    rw [if_neg (fun z=>hc (decide_eq_true z))]
    rfl
  ·refine ⟨⟨_,rfl⟩,?_⟩
   have e:((ts.zip bs).filter fun _=>true).map (fun p=>tieD (arr p.1 p.2))=(arrsL ts bs).map tieD:=by
    rw [filter_true,arrs_zip,List.map_map]
    rfl
   rw [e]
   exact k
end
def pPointing:PV:=fun as Φ=>∃(q:Int×Int×Int) (n:Nat) (ts:List Tie),as=[.l (poolD q),.d (webD n ts)]∧WebOk n ts∧∀ bs q',bs.length=ts.length→Bits bs→Φ (.d (.tup (intsD bs))) [.l (poolD q'),.d (webD n ts)]
theorem byOrd_bits (ts:List Tie) (o:List Int):Bits (byOrd ts o):=by
 intro b hb
 obtain ⟨t,_,rfl⟩:=List.mem_map.mp hb
 split
 ·exact .inr rfl
 ·exact .inl rfl
theorem byOrd_len (ts:List Tie) (o:List Int):(byOrd ts o).length=ts.length:=List.length_map _
section
variable {P:Program} {w:World} {K:PySem.W.Frag} {mg:Str→Option Value} {base:Heap}
theorem sc__law_pointing:FnScope ["pool","web","way","found","at"] ["pool","web"] (defScope (top 32)):=by walk_at "sc"
theorem ok__law_pointing {f:Addr} {fd:FuncData} (F:Fun K "_law_pointing" "_law_pointing" (top 32) f fd) (T:Txt mg) (G__law_next:Has P w K mg base "_law_next" (top 24) ["pool","base"] 1 (spV pNext))
  (G__law_fall:Has P w K mg base "_law_fall" (top 28) ["pool","web"] 3 (spV pFall)):FnOk P w K mg base CX0 4 f fd ["pool","web"] (spV pPointing):=by
 refine fn_ok F sc__law_pointing [0,1] (fun as Φ h=>?_) (fun cdv A outer s H E hr=>?_)
 ·obtain ⟨q,n,ts,rfl,_⟩:=h
  rfl
 ·have hu:=hr.units
  refine ⟨_,(pss_cons (ps_s 2 sc__law_pointing (pe_cd G__law_next hr (pa_cons (pv 0) (pa_cons pe_int pa_nil))))
   (pss_cons (ps_s 3 sc__law_pointing (pe_callTy (listK (K:=K) rfl) (by rfl) T.n_list PyProof.Rows.boot_list (pa_cons (pe_cd G__law_fall hr (pa_cons (pv 0) (pa_cons (pv 1) pa_nil))) pa_nil)))
   (pss_cons (ps_if (pt_cmpR (opEq hu) (pv 2) pe_int (nomark _))
   (pss_one (ps_setComp (i:=3) rfl sc__law_pointing.nd rfl rfl (own:=["tie"]) (fr:=[("pool",0)]) (by walk_at "cs") (pi_anyK (K:=K) rfl (pe_x (pv 1) pe_int)) (fun cl C s0 H0 fp=>⟨(pg_c 0),pf_nil,(pe_cd G__law_next hr (pa_cons (pv 1) (pa_cons pe_int pa_nil)))⟩)))
   pss_nil)
   (pss_cons (ps_if (PW.pt (pw_and (pt_cmpR (opEq hu) (pv 2) pe_int (nomark _)) (pw_and1 (pt_cmpR (opNe hu) (pv 3) (pe_lst pa_nil) (nomark _)))))
   (pss_cons (ps_s 4 sc__law_pointing (pe_cd G__law_next hr (pa_cons (pv 0) (pa_cons (pe_callB (lenK (K:=K) rfl) (by rfl) T.n_len PySem.boot_len (pa_cons (pv 3) pa_nil)) pa_nil))))
    (pss_one (ps_asg (pe_op op_sub pe_int (pe_x (pv 3) (pv 4))) (pg_sub (pv 3) (pv 4) set_list))))
   pss_nil)
   (pss_one (ps_ret (pe_callTy (tupleK (K:=K) rfl) (by rfl) T.n_tuple PyProof.Rows.boot_tuple (pa_cons (pv 3) pa_nil)))))))),?_⟩
  rintro as Φ ⟨q,n,ts,rfl,W,k⟩
  have W2:=W.len
  walk_at "st"
  walk_at "vc"
  refine ⟨q,3,rfl,by decide,by decide,fun wy q1 w0 w1=>⟨⟨_,rfl⟩,?_⟩⟩
  walk_at "st"
  walk_at "vc"
  refine ⟨q1,n,ts,rfl,W,fun o q2 O=>⟨⟨_,rfl⟩,?_⟩⟩
  walk_at "sv"
  walk_at "st"
  have hbl:=byOrd_len ts o
  have hbb:=byOrd_bits ts o
  generalize byOrd ts o=bs at hbl hbb
  have tail:∀{bs:List Int} {q:Int×Int×Int} {s4:Sl},bs.length=ts.length→Bits bs→∀ t,t=(tSeq (tIfS (tAnd (tTest (tOp (fun x y H Q=>rEq x y H Q∨rEqD false x y H Q) (tVar 2) (tC (V.int 1)))) (tTest (tOp (fun x y H Q=>rNe x y H Q∨rEqD true x y H Q) (tVar 3) (tLst tNil)))) (tSeq (tAsg (tCall (spV pNext) [] E0 (tCons (tVar 0) (tCons (tCB (fun xs H Q=>∃ p ys,xs=[V.ref p]∧(SqL K H p ys∨SqT K H p ys)∧Q (V.int ys.length) H) (tCons (tVar 3) tNil)) tNil))) (gName 4))
    (tAsg (tOp (rI0 fun i j=>V.int (i - j)) (tC (V.int 1)) (tOp (rIx K) (tVar 3) (tVar 4))) (gSub (tVar 3) (tVar 4) rSetL))) tNext) (tRet (tCB (fun xs H Q=>∃ p ys,xs=[V.ref p]∧((SqL K H p ys∧∀ l,H l=none→Q (V.ref l) (upd H l (.tup ys)))∨(SqT K H p ys∧Q (V.ref p) H))) (tCons (tVar 3) tNil))))→
    wpS [0,1] t [.l (poolD q),.d (webD n ts),.d (.int wy),.l (intsD bs),s4] { nx:=fun ρ=>Φ (.d .non) (sel 0 [0,1] 2 ρ),rt:=fun r ρ=>(∃ d,r.it=some d)∧Φ r (sel 0 [0,1] 2 ρ) }:=by
   intro bs q s4 hbl hbb t ht
   subst ht
   walk_at "v"
   walk_at "vJ"
   refine ite2 (fun hc=>?_) (fun hc=>?_)
   ·have hne:0<bs.length:=by
     cases bs with
     | nil=>simp at hc
     | cons b r=>simp
    walk_at "vc"
    refine ⟨q,_,rfl,by rw [List.length_map]; omega,by rw [List.length_map]; omega,fun r q' r0 r1=>⟨⟨_,rfl⟩,?_⟩⟩
    rw [List.length_map] at r1
    walk_at "st"
    obtain ⟨b,hb,hb2⟩:=atN bs r r0 r1
    walk_at "v"
    refine ⟨r,r.toNat,_,rfl,rfl,?_,?_⟩
    ·unfold ixN
     rw [if_pos r0,if_pos (by rw [List.length_map]; exact r1)]
    walk_at "sv"
    have em:(intsD bs).set r.toNat (D.int (1 - b))=intsD (bs.set r.toNat (1 - b)):=by
     unfold intsD
     rw [List.map_set]
    rw [em]
    refine ⟨⟨_,rfl⟩,k _ q' ?_ ?_⟩
    ·rw [List.length_set]
     exact hbl
    ·intro c hcm
     rcases List.mem_or_eq_of_mem_set hcm with z | z
     ·exact hbb c z
     ·rw [z]
      rcases hbb b (List.mem_of_getElem? hb2) with y | y <;> rw [y]
      ·exact .inr rfl
      ·exact .inl rfl
   ·refine s_next ?_
    walk_at "v"
    exact ⟨⟨_,rfl⟩,k bs q hbl hbb⟩
  refine ite2 (fun hc=>?_) (fun hc=>?_)
  ·refine s_asg (v_comp (i_any ?_))
   walk_at "v"
   refine ⟨_,_,rfl,rfl,known_of rfl,of_decide_eq_true rfl,fun i ys ρc=>∃ s q bs,ρc=[s,.l (poolD q)]∧ys=intsD bs∧bs.length=i∧i≤ts.length∧Bits bs,⟨_,q2,[],rfl,rfl,rfl,Nat.zero_le _,fun b hb=>(nomatch hb)⟩,?_,?_,?_⟩
   ·rintro i ys ρc ⟨s,q,bs,rfl,rfl,hl,hi,_⟩
    exact ⟨small1000 (by rw [List.length_map]; omega),rfl⟩
   ·rintro i x ys ρc hx ⟨s,q,bs,rfl,rfl,hl,hi,hB⟩
    have hil:i<ts.length:=by
     have:=(List.getElem?_eq_some_iff.mp hx).1
     rwa [List.length_map] at this
    walk_at "v"
    rw [if_pos rfl]
    walk_at "call"
    refine ⟨q,2,rfl,by decide,by decide,fun v q' v0 v1=>⟨⟨_,rfl⟩,_,rfl,_,q',bs++[v],rfl,?_,?_,by omega,?_⟩⟩
    ·unfold intsD
     rw [List.map_append]
     rfl
    ·rw [List.length_append,hl]
     rfl
    ·intro b hb
     rcases List.mem_append.mp hb with z | z
     ·exact hB b z
     ·rw [List.mem_singleton.mp z]
      omega
   ·rintro ys ρc ⟨s,q,bs,rfl,rfl,hl,hi,hB⟩
    rw [List.length_map] at hl
    walk_at "st"
    refine g_name rfl ?_
    walk_at "st"
    exact tail hl hB _ rfl
  ·refine s_next ?_
   exact tail hbl hbb _ rfl
end
def pTieOf:PV:=fun as Φ=>∃ a b:Int,as=[.d (.int a),.d (.int b)]∧Φ (.d (tieD (mk a b))) as
section
variable {P:Program} {w:World} {K:PySem.W.Frag} {mg:Str→Option Value} {base:Heap}
theorem sc_tie_of:FnScope ["a","b"] ["a","b"] (defScope (top 10)):=by walk_at "sc"
theorem ok_tie_of {f:Addr} {fd:FuncData} (F:Fun K "tie_of" "tie_of" (top 10) f fd) (T:Txt mg):FnOk P w K mg base CX0 1 f fd ["a","b"] (spV pTieOf):=by
 refine fn_ok F sc_tie_of [0,1] (fun as Φ h=>?_) (fun cdv A outer s H E hr=>?_)
 ·obtain ⟨a,b,rfl,_⟩:=h
  rfl
 ·have hu:=hr.units
  refine ⟨_,(pss_one (ps_ret (pe_tup (pa_cons (pe_callB (call_min2 rfl) (by rfl) T.n_min PyProof.Rows.boot_min (pa_cons (pv 0) (pa_cons (pv 1) pa_nil))) (pa_cons (pe_callB (call_max2 rfl) (by rfl) T.n_max PyProof.Rows.boot_max (pa_cons (pv 0) (pa_cons (pv 1) pa_nil))) pa_nil))))),?_⟩
  rintro as Φ ⟨a,b,rfl,k⟩
  walk_at "sv"
  exact ⟨⟨_,rfl⟩,k⟩
end
local macro_rules | `(tactic| walk_at "nm")=>`(tactic| first
 | ((with_reducible refine nm8 ?_); intro _ _ _ _ _ _ _ _ _)
 | ((with_reducible refine nm6 ?_); intro _ _ _ _ _ _ _)
 | ((with_reducible refine nm5 ?_); intro _ _ _ _ _ _)
 | ((with_reducible refine nm4 ?_); intro _ _ _ _ _)
 | ((with_reducible refine nm3 ?_); intro _ _ _ _)
 | ((with_reducible refine nm2 ?_); intro _ _ _))
local macro_rules | `(tactic| walk_at "nf")=>`(tactic| first
 | ((with_reducible refine nf14 ?_); intro _ _ _ _ _ _ _ _ _ _ _ _ _ _ _))
local macro_rules | `(tactic| walk_at "ps")=>`(tactic| try ((with_reducible refine s_psi ?_); intro _))
local macro_rules | `(tactic| walk_at "rf")=>`(tactic| first | rfl | decide)
local macro_rules | `(tactic| walk_at "op")=>`(tactic| first
 | ((with_reducible refine' o_i0 ?h1 ?h2 ?_); (case h1=>rfl); (case h2=>rfl))
 | ((with_reducible refine' OpV.l (o_i0 ?h1 ?h2 ?_)); (case h1=>rfl); (case h2=>rfl))
 | ((with_reducible refine' o_b0 ?h1 ?h2 ?_); (case h1=>rfl); (case h2=>rfl))
 | ((with_reducible refine' OpV.l (o_b0 ?h1 ?h2 ?_)); (case h1=>rfl); (case h2=>rfl))
 | ((with_reducible refine' OpV.l (o_eqI ?h1 ?h2 ?_)); (case h1=>rfl); (case h2=>rfl))
 | ((with_reducible refine' OpV.l (o_neI ?h1 ?h2 ?_)); (case h1=>rfl); (case h2=>rfl))
 | ((with_reducible refine' OpV.l (o_eqB ?h1 ?h2 ?_)); (case h1=>rfl); (case h2=>rfl))
 | ((with_reducible refine' o_isN ?h1 ?_); (case h1=>rfl))
 | ((with_reducible refine' o_notN ?h1 ?_); (case h1=>rfl))
 | ((with_reducible refine' o_neNil ?h1 ?h2 ?h3 ?_); (case h1=>rfl); (case h2=>rfl); (case h3=>first | exact dep_int _ | assumption))
 | ((with_reducible refine' OpV.r (OpV.l (o_catL ?h1 ?h2 ?h3 ?_))); (case h1=>rfl); (case h2=>rfl); (case h3=>exact szl (Nat.le_of_ble_eq_true rfl)))
 | ((with_reducible refine' o_ixT ?h1 ?h2 ?h3 ?_); (case h1=>rfl); (case h2=>rfl); (case h3=>rfl))
 | ((with_reducible refine' o_ixL ?h1 ?h2 ?h3 ?_); (case h1=>rfl); (case h2=>rfl); (case h3=>rfl))
 | ((with_reducible refine' o_ixL ?h1 ?h2 ?h3 ?_); (case h1=>rfl); (case h2=>rfl); (case h3=>assumption))
 | ((with_reducible refine' o_ixT ?h1 ?h2 ?h3 ?_); (case h1=>rfl); (case h2=>rfl); (case h3=>assumption)))
local macro_rules | `(tactic| walk_at "ca")=>`(tactic| first
 | ((with_reducible refine' u_i ?h1 ?_); (case h1=>rfl))
 | ((with_reducible refine' c_ii ?h1 ?h2 ?_); (case h1=>rfl); (case h2=>rfl))
 | ((with_reducible refine' c_lenL ?h1 ?_); (case h1=>rfl))
 | ((with_reducible refine' c_lenT ?h1 ?_); (case h1=>rfl))
 | ((with_reducible refine' c_tupleL ?h1 ?_); (case h1=>rfl))
 | ((with_reducible refine' c_listT ?h1 ?_); (case h1=>rfl))
 | ((with_reducible refine' c_int_b ?h1 ?_); (case h1=>rfl))
 | ((with_reducible refine' c_isinst ?h1 ?h2 ?_); (case h1=>rfl); (case h2=>rfl)))
local macro_rules | `(tactic| walk_at "v1")=>`(tactic| first
 | with_reducible refine v_op ?_
 | with_reducible refine v_int ?_
 | ((with_reducible refine' v_var_d ?h ?_); (case h=>rfl))
 | ((with_reducible refine' v_var_l ?h ?_); (case h=>rfl))
 | ((with_reducible refine' v_var_f ?h ?_); (case h=>rfl))
 | with_reducible refine v_cb ?_
 | with_reducible refine v_join ?_
 | with_reducible refine v_split ?_
 | with_reducible refine v_fmt ?_
 | with_reducible refine v_idxF ?_
 | with_reducible refine v_revX ?_
 | with_reducible refine v_bm ?_
 | (refine ⟨⟨rfl,_,(rfl:rd _ _=some (D.lst _))⟩,?_⟩)
 | with_reducible refine a_cons ?_
 | with_reducible refine a_nil ?_
 | with_reducible refine v_tup ?_
 | with_reducible refine v_lst ?_
 | with_reducible refine v_bl ?_
 | with_reducible refine v_non ?_
 | with_reducible refine v_str ?_
 | with_reducible refine v_raw ?_
 | with_reducible refine v_sl ?_
 | with_reducible refine p_none ?_
 | with_reducible refine p_some ?_
 | with_reducible refine v_un ?_
 | with_reducible refine v_not ?_
 | with_reducible refine t_test ?_
 | with_reducible refine t_tru ?_
 | with_reducible refine t_true ?_
 | with_reducible refine t_not ?_
 | with_reducible refine s_seqN ?_
 | walk_at "nm"
 | with_reducible refine s_seq ?_
 | with_reducible refine s_asg ?_
 | ((with_reducible refine' g_name ?h ?_); (case h=>rfl))
 | ((with_reducible refine' g_tup ?h1 ?h2 ?_); (case h1=>rfl); (case h2=>rfl))
 | with_reducible refine gs_cons ?_
 | with_reducible refine g_put ?_
 | (refine ⟨_,(rfl:Rs.it _=some _),?_⟩)
 | (refine ⟨_,(rfl:_=Rs.b _),?_⟩)
 | with_reducible refine gs_nil ?_
 | with_reducible refine s_ret ?_
 | with_reducible refine s_drop ?_
 | with_reducible refine s_if ?_
 | with_reducible refine s_next ?_
 | walk_at "op"
 | walk_at "ca"
 | (refine ⟨_,(rfl:rd _ _=some _),?_⟩)
 | (refine ⟨_,_,(rfl:rd _ _=some _),(rfl:truD _=some _),?_⟩)
 | (refine ⟨_,(rfl:its _=some _),szl (Nat.le_of_ble_eq_true rfl),?_⟩))
local macro_rules | `(tactic| walk_at "v")=>`(tactic| (repeat (walk_at "v1")))
local macro_rules | `(tactic| walk_at "st")=>`(tactic| try dsimp only [List.length_cons,List.length_nil,Nat.reduceAdd,Nat.reduceSub,List.replicate,List.cons_append,List.nil_append,List.set,caps,List.map,Rs.sl,wb,L4.outer,capt,List.drop,inner,List.getElem?_cons_zero,List.getElem?_cons_succ,List.headD,List.tail,argS,Option.getD])
local macro_rules | `(tactic| walk_at "call")=>`(tactic| ((with_reducible refine v_call ?_); walk_at "v"; (refine ⟨of_decide_eq_true rfl,?_⟩); walk_at "st"))
local macro_rules | `(tactic| walk_at "J")=>`(tactic| first
 | ((with_reducible refine' v_orJ ?h1 ?h2 ?_); (case h1=>(walk_at "vJ"; exact ⟨rfl,rfl⟩)); (case h2=>(intro _; walk_at "vJ"; exact ⟨rfl,rfl⟩)))
 | ((with_reducible refine' v_andJ ?h1 ?h2 ?_); (case h1=>(walk_at "vJ"; exact ⟨rfl,rfl⟩)); (case h2=>(intro _; walk_at "vJ"; exact ⟨rfl,rfl⟩)))
 | ((with_reducible refine' t_andJ ?h1 ?h2 ?_); (case h1=>(walk_at "vJ"; exact ⟨rfl,rfl⟩)); (case h2=>(intro _; walk_at "vJ"; exact ⟨rfl,rfl⟩)))
 | ((with_reducible refine' v_chainJ ?h1 ?h2 ?h3 ?h4 ?h5 ?_); (case h1=>(walk_at "vJ"; exact ⟨rfl,rfl⟩)); (case h2=>(walk_at "vJ"; exact ⟨rfl,rfl⟩)); (case h3=>(walk_at "vJ"; exact ⟨rfl,rfl⟩)); (case h4=>(intro _; walk_at "vJ"; exact ⟨rfl,rfl⟩)); (case h5=>(intro _; walk_at "vJ"; exact ⟨rfl,rfl⟩)))
 | ((with_reducible refine' v_chain3J ?h1 ?h2 ?h3 ?h4 ?h5 ?h6 ?h7 ?_); (case h1=>(walk_at "vJ"; exact ⟨rfl,rfl⟩)); (case h2=>(walk_at "vJ"; exact ⟨rfl,rfl⟩)); (case h3=>(walk_at "vJ"; exact ⟨rfl,rfl⟩)); (case h4=>(intro _; walk_at "vJ"; exact ⟨rfl,rfl⟩)); (case h5=>(intro _; walk_at "vJ"; exact ⟨rfl,rfl⟩)); (case h6=>(intro _; walk_at "vJ"; exact ⟨rfl,rfl⟩)); (case h7=>(intro _; walk_at "vJ"; exact ⟨rfl,rfl⟩))))
local macro_rules | `(tactic| walk_at "vJ")=>`(tactic| (repeat (first | walk_at "v1" | walk_at "J")))
local macro_rules | `(tactic| walk_at "sc")=>`(tactic| exact ⟨rfl,rfl,rfl,by decide +kernel,rfl,by decide +kernel,by decide +kernel⟩)
local macro_rules | `(tactic| walk_at "cs")=>`(tactic| exact ⟨rfl,by decide +kernel,by decide +kernel,by repeat' (first | exact trivial | refine ⟨⟨rfl,rfl,by first | exact Or.inl rfl | exact Or.inr rfl⟩,?_⟩),by decide +kernel⟩)
local macro_rules | `(tactic| walk_at "vc")=>`(tactic| (walk_at "v"; walk_at "call"))
local macro_rules | `(tactic| walk_at "sv")=>`(tactic| (walk_at "st"; walk_at "v"))
def wholeB:D→Bool
 | .int _=>true
 | _=>false
def isTup:D→Bool
 | .tup _=>true
 | _=>false
def pWhole:PV:=fun as Φ=>∃ d:D,as=[.d d]∧Φ (.d (.bl (wholeB d))) as
def numD:D→Int
 | .int i=>i
 | _=>0
theorem whole_num {d:D} (h:wholeB d=true):d=.int (numD d):=by
 cases d with
 | int i=>rfl
 | _=>cases h
def two (f:D→D→Bool):List D→Bool
 | [x,y]=>f x y
 | _=>false
theorem two_no {f:D→D→Bool}:∀{l:List D},l.length≠2→two f l=false
 | [],_=>rfl
 | [_],_=>rfl
 | [_,_],h=>absurd rfl h
 | _::_::_::_,_=>rfl
theorem two_of_len:∀{l:List D},l.length=2→∃ x y,l=[x,y]
 | [],h=>by cases h
 | [_],h=>by cases h
 | [x,y],_=>⟨x,y,rfl⟩
 | _::_::_::_,h=>by simp at h
def tupB (f:List D→Bool):D→Bool
 | .tup l=>f l
 | _=>false
theorem tupB_no {f:List D→Bool} {d:D} (h:isTupB d=false):tupB f d=false:=by cases d <;> first | rfl | cases h
def rangeB (m a b:Int):Bool:=decide (0≤a) && (decide (a<b) && decide (b<m))
def pairB (m:Int) (x y:D):Bool:=wholeB x && (wholeB y && rangeB m (numD x) (numD y))
def tieFormB (m:Int) (d:D):Bool:=tupB (two (pairB m)) d
theorem two_ne {l:List D} (h:(!decide ((l.length:Int)=2))=true):l.length≠2:=fun z=>by
 have:=nb_false h
 rw [decide_eq_true (by omega)] at this
 cases this
theorem two_eq {l:List D} (h:¬ (!decide ((l.length:Int)=2))=true):l.length=2:=by
 have:=ofd (nb_true h)
 omega
def pTieForm:PV:=fun as Φ=>∃(m:Int) (d:D),as=[.d (.int m),.d d]∧Φ (.d (.bl (tieFormB m d))) as
section
variable {P:Program} {w:World} {K:PySem.W.Frag} {mg:Str→Option Value} {base:Heap}
theorem sc_is_whole:FnScope ["thing"] ["thing"] (defScope (top 7)):=by walk_at "sc"
theorem ok_is_whole {f:Addr} {fd:FuncData} (F:Fun K "is_whole" "is_whole" (top 7) f fd) (T:Txt mg):FnOk P w K mg base CX0 1 f fd ["thing"] (spV pWhole):=by
 refine fn_ok F sc_is_whole [0] (fun as Φ h=>?_) (fun cdv A outer s H E hr=>?_)
 ·obtain ⟨d,rfl,_⟩:=h
  rfl
 ·have hu:=hr.units
  refine ⟨_,(pss_one (ps_ret (pe_and (pe_callB (isinstK (K:=K) rfl) (by rfl) T.n_isinstance PyProof.Rows.boot_isinstance (pa_cons (pv 0) (pa_cons (pe_bltn (v:=.ty "int") (by rfl) T.n_int PyProof.Rows.boot_int rfl) pa_nil))) (pe_one (pe_notVK (K:=K) rfl (pe_callB (isinstK (K:=K) rfl) (by rfl) T.n_isinstance PyProof.Rows.boot_isinstance (pa_cons (pv 0) (pa_cons (pe_bltn (v:=.ty "bool") (by rfl) T.n_bool PyProof.Rows.boot_bool rfl) pa_nil)))))))),?_⟩
  rintro as Φ ⟨d,rfl,k⟩
  walk_at "sv"
  refine v_and ?_
  walk_at "v"
  refine c_isinst rfl (kit_int K d) ?_
  walk_at "v"
  refine ite2 (fun h1=>?_) (fun h1=>?_)
  ·walk_at "v"
   refine c_isinst rfl (kit_bool K d) ?_
   walk_at "v"
   have e:(!isBoolB d)=wholeB d:=by cases d <;> first | rfl | cases h1
   rw [e]
   exact ⟨⟨_,rfl⟩,k⟩
  ·have e:wholeB d=false:=by cases d <;> first | rfl | exact absurd rfl h1
   rw [e] at k
   exact ⟨⟨_,rfl⟩,k⟩
theorem sc__law_sound:FnScope ["thing"] ["thing"] (defScope (top 30)):=by walk_at "sc"
theorem ok__law_sound {f:Addr} {fd:FuncData} (F:Fun K "_law_sound" "_law_sound" (top 30) f fd) (T:Txt mg):FnOk P w K mg base CX0 1 f fd ["thing"] (spV pWhole):=by
 refine fn_ok F sc__law_sound [0] (fun as Φ h=>?_) (fun cdv A outer s H E hr=>?_)
 ·obtain ⟨d,rfl,_⟩:=h
  rfl
 ·have hu:=hr.units
  refine ⟨_,(pss_one (ps_ret (pe_and (pe_callB (isinstK (K:=K) rfl) (by rfl) T.n_isinstance PyProof.Rows.boot_isinstance (pa_cons (pv 0) (pa_cons (pe_bltn (v:=.ty "int") (by rfl) T.n_int PyProof.Rows.boot_int rfl) pa_nil))) (pe_one (pe_notVK (K:=K) rfl (pe_callB (isinstK (K:=K) rfl) (by rfl) T.n_isinstance PyProof.Rows.boot_isinstance (pa_cons (pv 0) (pa_cons (pe_bltn (v:=.ty "bool") (by rfl) T.n_bool PyProof.Rows.boot_bool rfl) pa_nil)))))))),?_⟩
  rintro as Φ ⟨d,rfl,k⟩
  walk_at "sv"
  refine v_and ?_
  walk_at "v"
  refine c_isinst rfl (kit_int K d) ?_
  walk_at "v"
  refine ite2 (fun h1=>?_) (fun h1=>?_)
  ·walk_at "v"
   refine c_isinst rfl (kit_bool K d) ?_
   walk_at "v"
   have e:(!isBoolB d)=wholeB d:=by cases d <;> first | rfl | cases h1
   rw [e]
   exact ⟨⟨_,rfl⟩,k⟩
  ·have e:wholeB d=false:=by cases d <;> first | rfl | exact absurd rfl h1
   rw [e] at k
   exact ⟨⟨_,rfl⟩,k⟩
theorem sc_is_tie_form:FnScope ["many","thing","a","b"] ["many","thing"] (defScope (top 8)):=by walk_at "sc"
theorem ok_is_tie_form {f:Addr} {fd:FuncData} (F:Fun K "is_tie_form" "is_tie_form" (top 8) f fd) (T:Txt mg) (G_is_whole:Has P w K mg base "is_whole" (top 7) ["thing"] 1 (spV pWhole)):FnOk P w K mg base CX0 2 f fd ["many","thing"] (spV pTieForm):=by
 refine fn_ok F sc_is_tie_form [0,1] (fun as Φ h=>?_) (fun cdv A outer s H E hr=>?_)
 ·obtain ⟨m,d,rfl,_⟩:=h
  rfl
 ·have hu:=hr.units
  refine ⟨_,(pss_cons (ps_if (PW.pt (pw_or (pt_not (pt_truthK (K:=K) rfl (pe_callB (isinstK (K:=K) rfl) (by rfl) T.n_isinstance PyProof.Rows.boot_isinstance (pa_cons (pv 1) (pa_cons (pe_bltn (v:=.ty "tuple") (by rfl) T.n_tuple PyProof.Rows.boot_tuple rfl) pa_nil))) (fun _=>rfl))) (pw_or1 (pt_cmpR (opNe hu) (pe_callB (lenK (K:=K) rfl) (by rfl) T.n_len PySem.boot_len (pa_cons (pv 1) pa_nil)) pe_int (nomark _)))))
   (pss_one (ps_ret pe_bl))
   pss_nil)
   (pss_cons (ps_asg (pv 1) (pg_tupK (K:=K) (n:=2) rfl rfl (pgs_cons (pg_n 2 sc_is_tie_form) (pgs_cons (pg_n 3 sc_is_tie_form) pgs_nil))))
   (pss_one (ps_ret (pe_and (pe_cd G_is_whole hr (pa_cons (pv 2) pa_nil)) (pe_and (pe_cd G_is_whole hr (pa_cons (pv 3) pa_nil)) (pe_one (pe_chain3 op_le (opLtK (K:=K) rfl hu) (opLtK (K:=K) rfl hu) pe_int (pv 2) (pv 3) (pv 0))))))))),?_⟩
  rintro as Φ ⟨m,d,rfl,k⟩
  walk_at "sv"
  refine t_or ?_
  walk_at "v"
  refine c_isinst rfl (kit_tup K d) ?_
  walk_at "v"
  refine ite2 (fun hn=>?_) (fun hn=>?_)
  ·rw [if_pos rfl]
   walk_at "v"
   have e:tieFormB m d=false:=tupB_no (nb_false hn)
   rw [e] at k
   exact ⟨⟨_,rfl⟩,k⟩
  ·obtain ⟨l,rfl⟩:=isTup_of (nb_true hn)
   walk_at "v"
   refine ite2 (fun h2=>?_) (fun h2=>?_)
   ·walk_at "v"
    have e:tieFormB m (.tup l)=false:=two_no (two_ne h2)
    rw [e] at k
    exact ⟨⟨_,rfl⟩,k⟩
   ·obtain ⟨x,y,rfl⟩:=two_of_len (two_eq h2)
    have ek:tieFormB m (.tup [x,y])=(wholeB x && (wholeB y && rangeB m (numD x) (numD y))):=rfl
    rw [ek] at k
    walk_at "v"
    walk_at "st"
    refine v_and ?_
    walk_at "call"
    refine ⟨x,rfl,⟨⟨_,rfl⟩,?_⟩⟩
    walk_at "sv"
    refine ite2 (fun hx=>?_) (fun hx=>?_)
    ·rw [hx,Bool.true_and] at k
     refine v_and ?_
     walk_at "call"
     refine ⟨y,rfl,⟨⟨_,rfl⟩,?_⟩⟩
     walk_at "sv"
     refine ite2 (fun hy=>?_) (fun hy=>?_)
     ·rw [hy,Bool.true_and] at k
      rw [whole_num hx,whole_num hy] at k ⊢
      walk_at "vJ"
      exact ⟨⟨_,rfl⟩,k⟩
     ·rw [Bool.eq_false_iff.mpr hy,Bool.false_and] at k
      exact ⟨⟨_,rfl⟩,k⟩
    ·rw [Bool.eq_false_iff.mpr hx,Bool.false_and] at k
     exact ⟨⟨_,rfl⟩,k⟩
end
def rowN:D→List Int
 | .tup l=>l.map numD
 | _=>[]
def goB (m:Int):List Int→List D→Bool
 | _,[]=>true
 | last,t::r=>tieFormB m t && (HT.lexLt last (rowN t) && goB m (rowN t) r)
def upFrom:List Int→List D→Bool
 | _,[]=>true
 | last,t::r=>HT.lexLt last (rowN t) && upFrom (rowN t) r
def tiesB (m:Int) (ties:List D):Bool:=decide (ties.length≤20) && goB m [-1,-1] ties
def webP (x y:D):Bool:=wholeB x && ((decide (0<numD x) && decide (numD x<10)) && tupB (tiesB (numD x)) y)
def webB (d:D):Bool:=tupB (two webP) d
theorem go_split (m:Int):∀(ties:List D) (last:List Int),goB m last ties=(ties.all (tieFormB m) && upFrom last ties)
 | [],_=>rfl
 | t::r,last=>by
  show (tieFormB m t && (HT.lexLt last (rowN t) && goB m (rowN t) r))=((tieFormB m t && r.all (tieFormB m)) && (HT.lexLt last (rowN t) && upFrom (rowN t) r))
  rw [go_split m r]
  cases tieFormB m t <;> cases HT.lexLt last (rowN t) <;> cases r.all (tieFormB m) <;> rfl
theorem form_tie {m:Int} {d:D} (h:tieFormB m d=true):∃ t:Tie,d=tieD t∧0≤t.1:=by
 unfold tieFormB at h
 cases d with
 | tup l=>
  have h':two (pairB m) l=true:=h
  by_cases e:l.length=2
  ·obtain ⟨x,y,rfl⟩:=two_of_len e
   have h2:(wholeB x && (wholeB y && rangeB m (numD x) (numD y)))=true:=h'
   rw [Bool.and_eq_true,Bool.and_eq_true] at h2
   obtain ⟨h3,h4,h5⟩:=h2
   unfold rangeB at h5
   rw [Bool.and_eq_true] at h5
   refine ⟨(numD x,numD y),?_,of_decide_eq_true h5.1⟩
   show D.tup [x,y]=D.tup [.int (numD x),.int (numD y)]
   rw [← whole_num h3,← whole_num h4]
  ·rw [two_no e] at h'
   cases h'
 | _=>cases h
theorem forms_ties {m:Int}:∀{ties:List D},ties.all (tieFormB m)=true→∃ ts:List Tie,ties=ts.map tieD∧∀ t∈ts,0≤t.1
 | [],_=>⟨[],rfl,fun _ h=>by cases h⟩
 | d::r,h=>by
  have h':(tieFormB m d && r.all (tieFormB m))=true:=h
  rw [Bool.and_eq_true] at h'
  obtain ⟨t,e,t0⟩:=form_tie h'.1
  obtain ⟨ts,es,s0⟩:=forms_ties h'.2
  refine ⟨t::ts,by rw [e,es]; rfl,fun u hu=>?_⟩
  rcases List.mem_cons.mp hu with z | z
  ·rw [z]; exact t0
  ·exact s0 u z
def row2 (t:Tie):List Int:=[t.1,t.2]
theorem up_zip:∀(t:Tie) (ts:List Tie),(((t::ts).zip ts).map fun p=>HT.lexLt (row2 p.1) (row2 p.2)).all id=upFrom (row2 t) (ts.map tieD)
 | _,[]=>rfl
 | t,u::ts=>by
  show (HT.lexLt (row2 t) (row2 u) && (((u::ts).zip ts).map fun p=>HT.lexLt (row2 p.1) (row2 p.2)).all id)=(HT.lexLt (row2 t) (rowN (tieD u)) && upFrom (rowN (tieD u)) (ts.map tieD))
  rw [up_zip u ts]
  rfl
theorem up_first:∀{ts:List Tie},(∀ t∈ts,0≤t.1)→((ts.zip (ts.drop 1)).map fun p=>HT.lexLt (row2 p.1) (row2 p.2)).all id=upFrom [-1,-1] (ts.map tieD)
 | [],_=>rfl
 | t::ts,h=>by
  have h0:=h t List.mem_cons_self
  show (((t::ts).zip ts).map fun p=>HT.lexLt (row2 p.1) (row2 p.2)).all id=(HT.lexLt [-1,-1] (row2 t) && upFrom (row2 t) (ts.map tieD))
  rw [up_zip]
  have e:HT.lexLt [-1,-1] (row2 t)=true:=by
   unfold row2
   rw [HT.lexLt_cons,if_neg (by omega)]
   exact (decide_eq_true (by omega))
  rw [e,Bool.true_and]
def pWebK:PV:=fun as Φ=>∃ d:D,as=[.d d]∧Φ (.d (.bl (webB d))) as
section
variable {P:Program} {w:World} {K:PySem.W.Frag} {mg:Str→Option Value} {base:Heap}
theorem sc_is_web:FnScope ["thing","many","ties"] ["thing"] (defScope (top 9)):=by walk_at "sc"
theorem ok_is_web {f:Addr} {fd:FuncData} (F:Fun K "is_web" "is_web" (top 9) f fd) (T:Txt mg) (G_is_whole:Has P w K mg base "is_whole" (top 7) ["thing"] 1 (spV pWhole))
  (G_is_tie_form:Has P w K mg base "is_tie_form" (top 8) ["many","thing"] 2 (spV pTieForm)):FnOk P w K mg base CX0 3 f fd ["thing"] (spV pWebK):=by
 refine fn_ok F sc_is_web [0] (fun as Φ h=>?_) (fun cdv A outer s H E hr=>?_)
 ·obtain ⟨d,rfl,_⟩:=h
  rfl
 ·have hu:=hr.units
  refine ⟨_,(pss_cons (ps_if (PW.pt (pw_or (pt_not (pt_truthK (K:=K) rfl (pe_callB (isinstK (K:=K) rfl) (by rfl) T.n_isinstance PyProof.Rows.boot_isinstance (pa_cons (pv 0) (pa_cons (pe_bltn (v:=.ty "tuple") (by rfl) T.n_tuple PyProof.Rows.boot_tuple rfl) pa_nil))) (fun _=>rfl))) (pw_or1 (pt_cmpR (opNe hu) (pe_callB (lenK (K:=K) rfl) (by rfl) T.n_len PySem.boot_len (pa_cons (pv 0) pa_nil)) pe_int (nomark _)))))
   (pss_one (ps_ret pe_bl))
   pss_nil)
   (pss_cons (ps_asg (pv 0) (pg_tupK (K:=K) (n:=2) rfl rfl (pgs_cons (pg_n 1 sc_is_web) (pgs_cons (pg_n 2 sc_is_web) pgs_nil))))
   (pss_cons (ps_if (PW.pt (pw_or (pt_not (pt_truthK (K:=K) rfl (pe_cd G_is_whole hr (pa_cons (pv 1) pa_nil)) (fun _=>rfl))) (pw_or1 (pt_not (pt_chain op_le op_le pe_int (pv 1) (pe_globI (by rfl) T.g_MOST_PLACES))))))
   (pss_one (ps_ret pe_bl))
   pss_nil)
   (pss_cons (ps_if (PW.pt (pw_or (pt_not (pt_truthK (K:=K) rfl (pe_callB (isinstK (K:=K) rfl) (by rfl) T.n_isinstance PyProof.Rows.boot_isinstance (pa_cons (pv 2) (pa_cons (pe_bltn (v:=.ty "tuple") (by rfl) T.n_tuple PyProof.Rows.boot_tuple rfl) pa_nil))) (fun _=>rfl))) (pw_or1 (pt_cmpR (opGtK (K:=K) rfl hu) (pe_callB (lenK (K:=K) rfl) (by rfl) T.n_len PySem.boot_len (pa_cons (pv 2) pa_nil)) (pe_globI (by rfl) T.g_MOST_TIES) (nomark _)))))
   (pss_one (ps_ret pe_bl))
   pss_nil)
   (pss_cons (ps_if (pt_not (pt_truthK (K:=K) rfl (pe_callB (call_allB rfl) (by rfl) T.n_all PyProof.Rows.boot_all (pa_cons (pe_comp rfl (own:=["tie"]) (fr:=[("many",1)]) (by walk_at "cs") (pi_anyK (K:=K) rfl (pv 2)) (fun cl C s0 H0 fp=>⟨(pg_c 0),pf_nil,(pe_cd G_is_tie_form hr (pa_cons (pv 1) (pa_cons (pv 0) pa_nil)))⟩)) pa_nil)) (fun _=>rfl)))
   (pss_one (ps_ret pe_bl))
   pss_nil)
   (pss_one (ps_ret (pe_callB (call_allB rfl) (by rfl) T.n_all PyProof.Rows.boot_all (pa_cons (pe_comp rfl (own:=["one","other"]) (fr:=[]) (by walk_at "cs") (pi_zip2 (by rfl) T.n_zip (pa_cons (pv 2) (pa_cons (pe_slice (slUK (K:=K) rfl) (pv 2) (po_some pe_int) po_none) pa_nil))) (fun cl C s0 H0 fp=>⟨(pg_tupK (K:=K) (n:=2) rfl rfl (pgs_cons (pg_c 0) (pgs_cons (pg_c 1) pgs_nil))),pf_nil,(pe_cmpR (opLtK (K:=K) rfl hu) (pv 0) (pv 1) (nomark _))⟩)) pa_nil))))))))),?_⟩
  rintro as Φ ⟨d,rfl,k⟩
  walk_at "sv"
  refine t_or ?_
  walk_at "v"
  refine c_isinst rfl (kit_tup K d) ?_
  walk_at "v"
  refine ite2 (fun hn=>?_) (fun hn=>?_)
  ·rw [if_pos rfl]
   walk_at "v"
   have e:webB d=false:=tupB_no (nb_false hn)
   rw [e] at k
   exact ⟨⟨_,rfl⟩,k⟩
  ·obtain ⟨l,rfl⟩:=isTup_of (nb_true hn)
   walk_at "v"
   refine ite2 (fun h2=>?_) (fun h2=>?_)
   ·walk_at "v"
    have e:webB (.tup l)=false:=two_no (two_ne h2)
    rw [e] at k
    exact ⟨⟨_,rfl⟩,k⟩
   ·obtain ⟨x,y,rfl⟩:=two_of_len (two_eq h2)
    have ek:webB (.tup [x,y])=(wholeB x && ((decide (0<numD x) && decide (numD x<10)) && tupB (tiesB (numD x)) y)):=rfl
    rw [ek] at k
    walk_at "v"
    walk_at "st"
    refine t_or ?_
    walk_at "vc"
    refine ⟨x,rfl,⟨⟨_,rfl⟩,?_⟩⟩
    walk_at "sv"
    refine ite2 (fun hx=>?_) (fun hx=>?_)
    ·rw [if_pos rfl]
     walk_at "v"
     rw [nb_false hx,Bool.false_and] at k
     exact ⟨⟨_,rfl⟩,k⟩
    ·rw [nb_true hx,Bool.true_and] at k
     generalize em:numD x=m at k
     have ex:x=.int m:=by rw [← em]; exact whole_num (nb_true hx)
     subst ex
     have er:(decide (0<m) && decide (m<10))=(decide (1≤m) && decide (m≤9)):=by
      congr 1 <;> exact decide_eq_decide.mpr (by omega)
     rw [er] at k
     walk_at "vJ"
     refine ite2 (fun hr1=>?_) (fun hr1=>?_)
     ·walk_at "v"
      rw [nb_false hr1,Bool.false_and] at k
      exact ⟨⟨_,rfl⟩,k⟩
     ·rw [nb_true hr1,Bool.true_and] at k
      walk_at "v"
      refine t_or ?_
      walk_at "v"
      refine c_isinst rfl (kit_tup K y) ?_
      walk_at "v"
      refine ite2 (fun hy=>?_) (fun hy=>?_)
      ·rw [if_pos rfl]
       walk_at "v"
       rw [tupB_no (nb_false hy)] at k
       exact ⟨⟨_,rfl⟩,k⟩
      ·obtain ⟨ties,rfl⟩:=isTup_of (nb_true hy)
       have k1:Φ (.d (.bl (decide (ties.length≤20) && goB m [-1,-1] ties))) [.d (.tup [.int m,.tup ties])]:=k
       clear k
       walk_at "v"
       refine ite2 (fun hl=>?_) (fun hl=>?_)
       ·walk_at "v"
        have hl':=ofd hl
        rw [decide_eq_false (by omega),Bool.false_and] at k1
        exact ⟨⟨_,rfl⟩,k1⟩
       ·have hl':ties.length≤20:=by
         apply Classical.byContradiction
         intro z
         exact hl (decide_eq_true (by omega))
        rw [decide_eq_true hl',Bool.true_and,go_split] at k1
        walk_at "v"
        refine v_pure (fun d:D=>d) ties (fun _=>true) (fun d=>.bl (tieFormB m d)) (i_any ?_)
        walk_at "v"
        refine ⟨_,_,rfl,rfl,(List.map_id' _).symm,small1000 (by omega),known_of rfl,of_decide_eq_true rfl,?_,?_⟩
        ·rintro d _ os hos
         obtain ⟨z0,rfl⟩:=len1 hos
         walk_at "v"
         refine ⟨⟨[_],rfl,rfl⟩,t_true ⟨rfl,rfl⟩,fun _=>?_⟩
         walk_at "call"
         refine ⟨m,d,rfl,⟨⟨_,rfl⟩,?_⟩⟩
         exact ⟨rfl,rfl⟩
        ·walk_at "v"
         have ea:(ties.filter fun _=>true).map (fun d=>D.bl (tieFormB m d))=(ties.map (tieFormB m)).map D.bl:=by
          rw [filter_true,List.map_map]
          rfl
         rw [ea]
         refine c_all rfl ?_
         have eb:(ties.map (tieFormB m)).all id=ties.all (tieFormB m):=by
          rw [List.all_map]
          rfl
         rw [eb]
         walk_at "v"
         refine ite2 (fun hf=>?_) (fun hf=>?_)
         ·walk_at "v"
          rw [nb_false hf,Bool.false_and] at k1
          exact ⟨⟨_,rfl⟩,k1⟩
         ·rw [nb_true hf,Bool.true_and] at k1
          obtain ⟨ts,rfl,t0⟩:=forms_ties (nb_true hf)
          rw [← up_first t0] at k1
          rw [List.length_map] at hl'
          walk_at "v"
          refine v_pure (fun p:Tie×Tie=>.tup [tieD p.1,tieD p.2]) (ts.zip (ts.drop 1)) (fun _=>true) (fun p=>.bl (HT.lexLt (row2 p.1) (row2 p.2))) (i_zip ?_)
          walk_at "v"
          refine SlV.r (sl_U rfl ?_)
          walk_at "v"
          have ec:cutD (ts.map tieD) (some 1) none=(ts.drop 1).map tieD:=by
           unfold cutD
           rw [HT.sIx_none,show (1:Int)=((1:Nat):Int) from rfl,HT.sIx_nat,List.length_map,← List.map_drop]
           cases ts with
           | nil=>rfl
           | cons t ts=>
            rw [Nat.min_eq_left (by simp)]
            rw [List.take_of_length_le (by rw [List.length_map,List.length_drop]; exact Nat.le_refl _)]
          refine ⟨_,_,⟨_,_,rfl,rfl,rfl⟩,?_,?_,known_of rfl,of_decide_eq_true rfl,?_,?_⟩
          ·rw [ec]
           exact zipD_map _ _ _ _
          ·rw [List.length_zip]
           exact small1000 (by omega)
          ·rintro ⟨t,u⟩ _ os hos
           obtain ⟨z0,z1,rfl⟩:=len2 hos
           walk_at "v"
           refine ⟨⟨[_,_],rfl,rfl⟩,t_true ⟨rfl,rfl⟩,fun _=>?_⟩
           walk_at "v"
           refine OpV.r (o_ltT (ns:=row2 t) (ms:=row2 u) rfl rfl ?_)
           exact ⟨rfl,rfl⟩
          ·have ed:((ts.zip (ts.drop 1)).filter fun _=>true).map (fun p=>D.bl (HT.lexLt (row2 p.1) (row2 p.2)))=((ts.zip (ts.drop 1)).map fun p=>HT.lexLt (row2 p.1) (row2 p.2)).map D.bl:=by
            rw [filter_true,List.map_map]
            rfl
           rw [ed]
           walk_at "v"
           refine c_all rfl ?_
           exact ⟨⟨_,rfl⟩,k1⟩
end
section
variable {P:Program} {w:World} {K:PySem.W.Frag} {mg:Str→Option Value} {base:Heap}
theorem sc__law_is_web:FnScope ["thing","last","tie"] ["thing"] (defScope (top 31)):=by walk_at "sc"
theorem ok__law_is_web {f:Addr} {fd:FuncData} (F:Fun K "_law_is_web" "_law_is_web" (top 31) f fd) (T:Txt mg) (G__law_sound:Has P w K mg base "_law_sound" (top 30) ["thing"] 1 (spV pWhole)):FnOk P w K mg base CX0 2 f fd ["thing"] (spV pWebK):=by
 refine fn_ok F sc__law_is_web [0] (fun as Φ h=>?_) (fun cdv A outer s H E hr=>?_)
 ·obtain ⟨d,rfl,_⟩:=h
  rfl
 ·have hu:=hr.units
  refine ⟨_,(pss_cons (ps_if (PW.pt (pw_or (pt_not (pt_truthK (K:=K) rfl (pe_callB (isinstK (K:=K) rfl) (by rfl) T.n_isinstance PyProof.Rows.boot_isinstance (pa_cons (pv 0) (pa_cons (pe_bltn (v:=.ty "tuple") (by rfl) T.n_tuple PyProof.Rows.boot_tuple rfl) pa_nil))) (fun _=>rfl))) (pw_or (pt_cmpR (opNe hu) (pe_callB (lenK (K:=K) rfl) (by rfl) T.n_len PySem.boot_len (pa_cons (pv 0) pa_nil)) pe_int (nomark _)) (pw_or (pt_not (pt_truthK (K:=K) rfl (pe_cd G__law_sound hr (pa_cons (pe_x (pv 0) pe_int) pa_nil)) (fun _=>rfl))) (pw_or1 (pt_not (pt_truthK (K:=K) rfl (pe_callB (isinstK (K:=K) rfl) (by rfl) T.n_isinstance PyProof.Rows.boot_isinstance (pa_cons (pe_x (pv 0) pe_int) (pa_cons (pe_bltn (v:=.ty "tuple") (by rfl) T.n_tuple PyProof.Rows.boot_tuple rfl) pa_nil))) (fun _=>rfl))))))))
   (pss_one (ps_ret pe_bl))
   pss_nil)
   (pss_cons (ps_if (PW.pt (pw_or (pt_not (pt_chain (opLtK (K:=K) rfl hu) (opLtK (K:=K) rfl hu) pe_int (pe_x (pv 0) pe_int) pe_int)) (pw_or1 (pt_cmpR (opGtK (K:=K) rfl hu) (pe_callB (lenK (K:=K) rfl) (by rfl) T.n_len PySem.boot_len (pa_cons (pe_x (pv 0) pe_int) pa_nil)) pe_int (nomark _)))))
   (pss_one (ps_ret pe_bl))
   pss_nil)
   (pss_cons (ps_s 1 sc__law_is_web (pe_tup (pa_cons (pe_un un_neg pe_int) (pa_cons (pe_un un_neg pe_int) pa_nil))))
   (pss_cons (ps_for PassesOwn.never rfl (pi_anyK (K:=K) rfl (pe_x (pv 0) pe_int)) (pg_n 2 sc__law_is_web)
   (pss_cons (ps_if (PW.pt (pw_or (pt_not (pt_truthK (K:=K) rfl (pe_callB (isinstK (K:=K) rfl) (by rfl) T.n_isinstance PyProof.Rows.boot_isinstance (pa_cons (pv 2) (pa_cons (pe_bltn (v:=.ty "tuple") (by rfl) T.n_tuple PyProof.Rows.boot_tuple rfl) pa_nil))) (fun _=>rfl))) (pw_or (pt_cmpR (opNe hu) (pe_callB (lenK (K:=K) rfl) (by rfl) T.n_len PySem.boot_len (pa_cons (pv 2) pa_nil)) pe_int (nomark _)) (pw_or (pt_not (pt_truthK (K:=K) rfl (pe_cd G__law_sound hr (pa_cons (pe_x (pv 2) pe_int) pa_nil)) (fun _=>rfl))) (pw_or1 (pt_not (pt_truthK (K:=K) rfl (pe_cd G__law_sound hr (pa_cons (pe_x (pv 2) pe_int) pa_nil)) (fun _=>rfl))))))))
    (pss_one (ps_ret pe_bl))
    pss_nil)
    (pss_cons (ps_if (PW.pt (pw_or (pt_not (pt_chain3 op_le (opLtK (K:=K) rfl hu) (opLtK (K:=K) rfl hu) pe_int (pe_x (pv 2) pe_int) (pe_x (pv 2) pe_int) (pe_x (pv 0) pe_int))) (pw_or1 (pt_not (pt_cmpR (opLtK (K:=K) rfl hu) (pv 1) (pv 2) (nomark _))))))
    (pss_one (ps_ret pe_bl))
    pss_nil)
    (pss_one (ps_s 1 sc__law_is_web (pv 2))))))
   (pss_one (ps_ret pe_bl)))))),?_⟩
  rintro as Φ ⟨d,rfl,k⟩
  walk_at "sv"
  refine t_or ?_
  walk_at "v"
  refine c_isinst rfl (kit_tup K d) ?_
  walk_at "v"
  refine ite2 (fun hn=>?_) (fun hn=>?_)
  ·rw [if_pos rfl]
   walk_at "v"
   have e:webB d=false:=tupB_no (nb_false hn)
   rw [e] at k
   exact ⟨⟨_,rfl⟩,k⟩
  obtain ⟨l,rfl⟩:=isTup_of (nb_true hn)
  refine t_or ?_
  walk_at "v"
  refine ite2 (fun h2=>?_) (fun h2=>?_)
  ·rw [if_pos rfl]
   walk_at "v"
   have e:webB (.tup l)=false:=two_no (two_ne h2)
   rw [e] at k
   exact ⟨⟨_,rfl⟩,k⟩
  obtain ⟨x,y,rfl⟩:=two_of_len (two_eq h2)
  have ek:webB (.tup [x,y])=(wholeB x && ((decide (0<numD x) && decide (numD x<10)) && tupB (tiesB (numD x)) y)):=rfl
  rw [ek] at k
  refine t_or ?_
  walk_at "v"
  refine v_call ?_
  walk_at "v"
  refine ⟨of_decide_eq_true rfl,?_⟩
  walk_at "st"
  refine ⟨x,rfl,⟨⟨_,rfl⟩,?_⟩⟩
  walk_at "sv"
  refine ite2 (fun hx=>?_) (fun hx=>?_)
  ·rw [if_pos rfl]
   walk_at "v"
   rw [nb_false hx,Bool.false_and] at k
   exact ⟨⟨_,rfl⟩,k⟩
  rw [nb_true hx,Bool.true_and] at k
  generalize em:numD x=m at k
  have ex:x=.int m:=by rw [← em]; exact whole_num (nb_true hx)
  subst ex
  walk_at "v"
  refine c_isinst rfl (kit_tup K y) ?_
  walk_at "v"
  refine ite2 (fun hy=>?_) (fun hy=>?_)
  ·walk_at "v"
   rw [tupB_no (nb_false hy),Bool.and_false] at k
   exact ⟨⟨_,rfl⟩,k⟩
  obtain ⟨ties,rfl⟩:=isTup_of (nb_true hy)
  have k1:Φ (.d (.bl ((decide (0<m) && decide (m<10)) && (decide (ties.length≤20) && goB m [-1,-1] ties)))) [.d (.tup [.int m,.tup ties])]:=k
  clear k
  walk_at "v"
  refine t_or ?_
  walk_at "vJ"
  refine ite2 (fun hr1=>?_) (fun hr1=>?_)
  ·rw [if_pos rfl]
   walk_at "v"
   rw [nb_false hr1,Bool.false_and] at k1
   exact ⟨⟨_,rfl⟩,k1⟩
  rw [nb_true hr1,Bool.true_and] at k1
  walk_at "v"
  refine ite2 (fun hl=>?_) (fun hl=>?_)
  ·walk_at "v"
   have hl':=ofd hl
   rw [decide_eq_false (by omega),Bool.false_and] at k1
   exact ⟨⟨_,rfl⟩,k1⟩
  have hl':ties.length≤20:=by
   apply Classical.byContradiction
   intro z
   exact hl (decide_eq_true (by omega))
  rw [decide_eq_true hl',Bool.true_and] at k1
  walk_at "v"
  walk_at "st"
  refine s_for (i_any ?_)
  walk_at "v"
  refine ⟨_,_,rfl,rfl,fun i ρ=>∃ last s2,ρ=[.d (.tup [.int m,.tup ties]),.d (.tup (intsD last)),s2]∧goB m last (ties.drop i)=goB m [-1,-1] ties,⟨[-1,-1],_,rfl,rfl⟩,?_,?_⟩
  ·rintro i t ρ hx ⟨last,s2,rfl,eg⟩
   have hi:i<ties.length:=(List.getElem?_eq_some_iff.mp hx).1
   have et:ties[i]=t:=by
    rw [List.getElem?_eq_getElem hi] at hx
    exact Option.some.inj hx
   rw [List.drop_eq_getElem_cons hi,et] at eg
   have eg1:(tieFormB m t && (HT.lexLt last (rowN t) && goB m (rowN t) (ties.drop (i+1))))=goB m [-1,-1] ties:=eg
   rw [← eg1] at k1
   clear eg hx et
   walk_at "v"
   refine t_or ?_
   walk_at "v"
   refine c_isinst rfl (kit_tup K t) ?_
   walk_at "v"
   refine ite2 (fun hn=>?_) (fun hn=>?_)
   ·rw [if_pos rfl]
    walk_at "v"
    have e:tieFormB m t=false:=tupB_no (nb_false hn)
    rw [e,Bool.false_and] at k1
    exact ⟨⟨_,rfl⟩,k1⟩
   obtain ⟨l,rfl⟩:=isTup_of (nb_true hn)
   refine t_or ?_
   walk_at "v"
   refine ite2 (fun h2=>?_) (fun h2=>?_)
   ·rw [if_pos rfl]
    walk_at "v"
    have e:tieFormB m (.tup l)=false:=two_no (two_ne h2)
    rw [e,Bool.false_and] at k1
    exact ⟨⟨_,rfl⟩,k1⟩
   obtain ⟨x,y,rfl⟩:=two_of_len (two_eq h2)
   have ek:tieFormB m (.tup [x,y])=(wholeB x && (wholeB y && rangeB m (numD x) (numD y))):=rfl
   rw [ek] at k1 eg1
   refine t_or ?_
   walk_at "v"
   refine v_call ?_
   walk_at "v"
   refine ⟨of_decide_eq_true rfl,?_⟩
   walk_at "st"
   refine ⟨x,rfl,⟨⟨_,rfl⟩,?_⟩⟩
   walk_at "sv"
   refine ite2 (fun hx=>?_) (fun hx=>?_)
   ·rw [if_pos rfl]
    walk_at "v"
    rw [nb_false hx,Bool.false_and,Bool.false_and] at k1
    exact ⟨⟨_,rfl⟩,k1⟩
   walk_at "v"
   refine v_call ?_
   walk_at "v"
   refine ⟨of_decide_eq_true rfl,?_⟩
   walk_at "st"
   refine ⟨y,rfl,⟨⟨_,rfl⟩,?_⟩⟩
   walk_at "sv"
   refine ite2 (fun hy=>?_) (fun hy=>?_)
   ·walk_at "v"
    rw [nb_false hy,Bool.false_and,Bool.and_false,Bool.false_and] at k1
    exact ⟨⟨_,rfl⟩,k1⟩
   rw [nb_true hx,nb_true hy,Bool.true_and,Bool.true_and] at k1 eg1
   have erow:rowN (.tup [x,y])=[numD x,numD y]:=rfl
   rw [erow] at k1 eg1
   generalize ea:numD x=a at k1 eg1
   generalize eb:numD y=b at k1 eg1
   have ex:x=.int a:=by rw [← ea]; exact whole_num (nb_true hx)
   have ey:y=.int b:=by rw [← eb]; exact whole_num (nb_true hy)
   subst ex ey
   walk_at "v"
   refine t_or ?_
   walk_at "vJ"
   refine ite2 (fun hr2=>?_) (fun hr2=>?_)
   ·rw [if_pos rfl]
    walk_at "v"
    have e:rangeB m a b=false:=nb_false hr2
    rw [e,Bool.false_and] at k1
    exact ⟨⟨_,rfl⟩,k1⟩
   have e:rangeB m a b=true:=nb_true hr2
   rw [e,Bool.true_and] at k1 eg1
   walk_at "v"
   refine OpV.r (o_ltT (ns:=last) (ms:=[a,b]) rfl rfl ?_)
   walk_at "v"
   refine ite2 (fun hlt=>?_) (fun hlt=>?_)
   ·walk_at "v"
    rw [nb_false hlt,Bool.false_and] at k1
    exact ⟨⟨_,rfl⟩,k1⟩
   rw [nb_true hlt,Bool.true_and] at eg1
   walk_at "v"
   exact ⟨[a,b],_,rfl,eg1⟩
  ·rintro ρ ⟨last,s2,rfl,eg⟩
   rw [List.drop_length] at eg
   have eg1:true=goB m [-1,-1] ties:=eg
   rw [← eg1] at k1
   walk_at "v"
   exact ⟨⟨_,rfl⟩,k1⟩
end
def spS:Str:=⟨#[32]⟩
def wordS (c:Nat) (t:Tie):Str:=⟨#[48+t.1.toNat,c,48+t.2.toNat]⟩
theorem fig_is:∀ n:Nat,n<10→figS n=⟨#[48+n]⟩:=by decide
def textW (n c:Nat) (us:List Tie):List Str:=figS n::us.map (wordS c)
def textS (n c:Nat) (us:List Tie):Str:=Txt.join spS (textW n c us)
def Digs (us:List Tie):Prop:=∀ t∈us,0≤t.1∧t.1<10∧0≤t.2∧t.2<10
def joinL:List (List Nat)→List Nat
 | []=>[]
 | [x]=>x
 | x::y::r=>x++32::joinL (y::r)
theorem join_list:∀ ws:List Str,(Str.join spS ws).cps.toList=joinL (ws.map fun w=>w.cps.toList)
 | []=>rfl
 | [_]=>rfl
 | x::y::r=>by
  have e:Str.join spS (x::y::r)=x++spS++Str.join spS (y::r):=rfl
  have ih:=join_list (y::r)
  rw [e]
  show (x.cps ++ #[32]++(Str.join spS (y::r)).cps).toList=x.cps.toList++32::joinL ((y::r).map fun w=>w.cps.toList)
  rw [← ih,Array.toList_append,Array.toList_append,List.append_assoc]
  rfl
theorem free_part:∀{x y r s:List Nat},32∉x→32∉y→(r=[]∨∃ q,r=32::q)→(s=[]∨∃ q,s=32::q)→x++r=y++s→x=y∧r=s
 | [],[],r,s,_,_,_,_,h=>⟨rfl,h⟩
 | [],b::y,r,s,_,hy,hr,_,h=>by
  rcases hr with rfl | ⟨q,rfl⟩
  ·cases h
  ·have e:(32:Nat)=b:=(List.cons.inj h).1
   exact absurd (e ▸ List.mem_cons_self) hy
 | a::x,[],r,s,hx,_,_,hs,h=>by
  rcases hs with rfl | ⟨q,rfl⟩
  ·cases h
  ·have e:a=32:=(List.cons.inj h).1
   exact absurd (e ▸ List.mem_cons_self) hx
 | a::x,b::y,r,s,hx,hy,hr,hs,h=>by
  obtain ⟨e1,e2⟩:=List.cons.inj h
  obtain ⟨e3,e4⟩:=free_part (fun z=>hx (List.mem_cons_of_mem _ z)) (fun z=>hy (List.mem_cons_of_mem _ z)) hr hs e2
  exact ⟨by rw [e1,e3],e4⟩
theorem joinL_one:∀{as bs:List (List Nat)},as≠[]→bs≠[]→(∀ x∈as,32∉x)→(∀ x∈bs,32∉x)→joinL as=joinL bs→as=bs
 | [],_,h,_,_,_,_=>absurd rfl h
 | _::_,[],_,h,_,_,_=>absurd rfl h
 | [x],[y],_,_,_,_,h=>by
  have e:x=y:=h
  rw [e]
 | [x],y::z::r,_,_,ha,hb,h=>by
  have h':x++[]=y++32::joinL (z::r):=(List.append_nil x).trans h
  obtain ⟨_,e⟩:=free_part (ha x List.mem_cons_self) (hb y List.mem_cons_self) (.inl rfl) (.inr ⟨_,rfl⟩) h'
  cases e
 | x::z::r,[y],_,_,ha,hb,h=>by
  have h':x++32::joinL (z::r)=y++[]:=h.trans (List.append_nil y).symm
  obtain ⟨_,e⟩:=free_part (ha x List.mem_cons_self) (hb y List.mem_cons_self) (.inr ⟨_,rfl⟩) (.inl rfl) h'
  cases e
 | x::x2::r,y::y2::s,_,_,ha,hb,h=>by
  have h':x++32::joinL (x2::r)=y++32::joinL (y2::s):=h
  obtain ⟨e1,e2⟩:=free_part (ha x List.mem_cons_self) (hb y List.mem_cons_self) (.inr ⟨_,rfl⟩) (.inr ⟨_,rfl⟩) h'
  have e3:=joinL_one (List.cons_ne_nil _ _) (List.cons_ne_nil _ _) (fun z hz=>ha z (List.mem_cons_of_mem _ hz)) (fun z hz=>hb z (List.mem_cons_of_mem _ hz)) (List.cons.inj e2).2
  rw [e1,e3]
theorem split_join {ws:List Str} (ne:ws≠[]) (h:∀ w∈ws,32∉w.cps.toList):Txt.split (Txt.join spS ws) spS=ws:=by
 have e1:=StrLaws.join_split (Txt.join spS ws) spS
 have e2:Txt.join spS ws=Str.join spS ws:=StrLaws.glued_eq_join spS ws
 have pos:=PyProof.Rows.split_pos (Txt.join spS ws) spS
 have fr:=StrLaws.split_free (Txt.join spS ws) 32
 have e3:joinL ((Txt.split (Txt.join spS ws) spS).map fun w=>w.cps.toList)=joinL (ws.map fun w=>w.cps.toList):=by
  rw [← join_list,← join_list,e1,e2]
 have e4:=joinL_one (fun z=>by rw [List.map_eq_nil_iff.mp z] at pos; exact absurd pos (by decide)) (fun z=>ne (List.map_eq_nil_iff.mp z)) (fun x hx=>by obtain ⟨w,hw,rfl⟩:=List.mem_map.mp hx; exact fr w hw) (fun x hx=>by obtain ⟨w,hw,rfl⟩:=List.mem_map.mp hx; exact h w hw) e3
 have inj:∀{as bs:List Str},(as.map fun w=>w.cps.toList)=(bs.map fun w=>w.cps.toList)→as=bs:=fun {as}=>by
  induction as with
  | nil=>exact fun {bs} z=>(List.map_eq_nil_iff.mp z.symm).symm
  | cons a as ih=>
   intro bs z
   cases bs with
   | nil=>cases z
   | cons b bs=>
    obtain ⟨z1,z2⟩:=List.cons.inj z
    rw [ih z2,Str.ext' (Array.toList_inj.mp z1)]
 exact inj e4
theorem word_len (c:Nat) (t:Tie):(wordS c t).length=3:=rfl
theorem word_free {c:Nat} (hc:c≠32) (t:Tie):32∉(wordS c t).cps.toList:=fun z=>by
 have z':(32:Nat)∈[48+t.1.toNat,c,48+t.2.toNat]:=z
 rcases List.mem_cons.mp z' with e | e
 ·omega
 ·rcases List.mem_cons.mp e with e | e
  ·exact hc e.symm
  ·have:=List.mem_singleton.mp e
   omega
theorem text_free {n c:Nat} (hn:n<10) (hc:c≠32) (us:List Tie):∀ w∈textW n c us,32∉w.cps.toList:=fun w hw=>by
 rcases List.mem_cons.mp hw with e | e
 ·rw [e,fig_is n hn]
  intro z
  have:=List.mem_singleton.mp (show (32:Nat)∈[48+n] from z)
  omega
 ·obtain ⟨t,_,rfl⟩:=List.mem_map.mp e
  exact word_free hc t
theorem text_split {n c:Nat} (hn:n<10) (hc:c≠32) (us:List Tie):Txt.split (textS n c us) ⟨#[32]⟩=textW n c us:=split_join (List.cons_ne_nil _ _) (text_free hn hc us)
theorem few_len {ws:List Str} (h:∀ w∈ws,w.length≤3) (hl:ws.length≤30):JoinOk spS ws=true∧(Txt.join spS ws).length≤1000:=by
 have l1:spS.length=1:=rfl
 have e:ws.length*3+ws.length*spS.length≤120:=by
  rw [l1]
  omega
 refine ⟨?_,?_⟩
 ·unfold JoinOk
  rw [show (texts:List Str)→texts.toArray.foldl (· + ·.length+spS.length) 0=texts.toArray.foldl (fun a p=>a+p.length+spS.length) 0 from fun _=>rfl,StrLaws.joinFits h (Nat.le_trans e (by decide))]
  rfl
 ·rw [show Txt.join spS ws=Str.join spS ws from StrLaws.glued_eq_join spS ws]
  have h1:=StrLaws.join_length_le spS ws
  have h2:=StrLaws.sumLen_le ws h
  omega
theorem text_few {n c:Nat} (hn:n<10) {us:List Tie} (hl:us.length≤25):JoinOk spS (textW n c us)=true∧(textS n c us).length≤1000:=few_len (fun w hw=>by
 rcases List.mem_cons.mp hw with e | e
 ·rw [e,fig_len hn]
  decide
 ·obtain ⟨t,_,rfl⟩:=List.mem_map.mp e
  exact Nat.le_refl 3) (by
 show (us.map (wordS c)).length+1≤30
 rw [List.length_map]
 omega)
theorem fig_in (n:Nat) (hn:n<10):(!(Builtin.Str.occurrences figsT (figS n) 0 figsT.length 1).isEmpty)=true:=by
 rw [fig_is n hn,StrLaws.found_one]
 have all:∀ n:Nat,n<10→(48+n)∈figsT.cps.toList:=by decide
 exact decide_eq_true (all n hn)
theorem fmt_is {i j c:Nat} (hi:i<10) (hj:j<10):figS i++⟨#[c]⟩++figS j=wordS c ((i:Int),(j:Int)):=by
 rw [fig_is i hi,fig_is j hj]
 rfl
theorem web_digs {n:Nat} {ts:List Tie} (W:WebOk n ts):Digs ts:=fun t ht=>by
 obtain ⟨h1,h2,h3⟩:=W.ok t ht
 have:=W.few
 omega
local macro_rules | `(tactic| walk_at "nm")=>`(tactic| first
 | ((with_reducible refine nm8 ?_); intro _ _ _ _ _ _ _ _ _)
 | ((with_reducible refine nm6 ?_); intro _ _ _ _ _ _ _)
 | ((with_reducible refine nm5 ?_); intro _ _ _ _ _ _)
 | ((with_reducible refine nm4 ?_); intro _ _ _ _ _)
 | ((with_reducible refine nm3 ?_); intro _ _ _ _)
 | ((with_reducible refine nm2 ?_); intro _ _ _))
local macro_rules | `(tactic| walk_at "nf")=>`(tactic| first
 | ((with_reducible refine nf14 ?_); intro _ _ _ _ _ _ _ _ _ _ _ _ _ _ _))
local macro_rules | `(tactic| walk_at "ps")=>`(tactic| try ((with_reducible refine s_psi ?_); intro _))
local macro_rules | `(tactic| walk_at "rf")=>`(tactic| first | rfl | decide)
local macro_rules | `(tactic| walk_at "op")=>`(tactic| first
 | ((with_reducible refine' o_i0 ?h1 ?h2 ?_); (case h1=>rfl); (case h2=>rfl))
 | ((with_reducible refine' OpV.l (o_i0 ?h1 ?h2 ?_)); (case h1=>rfl); (case h2=>rfl))
 | ((with_reducible refine' o_b0 ?h1 ?h2 ?_); (case h1=>rfl); (case h2=>rfl))
 | ((with_reducible refine' OpV.l (o_b0 ?h1 ?h2 ?_)); (case h1=>rfl); (case h2=>rfl))
 | ((with_reducible refine' OpV.l (o_eqI ?h1 ?h2 ?_)); (case h1=>rfl); (case h2=>rfl))
 | ((with_reducible refine' OpV.l (o_neI ?h1 ?h2 ?_)); (case h1=>rfl); (case h2=>rfl))
 | ((with_reducible refine' OpV.l (o_eqB ?h1 ?h2 ?_)); (case h1=>rfl); (case h2=>rfl))
 | ((with_reducible refine' o_isN ?h1 ?_); (case h1=>rfl))
 | ((with_reducible refine' o_notN ?h1 ?_); (case h1=>rfl))
 | ((with_reducible refine' o_neNil ?h1 ?h2 ?h3 ?_); (case h1=>rfl); (case h2=>rfl); (case h3=>first | exact dep_int _ | assumption))
 | ((with_reducible refine' OpV.r (OpV.l (o_catL ?h1 ?h2 ?h3 ?_))); (case h1=>rfl); (case h2=>rfl); (case h3=>exact szl (Nat.le_of_ble_eq_true rfl)))
 | ((with_reducible refine' o_ixT ?h1 ?h2 ?h3 ?_); (case h1=>rfl); (case h2=>rfl); (case h3=>rfl))
 | ((with_reducible refine' o_ixL ?h1 ?h2 ?h3 ?_); (case h1=>rfl); (case h2=>rfl); (case h3=>rfl))
 | ((with_reducible refine' o_ixL ?h1 ?h2 ?h3 ?_); (case h1=>rfl); (case h2=>rfl); (case h3=>assumption))
 | ((with_reducible refine' o_ixT ?h1 ?h2 ?h3 ?_); (case h1=>rfl); (case h2=>rfl); (case h3=>assumption)))
local macro_rules | `(tactic| walk_at "ca")=>`(tactic| first
 | ((with_reducible refine' u_i ?h1 ?_); (case h1=>rfl))
 | ((with_reducible refine' c_ii ?h1 ?h2 ?_); (case h1=>rfl); (case h2=>rfl))
 | ((with_reducible refine' c_lenL ?h1 ?_); (case h1=>rfl))
 | ((with_reducible refine' c_lenT ?h1 ?_); (case h1=>rfl))
 | ((with_reducible refine' c_tupleL ?h1 ?_); (case h1=>rfl))
 | ((with_reducible refine' c_listT ?h1 ?_); (case h1=>rfl))
 | ((with_reducible refine' c_int_b ?h1 ?_); (case h1=>rfl))
 | ((with_reducible refine' c_isinst ?h1 ?h2 ?_); (case h1=>rfl); (case h2=>rfl)))
local macro_rules | `(tactic| walk_at "v1")=>`(tactic| first
 | with_reducible refine v_op ?_
 | with_reducible refine v_int ?_
 | ((with_reducible refine' v_var_d ?h ?_); (case h=>rfl))
 | ((with_reducible refine' v_var_l ?h ?_); (case h=>rfl))
 | ((with_reducible refine' v_var_f ?h ?_); (case h=>rfl))
 | with_reducible refine v_cb ?_
 | with_reducible refine v_join ?_
 | with_reducible refine v_split ?_
 | with_reducible refine v_fmt ?_
 | with_reducible refine v_idxF ?_
 | with_reducible refine v_revX ?_
 | with_reducible refine v_bm ?_
 | (refine ⟨⟨rfl,_,(rfl:rd _ _=some (D.lst _))⟩,?_⟩)
 | with_reducible refine a_cons ?_
 | with_reducible refine a_nil ?_
 | with_reducible refine v_tup ?_
 | with_reducible refine v_lst ?_
 | with_reducible refine v_bl ?_
 | with_reducible refine v_non ?_
 | with_reducible refine v_str ?_
 | with_reducible refine v_raw ?_
 | with_reducible refine v_sl ?_
 | with_reducible refine p_none ?_
 | with_reducible refine p_some ?_
 | with_reducible refine v_un ?_
 | with_reducible refine v_not ?_
 | with_reducible refine t_test ?_
 | with_reducible refine t_tru ?_
 | with_reducible refine t_true ?_
 | with_reducible refine t_not ?_
 | with_reducible refine s_seqN ?_
 | walk_at "nm"
 | with_reducible refine s_seq ?_
 | with_reducible refine s_asg ?_
 | ((with_reducible refine' g_name ?h ?_); (case h=>rfl))
 | ((with_reducible refine' g_tup ?h1 ?h2 ?_); (case h1=>rfl); (case h2=>rfl))
 | with_reducible refine gs_cons ?_
 | with_reducible refine g_put ?_
 | (refine ⟨_,(rfl:Rs.it _=some _),?_⟩)
 | (refine ⟨_,(rfl:_=Rs.b _),?_⟩)
 | with_reducible refine gs_nil ?_
 | with_reducible refine s_ret ?_
 | with_reducible refine s_drop ?_
 | with_reducible refine s_if ?_
 | with_reducible refine s_next ?_
 | walk_at "op"
 | walk_at "ca"
 | (refine ⟨_,(rfl:rd _ _=some _),?_⟩)
 | (refine ⟨_,_,(rfl:rd _ _=some _),(rfl:truD _=some _),?_⟩)
 | (refine ⟨_,(rfl:its _=some _),szl (Nat.le_of_ble_eq_true rfl),?_⟩))
local macro_rules | `(tactic| walk_at "v")=>`(tactic| (repeat (walk_at "v1")))
local macro_rules | `(tactic| walk_at "st")=>`(tactic| try dsimp only [List.length_cons,List.length_nil,Nat.reduceAdd,Nat.reduceSub,List.replicate,List.cons_append,List.nil_append,List.set,caps,List.map,Rs.sl,wb,L4.outer,capt,List.drop,inner,List.getElem?_cons_zero,List.getElem?_cons_succ,List.headD,List.tail,argS,Option.getD])
local macro_rules | `(tactic| walk_at "call")=>`(tactic| ((with_reducible refine v_call ?_); walk_at "v"; (refine ⟨of_decide_eq_true rfl,?_⟩); walk_at "st"))
local macro_rules | `(tactic| walk_at "J")=>`(tactic| first
 | ((with_reducible refine' v_orJ ?h1 ?h2 ?_); (case h1=>(walk_at "vJ"; exact ⟨rfl,rfl⟩)); (case h2=>(intro _; walk_at "vJ"; exact ⟨rfl,rfl⟩)))
 | ((with_reducible refine' v_andJ ?h1 ?h2 ?_); (case h1=>(walk_at "vJ"; exact ⟨rfl,rfl⟩)); (case h2=>(intro _; walk_at "vJ"; exact ⟨rfl,rfl⟩)))
 | ((with_reducible refine' t_andJ ?h1 ?h2 ?_); (case h1=>(walk_at "vJ"; exact ⟨rfl,rfl⟩)); (case h2=>(intro _; walk_at "vJ"; exact ⟨rfl,rfl⟩)))
 | ((with_reducible refine' v_chainJ ?h1 ?h2 ?h3 ?h4 ?h5 ?_); (case h1=>(walk_at "vJ"; exact ⟨rfl,rfl⟩)); (case h2=>(walk_at "vJ"; exact ⟨rfl,rfl⟩)); (case h3=>(walk_at "vJ"; exact ⟨rfl,rfl⟩)); (case h4=>(intro _; walk_at "vJ"; exact ⟨rfl,rfl⟩)); (case h5=>(intro _; walk_at "vJ"; exact ⟨rfl,rfl⟩)))
 | ((with_reducible refine' v_chain3J ?h1 ?h2 ?h3 ?h4 ?h5 ?h6 ?h7 ?_); (case h1=>(walk_at "vJ"; exact ⟨rfl,rfl⟩)); (case h2=>(walk_at "vJ"; exact ⟨rfl,rfl⟩)); (case h3=>(walk_at "vJ"; exact ⟨rfl,rfl⟩)); (case h4=>(intro _; walk_at "vJ"; exact ⟨rfl,rfl⟩)); (case h5=>(intro _; walk_at "vJ"; exact ⟨rfl,rfl⟩)); (case h6=>(intro _; walk_at "vJ"; exact ⟨rfl,rfl⟩)); (case h7=>(intro _; walk_at "vJ"; exact ⟨rfl,rfl⟩))))
local macro_rules | `(tactic| walk_at "vJ")=>`(tactic| (repeat (first | walk_at "v1" | walk_at "J")))
local macro_rules | `(tactic| walk_at "sc")=>`(tactic| exact ⟨rfl,rfl,rfl,by decide +kernel,rfl,by decide +kernel,by decide +kernel⟩)
local macro_rules | `(tactic| walk_at "cs")=>`(tactic| exact ⟨rfl,by decide +kernel,by decide +kernel,by repeat' (first | exact trivial | refine ⟨⟨rfl,rfl,by first | exact Or.inl rfl | exact Or.inr rfl⟩,?_⟩),by decide +kernel⟩)
local macro_rules | `(tactic| walk_at "vc")=>`(tactic| (walk_at "v"; walk_at "call"))
local macro_rules | `(tactic| walk_at "sv")=>`(tactic| (walk_at "st"; walk_at "v"))
def pJoined:PV:=fun as Φ=>∃(n c:Nat) (us:List Tie),n<10∧us.length≤21∧Digs us∧((as=[.d (.int n),.d (.str ⟨#[c]⟩),.d (.tup (us.map tieD))]∧Φ (.d (.str (textS n c us))) as)∨(as=[.d (.int n),.d (.str ⟨#[c]⟩),.l (us.map tieD)]∧Φ (.d (.str (textS n c us))) as))
def pPtgText:PV:=fun as Φ=>∃(n:Nat) (ts:List Tie) (bs:List Int),as=[.d (webD n ts),.d (.tup (intsD bs))]∧n<10∧ts.length≤20∧Digs (arrsL ts bs)∧(arrsL ts bs).length≤20∧Φ (.d (.str (textS n 62 (arrsL ts bs)))) as
def pFigure:PV:=fun as Φ=>∃ n:Nat,as=[.d (.str (figS n))]∧n<10∧Φ (.d (.int n)) as
def pReadPair:PV:=fun as Φ=>∃(c:Nat) (t:Tie),as=[.d (.str (wordS c t)),.d (.str ⟨#[c]⟩)]∧Digs [t]∧Φ (.d (tieD t)) as
theorem dig_pair {t:Tie} (h:0≤t.1∧t.1<10∧0≤t.2∧t.2<10):∃ i j:Nat,t=((i:Int),(j:Int))∧i<10∧j<10:=
 ⟨t.1.toNat,t.2.toNat,by rw [Int.toNat_of_nonneg h.1,Int.toNat_of_nonneg h.2.2.1],by omega,by omega⟩
theorem sp_is:Str.ofString " " = spS:=by decide
theorem da_is:Str.ofString "-" = ⟨#[45]⟩:=by decide
theorem gt_is:Str.ofString ">" = ⟨#[62]⟩:=by decide
section
variable {P:Program} {w:World} {K:PySem.W.Frag} {mg:Str→Option Value} {base:Heap}
theorem sc_joined:FnScope ["many","sign","pairs"] ["many","sign","pairs"] (defScope (top 15)):=by walk_at "sc"
theorem ok_joined {f:Addr} {fd:FuncData} (F:Fun K "joined" "joined" (top 15) f fd) (T:Txt mg):FnOk P w K mg base CX0 1 f fd ["many","sign","pairs"] (spV pJoined):=by
 refine fn_ok F sc_joined [0,1,2] (fun as Φ h=>?_) (fun cdv A outer s H E hr=>?_)
 ·obtain ⟨n,c,us,_,_,_,⟨rfl,_⟩ | ⟨rfl,_⟩⟩:=h <;> rfl
 ·have hu:=hr.units
  refine ⟨_,(pss_one (ps_ret (pe_bmK (K:=K) rfl PySem.F.plainAttrs_str PySem.F.slot_str_join PySem.F.type_str_join (mt_join (K:=K) rfl) pe_str (pa_cons (pe_op (opBK (K:=K) rfl) (pe_lst (pa_cons (pe_callTy call_str_int (by rfl) T.n_str PySem.Pv.boot_str (pa_cons (pv 0) pa_nil)) pa_nil)) (pe_comp rfl (own:=["a","b"]) (fr:=[("sign",1)]) (by walk_at "cs") (pi_anyK (K:=K) rfl (pv 2)) (fun cl C s0 H0 fp=>⟨(pg_tupK (K:=K) (n:=2) rfl rfl (pgs_cons (pg_c 0) (pgs_cons (pg_c 1) pgs_nil))),pf_nil,(pe_fmt (pv 0) (pv 2) (pv 1))⟩))) pa_nil)))),?_⟩
  have word:∀{us:List Tie},Digs us→∀ t∈us,∃ i j:Nat,t=((i:Int),(j:Int))∧i<10∧j<10:=fun dg t ht=>dig_pair (dg t ht)
  have fits:=fun (us:List Tie) (n c:Nat) (hn:n<10) (hl:us.length≤21)=>(text_few (n:=n) (c:=c) hn (us:=us) (by omega)).1
  have few:∀ n:Nat,n<10→((n:Nat):Int).natAbs.log2<1920:=fun n hn=>Nat.lt_of_le_of_lt (Nat.log2_le_self _) (by rw [Int.natAbs_natCast]; omega)
  have made:∀(n c:Nat) (us:List Tie),[D.str (figS n)]++((us.filter fun _=>true).map fun t=>D.str (wordS c t))=(textW n c us).map D.str:=fun n c us=>by
   rw [filter_true]
   show D.str (figS n)::us.map (fun t=>D.str (wordS c t))=D.str (figS n)::(us.map (wordS c)).map D.str
   rw [List.map_map]
   rfl
  rintro as Φ ⟨n,c,us,hn,hl,dg,⟨rfl,k⟩ | ⟨rfl,k⟩⟩
  ·walk_at "st"
   walk_at "v"
   refine ⟨_,rfl,?_⟩
   walk_at "v"
   refine c_strI rfl (few n hn) ?_
   walk_at "v"
   refine v_pure tieD us (fun _=>true) (fun t=>D.str (wordS c t)) (i_any ?_)
   walk_at "v"
   refine ⟨_,_,rfl,rfl,rfl,small1000 (by omega),known_of rfl,of_decide_eq_true rfl,?_,?_⟩
   ·rintro t ht os hos
    obtain ⟨z0,z1,rfl⟩:=len2 hos
    obtain ⟨i,j,rfl,hi,hj⟩:=word dg t ht
    rw [show tieD ((i:Int),(j:Int))=D.tup [.int i,.int j] from rfl]
    walk_at "v"
    refine ⟨⟨[_,_],rfl,rfl⟩,t_true ⟨rfl,rfl⟩,fun _=>?_⟩
    walk_at "v"
    refine ⟨i,rfl,hi,?_⟩
    walk_at "v"
    refine ⟨_,rfl,by show 1≤100; decide,?_⟩
    walk_at "v"
    exact ⟨j,rfl,hj,congrArg (fun z=>some (D.str z)) (fmt_is hi hj),rfl⟩
   refine OpV.r (OpV.l (o_catL rfl rfl (szl (by rw [List.length_map,filter_true]; show 1+us.length≤1000; omega)) ?_))
   rw [show D.str (Str.ofString (toString ((n:Nat):Int)))=D.str (figS n) from rfl,made,sp_is]
   refine a_nil ⟨_,⟨_,rfl,rfl⟩,fits us n c hn hl,⟨_,rfl⟩,k⟩
  ·walk_at "st"
   walk_at "v"
   refine ⟨_,rfl,?_⟩
   walk_at "v"
   refine c_strI rfl (few n hn) ?_
   walk_at "v"
   refine v_pureL tieD us (fun _=>true) (fun t=>D.str (wordS c t)) rfl rfl (small1000 (by omega)) (known_of rfl) (of_decide_eq_true rfl) ?_ ?_
   ·rintro t ht os hos
    obtain ⟨z0,z1,rfl⟩:=len2 hos
    obtain ⟨i,j,rfl,hi,hj⟩:=word dg t ht
    rw [show tieD ((i:Int),(j:Int))=D.tup [.int i,.int j] from rfl]
    walk_at "v"
    refine ⟨⟨[_,_],rfl,rfl⟩,t_true ⟨rfl,rfl⟩,fun _=>?_⟩
    walk_at "v"
    refine ⟨i,rfl,hi,?_⟩
    walk_at "v"
    refine ⟨_,rfl,by show 1≤100; decide,?_⟩
    walk_at "v"
    exact ⟨j,rfl,hj,congrArg (fun z=>some (D.str z)) (fmt_is hi hj),rfl⟩
   refine OpV.r (OpV.l (o_catL rfl rfl (szl (by rw [List.length_map,filter_true]; show 1+us.length≤1000; omega)) ?_))
   rw [show D.str (Str.ofString (toString ((n:Nat):Int)))=D.str (figS n) from rfl,made,sp_is]
   refine a_nil ⟨_,⟨_,rfl,rfl⟩,fits us n c hn hl,⟨_,rfl⟩,k⟩
theorem sc_pointing_text:FnScope ["web","pointing"] ["web","pointing"] (defScope (top 16)):=by walk_at "sc"
theorem ok_pointing_text {f:Addr} {fd:FuncData} (F:Fun K "pointing_text" "pointing_text" (top 16) f fd) (T:Txt mg) (G_joined:Has P w K mg base "joined" (top 15) ["many","sign","pairs"] 1 (spV pJoined))
  (G_arrows:Has P w K mg base "arrows" (top 12) ["web","pointing"] 1 (spV pArrows)):FnOk P w K mg base CX0 2 f fd ["web","pointing"] (spV pPtgText):=by
 refine fn_ok F sc_pointing_text [0,1] (fun as Φ h=>?_) (fun cdv A outer s H E hr=>?_)
 ·obtain ⟨n,ts,bs,rfl,_⟩:=h
  rfl
 ·have hu:=hr.units
  refine ⟨_,(pss_one (ps_ret (pe_cd G_joined hr (pa_cons (pe_x (pv 0) pe_int) (pa_cons pe_str (pa_cons (pe_cd G_arrows hr (pa_cons (pv 0) (pa_cons (pv 1) pa_nil))) pa_nil)))))),?_⟩
  rintro as Φ ⟨n,ts,bs,rfl,hn,hl,dg,ha,k⟩
  walk_at "st"
  refine s_ret (v_call ?_)
  walk_at "vc"
  refine ⟨n,ts,bs,rfl,hl,⟨⟨_,rfl⟩,?_⟩⟩
  walk_at "sv"
  refine ⟨of_decide_eq_true rfl,?_⟩
  walk_at "st"
  refine ⟨n,62,arrsL ts bs,hn,by omega,dg,.inr ⟨?_,⟨⟨_,rfl⟩,⟨_,rfl⟩,k⟩⟩⟩
  rw [gt_is]
end
local macro_rules | `(tactic| walk_at "nm")=>`(tactic| first
 | ((with_reducible refine nm8 ?_); intro _ _ _ _ _ _ _ _ _)
 | ((with_reducible refine nm6 ?_); intro _ _ _ _ _ _ _)
 | ((with_reducible refine nm5 ?_); intro _ _ _ _ _ _)
 | ((with_reducible refine nm4 ?_); intro _ _ _ _ _)
 | ((with_reducible refine nm3 ?_); intro _ _ _ _)
 | ((with_reducible refine nm2 ?_); intro _ _ _))
local macro_rules | `(tactic| walk_at "nf")=>`(tactic| first
 | ((with_reducible refine nf14 ?_); intro _ _ _ _ _ _ _ _ _ _ _ _ _ _ _))
local macro_rules | `(tactic| walk_at "ps")=>`(tactic| try ((with_reducible refine s_psi ?_); intro _))
local macro_rules | `(tactic| walk_at "rf")=>`(tactic| first | rfl | decide)
local macro_rules | `(tactic| walk_at "op")=>`(tactic| first
 | ((with_reducible refine' o_i0 ?h1 ?h2 ?_); (case h1=>rfl); (case h2=>rfl))
 | ((with_reducible refine' OpV.l (o_i0 ?h1 ?h2 ?_)); (case h1=>rfl); (case h2=>rfl))
 | ((with_reducible refine' o_b0 ?h1 ?h2 ?_); (case h1=>rfl); (case h2=>rfl))
 | ((with_reducible refine' OpV.l (o_b0 ?h1 ?h2 ?_)); (case h1=>rfl); (case h2=>rfl))
 | ((with_reducible refine' OpV.l (o_eqI ?h1 ?h2 ?_)); (case h1=>rfl); (case h2=>rfl))
 | ((with_reducible refine' OpV.l (o_neI ?h1 ?h2 ?_)); (case h1=>rfl); (case h2=>rfl))
 | ((with_reducible refine' OpV.l (o_eqB ?h1 ?h2 ?_)); (case h1=>rfl); (case h2=>rfl))
 | ((with_reducible refine' o_isN ?h1 ?_); (case h1=>rfl))
 | ((with_reducible refine' o_notN ?h1 ?_); (case h1=>rfl))
 | ((with_reducible refine' o_neNil ?h1 ?h2 ?h3 ?_); (case h1=>rfl); (case h2=>rfl); (case h3=>first | exact dep_int _ | assumption))
 | ((with_reducible refine' OpV.r (OpV.l (o_catL ?h1 ?h2 ?h3 ?_))); (case h1=>rfl); (case h2=>rfl); (case h3=>exact szl (Nat.le_of_ble_eq_true rfl)))
 | ((with_reducible refine' o_ixT ?h1 ?h2 ?h3 ?_); (case h1=>rfl); (case h2=>rfl); (case h3=>rfl))
 | ((with_reducible refine' o_ixL ?h1 ?h2 ?h3 ?_); (case h1=>rfl); (case h2=>rfl); (case h3=>rfl))
 | ((with_reducible refine' o_ixL ?h1 ?h2 ?h3 ?_); (case h1=>rfl); (case h2=>rfl); (case h3=>assumption))
 | ((with_reducible refine' o_ixT ?h1 ?h2 ?h3 ?_); (case h1=>rfl); (case h2=>rfl); (case h3=>assumption)))
local macro_rules | `(tactic| walk_at "ca")=>`(tactic| first
 | ((with_reducible refine' u_i ?h1 ?_); (case h1=>rfl))
 | ((with_reducible refine' c_ii ?h1 ?h2 ?_); (case h1=>rfl); (case h2=>rfl))
 | ((with_reducible refine' c_lenL ?h1 ?_); (case h1=>rfl))
 | ((with_reducible refine' c_lenT ?h1 ?_); (case h1=>rfl))
 | ((with_reducible refine' c_tupleL ?h1 ?_); (case h1=>rfl))
 | ((with_reducible refine' c_listT ?h1 ?_); (case h1=>rfl))
 | ((with_reducible refine' c_int_b ?h1 ?_); (case h1=>rfl))
 | ((with_reducible refine' c_isinst ?h1 ?h2 ?_); (case h1=>rfl); (case h2=>rfl)))
local macro_rules | `(tactic| walk_at "v1")=>`(tactic| first
 | with_reducible refine v_op ?_
 | with_reducible refine v_int ?_
 | ((with_reducible refine' v_var_d ?h ?_); (case h=>rfl))
 | ((with_reducible refine' v_var_l ?h ?_); (case h=>rfl))
 | ((with_reducible refine' v_var_f ?h ?_); (case h=>rfl))
 | with_reducible refine v_cb ?_
 | with_reducible refine v_join ?_
 | with_reducible refine v_split ?_
 | with_reducible refine v_fmt ?_
 | with_reducible refine v_idxF ?_
 | with_reducible refine v_revX ?_
 | with_reducible refine v_bm ?_
 | (refine ⟨⟨rfl,_,(rfl:rd _ _=some (D.lst _))⟩,?_⟩)
 | with_reducible refine a_cons ?_
 | with_reducible refine a_nil ?_
 | with_reducible refine v_tup ?_
 | with_reducible refine v_lst ?_
 | with_reducible refine v_bl ?_
 | with_reducible refine v_non ?_
 | with_reducible refine v_str ?_
 | with_reducible refine v_raw ?_
 | with_reducible refine v_sl ?_
 | with_reducible refine p_none ?_
 | with_reducible refine p_some ?_
 | with_reducible refine v_un ?_
 | with_reducible refine v_not ?_
 | with_reducible refine t_test ?_
 | with_reducible refine t_tru ?_
 | with_reducible refine t_true ?_
 | with_reducible refine t_not ?_
 | with_reducible refine s_seqN ?_
 | walk_at "nm"
 | with_reducible refine s_seq ?_
 | with_reducible refine s_asg ?_
 | ((with_reducible refine' g_name ?h ?_); (case h=>rfl))
 | ((with_reducible refine' g_tup ?h1 ?h2 ?_); (case h1=>rfl); (case h2=>rfl))
 | with_reducible refine gs_cons ?_
 | with_reducible refine g_put ?_
 | (refine ⟨_,(rfl:Rs.it _=some _),?_⟩)
 | (refine ⟨_,(rfl:_=Rs.b _),?_⟩)
 | with_reducible refine gs_nil ?_
 | with_reducible refine s_ret ?_
 | with_reducible refine s_drop ?_
 | with_reducible refine s_if ?_
 | with_reducible refine s_next ?_
 | walk_at "op"
 | walk_at "ca"
 | (refine ⟨_,(rfl:rd _ _=some _),?_⟩)
 | (refine ⟨_,_,(rfl:rd _ _=some _),(rfl:truD _=some _),?_⟩)
 | (refine ⟨_,(rfl:its _=some _),szl (Nat.le_of_ble_eq_true rfl),?_⟩))
local macro_rules | `(tactic| walk_at "v")=>`(tactic| (repeat (walk_at "v1")))
local macro_rules | `(tactic| walk_at "st")=>`(tactic| try dsimp only [List.length_cons,List.length_nil,Nat.reduceAdd,Nat.reduceSub,List.replicate,List.cons_append,List.nil_append,List.set,caps,List.map,Rs.sl,wb,L4.outer,capt,List.drop,inner,List.getElem?_cons_zero,List.getElem?_cons_succ,List.headD,List.tail,argS,Option.getD])
local macro_rules | `(tactic| walk_at "call")=>`(tactic| ((with_reducible refine v_call ?_); walk_at "v"; (refine ⟨of_decide_eq_true rfl,?_⟩); walk_at "st"))
local macro_rules | `(tactic| walk_at "J")=>`(tactic| first
 | ((with_reducible refine' v_orJ ?h1 ?h2 ?_); (case h1=>(walk_at "vJ"; exact ⟨rfl,rfl⟩)); (case h2=>(intro _; walk_at "vJ"; exact ⟨rfl,rfl⟩)))
 | ((with_reducible refine' v_andJ ?h1 ?h2 ?_); (case h1=>(walk_at "vJ"; exact ⟨rfl,rfl⟩)); (case h2=>(intro _; walk_at "vJ"; exact ⟨rfl,rfl⟩)))
 | ((with_reducible refine' t_andJ ?h1 ?h2 ?_); (case h1=>(walk_at "vJ"; exact ⟨rfl,rfl⟩)); (case h2=>(intro _; walk_at "vJ"; exact ⟨rfl,rfl⟩)))
 | ((with_reducible refine' v_chainJ ?h1 ?h2 ?h3 ?h4 ?h5 ?_); (case h1=>(walk_at "vJ"; exact ⟨rfl,rfl⟩)); (case h2=>(walk_at "vJ"; exact ⟨rfl,rfl⟩)); (case h3=>(walk_at "vJ"; exact ⟨rfl,rfl⟩)); (case h4=>(intro _; walk_at "vJ"; exact ⟨rfl,rfl⟩)); (case h5=>(intro _; walk_at "vJ"; exact ⟨rfl,rfl⟩)))
 | ((with_reducible refine' v_chain3J ?h1 ?h2 ?h3 ?h4 ?h5 ?h6 ?h7 ?_); (case h1=>(walk_at "vJ"; exact ⟨rfl,rfl⟩)); (case h2=>(walk_at "vJ"; exact ⟨rfl,rfl⟩)); (case h3=>(walk_at "vJ"; exact ⟨rfl,rfl⟩)); (case h4=>(intro _; walk_at "vJ"; exact ⟨rfl,rfl⟩)); (case h5=>(intro _; walk_at "vJ"; exact ⟨rfl,rfl⟩)); (case h6=>(intro _; walk_at "vJ"; exact ⟨rfl,rfl⟩)); (case h7=>(intro _; walk_at "vJ"; exact ⟨rfl,rfl⟩))))
local macro_rules | `(tactic| walk_at "vJ")=>`(tactic| (repeat (first | walk_at "v1" | walk_at "J")))
local macro_rules | `(tactic| walk_at "sc")=>`(tactic| exact ⟨rfl,rfl,rfl,by decide +kernel,rfl,by decide +kernel,by decide +kernel⟩)
local macro_rules | `(tactic| walk_at "cs")=>`(tactic| exact ⟨rfl,by decide +kernel,by decide +kernel,by repeat' (first | exact trivial | refine ⟨⟨rfl,rfl,by first | exact Or.inl rfl | exact Or.inr rfl⟩,?_⟩),by decide +kernel⟩)
local macro_rules | `(tactic| walk_at "vc")=>`(tactic| (walk_at "v"; walk_at "call"))
local macro_rules | `(tactic| walk_at "sv")=>`(tactic| (walk_at "st"; walk_at "v"))
structure Exs (K:PySem.W.Frag) (mg:Str→Option Value) (CT CR CN:Addr):Prop where
 xT:ExcK K CT
 iT:ExcI K CT
 mT:mg "NoText" = some (.ref CT)
 mR:mg "RillError" = some (.ref CR)
 mN:mg "NoFall" = some (.ref CN)
 eR:PySem.W.exmOne K (.ref CT) (.ref CR)=some true
 kT:PySem.W.kitOne K (.ref CT) (.ref CT)=some true
 kV:PySem.W.kitOne K (.ref CT) (.type "ValueError")=some true
 kN:PySem.W.kitOne K (.ref CT) (.ref CN)=some false
def isFig (w:Str):Prop:=∃ n:Nat,n<10∧w=figS n
def isWord (c:Nat) (w:Str):Prop:=∃ t:Tie,Digs [t]∧w=wordS c t
def isText (c:Nat) (z:Str) (n:Nat) (us:List Tie):Prop:=n<10∧Digs us∧z=textS n c us
theorem one_of_len:∀{w:Str},w.length=1→∃ x,w=⟨#[x]⟩
 | ⟨⟨[]⟩⟩,h=>by cases h
 | ⟨⟨[x]⟩⟩,_=>⟨x,rfl⟩
 | ⟨⟨_::_::_⟩⟩,h=>by cases h
theorem three_of_len:∀{w:Str},w.length=3→∃ x y z,w=⟨#[x,y,z]⟩
 | ⟨⟨[]⟩⟩,h=>by cases h
 | ⟨⟨[_]⟩⟩,h=>by cases h
 | ⟨⟨[_,_]⟩⟩,h=>by cases h
 | ⟨⟨[x,y,z]⟩⟩,_=>⟨x,y,z,rfl⟩
 | ⟨⟨_::_::_::_::_⟩⟩,h=>by cases h
theorem str_inj {a b:List Nat} (h:(⟨⟨a⟩⟩:Str)=⟨⟨b⟩⟩):a=b:=by cases h; rfl
theorem in_digs (x:Nat):x∈figsT.cps.toList↔∃ n:Nat,n<10∧x=48+n:=by
 have e:figsT.cps.toList=[48,49,50,51,52,53,54,55,56,57]:=by decide
 rw [e]
 constructor
 ·intro h
  have:48≤x∧x<58:=by
   simp only [List.mem_cons,List.not_mem_nil,or_false] at h
   omega
  exact ⟨x - 48,by omega,by omega⟩
 ·rintro ⟨n,hn,rfl⟩
  have all:∀ n:Nat,n<10→(48+n)∈[48,49,50,51,52,53,54,55,56,57]:=by decide
  exact all n hn
theorem fig_one {x:Nat}:isFig ⟨#[x]⟩↔x∈figsT.cps.toList:=by
 rw [in_digs]
 constructor
 ·rintro ⟨n,hn,e⟩
  rw [fig_is n hn] at e
  exact ⟨n,hn,(List.cons.inj (str_inj e)).1⟩
 ·rintro ⟨n,hn,rfl⟩
  exact ⟨n,hn,(fig_is n hn).symm⟩
theorem word_three {c x y z:Nat}:isWord c ⟨#[x,y,z]⟩↔y=c∧isFig ⟨#[x]⟩∧isFig ⟨#[z]⟩:=by
 constructor
 ·rintro ⟨t,dt,e⟩
  obtain ⟨i,j,rfl,hi,hj⟩:=dig_pair (dt _ List.mem_cons_self)
  have e2:=str_inj (a:=[x,y,z]) (b:=[48+i,c,48+j]) e
  simp only [List.cons.injEq,and_true] at e2
  obtain ⟨rfl,rfl,rfl⟩:=e2
  exact ⟨rfl,⟨i,hi,(fig_is i hi).symm⟩,⟨j,hj,(fig_is j hj).symm⟩⟩
 ·rintro ⟨rfl,⟨i,hi,e1⟩,⟨j,hj,e2⟩⟩
  rw [fig_is i hi] at e1
  rw [fig_is j hj] at e2
  have e1:=(List.cons.inj (str_inj e1)).1
  have e2:=(List.cons.inj (str_inj e2)).1
  subst e1 e2
  exact ⟨((i:Int),(j:Int)),fun t ht=>by rw [List.mem_singleton.mp ht]; exact ⟨by omega,by show (i:Int)<10; omega,by omega,by show (j:Int)<10; omega⟩,rfl⟩
theorem fig_len1 {w:Str} (h:isFig w):w.length=1:=by
 obtain ⟨n,hn,rfl⟩:=h
 exact fig_len hn
theorem word_len3 {c:Nat} {w:Str} (h:isWord c w):w.length=3:=by
 obtain ⟨t,_,rfl⟩:=h
 rfl
theorem text_words {c n:Nat} {us:List Tie} {z:Str} (hc:c≠32) (h:isText c z n us):Txt.split z ⟨#[32]⟩=textW n c us:=by
 obtain ⟨hn,_,rfl⟩:=h
 exact text_split hn hc us
theorem words_text {c:Nat} {z:Str} (hw:∃ w ws,Txt.split z ⟨#[32]⟩=w::ws∧isFig w∧∀ v∈ws,isWord c v):∃ n us,isText c z n us:=by
 obtain ⟨w,ws,e,⟨n,hn,rfl⟩,hws⟩:=hw
 have pick:∀ ws:List Str,(∀ v∈ws,isWord c v)→∃ us:List Tie,Digs us∧ws=us.map (wordS c):=fun ws=>by
  induction ws with
  | nil=>exact fun _=>⟨[],(fun _ h=>nomatch h),rfl⟩
  | cons v ws ih=>
   intro h
   obtain ⟨us,d,e⟩:=ih fun y hy=>h y (List.mem_cons_of_mem _ hy)
   obtain ⟨t,dt,e2⟩:=h v List.mem_cons_self
   refine ⟨t::us,fun u hu=>?_,by rw [e,e2]; rfl⟩
   rcases List.mem_cons.mp hu with q | q
   ·rw [q]
    exact dt t List.mem_cons_self
   ·exact d u q
 obtain ⟨us,d,e2⟩:=pick ws hws
 refine ⟨n,us,hn,d,?_⟩
 have j:=StrLaws.join_split z ⟨#[32]⟩
 rw [e,e2] at j
 rw [← j]
 exact (StrLaws.glued_eq_join spS (textW n c us)).symm
theorem text_of {c n:Nat} {us:List Tie} {z:Str} (hc:c≠32) (h:isText c z n us):∃ w ws,Txt.split z ⟨#[32]⟩=w::ws∧isFig w∧∀ v∈ws,isWord c v:=by
 refine ⟨figS n,us.map (wordS c),text_words hc h,⟨n,h.1,rfl⟩,fun v hv=>?_⟩
 obtain ⟨t,ht,rfl⟩:=List.mem_map.mp hv
 exact ⟨t,fun u hu=>by rw [List.mem_singleton.mp hu]; exact h.2.1 t ht,rfl⟩
theorem ties_few {c n:Nat} {us:List Tie} (hn:n<10) (hc:c≠32):us.length≤(textS n c us).length+1:=by
 have h:=PyProof.Rows.split_le (textS n c us) ⟨#[32]⟩
 rw [text_split hn hc] at h
 have:(textW n c us).length=us.length+1:=by
  show (us.map (wordS c)).length+1=_
  rw [List.length_map]
 omega
theorem joinL_len {l:List Nat}:∀{ls:List (List Nat)},l∈ls→l.length≤(joinL ls).length
 | [x],h=>by
  rw [List.mem_singleton.mp h]
  exact Nat.le_refl _
 | x::y::r,h=>by
  show l.length≤(x++32::joinL (y::r)).length
  rw [List.length_append,List.length_cons]
  rcases List.mem_cons.mp h with q | q
  ·rw [q]
   omega
  ·have:=joinL_len (ls:=y::r) q
   omega
theorem part_len {z w:Str} (h:w∈Txt.split z ⟨#[32]⟩):w.length≤z.length:=by
 have e:=StrLaws.join_split z ⟨#[32]⟩
 have e2:=congrArg (fun s:Str=>s.cps.toList) e
 have e3:=join_list (Txt.split z ⟨#[32]⟩)
 have h2:w.cps.toList.length≤(joinL ((Txt.split z ⟨#[32]⟩).map fun w=>w.cps.toList)).length:=joinL_len (List.mem_map.mpr ⟨w,h,rfl⟩)
 rw [← e3] at h2
 have e4:(Str.join spS (Txt.split z ⟨#[32]⟩)).cps.toList=z.cps.toList:=e2
 rw [e4,Array.length_toList,Array.length_toList] at h2
 exact h2
theorem first_bad {α:Type} {p:α→Prop}:∀{l:List α},(¬ ∀ a∈l,p a)→∃ k a,l[k]? = some a∧(∀ b∈l.take k,p b)∧¬ p a
 | [],h=>absurd (fun _ z=>nomatch z) h
 | a::l,h=>by
  by_cases z:p a
  ·obtain ⟨k,b,e,h1,h2⟩:=first_bad (l:=l) (p:=p) fun y=>h fun c hc=>by
    rcases List.mem_cons.mp hc with q | q
    ·rw [q]
     exact z
    ·exact y c q
   refine ⟨k+1,b,e,fun c hc=>?_,h2⟩
   rcases List.mem_cons.mp hc with q | q
   ·rw [q]
    exact z
   ·exact h1 c q
  ·exact ⟨0,a,rfl,(fun _ y=>nomatch y),z⟩
def pFigX (CT:Addr):PX:=fun as cls=>∃ w:Str,as=[.d (.str w)]∧w.length≤1001∧¬ isFig w∧cls=.ref CT
def pPairX (CT:Addr):PX:=fun as cls=>∃(c:Nat) (w:Str),as=[.d (.str w),.d (.str ⟨#[c]⟩)]∧w.length≤1001∧¬ isWord c w∧cls=.ref CT
def pPairs:PV:=fun as Φ=>∃(n c:Nat) (us:List Tie),as=[.d (.str (textS n c us)),.d (.str ⟨#[c]⟩)]∧n<10∧c≠32∧(textS n c us).length≤1000∧Digs us∧Φ (.d (.tup [.int n,.lst (us.map tieD)])) as
def pPairsX (CT:Addr):PX:=fun as cls=>∃(c:Nat) (d:D),as=[.d d,.d (.str ⟨#[c]⟩)]∧c≠32∧(∀ z,d=.str z→z.length≤1000∧¬ ∃ n us,isText c z n us)∧cls=.ref CT
section
variable {P:Program} {w:World} {K:PySem.W.Frag} {mg:Str→Option Value} {base:Heap} {CT CR CN:Addr}
theorem sc_read_figure:FnScope ["word"] ["word"] (defScope (top 17)):=by walk_at "sc"
theorem okE_read_figure {f:Addr} {fd:FuncData} (F:Fun K "read_figure" "read_figure" (top 17) f fd) (T:Txt mg) (x:Exs K mg CT CR CN):FnOk P w K mg base (CXA P w) 1 f fd ["word"] (spE pFigure (pFigX CT)):=by
 refine fn_okE F sc_read_figure [0] (fun as Φ h=>?_) (fun as cls h=>?_) (fun cdv A outer s H E hr=>?_)
 ·obtain ⟨n,rfl,_⟩:=h
  rfl
 ·obtain ⟨n,rfl,_⟩:=h
  rfl
 ·have hu:=hr.units
  refine ⟨_,(pss_cons (ps_if (PW.pt (pw_or (pt_cmpR (opNe hu) (pe_callB call_len_str (by rfl) T.n_len PySem.boot_len (pa_cons (pv 0) pa_nil)) pe_int (nomark _)) (pw_or1 (pt_cmpR op_notin_str (pv 0) (pe_globS (by rfl) T.g_FIGURES) (by with_unfolding_all rfl)))))
   (pss_one (ps_raise (φ:=E (.ref CT) none) x.xT x.mT (by rfl) rfl rfl (pa_cons pe_str pa_nil) (fun pins σ H s e xs I y q=>fly I y (.inl rfl) q)))
   pss_nil)
   (pss_one (ps_ret (pe_callTy call_intS (by rfl) T.n_int PyProof.Rows.boot_int (pa_cons (pv 0) pa_nil))))),?_,?_⟩
  ·rintro as Φ ⟨n,rfl,hn,k⟩
   have l1:=fig_len hn
   have big:1000≤sizeLine:=by decide
   walk_at "st"
   refine s_cut (fun ρ=>ρ=[.d (.str (figS n))]) ?_ ?_
   ·refine s_if (t_or ?_)
    walk_at "v"
    refine c_lenS rfl (by omega) ?_
    rw [l1]
    walk_at "v"
    refine ite_no ?_
    walk_at "v"
    refine o_ninS rfl rfl ?_
    rw [fig_in n hn]
    walk_at "v"
    refine ite_no ?_
    exact s_next rfl
   rintro ρ rfl
   walk_at "v"
   refine c_intS rfl hn ?_
   exact ⟨⟨_,rfl⟩,k⟩
  ·rintro as cls ⟨w,rfl,hw,no,rfl⟩
   have big:1001≤sizeLine:=by decide
   walk_at "st"
   refine x_seq (x_if (t_or ?_))
   walk_at "v"
   refine c_lenS rfl (by omega) ?_
   walk_at "v"
   refine ite2 (fun h1=>?_) (fun h1=>?_)
   ·rw [if_pos rfl]
    refine x_raise ?_
    walk_at "v"
    exact Nat.le_of_ble_eq_true rfl
   ·have l1:w.length=1:=by
     have:=of_decide_eq_true (nb_true h1)
     omega
    obtain ⟨y,rfl⟩:=one_of_len l1
    walk_at "v"
    refine o_ninS rfl rfl ?_
    rw [StrLaws.found_one,decide_eq_false fun z=>no (fig_one.mpr z)]
    walk_at "v"
    refine ite2 (fun _=>?_) (fun z=>absurd rfl z)
    refine x_raise ?_
    walk_at "v"
    exact Nat.le_of_ble_eq_true rfl
theorem sc_read_pair:FnScope ["word","sign"] ["word","sign"] (defScope (top 18)):=by walk_at "sc"
theorem okE_read_pair {f:Addr} {fd:FuncData} (F:Fun K "read_pair" "read_pair" (top 18) f fd) (T:Txt mg) (x:Exs K mg CT CR CN) (G_read_figure:HasE P w K mg base "read_figure" (top 17) ["word"] 1 (spE pFigure (pFigX CT))):FnOk P w K mg base (CXA P w) 2 f fd ["word","sign"] (spE pReadPair (pPairX CT)):=by
 refine fn_okE F sc_read_pair [0,1] (fun as Φ h=>?_) (fun as cls h=>?_) (fun cdv A outer s H E hr=>?_)
 ·obtain ⟨c,t,rfl,_⟩:=h
  rfl
 ·obtain ⟨c,t,rfl,_⟩:=h
  rfl
 ·have hu:=hr.units
  refine ⟨_,(pss_cons (ps_if (PW.pt (pw_or (pt_cmpR (opNe hu) (pe_callB call_len_str (by rfl) T.n_len PySem.boot_len (pa_cons (pv 0) pa_nil)) pe_int (nomark _)) (pw_or1 (pt_cmpR (opNe hu) (pe_x (pv 0) pe_int) (pv 1) (nomark _)))))
   (pss_one (ps_raise (φ:=E (.ref CT) none) x.xT x.mT (by rfl) rfl rfl (pa_cons pe_str pa_nil) (fun pins σ H s e xs I y q=>fly I y (.inl rfl) q)))
   pss_nil)
   (pss_one (ps_ret (pe_tup (pa_cons (pe_cdE G_read_figure hr passA (pa_cons (pe_x (pv 0) pe_int) pa_nil)) (pa_cons (pe_cdE G_read_figure hr passA (pa_cons (pe_x (pv 0) pe_int) pa_nil)) pa_nil)))))),?_,?_⟩
  ·rintro as Φ ⟨c,t,rfl,dg,k⟩
   obtain ⟨i,j,rfl,hi,hj⟩:=dig_pair (dg t List.mem_cons_self)
   have big:1000≤sizeLine:=by decide
   have w3:(wordS c ((i:Int),(j:Int))).length≤sizeLine:=by show 3≤_; omega
   walk_at "st"
   refine s_cut (fun ρ=>ρ=[.d (.str (wordS c ((i:Int),(j:Int)))),.d (.str ⟨#[c]⟩)]) ?_ ?_
   ·refine s_if (t_or ?_)
    walk_at "v"
    refine c_lenS rfl w3 ?_
    rw [word_len]
    walk_at "v"
    refine ite_no ?_
    walk_at "v"
    refine o_ixS (c:=c) rfl rfl w3 rfl ?_
    walk_at "v"
    refine OpV.l (o_neS rfl rfl rfl rfl rfl ?_)
    rw [decide_eq_true rfl]
    refine ⟨_,rfl,?_⟩
    refine ite_no ?_
    exact s_next rfl
   rintro ρ rfl
   refine s_ret (v_tup (a_cons (v_callE ?_)))
   walk_at "v"
   refine o_ixS (c:=48+i) rfl rfl w3 rfl ?_
   walk_at "v"
   refine ⟨of_decide_eq_true rfl,?_⟩
   walk_at "st"
   refine ⟨i,by rw [fig_is i hi],hi,⟨⟨_,rfl⟩,?_⟩⟩
   walk_at "st"
   refine a_cons (v_callE ?_)
   walk_at "v"
   refine o_ixS (c:=48+j) rfl rfl w3 rfl ?_
   walk_at "v"
   refine ⟨of_decide_eq_true rfl,?_⟩
   walk_at "st"
   refine ⟨j,by rw [fig_is j hj],hj,⟨⟨_,rfl⟩,?_⟩⟩
   walk_at "sv"
   exact ⟨⟨_,rfl⟩,k⟩
  ·rintro as cls ⟨c,w,rfl,hw,no,rfl⟩
   have big:1001≤sizeLine:=by decide
   walk_at "st"
   refine x_of (r_cut (fun ρ=>ρ=[.d (.str w),.d (.str ⟨#[c]⟩)]∧∃ a b,w=⟨#[a,c,b]⟩) (r_if (t_or ?_)) ?_)
   ·walk_at "v"
    refine c_lenS rfl (by omega) ?_
    walk_at "v"
    refine ite2 (fun h1=>?_) (fun h1=>?_)
    ·rw [if_pos rfl]
     refine r_x (x_raise ?_)
     walk_at "v"
     exact Nat.le_of_ble_eq_true rfl
    have l3:w.length=3:=by
     have:=of_decide_eq_true (nb_true h1)
     omega
    obtain ⟨a,y,b,rfl⟩:=three_of_len l3
    walk_at "v"
    refine o_ixS (c:=y) rfl rfl (by show 3≤_; omega) rfl ?_
    walk_at "v"
    refine OpV.l (o_neS rfl rfl rfl rfl rfl ?_)
    refine ⟨_,rfl,?_⟩
    refine ite2 (fun h2=>?_) (fun h2=>?_)
    ·refine r_x (x_raise ?_)
     walk_at "v"
     exact Nat.le_of_ble_eq_true rfl
    have ey:y=c:=by
     have:=of_decide_eq_true (nb_true h2)
     exact (List.cons.inj (str_inj (V.str.inj this))).1
    subst ey
    exact r_of (s_next ⟨rfl,a,b,rfl⟩)
   rintro ρ ⟨rfl,a,b,rfl⟩
   have w3:(⟨#[a,c,b]⟩:Str).length≤sizeLine:=by show 3≤_; omega
   refine r_x (x_ret (vx_tup ?_))
   by_cases fa:isFig ⟨#[a]⟩
   ·have fb:¬ isFig ⟨#[b]⟩:=fun z=>no (word_three.mpr ⟨rfl,fa,z⟩)
    obtain ⟨n,hn,ea⟩:=fa
    refine ax_cons (v_callE ?_)
    walk_at "v"
    refine o_ixS (c:=a) rfl rfl w3 rfl ?_
    walk_at "v"
    refine ⟨of_decide_eq_true rfl,?_⟩
    walk_at "st"
    refine ⟨n,by rw [ea],hn,⟨⟨_,rfl⟩,?_⟩⟩
    walk_at "st"
    refine ⟨⟨_,rfl⟩,ax_here (vx_call ?_)⟩
    walk_at "v"
    refine o_ixS (c:=b) rfl rfl w3 rfl ?_
    walk_at "v"
    refine ⟨of_decide_eq_true rfl,?_⟩
    walk_at "st"
    exact ⟨_,rfl,by show 1≤1001; decide,fb,rfl⟩
   ·refine ax_here (vx_call ?_)
    walk_at "v"
    refine o_ixS (c:=a) rfl rfl w3 rfl ?_
    walk_at "v"
    refine ⟨of_decide_eq_true rfl,?_⟩
    walk_at "st"
    exact ⟨_,rfl,by show 1≤1001; decide,fa,rfl⟩
theorem sc_read_pairs:FnScope ["thing","sign","words"] ["thing","sign"] (defScope (top 19)):=by walk_at "sc"
def numT (w:Str):Tie:=(((w.cps.getD 0 0:Nat):Int) - 48,((w.cps.getD 2 0:Nat):Int) - 48)
theorem num_word {c:Nat} {t:Tie} (h:Digs [t]):numT (wordS c t)=t:=by
 obtain ⟨i,j,rfl,hi,hj⟩:=dig_pair (h _ List.mem_cons_self)
 show (((48+i:Nat):Int) - 48,((48+j:Nat):Int) - 48)=_
 rw [show ((48+i:Nat):Int) - 48=(i:Int) by omega,show ((48+j:Nat):Int) - 48=(j:Int) by omega]
theorem cut_one (ws:List Str):cutD (ws.map D.str) (some 1) none=(ws.drop 1).map D.str:=by
 rw [show (some (1:Int))=some ((1:Nat):Int) from rfl,cut_from,List.map_drop]
def isStrB:D→Bool
 | .str _=>true
 | _=>false
theorem kit_strB (K:PySem.W.Frag) (d:D):PySem.W.kitOne K (.type (tyD d)) (.type "str")=some (isStrB d):=by cases d <;> rfl
theorem okE_read_pairs {f:Addr} {fd:FuncData} (F:Fun K "read_pairs" "read_pairs" (top 19) f fd) (T:Txt mg) (x:Exs K mg CT CR CN) (G_read_figure:HasE P w K mg base "read_figure" (top 17) ["word"] 1 (spE pFigure (pFigX CT)))
  (G_read_pair:HasE P w K mg base "read_pair" (top 18) ["word","sign"] 2 (spE pReadPair (pPairX CT))):FnOk P w K mg base (CXA P w) 3 f fd ["thing","sign"] (spE pPairs (pPairsX CT)):=by
 refine fn_okE F sc_read_pairs [0,1] (fun as Φ h=>?_) (fun as cls h=>?_) (fun cdv A outer s H E hr=>?_)
 ·obtain ⟨n,c,us,rfl,_⟩:=h
  rfl
 ·obtain ⟨n,c,rfl,_⟩:=h
  rfl
 ·have hu:=hr.units
  refine ⟨_,(pss_cons (ps_if (pt_not (pt_truthK (K:=K) rfl (pe_callB (isinstK (K:=K) rfl) (by rfl) T.n_isinstance PyProof.Rows.boot_isinstance (pa_cons (pv 0) (pa_cons (pe_bltn (v:=.ty "str") (by rfl) T.n_str PyProof.Rows.boot_str rfl) pa_nil))) (fun _=>rfl)))
   (pss_one (ps_raise (φ:=E (.ref CT) none) x.xT x.mT (by rfl) rfl rfl (pa_cons pe_str pa_nil) (fun pins σ H s e xs I y q=>fly I y (.inl rfl) q)))
   pss_nil)
   (pss_cons (ps_s 2 sc_read_pairs (pe_bmK (K:=K) rfl PySem.F.plainAttrs_str PySem.F.slot_str_split PySem.F.type_str_split mt_split (pv 0) (pa_cons pe_str pa_nil)))
   (pss_one (ps_ret (pe_tup (pa_cons (pe_cdE G_read_figure hr passA (pa_cons (pe_x (pv 2) pe_int) pa_nil)) (pa_cons (pe_compX (own:=["word"]) (fr:=[("sign",1)]) (by walk_at "cs") (pi_anyK (K:=K) rfl (pe_slice (slUK (K:=K) rfl) (pv 2) (po_some pe_int) po_none)) (fun cl C s0 H0 fp xe hx=>⟨(pg_cX 0),pf_nil,(pe_cdE G_read_pair hr hx (pa_cons (pv 0) (pa_cons (pv 1) pa_nil)))⟩)) pa_nil))))))),?_,?_⟩
  ·rintro as Φ ⟨n,c,us,rfl,hn,hc,hz,dg,k⟩
   have few:=ties_few (us:=us) hn hc
   let S0:Sl:=.d (.str (textS n c us))
   let S1:Sl:=.d (.str ⟨#[c]⟩)
   walk_at "st"
   refine s_cut (fun ρ=>ρ=[S0,S1,.u]) ?_ ?_
   ·refine s_if ?_
    walk_at "v"
    refine ite_no ?_
    exact s_next rfl
   rintro ρ rfl
   refine s_cut (fun ρ=>ρ=[S0,S1,.l ((textW n c us).map D.str)]) ?_ ?_
   ·walk_at "v"
    refine ⟨_,rfl,?_⟩
    walk_at "v"
    refine ⟨32,congrArg (fun z=>[Rs.d (D.str z)]) sp_is,hz,?_⟩
    rw [text_split hn hc]
    walk_at "v"
    rfl
   rintro ρ rfl
   have at0:atI ((textW n c us).map D.str) 0=some (.str (figS n)):=atI_nat (j:=0) rfl
   refine s_ret (v_tup (a_cons (v_callE ?_)))
   walk_at "v"
   refine ⟨of_decide_eq_true rfl,?_⟩
   walk_at "st"
   refine ⟨n,rfl,hn,⟨⟨_,rfl⟩,?_⟩⟩
   walk_at "st"
   refine a_cons ?_
   refine v_pure (fun t=>D.str (wordS c t)) us (fun _=>true) tieD (i_any ?_)
   walk_at "v"
   refine SlV.l (sl_L rfl ?_)
   have ec:cutD ((textW n c us).map D.str) (some 1) none=us.map fun t=>D.str (wordS c t):=by
    rw [cut_one]
    show (us.map (wordS c)).map D.str=_
    rw [List.map_map]
    rfl
   rw [ec]
   refine ⟨_,_,rfl,rfl,rfl,Nat.lt_of_le_of_lt (show us.length≤1001 by omega) (by decide),known_of rfl,of_decide_eq_true rfl,?_,?_⟩
   ·rintro t ht os hos
    obtain ⟨z0,rfl⟩:=len1 hos
    walk_at "v"
    refine ⟨⟨[_],rfl,rfl⟩,t_true ⟨rfl,rfl⟩,fun _=>?_⟩
    refine v_callE ?_
    walk_at "v"
    refine ⟨of_decide_eq_true rfl,?_⟩
    walk_at "st"
    exact ⟨c,t,rfl,fun u hu'=>by rw [List.mem_singleton.mp hu']; exact dg t ht,⟨⟨_,rfl⟩,rfl,rfl⟩⟩
   rw [filter_true]
   walk_at "v"
   exact ⟨⟨_,rfl⟩,k⟩
  ·rintro as cls ⟨c,d,rfl,hc,hd,rfl⟩
   let S1:Sl:=.d (.str ⟨#[c]⟩)
   walk_at "st"
   refine x_of (r_cut (fun ρ=>∃ z,d=.str z∧ρ=[.d (.str z),S1,.u]) (r_if ?_) ?_)
   ·walk_at "v"
    refine c_isinst rfl (kit_strB K d) ?_
    walk_at "v"
    refine ite2 (fun h1=>?_) (fun h1=>?_)
    ·refine r_x (x_raise ?_)
     walk_at "v"
     exact Nat.le_of_ble_eq_true rfl
    ·cases d with
     | str z=>exact r_of (s_next ⟨z,rfl,rfl⟩)
     | _=>exact absurd rfl h1
   rintro ρ ⟨z,rfl,rfl⟩
   obtain ⟨hz,no⟩:=hd z rfl
   have pos:=PyProof.Rows.split_pos z ⟨#[32]⟩
   have le:=PyProof.Rows.split_le z ⟨#[32]⟩
   obtain ⟨w0,ws,ew⟩:∃ w0 ws,Txt.split z ⟨#[32]⟩=w0::ws:=by
    cases e:Txt.split z ⟨#[32]⟩ with
    | nil=>rw [e] at pos; exact absurd pos (by decide)
    | cons w0 ws=>exact ⟨w0,ws,rfl⟩
   have pl:∀ w∈w0::ws,w.length≤1001:=fun w hw=>Nat.le_trans (part_len (ew ▸ hw)) (by omega)
   have l2:ws.length≤1001:=by
    rw [ew,List.length_cons] at le
    omega
   refine r_cut (fun ρ=>ρ=[.d (.str z),S1,.l ((w0::ws).map D.str)]) (r_of ?_) ?_
   ·walk_at "v"
    refine ⟨_,rfl,?_⟩
    walk_at "v"
    refine ⟨32,congrArg (fun z=>[Rs.d (D.str z)]) sp_is,hz,?_⟩
    rw [ew]
    walk_at "v"
    rfl
   rintro ρ rfl
   have at0:atI ((w0::ws).map D.str) 0=some (.str w0):=atI_nat (j:=0) rfl
   refine r_x (x_ret (vx_tup ?_))
   by_cases fa:isFig w0
   ·have bad:¬ ∀ v∈ws,isWord c v:=fun h=>no (words_text ⟨w0,ws,ew,fa,h⟩)
    obtain ⟨kb,wb0,e1,e2,e3⟩:=first_bad bad
    obtain ⟨n,hn,ea⟩:=fa
    refine ax_cons (v_callE ?_)
    walk_at "v"
    refine ⟨of_decide_eq_true rfl,?_⟩
    walk_at "st"
    refine ⟨n,by rw [ea],hn,⟨⟨_,rfl⟩,?_⟩⟩
    walk_at "st"
    refine ⟨⟨_,rfl⟩,ax_here (vx_pure D.str ws (fun _=>true) (fun w=>tieD (numT w)) (i_any ?_))⟩
    walk_at "v"
    refine SlV.l (sl_L rfl ?_)
    rw [show cutD (D.str w0::List.map D.str ws) (some 1) none=ws.map D.str from cut_one (w0::ws)]
    refine ⟨_,_,rfl,rfl,rfl,Nat.lt_of_le_of_lt l2 (by decide),known_of rfl,of_decide_eq_true rfl,kb,wb0,e1,?_,?_⟩
    ·intro v hv os hos
     obtain ⟨z0,rfl⟩:=len1 hos
     obtain ⟨t,dt,rfl⟩:=e2 v hv
     walk_at "v"
     refine ⟨⟨[_],rfl,rfl⟩,t_true ⟨rfl,rfl⟩,fun _=>?_⟩
     refine v_callE ?_
     walk_at "v"
     refine ⟨of_decide_eq_true rfl,?_⟩
     walk_at "st"
     exact ⟨c,t,rfl,dt,⟨⟨_,rfl⟩,by rw [num_word dt]; rfl,rfl⟩⟩
    ·intro os hos
     obtain ⟨z0,rfl⟩:=len1 hos
     walk_at "v"
     refine ⟨rfl,vx_call ?_⟩
     walk_at "v"
     refine ⟨of_decide_eq_true rfl,?_⟩
     walk_at "st"
     exact ⟨c,wb0,rfl,pl wb0 (List.mem_cons_of_mem _ (List.mem_of_getElem? e1)),e3,rfl⟩
   ·refine ax_here (vx_call ?_)
    walk_at "v"
    refine ⟨of_decide_eq_true rfl,?_⟩
    walk_at "st"
    exact ⟨w0,rfl,pl w0 List.mem_cons_self,fa,rfl⟩
end
local macro_rules | `(tactic| walk_at "nm")=>`(tactic| first
 | ((with_reducible refine nm8 ?_); intro _ _ _ _ _ _ _ _ _)
 | ((with_reducible refine nm6 ?_); intro _ _ _ _ _ _ _)
 | ((with_reducible refine nm5 ?_); intro _ _ _ _ _ _)
 | ((with_reducible refine nm4 ?_); intro _ _ _ _ _)
 | ((with_reducible refine nm3 ?_); intro _ _ _ _)
 | ((with_reducible refine nm2 ?_); intro _ _ _))
local macro_rules | `(tactic| walk_at "nf")=>`(tactic| first
 | ((with_reducible refine nf14 ?_); intro _ _ _ _ _ _ _ _ _ _ _ _ _ _ _))
local macro_rules | `(tactic| walk_at "ps")=>`(tactic| try ((with_reducible refine s_psi ?_); intro _))
local macro_rules | `(tactic| walk_at "rf")=>`(tactic| first | rfl | decide)
local macro_rules | `(tactic| walk_at "op")=>`(tactic| first
 | ((with_reducible refine' o_i0 ?h1 ?h2 ?_); (case h1=>rfl); (case h2=>rfl))
 | ((with_reducible refine' OpV.l (o_i0 ?h1 ?h2 ?_)); (case h1=>rfl); (case h2=>rfl))
 | ((with_reducible refine' o_b0 ?h1 ?h2 ?_); (case h1=>rfl); (case h2=>rfl))
 | ((with_reducible refine' OpV.l (o_b0 ?h1 ?h2 ?_)); (case h1=>rfl); (case h2=>rfl))
 | ((with_reducible refine' OpV.l (o_eqI ?h1 ?h2 ?_)); (case h1=>rfl); (case h2=>rfl))
 | ((with_reducible refine' OpV.l (o_neI ?h1 ?h2 ?_)); (case h1=>rfl); (case h2=>rfl))
 | ((with_reducible refine' OpV.l (o_eqB ?h1 ?h2 ?_)); (case h1=>rfl); (case h2=>rfl))
 | ((with_reducible refine' o_isN ?h1 ?_); (case h1=>rfl))
 | ((with_reducible refine' o_notN ?h1 ?_); (case h1=>rfl))
 | ((with_reducible refine' o_neNil ?h1 ?h2 ?h3 ?_); (case h1=>rfl); (case h2=>rfl); (case h3=>first | exact dep_int _ | assumption))
 | ((with_reducible refine' OpV.r (OpV.l (o_catL ?h1 ?h2 ?h3 ?_))); (case h1=>rfl); (case h2=>rfl); (case h3=>exact szl (Nat.le_of_ble_eq_true rfl)))
 | ((with_reducible refine' o_ixT ?h1 ?h2 ?h3 ?_); (case h1=>rfl); (case h2=>rfl); (case h3=>rfl))
 | ((with_reducible refine' o_ixL ?h1 ?h2 ?h3 ?_); (case h1=>rfl); (case h2=>rfl); (case h3=>rfl))
 | ((with_reducible refine' o_ixL ?h1 ?h2 ?h3 ?_); (case h1=>rfl); (case h2=>rfl); (case h3=>assumption))
 | ((with_reducible refine' o_ixT ?h1 ?h2 ?h3 ?_); (case h1=>rfl); (case h2=>rfl); (case h3=>assumption)))
local macro_rules | `(tactic| walk_at "ca")=>`(tactic| first
 | ((with_reducible refine' u_i ?h1 ?_); (case h1=>rfl))
 | ((with_reducible refine' c_ii ?h1 ?h2 ?_); (case h1=>rfl); (case h2=>rfl))
 | ((with_reducible refine' c_lenL ?h1 ?_); (case h1=>rfl))
 | ((with_reducible refine' c_lenT ?h1 ?_); (case h1=>rfl))
 | ((with_reducible refine' c_tupleL ?h1 ?_); (case h1=>rfl))
 | ((with_reducible refine' c_listT ?h1 ?_); (case h1=>rfl))
 | ((with_reducible refine' c_int_b ?h1 ?_); (case h1=>rfl))
 | ((with_reducible refine' c_isinst ?h1 ?h2 ?_); (case h1=>rfl); (case h2=>rfl)))
local macro_rules | `(tactic| walk_at "v1")=>`(tactic| first
 | with_reducible refine v_op ?_
 | with_reducible refine v_int ?_
 | ((with_reducible refine' v_var_d ?h ?_); (case h=>rfl))
 | ((with_reducible refine' v_var_l ?h ?_); (case h=>rfl))
 | ((with_reducible refine' v_var_f ?h ?_); (case h=>rfl))
 | with_reducible refine v_cb ?_
 | with_reducible refine v_join ?_
 | with_reducible refine v_split ?_
 | with_reducible refine v_fmt ?_
 | with_reducible refine v_idxF ?_
 | with_reducible refine v_revX ?_
 | with_reducible refine v_bm ?_
 | (refine ⟨⟨rfl,_,(rfl:rd _ _=some (D.lst _))⟩,?_⟩)
 | with_reducible refine a_cons ?_
 | with_reducible refine a_nil ?_
 | with_reducible refine v_tup ?_
 | with_reducible refine v_lst ?_
 | with_reducible refine v_bl ?_
 | with_reducible refine v_non ?_
 | with_reducible refine v_str ?_
 | with_reducible refine v_raw ?_
 | with_reducible refine v_sl ?_
 | with_reducible refine p_none ?_
 | with_reducible refine p_some ?_
 | with_reducible refine v_un ?_
 | with_reducible refine v_not ?_
 | with_reducible refine t_test ?_
 | with_reducible refine t_tru ?_
 | with_reducible refine t_true ?_
 | with_reducible refine t_not ?_
 | with_reducible refine s_seqN ?_
 | walk_at "nm"
 | with_reducible refine s_seq ?_
 | with_reducible refine s_asg ?_
 | ((with_reducible refine' g_name ?h ?_); (case h=>rfl))
 | ((with_reducible refine' g_tup ?h1 ?h2 ?_); (case h1=>rfl); (case h2=>rfl))
 | with_reducible refine gs_cons ?_
 | with_reducible refine g_put ?_
 | (refine ⟨_,(rfl:Rs.it _=some _),?_⟩)
 | (refine ⟨_,(rfl:_=Rs.b _),?_⟩)
 | with_reducible refine gs_nil ?_
 | with_reducible refine s_ret ?_
 | with_reducible refine s_drop ?_
 | with_reducible refine s_if ?_
 | with_reducible refine s_next ?_
 | walk_at "op"
 | walk_at "ca"
 | (refine ⟨_,(rfl:rd _ _=some _),?_⟩)
 | (refine ⟨_,_,(rfl:rd _ _=some _),(rfl:truD _=some _),?_⟩)
 | (refine ⟨_,(rfl:its _=some _),szl (Nat.le_of_ble_eq_true rfl),?_⟩))
local macro_rules | `(tactic| walk_at "v")=>`(tactic| (repeat (walk_at "v1")))
local macro_rules | `(tactic| walk_at "st")=>`(tactic| try dsimp only [List.length_cons,List.length_nil,Nat.reduceAdd,Nat.reduceSub,List.replicate,List.cons_append,List.nil_append,List.set,caps,List.map,Rs.sl,wb,L4.outer,capt,List.drop,inner,List.getElem?_cons_zero,List.getElem?_cons_succ,List.headD,List.tail,argS,Option.getD])
local macro_rules | `(tactic| walk_at "call")=>`(tactic| ((with_reducible refine v_call ?_); walk_at "v"; (refine ⟨of_decide_eq_true rfl,?_⟩); walk_at "st"))
local macro_rules | `(tactic| walk_at "J")=>`(tactic| first
 | ((with_reducible refine' v_orJ ?h1 ?h2 ?_); (case h1=>(walk_at "vJ"; exact ⟨rfl,rfl⟩)); (case h2=>(intro _; walk_at "vJ"; exact ⟨rfl,rfl⟩)))
 | ((with_reducible refine' v_andJ ?h1 ?h2 ?_); (case h1=>(walk_at "vJ"; exact ⟨rfl,rfl⟩)); (case h2=>(intro _; walk_at "vJ"; exact ⟨rfl,rfl⟩)))
 | ((with_reducible refine' t_andJ ?h1 ?h2 ?_); (case h1=>(walk_at "vJ"; exact ⟨rfl,rfl⟩)); (case h2=>(intro _; walk_at "vJ"; exact ⟨rfl,rfl⟩)))
 | ((with_reducible refine' v_chainJ ?h1 ?h2 ?h3 ?h4 ?h5 ?_); (case h1=>(walk_at "vJ"; exact ⟨rfl,rfl⟩)); (case h2=>(walk_at "vJ"; exact ⟨rfl,rfl⟩)); (case h3=>(walk_at "vJ"; exact ⟨rfl,rfl⟩)); (case h4=>(intro _; walk_at "vJ"; exact ⟨rfl,rfl⟩)); (case h5=>(intro _; walk_at "vJ"; exact ⟨rfl,rfl⟩)))
 | ((with_reducible refine' v_chain3J ?h1 ?h2 ?h3 ?h4 ?h5 ?h6 ?h7 ?_); (case h1=>(walk_at "vJ"; exact ⟨rfl,rfl⟩)); (case h2=>(walk_at "vJ"; exact ⟨rfl,rfl⟩)); (case h3=>(walk_at "vJ"; exact ⟨rfl,rfl⟩)); (case h4=>(intro _; walk_at "vJ"; exact ⟨rfl,rfl⟩)); (case h5=>(intro _; walk_at "vJ"; exact ⟨rfl,rfl⟩)); (case h6=>(intro _; walk_at "vJ"; exact ⟨rfl,rfl⟩)); (case h7=>(intro _; walk_at "vJ"; exact ⟨rfl,rfl⟩))))
local macro_rules | `(tactic| walk_at "vJ")=>`(tactic| (repeat (first | walk_at "v1" | walk_at "J")))
local macro_rules | `(tactic| walk_at "sc")=>`(tactic| exact ⟨rfl,rfl,rfl,by decide +kernel,rfl,by decide +kernel,by decide +kernel⟩)
local macro_rules | `(tactic| walk_at "cs")=>`(tactic| exact ⟨rfl,by decide +kernel,by decide +kernel,by repeat' (first | exact trivial | refine ⟨⟨rfl,rfl,by first | exact Or.inl rfl | exact Or.inr rfl⟩,?_⟩),by decide +kernel⟩)
local macro_rules | `(tactic| walk_at "vc")=>`(tactic| (walk_at "v"; walk_at "call"))
local macro_rules | `(tactic| walk_at "sv")=>`(tactic| (walk_at "st"; walk_at "v"))
def mkU (u:Tie):Tie:=mk u.1 u.2
def waysU (us:List Tie):List Int:=us.map fun u=>if u.1<u.2 then 1 else 0
def ptgD (n:Nat) (us:List Tie):D:=.tup [webD n (us.map mkU),.tup (intsD (waysU us))]
def isWT (d:D) (n:Nat) (us:List Tie):Prop:=webB (webD n (us.map mkU))=true∧∃ z,d=.str z∧isText 62 z n us
def small (d:D):Prop:=∀ z,d=.str z→z.length≤1000
def pAsk:PV:=fun as Φ=>∃(n:Nat) (us:List Tie),as=[.d (.int n),.l (us.map tieD)]∧us.length≤1001∧webB (webD n us)=true∧Φ (.d (webD n us)) as
def pAskX (CT:Addr):PX:=fun as cls=>∃(n:Nat) (us:List Tie),as=[.d (.int n),.l (us.map tieD)]∧us.length≤1001∧webB (webD n us)=false∧cls=.ref CT
def pReadP:PV:=fun as Φ=>∃(d:D) (n:Nat) (us:List Tie),as=[.d d]∧small d∧isWT d n us∧Φ (.d (ptgD n us)) as
def pReadPX (CT:Addr):PX:=fun as cls=>∃ d:D,as=[.d d]∧small d∧(¬ ∃ n us,isWT d n us)∧cls=.ref CT
def pLAsked:PV:=fun as Φ=>∃ d:D,as=[.d d]∧small d∧((∃ n us,isWT d n us∧Φ (.d (ptgD n us)) [.u])∨((¬ ∃ n us,isWT d n us)∧Φ (.d .non) [.u]))
section
variable {P:Program} {w:World} {K:PySem.W.Frag} {mg:Str→Option Value} {base:Heap} {CT CR CN:Addr}
theorem sc_asked_web:FnScope ["many","ties","web"] ["many","ties"] (defScope (top 20)):=by walk_at "sc"
theorem okE_asked_web {f:Addr} {fd:FuncData} (F:Fun K "asked_web" "asked_web" (top 20) f fd) (T:Txt mg) (x:Exs K mg CT CR CN) (G_is_web:Has P w K mg base "is_web" (top 9) ["thing"] 3 (spV pWebK)):FnOk P w K mg base (CXA P w) 4 f fd ["many","ties"] (spE pAsk (pAskX CT)):=by
 refine fn_okE F sc_asked_web [0,1] (fun as Φ h=>?_) (fun as cls h=>?_) (fun cdv A outer s H E hr=>?_)
 ·obtain ⟨n,ts,rfl,_⟩:=h
  rfl
 ·obtain ⟨n,ts,rfl,_⟩:=h
  rfl
 ·have hu:=hr.units
  refine ⟨_,(pss_cons (ps_s 2 sc_asked_web (pe_tup (pa_cons (pv 0) (pa_cons (pe_callTy (tupleK (K:=K) rfl) (by rfl) T.n_tuple PyProof.Rows.boot_tuple (pa_cons (pv 1) pa_nil)) pa_nil))))
   (pss_cons (ps_if (pt_not (pt_truthK (K:=K) rfl (pe_cd G_is_web hr (pa_cons (pv 2) pa_nil)) (fun _=>rfl)))
   (pss_one (ps_raise (φ:=E (.ref CT) none) x.xT x.mT (by rfl) rfl rfl (pa_cons pe_str pa_nil) (fun pins σ H s e xs I y q=>fly I y (.inl rfl) q)))
   pss_nil)
   (pss_one (ps_ret (pv 2))))),?_,?_⟩
  ·rintro as Φ ⟨n,us,rfl,hl,hw,k⟩
   walk_at "st"
   refine s_cut (fun ρ=>ρ=[.d (.int n),.l (us.map tieD),.d (webD n us)]) ?_ ?_
   ·walk_at "v"
    rfl
   rintro ρ rfl
   refine s_cut (fun ρ=>ρ=[.d (.int n),.l (us.map tieD),.d (webD n us)]) ?_ ?_
   ·refine s_if ?_
    walk_at "vc"
    refine ⟨_,rfl,⟨⟨_,rfl⟩,?_⟩⟩
    rw [hw]
    walk_at "sv"
    refine ite_no ?_
    exact s_next rfl
   rintro ρ rfl
   walk_at "v"
   exact ⟨⟨_,rfl⟩,k⟩
  ·rintro as cls ⟨n,us,rfl,hl,hw,rfl⟩
   walk_at "st"
   refine x_then (fun ρ=>ρ=[.d (.int n),.l (us.map tieD),.d (webD n us)]) ?_ ?_
   ·walk_at "v"
    rfl
   rintro ρ rfl
   refine x_seq (x_if ?_)
   walk_at "vc"
   refine ⟨_,rfl,⟨⟨_,rfl⟩,?_⟩⟩
   rw [hw]
   walk_at "sv"
   refine ite2 (fun _=>?_) (fun z=>absurd rfl z)
   refine x_raise ?_
   walk_at "v"
   exact Nat.le_of_ble_eq_true rfl
theorem sc_read_pointing:FnScope ["thing","many","pairs","web"] ["thing"] (defScope (top 21)):=by walk_at "sc"
theorem okE_read_pointing {f:Addr} {fd:FuncData} (F:Fun K "read_pointing" "read_pointing" (top 21) f fd) (T:Txt mg) (x:Exs K mg CT CR CN) (G_read_pairs:HasE P w K mg base "read_pairs" (top 19) ["thing","sign"] 3 (spE pPairs (pPairsX CT)))
  (G_asked_web:HasE P w K mg base "asked_web" (top 20) ["many","ties"] 4 (spE pAsk (pAskX CT))) (G_tie_of:Has P w K mg base "tie_of" (top 10) ["a","b"] 1 (spV pTieOf)):FnOk P w K mg base (CXA P w) 5 f fd ["thing"] (spE pReadP (pReadPX CT)):=by
 refine fn_okE F sc_read_pointing [0] (fun as Φ h=>?_) (fun as cls h=>?_) (fun cdv A outer s H E hr=>?_)
 ·obtain ⟨d,n,us,rfl,_⟩:=h
  rfl
 ·obtain ⟨d,rfl,_⟩:=h
  rfl
 ·have hu:=hr.units
  have told:∀{d:D} {n:Nat} {us:List Tie},small d→(∃ z,d=.str z∧isText 62 z n us)→n<10∧Digs us∧d=.str (textS n 62 us)∧(textS n 62 us).length≤1000∧us.length≤1001:=fun {d n us} hs ⟨z,e,h1,h2,h3⟩=>by
   subst e h3
   have l:=hs _ rfl
   have:=ties_few (us:=us) (c:=62) h1 (by decide)
   exact ⟨h1,h2,rfl,l,by omega⟩
  have big:1001<sizeLine:=by decide
  have em:∀ us:List Tie,(us.filter fun _=>true).map (fun u=>tieD (mkU u))=(us.map mkU).map tieD:=fun us=>by
   rw [filter_true,List.map_map]
   rfl
  have em2:∀ us:List Tie,(us.filter fun _=>true).map (fun u=>D.int (if u.1<u.2 then 1 else 0))=intsD (waysU us):=fun us=>by
   rw [filter_true]
   unfold intsD waysU
   rw [List.map_map]
   rfl
  refine ⟨_,(pss_cons (ps_asg (pe_cdE G_read_pairs hr passA (pa_cons (pv 0) (pa_cons pe_str pa_nil))) (pg_tupK (K:=K) (n:=2) rfl rfl (pgs_cons (pg_n 1 sc_read_pointing) (pgs_cons (pg_n 2 sc_read_pointing) pgs_nil))))
   (pss_cons (ps_s 3 sc_read_pointing (pe_cdE G_asked_web hr passA (pa_cons (pv 1) (pa_cons (pe_comp rfl (own:=["a","b"]) (fr:=[]) (by walk_at "cs") (pi_anyK (K:=K) rfl (pv 2)) (fun cl C s0 H0 fp=>⟨(pg_tupK (K:=K) (n:=2) rfl rfl (pgs_cons (pg_c 0) (pgs_cons (pg_c 1) pgs_nil))),pf_nil,(pe_cd G_tie_of hr (pa_cons (pv 0) (pa_cons (pv 1) pa_nil)))⟩)) pa_nil))))
   (pss_one (ps_ret (pe_tup (pa_cons (pv 3) (pa_cons (pe_callTy (tupleK (K:=K) rfl) (by rfl) T.n_tuple PyProof.Rows.boot_tuple (pa_cons (pe_comp rfl (own:=["a","b"]) (fr:=[]) (by walk_at "cs") (pi_anyK (K:=K) rfl (pv 2)) (fun cl C s0 H0 fp=>⟨(pg_tupK (K:=K) (n:=2) rfl rfl (pgs_cons (pg_c 0) (pgs_cons (pg_c 1) pgs_nil))),pf_nil,(pe_ifExp (pt_cmpR (opLtK (K:=K) rfl hu) (pv 0) (pv 1) (nomark _)) pe_int pe_int)⟩)) pa_nil)) pa_nil))))))),?_,?_⟩
  ·rintro as Φ ⟨d,n,us,rfl,hs,⟨hw,ht⟩,k⟩
   obtain ⟨hn,dg,rfl,hz,hl⟩:=told hs ht
   have hl':(us.map mkU).length≤1001:=by rw [List.length_map]; exact hl
   let S0:Sl:=.d (.str (textS n 62 us))
   walk_at "st"
   refine s_cut (fun ρ=>ρ=[S0,.d (.int n),.d (.lst (us.map tieD)),.u]) ?_ ?_
   ·refine s_asg (v_callE ?_)
    walk_at "v"
    refine ⟨of_decide_eq_true rfl,?_⟩
    walk_at "st"
    refine ⟨n,62,us,by rw [gt_is],hn,by decide,hz,dg,⟨⟨_,rfl⟩,?_⟩⟩
    walk_at "st"
    refine g_tup rfl rfl ?_
    walk_at "v"
    rfl
   rintro ρ rfl
   refine s_cut (fun ρ=>ρ=[S0,.d (.int n),.d (.lst (us.map tieD)),.d (webD n (us.map mkU))]) ?_ ?_
   ·refine s_asg (v_callE ?_)
    walk_at "v"
    refine v_pure tieD us (fun _=>true) (fun u=>tieD (mkU u)) (i_any ?_)
    walk_at "v"
    refine ⟨_,_,rfl,rfl,rfl,Nat.lt_of_le_of_lt hl big,known_of rfl,of_decide_eq_true rfl,?_,?_⟩
    ·rintro ⟨a,b⟩ ht os hos
     obtain ⟨z0,z1,rfl⟩:=len2 hos
     rw [show tieD (a,b)=D.tup [.int a,.int b] from rfl]
     walk_at "v"
     refine ⟨⟨[_,_],rfl,rfl⟩,t_true ⟨rfl,rfl⟩,fun _=>?_⟩
     walk_at "call"
     exact ⟨a,b,rfl,⟨⟨_,rfl⟩,rfl,rfl⟩⟩
    rw [em]
    walk_at "v"
    refine ⟨of_decide_eq_true rfl,?_⟩
    walk_at "st"
    refine ⟨n,us.map mkU,rfl,hl',hw,⟨⟨_,rfl⟩,?_⟩⟩
    walk_at "sv"
    rfl
   rintro ρ rfl
   walk_at "v"
   refine v_pure tieD us (fun _=>true) (fun u=>D.int (if u.1<u.2 then 1 else 0)) (i_any ?_)
   walk_at "v"
   refine ⟨_,_,rfl,rfl,rfl,Nat.lt_of_le_of_lt hl big,known_of rfl,of_decide_eq_true rfl,?_,?_⟩
   ·rintro ⟨a,b⟩ ht os hos
    obtain ⟨z0,z1,rfl⟩:=len2 hos
    rw [show tieD (a,b)=D.tup [.int a,.int b] from rfl]
    walk_at "v"
    refine ⟨⟨[_,_],rfl,rfl⟩,t_true ⟨rfl,rfl⟩,fun _=>?_⟩
    refine v_if ?_
    walk_at "v"
    refine ite2 (fun hc=>?_) (fun hc=>?_)
    ·walk_at "v"
     refine ⟨?_,rfl⟩
     rw [if_pos (show a<b from of_decide_eq_true hc)]
     rfl
    ·walk_at "v"
     refine ⟨?_,rfl⟩
     rw [if_neg (show ¬ a<b from fun z=>hc (decide_eq_true z))]
     rfl
   rw [em2]
   walk_at "v"
   exact ⟨⟨_,rfl⟩,k⟩
  ·rintro as cls ⟨d,rfl,hs,no,rfl⟩
   walk_at "st"
   by_cases ht:∃ n us,∃ z,d=.str z∧isText 62 z n us
   ·obtain ⟨n,us,ht⟩:=ht
    have hw:webB (webD n (us.map mkU))=false:=by
     cases e:webB (webD n (us.map mkU)) with
     | false=>rfl
     | true=>exact absurd ⟨n,us,e,ht⟩ no
    obtain ⟨hn,dg,rfl,hz,hl⟩:=told hs ht
    have hl':(us.map mkU).length≤1001:=by rw [List.length_map]; exact hl
    let S0:Sl:=.d (.str (textS n 62 us))
    refine x_then (fun ρ=>ρ=[S0,.d (.int n),.d (.lst (us.map tieD)),.u]) ?_ ?_
    ·refine s_asg (v_callE ?_)
     walk_at "v"
     refine ⟨of_decide_eq_true rfl,?_⟩
     walk_at "st"
     refine ⟨n,62,us,by rw [gt_is],hn,by decide,hz,dg,⟨⟨_,rfl⟩,?_⟩⟩
     walk_at "st"
     refine g_tup rfl rfl ?_
     walk_at "v"
     rfl
    rintro ρ rfl
    refine x_seq (x_asgV (vx_call ?_))
    walk_at "v"
    refine v_pure tieD us (fun _=>true) (fun u=>tieD (mkU u)) (i_any ?_)
    walk_at "v"
    refine ⟨_,_,rfl,rfl,rfl,Nat.lt_of_le_of_lt hl big,known_of rfl,of_decide_eq_true rfl,?_,?_⟩
    ·rintro ⟨a,b⟩ ht os hos
     obtain ⟨z0,z1,rfl⟩:=len2 hos
     rw [show tieD (a,b)=D.tup [.int a,.int b] from rfl]
     walk_at "v"
     refine ⟨⟨[_,_],rfl,rfl⟩,t_true ⟨rfl,rfl⟩,fun _=>?_⟩
     walk_at "call"
     exact ⟨a,b,rfl,⟨⟨_,rfl⟩,rfl,rfl⟩⟩
    rw [em]
    walk_at "v"
    refine ⟨of_decide_eq_true rfl,?_⟩
    walk_at "st"
    exact ⟨n,us.map mkU,rfl,hl',hw,rfl⟩
   ·refine x_seq (x_asgV (vx_call ?_))
    walk_at "v"
    refine ⟨of_decide_eq_true rfl,?_⟩
    walk_at "st"
    exact ⟨62,d,by rw [gt_is],by decide,fun z e=>⟨hs z e,fun ⟨n,us,h⟩=>ht ⟨n,us,z,e,h⟩⟩,rfl⟩
theorem sc__law_asked:FnScope ["thing","found","e"] ["thing"] (defScope (top 39)):=⟨rfl,rfl,rfl,by decide +kernel,rfl,by decide +kernel,by decide +kernel⟩
theorem ok__law_asked {f:Addr} {fd:FuncData} (F:Fun K "_law_asked" "_law_asked" (top 39) f fd) (T:Txt mg) (x:Exs K mg CT CR CN) (G_read_pointing:HasE P w K mg base "read_pointing" (top 21) ["thing"] 5 (spE pReadP (pReadPX CT))):FnOk P w K mg base CX0 6 f fd ["thing"] (spV pLAsked):=by
 refine fn_ok F sc__law_asked [] (fun as Φ h=>?_) (fun cdv A outer s H E hr=>?_)
 ·obtain ⟨d,rfl,_⟩:=h
  rfl
 ·have hu:=hr.units
  refine ⟨_,pss_cons (ps_s 1 sc__law_asked pe_str) (pss_cons (ps_tryN (i:=2) rfl rfl sc__law_asked.nd rfl rfl (by rfl) x.mR (fun pn E' E2 hx=>pss_one (ps_s 1 sc__law_asked (pe_cdE G_read_pointing hr hx (pa_cons (pv 0) pa_nil))))
   (fun cls a oe pn hp hc=>pss_one (ps_if (PW.pt (pw_and (pt_truthK (K:=K) rfl (pe_callB (call_isE (K:=K) rfl hp hc) (by rfl) T.n_isinstance PyProof.Rows.boot_isinstance (pa_cons (pv 2) (pa_cons (pe_globC (by rfl) x.mT) pa_nil))) (fun _=>rfl))
     (pw_and (pt_truthK (K:=K) rfl (pe_callB (call_isE (K:=K) rfl hp hc) (by rfl) T.n_isinstance PyProof.Rows.boot_isinstance (pa_cons (pv 2) (pa_cons (pe_bltn (v:=.ty "ValueError") (by rfl) T.n_ValueError (show bootBuiltins "ValueError" = some (.type "ValueError") by kernel_rfl) rfl) pa_nil))) (fun _=>rfl))
      (pw_and1 (pt_not (pt_truthK (K:=K) rfl (pe_callB (call_isE (K:=K) rfl hp hc) (by rfl) T.n_isinstance PyProof.Rows.boot_isinstance (pa_cons (pv 2) (pa_cons (pe_globC (by rfl) x.mN) pa_nil))) (fun _=>rfl)))))))
    (pss_one (ps_s 1 sc__law_asked pe_non)) pss_nil)))
   (pss_one (ps_ret (pv 1)))),?_⟩
  rintro as Φ ⟨d,rfl,hs,k⟩
  walk_at "st"
  refine s_cut (fun ρ=>ρ=[.d d,.d (.str "odd"),.u]) ?_ ?_
  ·walk_at "v"
   rfl
  rintro ρ rfl
  rcases k with ⟨n,us,hw,k⟩ | ⟨no,k⟩
  ·refine s_cut (fun ρ=>ρ=[.d d,.d (ptgD n us),.u]) (s_tryNT fun E=>?_) ?_
   ·refine s_asg (v_callE ?_)
    walk_at "v"
    refine ⟨of_decide_eq_true rfl,?_⟩
    walk_at "st"
    refine ⟨d,n,us,rfl,hs,hw,⟨⟨_,rfl⟩,?_⟩⟩
    walk_at "sv"
    rfl
   rintro ρ rfl
   walk_at "v"
   exact ⟨⟨_,rfl⟩,k⟩
  ·refine s_seq (s_tryNX (cls:=.ref CT) (v:=.non) (d:=.non) (show 2<3 by decide) (show 1<3 by decide) (by decide) (fun E=>x_asgV (vx_call ?_)) x.eR ?_ (fun G=>rfl) ?_)
   ·walk_at "v"
    refine ⟨of_decide_eq_true rfl,?_⟩
    walk_at "st"
    exact ⟨d,rfl,hs,no,rfl⟩
   ·intro a D σ H ha hl kd
    have e2:(σ.set 2 (some (V.ref a)))[2]? = some (some (.ref a)):=by rw [List.getElem?_set_self hl]
    refine ⟨.ref a,e2,CT,rfl,x.iT,.inl ⟨.ref CT,_,true,rfl,rfl,x.kT,true,rfl,?_⟩⟩
    refine (if_pos rfl).mpr ?_
    refine ⟨.ref a,e2,CT,rfl,x.iT,.inl ⟨.ty "ValueError",_,true,rfl,rfl,x.kV,true,rfl,?_⟩⟩
    refine (if_pos rfl).mpr ?_
    refine ⟨.ref a,e2,CT,rfl,x.iT,.inl ⟨.ref CN,_,false,rfl,rfl,x.kN,false,rfl,?_⟩⟩
    refine (if_pos rfl).mpr ?_
    exact kd _ (Same.refl _)
   ·walk_at "st"
    walk_at "v"
    exact ⟨⟨_,rfl⟩,k⟩
end
local macro_rules | `(tactic| walk_at "nm")=>`(tactic| first
 | ((with_reducible refine nm8 ?_); intro _ _ _ _ _ _ _ _ _)
 | ((with_reducible refine nm6 ?_); intro _ _ _ _ _ _ _)
 | ((with_reducible refine nm5 ?_); intro _ _ _ _ _ _)
 | ((with_reducible refine nm4 ?_); intro _ _ _ _ _)
 | ((with_reducible refine nm3 ?_); intro _ _ _ _)
 | ((with_reducible refine nm2 ?_); intro _ _ _))
local macro_rules | `(tactic| walk_at "nf")=>`(tactic| first
 | ((with_reducible refine nf14 ?_); intro _ _ _ _ _ _ _ _ _ _ _ _ _ _ _))
local macro_rules | `(tactic| walk_at "ps")=>`(tactic| try ((with_reducible refine s_psi ?_); intro _))
local macro_rules | `(tactic| walk_at "rf")=>`(tactic| first | rfl | decide)
local macro_rules | `(tactic| walk_at "op")=>`(tactic| first
 | ((with_reducible refine' o_i0 ?h1 ?h2 ?_); (case h1=>rfl); (case h2=>rfl))
 | ((with_reducible refine' OpV.l (o_i0 ?h1 ?h2 ?_)); (case h1=>rfl); (case h2=>rfl))
 | ((with_reducible refine' o_b0 ?h1 ?h2 ?_); (case h1=>rfl); (case h2=>rfl))
 | ((with_reducible refine' OpV.l (o_b0 ?h1 ?h2 ?_)); (case h1=>rfl); (case h2=>rfl))
 | ((with_reducible refine' OpV.l (o_eqI ?h1 ?h2 ?_)); (case h1=>rfl); (case h2=>rfl))
 | ((with_reducible refine' OpV.l (o_neI ?h1 ?h2 ?_)); (case h1=>rfl); (case h2=>rfl))
 | ((with_reducible refine' OpV.l (o_eqB ?h1 ?h2 ?_)); (case h1=>rfl); (case h2=>rfl))
 | ((with_reducible refine' o_isN ?h1 ?_); (case h1=>rfl))
 | ((with_reducible refine' o_notN ?h1 ?_); (case h1=>rfl))
 | ((with_reducible refine' o_neNil ?h1 ?h2 ?h3 ?_); (case h1=>rfl); (case h2=>rfl); (case h3=>first | exact dep_int _ | assumption))
 | ((with_reducible refine' OpV.r (OpV.l (o_catL ?h1 ?h2 ?h3 ?_))); (case h1=>rfl); (case h2=>rfl); (case h3=>exact szl (Nat.le_of_ble_eq_true rfl)))
 | ((with_reducible refine' o_ixT ?h1 ?h2 ?h3 ?_); (case h1=>rfl); (case h2=>rfl); (case h3=>rfl))
 | ((with_reducible refine' o_ixL ?h1 ?h2 ?h3 ?_); (case h1=>rfl); (case h2=>rfl); (case h3=>rfl))
 | ((with_reducible refine' o_ixL ?h1 ?h2 ?h3 ?_); (case h1=>rfl); (case h2=>rfl); (case h3=>assumption))
 | ((with_reducible refine' o_ixT ?h1 ?h2 ?h3 ?_); (case h1=>rfl); (case h2=>rfl); (case h3=>assumption)))
local macro_rules | `(tactic| walk_at "ca")=>`(tactic| first
 | ((with_reducible refine' u_i ?h1 ?_); (case h1=>rfl))
 | ((with_reducible refine' c_ii ?h1 ?h2 ?_); (case h1=>rfl); (case h2=>rfl))
 | ((with_reducible refine' c_lenL ?h1 ?_); (case h1=>rfl))
 | ((with_reducible refine' c_lenT ?h1 ?_); (case h1=>rfl))
 | ((with_reducible refine' c_tupleL ?h1 ?_); (case h1=>rfl))
 | ((with_reducible refine' c_listT ?h1 ?_); (case h1=>rfl))
 | ((with_reducible refine' c_int_b ?h1 ?_); (case h1=>rfl))
 | ((with_reducible refine' c_isinst ?h1 ?h2 ?_); (case h1=>rfl); (case h2=>rfl)))
local macro_rules | `(tactic| walk_at "v1")=>`(tactic| first
 | with_reducible refine v_op ?_
 | with_reducible refine v_int ?_
 | ((with_reducible refine' v_var_d ?h ?_); (case h=>rfl))
 | ((with_reducible refine' v_var_l ?h ?_); (case h=>rfl))
 | ((with_reducible refine' v_var_f ?h ?_); (case h=>rfl))
 | with_reducible refine v_cb ?_
 | with_reducible refine v_join ?_
 | with_reducible refine v_split ?_
 | with_reducible refine v_fmt ?_
 | with_reducible refine v_idxF ?_
 | with_reducible refine v_revX ?_
 | with_reducible refine v_bm ?_
 | (refine ⟨⟨rfl,_,(rfl:rd _ _=some (D.lst _))⟩,?_⟩)
 | with_reducible refine a_cons ?_
 | with_reducible refine a_nil ?_
 | with_reducible refine v_tup ?_
 | with_reducible refine v_lst ?_
 | with_reducible refine v_bl ?_
 | with_reducible refine v_non ?_
 | with_reducible refine v_str ?_
 | with_reducible refine v_raw ?_
 | with_reducible refine v_sl ?_
 | with_reducible refine p_none ?_
 | with_reducible refine p_some ?_
 | with_reducible refine v_un ?_
 | with_reducible refine v_not ?_
 | with_reducible refine t_test ?_
 | with_reducible refine t_tru ?_
 | with_reducible refine t_true ?_
 | with_reducible refine t_not ?_
 | with_reducible refine s_seqN ?_
 | walk_at "nm"
 | with_reducible refine s_seq ?_
 | with_reducible refine s_asg ?_
 | ((with_reducible refine' g_name ?h ?_); (case h=>rfl))
 | ((with_reducible refine' g_tup ?h1 ?h2 ?_); (case h1=>rfl); (case h2=>rfl))
 | with_reducible refine gs_cons ?_
 | with_reducible refine g_put ?_
 | (refine ⟨_,(rfl:Rs.it _=some _),?_⟩)
 | (refine ⟨_,(rfl:_=Rs.b _),?_⟩)
 | with_reducible refine gs_nil ?_
 | with_reducible refine s_ret ?_
 | with_reducible refine s_drop ?_
 | with_reducible refine s_if ?_
 | with_reducible refine s_next ?_
 | walk_at "op"
 | walk_at "ca"
 | (refine ⟨_,(rfl:rd _ _=some _),?_⟩)
 | (refine ⟨_,_,(rfl:rd _ _=some _),(rfl:truD _=some _),?_⟩)
 | (refine ⟨_,(rfl:its _=some _),szl (Nat.le_of_ble_eq_true rfl),?_⟩))
local macro_rules | `(tactic| walk_at "v")=>`(tactic| (repeat (walk_at "v1")))
local macro_rules | `(tactic| walk_at "st")=>`(tactic| try dsimp only [List.length_cons,List.length_nil,Nat.reduceAdd,Nat.reduceSub,List.replicate,List.cons_append,List.nil_append,List.set,caps,List.map,Rs.sl,wb,L4.outer,capt,List.drop,inner,List.getElem?_cons_zero,List.getElem?_cons_succ,List.headD,List.tail,argS,Option.getD])
local macro_rules | `(tactic| walk_at "call")=>`(tactic| ((with_reducible refine v_call ?_); walk_at "v"; (refine ⟨of_decide_eq_true rfl,?_⟩); walk_at "st"))
local macro_rules | `(tactic| walk_at "J")=>`(tactic| first
 | ((with_reducible refine' v_orJ ?h1 ?h2 ?_); (case h1=>(walk_at "vJ"; exact ⟨rfl,rfl⟩)); (case h2=>(intro _; walk_at "vJ"; exact ⟨rfl,rfl⟩)))
 | ((with_reducible refine' v_andJ ?h1 ?h2 ?_); (case h1=>(walk_at "vJ"; exact ⟨rfl,rfl⟩)); (case h2=>(intro _; walk_at "vJ"; exact ⟨rfl,rfl⟩)))
 | ((with_reducible refine' t_andJ ?h1 ?h2 ?_); (case h1=>(walk_at "vJ"; exact ⟨rfl,rfl⟩)); (case h2=>(intro _; walk_at "vJ"; exact ⟨rfl,rfl⟩)))
 | ((with_reducible refine' v_chainJ ?h1 ?h2 ?h3 ?h4 ?h5 ?_); (case h1=>(walk_at "vJ"; exact ⟨rfl,rfl⟩)); (case h2=>(walk_at "vJ"; exact ⟨rfl,rfl⟩)); (case h3=>(walk_at "vJ"; exact ⟨rfl,rfl⟩)); (case h4=>(intro _; walk_at "vJ"; exact ⟨rfl,rfl⟩)); (case h5=>(intro _; walk_at "vJ"; exact ⟨rfl,rfl⟩)))
 | ((with_reducible refine' v_chain3J ?h1 ?h2 ?h3 ?h4 ?h5 ?h6 ?h7 ?_); (case h1=>(walk_at "vJ"; exact ⟨rfl,rfl⟩)); (case h2=>(walk_at "vJ"; exact ⟨rfl,rfl⟩)); (case h3=>(walk_at "vJ"; exact ⟨rfl,rfl⟩)); (case h4=>(intro _; walk_at "vJ"; exact ⟨rfl,rfl⟩)); (case h5=>(intro _; walk_at "vJ"; exact ⟨rfl,rfl⟩)); (case h6=>(intro _; walk_at "vJ"; exact ⟨rfl,rfl⟩)); (case h7=>(intro _; walk_at "vJ"; exact ⟨rfl,rfl⟩))))
local macro_rules | `(tactic| walk_at "vJ")=>`(tactic| (repeat (first | walk_at "v1" | walk_at "J")))
local macro_rules | `(tactic| walk_at "sc")=>`(tactic| exact ⟨rfl,rfl,rfl,by decide +kernel,rfl,by decide +kernel,by decide +kernel⟩)
local macro_rules | `(tactic| walk_at "cs")=>`(tactic| exact ⟨rfl,by decide +kernel,by decide +kernel,by repeat' (first | exact trivial | refine ⟨⟨rfl,rfl,by first | exact Or.inl rfl | exact Or.inr rfl⟩,?_⟩),by decide +kernel⟩)
local macro_rules | `(tactic| walk_at "vc")=>`(tactic| (walk_at "v"; walk_at "call"))
local macro_rules | `(tactic| walk_at "sv")=>`(tactic| (walk_at "st"; walk_at "v"))
theorem joinL_snoc:∀{ls:List (List Nat)} (x:List Nat),ls≠[]→joinL (ls++[x])=joinL ls++32::x
 | [],_,h=>absurd rfl h
 | [y],x,_=>rfl
 | y::z::r,x,_=>by
  show y++32::joinL ((z::r)++[x])=(y++32::joinL (z::r))++32::x
  rw [joinL_snoc x (List.cons_ne_nil _ _),List.append_assoc]
  rfl
theorem text_cps (n c:Nat) (us:List Tie):(textS n c us).cps.toList=joinL ((textW n c us).map fun w=>w.cps.toList):=by
 rw [← join_list]
 exact congrArg (fun s:Str=>s.cps.toList) (StrLaws.glued_eq_join spS (textW n c us))
theorem text_snoc (n c:Nat) (us:List Tie) (t:Tie):textS n c (us++[t])=textS n c us++spS++⟨#[48+t.1.toNat]⟩++⟨#[c]⟩++⟨#[48+t.2.toNat]⟩:=by
 have same:∀{a b:Str},a.cps.toList=b.cps.toList→a=b:=fun h=>Str.ext' (Array.toList_inj.mp h)
 refine same ?_
 rw [text_cps]
 show joinL ((figS n::(us++[t]).map (wordS c)).map fun w=>w.cps.toList)=((((textS n c us).cps ++ #[32]) ++ #[48+t.1.toNat]) ++ #[c] ++ #[48+t.2.toNat]).toList
 rw [List.map_append]
 show joinL ((textW n c us++[wordS c t]).map fun w=>w.cps.toList)=_
 rw [List.map_append]
 show joinL (((textW n c us).map fun w=>w.cps.toList)++[(wordS c t).cps.toList])=_
 rw [joinL_snoc _ (fun z=>by cases (List.map_eq_nil_iff.mp z)),← text_cps]
 simp only [Array.toList_append,List.append_assoc]
 rfl
theorem text_nil (n c:Nat):textS n c []=figS n:=StrLaws.glued_eq_join spS [figS n]
theorem fig_size {n:Nat} (hn:n<10):(figS n).cps.toList.length=1:=by
 rw [fig_is n hn]
 rfl
theorem joinL_words (c:Nat):∀(us:List Tie) (x:List Nat),(joinL (x::us.map fun t=>(wordS c t).cps.toList)).length=x.length+4*us.length
 | [],x=>rfl
 | t::us,x=>by
  show (x++32::joinL ((wordS c t).cps.toList::us.map fun t=>(wordS c t).cps.toList)).length=_
  rw [List.length_append,List.length_cons,joinL_words c us,List.length_cons]
  show x.length+(3+4*us.length+1)=_
  omega
theorem text_size {n c:Nat} (hn:n<10) (us:List Tie):(textS n c us).length=1+4*us.length:=by
 show (textS n c us).cps.size=_
 rw [← Array.length_toList,text_cps]
 show (joinL ((figS n).cps.toList::(us.map (wordS c)).map fun w=>w.cps.toList)).length=_
 rw [List.map_map]
 show (joinL ((figS n).cps.toList::us.map fun t=>(wordS c t).cps.toList)).length=_
 rw [joinL_words,fig_size hn]
theorem dig_get:∀ n:Nat,n<10→atI (Str.ofString "0123456789").cps.toList (n:Int)=some (48+n):=by
 intro n hn
 have all:∀ n:Nat,n<10→(Str.ofString "0123456789").cps.toList[n]? = some (48+n):=by decide
 exact atI_nat (all n hn)
theorem s_seqd {B:List Nat} {t:TS} {ρ:List Sl} {Ψ:VE} {X:Sl} {xs:List D} {i:Nat} (hi:ρ[i]? = some X) (hX:X=.d (.tup xs)∨X=.l xs) (h:∀ d:D,sq d=some xs→wpS B t (ρ.set i (.d d)) Ψ):wpS B t ρ Ψ:=by
 rcases hX with rfl | rfl
 ·have h':=h (.tup xs) rfl
  rw [set_same hi] at h'
  exact h'
 ·exact s_freeze hi (h (.lst xs) rfl)
def pLText:PV:=fun as Φ=>∃(n c:Nat) (us:List Tie) (X:Sl),as=[.d (.int n),X,.d (.str ⟨#[c]⟩)]∧(X=.d (.tup (us.map tieD))∨X=.l (us.map tieD))∧n<10∧us.length≤40∧Digs us∧Φ (.d (.str (textS n c us))) [.d (.int n),.u,.d (.str ⟨#[c]⟩)]
def pSign:PV:=fun as Φ=>∃ q:Int×Int×Int,as=[.l (poolD q)]∧∀ c q',Φ (.d (.str ⟨#[c]⟩)) [.l (poolD q')]
def pBent:PV:=fun as Φ=>∃(z:Str) (q:Int×Int×Int),as=[.d (.str z),.l (poolD q)]∧z.length≤200∧∀(y:Str) q',y.length≤1000→Φ (.d (.str y)) [.u,.l (poolD q')]
section
variable {P:Program} {w:World} {K:PySem.W.Frag} {mg:Str→Option Value} {base:Heap}
theorem sc__law_text:FnScope ["many","some","dash","text","a","b"] ["many","some","dash"] (defScope (top 33)):=by walk_at "sc"
theorem ok__law_text {f:Addr} {fd:FuncData} (F:Fun K "_law_text" "_law_text" (top 33) f fd) (T:Txt mg):FnOk P w K mg base CX0 1 f fd ["many","some","dash"] (spV pLText):=by
 refine fn_ok F sc__law_text [0,2] (fun as Φ h=>?_) (fun cdv A outer s H E hr=>?_)
 ·obtain ⟨n,c,us,X,rfl,_⟩:=h
  rfl
 ·have hu:=hr.units
  refine ⟨_,(pss_cons (ps_s 3 sc__law_text (pe_x pe_str (pv 0)))
   (pss_cons (ps_for PassesOwn.never rfl (pi_anyK (K:=K) rfl (pv 1)) (pg_tupK (K:=K) (n:=2) rfl rfl (pgs_cons (pg_n 4 sc__law_text) (pgs_cons (pg_n 5 sc__law_text) pgs_nil)))
   (pss_one (ps_s 3 sc__law_text (pe_op op_catS (pe_op op_catS (pe_op op_catS (pe_op op_catS (pv 3) pe_str) (pe_x pe_str (pv 4))) (pv 2)) (pe_x pe_str (pv 5))))))
   (pss_one (ps_ret (pv 3))))),?_⟩
  rintro as Φ ⟨n,c,us,X,rfl,hX,hn,hl,dg,k⟩
  have big:1000≤sizeLine:=by decide
  have d10:(Str.ofString "0123456789").length≤sizeLine:=Nat.le_trans (by decide) big
  have t1:∀ m:Nat,m≤40→(textS n c (us.take m)).length≤161:=fun m _=>by
   rw [text_size hn,List.length_take]
   omega
  walk_at "st"
  refine s_seqd (i:=1) rfl hX fun d hd=>?_
  walk_at "st"
  refine s_cut (fun ρ=>ρ=[.d (.int n),.d d,.d (.str ⟨#[c]⟩),.d (.str (textS n c [])),.u,.u]) ?_ ?_
  ·walk_at "v"
   refine o_ixS rfl rfl d10 (dig_get n hn) ?_
   walk_at "v"
   rw [text_nil,fig_is n hn]
   rfl
  rintro ρ rfl
  refine s_cut (fun ρ=>∃ a b,ρ=[.d (.int n),.d d,.d (.str ⟨#[c]⟩),.d (.str (textS n c us)),a,b]) ?_ ?_
  ·refine s_for (i_any ?_)
   walk_at "v"
   refine ⟨_,_,rfl,hd,fun i ρ=>∃ a b,ρ=[.d (.int n),.d d,.d (.str ⟨#[c]⟩),.d (.str (textS n c (us.take i))),a,b],⟨_,_,rfl⟩,?_,?_⟩
   ·rintro i x ρ hx ⟨a0,b0,rfl⟩
    rw [List.getElem?_map] at hx
    obtain ⟨t,ht,rfl⟩:=Option.map_eq_some_iff.mp hx
    have hi:=(List.getElem?_eq_some_iff.mp ht).1
    obtain ⟨a,b,rfl,ha,hb⟩:=dig_pair (dg t (List.mem_of_getElem? ht))
    have l1:=t1 i (by omega)
    refine g_tup rfl rfl ?_
    walk_at "v"
    refine o_catS rfl rfl (by show _+1≤_; omega) ?_
    walk_at "v"
    refine o_ixS rfl rfl d10 (dig_get a ha) ?_
    refine o_catS rfl rfl (by rw [Str.length_append]; show _+1+1≤_; omega) ?_
    walk_at "v"
    refine o_catS rfl rfl (by rw [Str.length_append,Str.length_append]; show _+1+1+1≤_; omega) ?_
    walk_at "v"
    refine o_ixS rfl rfl d10 (dig_get b hb) ?_
    refine o_catS rfl rfl (by rw [Str.length_append,Str.length_append,Str.length_append]; show _+1+1+1+1≤_; omega) ?_
    walk_at "v"
    have e:us.take (i+1)=us.take i++[((a:Int),(b:Int))]:=by
     rw [List.take_add_one,ht]
     rfl
    refine ⟨.d (.int a),.d (.int b),?_⟩
    rw [e,text_snoc,sp_is]
    rfl
   ·rintro ρ ⟨a,b,rfl⟩
    rw [List.length_map,List.take_length]
    exact ⟨_,_,rfl⟩
  rintro ρ ⟨a,b,rfl⟩
  walk_at "v"
  exact ⟨⟨_,rfl⟩,k⟩
theorem sc__law_sign:FnScope ["pool","some"] ["pool"] (defScope (top 34)):=by walk_at "sc"
theorem ok__law_sign {f:Addr} {fd:FuncData} (F:Fun K "_law_sign" "_law_sign" (top 34) f fd) (T:Txt mg) (G__law_next:Has P w K mg base "_law_next" (top 24) ["pool","base"] 1 (spV pNext)):FnOk P w K mg base CX0 2 f fd ["pool"] (spV pSign):=by
 refine fn_ok F sc__law_sign [0] (fun as Φ h=>?_) (fun cdv A outer s H E hr=>?_)
 ·obtain ⟨q,rfl,_⟩:=h
  rfl
 ·have hu:=hr.units
  refine ⟨_,(pss_cons (ps_s 1 sc__law_sign pe_str)
   (pss_cons (ps_if (pt_cmpR (opEq hu) (pe_cd G__law_next hr (pa_cons (pv 0) (pa_cons pe_int pa_nil))) pe_int (nomark _))
   (pss_one (ps_s 1 sc__law_sign pe_str))
   pss_nil)
   (pss_one (ps_ret (pe_x (pv 1) (pe_cd G__law_next hr (pa_cons (pv 0) (pa_cons (pe_callB call_len_str (by rfl) T.n_len PySem.boot_len (pa_cons (pv 1) pa_nil)) pa_nil)))))))),?_⟩
  rintro as Φ ⟨q,rfl,k⟩
  have big:1000≤sizeLine:=by decide
  walk_at "st"
  refine s_cut (fun ρ=>∃ s:Str,0<s.length∧s.length≤200∧ρ=[.l (poolD q),.d (.str s)]) ?_ ?_
  ·walk_at "v"
   exact ⟨_,by decide +kernel,by decide +kernel,rfl⟩
  rintro ρ ⟨s,s0,s1,rfl⟩
  refine s_cut (fun ρ=>∃(s:Str) (q:Int×Int×Int),0<s.length∧s.length≤200∧ρ=[.l (poolD q),.d (.str s)]) ?_ ?_
  ·refine s_if ?_
   walk_at "vc"
   refine ⟨q,2,rfl,by decide,by decide,fun r q' _ _=>⟨⟨_,rfl⟩,?_⟩⟩
   walk_at "sv"
   refine ite2 (fun _=>?_) (fun _=>?_)
   ·walk_at "v"
    exact ⟨_,q',by decide +kernel,by decide +kernel,rfl⟩
   ·exact s_next ⟨s,q',s0,s1,rfl⟩
  rintro ρ ⟨s,q,s0,s1,rfl⟩
  refine s_ret ?_
  walk_at "v"
  refine v_call ?_
  walk_at "v"
  refine c_lenS rfl (by omega) ?_
  walk_at "v"
  refine ⟨of_decide_eq_true rfl,?_⟩
  walk_at "st"
  refine ⟨q,_,rfl,by omega,by omega,fun r q' r0 r1=>⟨⟨_,rfl⟩,?_⟩⟩
  walk_at "st"
  obtain ⟨j,rfl⟩:∃ j:Nat,r=(j:Int):=⟨r.toNat,by omega⟩
  have hj:j<s.cps.toList.length:=by
   rw [Array.length_toList]
   have:(j:Int)<((s.cps.size:Nat):Int):=r1
   omega
  refine o_ixS rfl rfl (by omega) (atI_nat (List.getElem?_eq_getElem hj)) ?_
  exact ⟨⟨_,rfl⟩,k _ _⟩
theorem sc__law_bent_text:FnScope ["text","pool","turn","at"] ["text","pool"] (defScope (top 35)):=by walk_at "sc"
theorem ok__law_bent_text {f:Addr} {fd:FuncData} (F:Fun K "_law_bent_text" "_law_bent_text" (top 35) f fd) (T:Txt mg) (G__law_next:Has P w K mg base "_law_next" (top 24) ["pool","base"] 1 (spV pNext)) (G__law_sign:Has P w K mg base "_law_sign" (top 34) ["pool"] 2 (spV pSign)):FnOk P w K mg base CX0 3 f fd ["text","pool"] (spV pBent):=by
 refine fn_ok F sc__law_bent_text [1] (fun as Φ h=>?_) (fun cdv A outer s H E hr=>?_)
 ·obtain ⟨z,q,rfl,_⟩:=h
  rfl
 ·have hu:=hr.units
  refine ⟨_,(pss_cons (ps_for PassesOwn.never rfl (pi_range1 (by rfl) T.n_range (pa_cons (pe_op (opBK (K:=K) rfl) pe_int (pe_cd G__law_next hr (pa_cons (pv 1) (pa_cons pe_int pa_nil)))) pa_nil)) (pg_n 2 sc__law_bent_text)
   (pss_cons (ps_s 3 sc__law_bent_text (pe_cd G__law_next hr (pa_cons (pv 1) (pa_cons (pe_op (opBK (K:=K) rfl) (pe_callB call_len_str (by rfl) T.n_len PySem.boot_len (pa_cons (pv 0) pa_nil)) pe_int) pa_nil))))
    (pss_one (ps_s 0 sc__law_bent_text (pe_op op_catS (pe_op op_catS (pe_slice sl_S (pv 0) po_none (po_some (pv 3))) (pe_x (pe_lst (pa_cons pe_str (pa_cons (pe_cd G__law_sign hr (pa_cons (pv 1) pa_nil)) (pa_cons (pe_cd G__law_sign hr (pa_cons (pv 1) pa_nil)) pa_nil)))) (pe_cd G__law_next hr (pa_cons (pv 1) (pa_cons pe_int pa_nil))))) (pe_slice sl_S (pv 0) (po_some (pe_op (opBK (K:=K) rfl) (pv 3) (pe_cd G__law_next hr (pa_cons (pv 1) (pa_cons pe_int pa_nil))))) po_none))))))
   (pss_one (ps_ret (pv 0)))),?_⟩
  rintro as Φ ⟨z,q,rfl,hz,k⟩
  have big:1000≤sizeLine:=by decide
  walk_at "st"
  refine s_cut (fun ρ=>∃(y:Str) (q:Int×Int×Int) (a b:Sl),y.length≤1000∧ρ=[.d (.str y),.l (poolD q),a,b]) ?_ ?_
  ·refine s_for (i_r1 ?_)
   walk_at "vc"
   refine ⟨q,2,rfl,by decide,by decide,fun m q1 m0 m1=>⟨⟨_,rfl⟩,?_⟩⟩
   walk_at "sv"
   refine ⟨1+m,⟨_,rfl,rfl⟩,by omega,by omega,fun i ρ=>∃(y:Str) (q:Int×Int×Int) (a b:Sl),y.length+1≤201*2 ^ i∧ρ=[.d (.str y),.l (poolD q),a,b],⟨z,q1,_,_,by omega,rfl⟩,?_,?_⟩
   ·rintro i x ρ hx ⟨y,q,a,b,hy,rfl⟩
    have hi:i<2:=by
     have:=(List.getElem?_eq_some_iff.mp hx).1
     rw [irng_len] at this
     omega
    have p2:(2:Nat) ^ i≤2:=by
     have:i=0∨i=1:=by omega
     rcases this with q | q <;> rw [q] <;> decide
    have y1:y.length≤401:=by omega
    refine g_name rfl ?_
    walk_at "st"
    refine s_cut (fun ρ=>∃(q:Int×Int×Int) (v:Int) (a:Sl),ρ=[.d (.str y),.l (poolD q),a,.d (.int v)]) ?_ ?_
    ·walk_at "v"
     refine v_call ?_
     walk_at "v"
     refine c_lenS rfl (by omega) ?_
     walk_at "v"
     refine ⟨of_decide_eq_true rfl,?_⟩
     walk_at "st"
     refine ⟨q,_,rfl,by omega,by omega,fun r q' r0 r1=>⟨⟨_,rfl⟩,?_⟩⟩
     walk_at "sv"
     exact ⟨q',r,_,rfl⟩
    rintro ρ ⟨q,v,a,rfl⟩
    walk_at "v"
    refine sl_Sd rfl (by omega) fun z1 hz1=>?_
    walk_at "vc"
    refine ⟨q,rfl,fun c1 q1=>⟨⟨_,rfl⟩,?_⟩⟩
    walk_at "sv"
    walk_at "call"
    refine ⟨q1,rfl,fun c2 q2=>⟨⟨_,rfl⟩,?_⟩⟩
    walk_at "sv"
    walk_at "call"
    refine ⟨q2,3,rfl,by decide,by decide,fun r q3 r0 r1=>⟨⟨_,rfl⟩,?_⟩⟩
    walk_at "st"
    have pick:∃ s:Str,s.length≤1∧atI [D.str (Str.ofString ""),D.str ⟨#[c1]⟩,D.str ⟨#[c2]⟩] r=some (.str s):=by
     have:r=0∨r=1∨r=2:=by omega
     rcases this with e | e | e <;> rw [e]
     ·exact ⟨_,Nat.zero_le _,rfl⟩
     ·exact ⟨_,Nat.le_refl _,rfl⟩
     ·exact ⟨_,Nat.le_refl _,rfl⟩
    obtain ⟨s1,hs1,es1⟩:=pick
    refine o_ixLe rfl rfl ⟨_,es1,?_⟩
    refine o_catS rfl rfl (by omega) ?_
    walk_at "vc"
    refine ⟨q3,2,rfl,by decide,by decide,fun r q4 r0 r1=>⟨⟨_,rfl⟩,?_⟩⟩
    walk_at "sv"
    refine sl_Sd rfl (by omega) fun z2 hz2=>?_
    have hc:(z1++s1).length≤y.length+1:=by rw [Str.length_append]; omega
    refine o_catS rfl rfl (by omega) ?_
    walk_at "v"
    refine ⟨z1++s1++z2,q4,_,_,?_,rfl⟩
    rw [Str.length_append,Nat.pow_succ]
    omega
   ·rintro ρ ⟨y,q,a,b,hy,rfl⟩
    rw [irng_len] at hy
    have p4:(2:Nat) ^ (1+m).toNat≤4:=by
     have:(1+m).toNat=1∨(1+m).toNat=2:=by omega
     rcases this with e | e <;> rw [e] <;> decide
    exact ⟨y,q,a,b,by omega,rfl⟩
  rintro ρ ⟨y,q,a,b,hy,rfl⟩
  walk_at "v"
  exact ⟨⟨_,rfl⟩,k _ _ hy⟩
end
local macro_rules | `(tactic| walk_at "nm")=>`(tactic| first
 | ((with_reducible refine nm8 ?_); intro _ _ _ _ _ _ _ _ _)
 | ((with_reducible refine nm6 ?_); intro _ _ _ _ _ _ _)
 | ((with_reducible refine nm5 ?_); intro _ _ _ _ _ _)
 | ((with_reducible refine nm4 ?_); intro _ _ _ _ _)
 | ((with_reducible refine nm3 ?_); intro _ _ _ _)
 | ((with_reducible refine nm2 ?_); intro _ _ _))
local macro_rules | `(tactic| walk_at "nf")=>`(tactic| first
 | ((with_reducible refine nf14 ?_); intro _ _ _ _ _ _ _ _ _ _ _ _ _ _ _))
local macro_rules | `(tactic| walk_at "ps")=>`(tactic| try ((with_reducible refine s_psi ?_); intro _))
local macro_rules | `(tactic| walk_at "rf")=>`(tactic| first | rfl | decide)
local macro_rules | `(tactic| walk_at "op")=>`(tactic| first
 | ((with_reducible refine' o_i0 ?h1 ?h2 ?_); (case h1=>rfl); (case h2=>rfl))
 | ((with_reducible refine' OpV.l (o_i0 ?h1 ?h2 ?_)); (case h1=>rfl); (case h2=>rfl))
 | ((with_reducible refine' o_b0 ?h1 ?h2 ?_); (case h1=>rfl); (case h2=>rfl))
 | ((with_reducible refine' OpV.l (o_b0 ?h1 ?h2 ?_)); (case h1=>rfl); (case h2=>rfl))
 | ((with_reducible refine' OpV.l (o_eqI ?h1 ?h2 ?_)); (case h1=>rfl); (case h2=>rfl))
 | ((with_reducible refine' OpV.l (o_neI ?h1 ?h2 ?_)); (case h1=>rfl); (case h2=>rfl))
 | ((with_reducible refine' OpV.l (o_eqB ?h1 ?h2 ?_)); (case h1=>rfl); (case h2=>rfl))
 | ((with_reducible refine' o_isN ?h1 ?_); (case h1=>rfl))
 | ((with_reducible refine' o_notN ?h1 ?_); (case h1=>rfl))
 | ((with_reducible refine' o_neNil ?h1 ?h2 ?h3 ?_); (case h1=>rfl); (case h2=>rfl); (case h3=>first | exact dep_int _ | assumption))
 | ((with_reducible refine' OpV.r (OpV.l (o_catL ?h1 ?h2 ?h3 ?_))); (case h1=>rfl); (case h2=>rfl); (case h3=>exact szl (Nat.le_of_ble_eq_true rfl)))
 | ((with_reducible refine' o_ixT ?h1 ?h2 ?h3 ?_); (case h1=>rfl); (case h2=>rfl); (case h3=>rfl))
 | ((with_reducible refine' o_ixL ?h1 ?h2 ?h3 ?_); (case h1=>rfl); (case h2=>rfl); (case h3=>rfl))
 | ((with_reducible refine' o_ixL ?h1 ?h2 ?h3 ?_); (case h1=>rfl); (case h2=>rfl); (case h3=>assumption))
 | ((with_reducible refine' o_ixT ?h1 ?h2 ?h3 ?_); (case h1=>rfl); (case h2=>rfl); (case h3=>assumption)))
local macro_rules | `(tactic| walk_at "ca")=>`(tactic| first
 | ((with_reducible refine' u_i ?h1 ?_); (case h1=>rfl))
 | ((with_reducible refine' c_ii ?h1 ?h2 ?_); (case h1=>rfl); (case h2=>rfl))
 | ((with_reducible refine' c_lenL ?h1 ?_); (case h1=>rfl))
 | ((with_reducible refine' c_lenT ?h1 ?_); (case h1=>rfl))
 | ((with_reducible refine' c_tupleL ?h1 ?_); (case h1=>rfl))
 | ((with_reducible refine' c_listT ?h1 ?_); (case h1=>rfl))
 | ((with_reducible refine' c_int_b ?h1 ?_); (case h1=>rfl))
 | ((with_reducible refine' c_isinst ?h1 ?h2 ?_); (case h1=>rfl); (case h2=>rfl)))
local macro_rules | `(tactic| walk_at "v1")=>`(tactic| first
 | with_reducible refine v_op ?_
 | with_reducible refine v_int ?_
 | ((with_reducible refine' v_var_d ?h ?_); (case h=>rfl))
 | ((with_reducible refine' v_var_l ?h ?_); (case h=>rfl))
 | ((with_reducible refine' v_var_f ?h ?_); (case h=>rfl))
 | with_reducible refine v_cb ?_
 | with_reducible refine v_join ?_
 | with_reducible refine v_split ?_
 | with_reducible refine v_fmt ?_
 | with_reducible refine v_idxF ?_
 | with_reducible refine v_revX ?_
 | with_reducible refine v_bm ?_
 | (refine ⟨⟨rfl,_,(rfl:rd _ _=some (D.lst _))⟩,?_⟩)
 | with_reducible refine a_cons ?_
 | with_reducible refine a_nil ?_
 | with_reducible refine v_tup ?_
 | with_reducible refine v_lst ?_
 | with_reducible refine v_bl ?_
 | with_reducible refine v_non ?_
 | with_reducible refine v_str ?_
 | with_reducible refine v_raw ?_
 | with_reducible refine v_sl ?_
 | with_reducible refine p_none ?_
 | with_reducible refine p_some ?_
 | with_reducible refine v_un ?_
 | with_reducible refine v_not ?_
 | with_reducible refine t_test ?_
 | with_reducible refine t_tru ?_
 | with_reducible refine t_true ?_
 | with_reducible refine t_not ?_
 | with_reducible refine s_seqN ?_
 | walk_at "nm"
 | with_reducible refine s_seq ?_
 | with_reducible refine s_asg ?_
 | ((with_reducible refine' g_name ?h ?_); (case h=>rfl))
 | ((with_reducible refine' g_tup ?h1 ?h2 ?_); (case h1=>rfl); (case h2=>rfl))
 | with_reducible refine gs_cons ?_
 | with_reducible refine g_put ?_
 | (refine ⟨_,(rfl:Rs.it _=some _),?_⟩)
 | (refine ⟨_,(rfl:_=Rs.b _),?_⟩)
 | with_reducible refine gs_nil ?_
 | with_reducible refine s_ret ?_
 | with_reducible refine s_drop ?_
 | with_reducible refine s_if ?_
 | with_reducible refine s_next ?_
 | walk_at "op"
 | walk_at "ca"
 | (refine ⟨_,(rfl:rd _ _=some _),?_⟩)
 | (refine ⟨_,_,(rfl:rd _ _=some _),(rfl:truD _=some _),?_⟩)
 | (refine ⟨_,(rfl:its _=some _),szl (Nat.le_of_ble_eq_true rfl),?_⟩))
local macro_rules | `(tactic| walk_at "v")=>`(tactic| (repeat (walk_at "v1")))
local macro_rules | `(tactic| walk_at "st")=>`(tactic| try dsimp only [List.length_cons,List.length_nil,Nat.reduceAdd,Nat.reduceSub,List.replicate,List.cons_append,List.nil_append,List.set,caps,List.map,Rs.sl,wb,L4.outer,capt,List.drop,inner,List.getElem?_cons_zero,List.getElem?_cons_succ,List.headD,List.tail,argS,Option.getD])
local macro_rules | `(tactic| walk_at "call")=>`(tactic| ((with_reducible refine v_call ?_); walk_at "v"; (refine ⟨of_decide_eq_true rfl,?_⟩); walk_at "st"))
local macro_rules | `(tactic| walk_at "J")=>`(tactic| first
 | ((with_reducible refine' v_orJ ?h1 ?h2 ?_); (case h1=>(walk_at "vJ"; exact ⟨rfl,rfl⟩)); (case h2=>(intro _; walk_at "vJ"; exact ⟨rfl,rfl⟩)))
 | ((with_reducible refine' v_andJ ?h1 ?h2 ?_); (case h1=>(walk_at "vJ"; exact ⟨rfl,rfl⟩)); (case h2=>(intro _; walk_at "vJ"; exact ⟨rfl,rfl⟩)))
 | ((with_reducible refine' t_andJ ?h1 ?h2 ?_); (case h1=>(walk_at "vJ"; exact ⟨rfl,rfl⟩)); (case h2=>(intro _; walk_at "vJ"; exact ⟨rfl,rfl⟩)))
 | ((with_reducible refine' v_chainJ ?h1 ?h2 ?h3 ?h4 ?h5 ?_); (case h1=>(walk_at "vJ"; exact ⟨rfl,rfl⟩)); (case h2=>(walk_at "vJ"; exact ⟨rfl,rfl⟩)); (case h3=>(walk_at "vJ"; exact ⟨rfl,rfl⟩)); (case h4=>(intro _; walk_at "vJ"; exact ⟨rfl,rfl⟩)); (case h5=>(intro _; walk_at "vJ"; exact ⟨rfl,rfl⟩)))
 | ((with_reducible refine' v_chain3J ?h1 ?h2 ?h3 ?h4 ?h5 ?h6 ?h7 ?_); (case h1=>(walk_at "vJ"; exact ⟨rfl,rfl⟩)); (case h2=>(walk_at "vJ"; exact ⟨rfl,rfl⟩)); (case h3=>(walk_at "vJ"; exact ⟨rfl,rfl⟩)); (case h4=>(intro _; walk_at "vJ"; exact ⟨rfl,rfl⟩)); (case h5=>(intro _; walk_at "vJ"; exact ⟨rfl,rfl⟩)); (case h6=>(intro _; walk_at "vJ"; exact ⟨rfl,rfl⟩)); (case h7=>(intro _; walk_at "vJ"; exact ⟨rfl,rfl⟩))))
local macro_rules | `(tactic| walk_at "vJ")=>`(tactic| (repeat (first | walk_at "v1" | walk_at "J")))
local macro_rules | `(tactic| walk_at "sc")=>`(tactic| exact ⟨rfl,rfl,rfl,by decide +kernel,rfl,by decide +kernel,by decide +kernel⟩)
local macro_rules | `(tactic| walk_at "cs")=>`(tactic| exact ⟨rfl,by decide +kernel,by decide +kernel,by repeat' (first | exact trivial | refine ⟨⟨rfl,rfl,by first | exact Or.inl rfl | exact Or.inr rfl⟩,?_⟩),by decide +kernel⟩)
local macro_rules | `(tactic| walk_at "vc")=>`(tactic| (walk_at "v"; walk_at "call"))
local macro_rules | `(tactic| walk_at "sv")=>`(tactic| (walk_at "st"; walk_at "v"))
theorem fig_words {c n n':Nat} {us us':List Tie} (d:Digs us) (d':Digs us') (hn:n<10) (hn':n'<10) (e:textW n c us=textW n' c us'):n=n'∧us=us':=by
 have e1:figS n=figS n':=(List.cons.inj e).1
 have e2:us.map (wordS c)=us'.map (wordS c):=(List.cons.inj e).2
 have one:∀ l:List Tie,Digs l→l.map (numT∘wordS c)=l:=fun l hl=>by
  exact (List.map_congr_left (g:=id) fun t ht=>num_word fun u hu=>by rw [List.mem_singleton.mp hu]; exact hl t ht).trans (List.map_id l)
 have h:=congrArg (List.map numT) e2
 rw [List.map_map,List.map_map,one us d,one us' d'] at h
 rw [fig_is n hn,fig_is n' hn'] at e1
 have:=(List.cons.inj (str_inj e1)).1
 exact ⟨by omega,h⟩
def pLPairs:PV:=fun as Φ=>∃(z:Str) (c:Nat),as=[.d (.str z),.d (.str ⟨#[c]⟩)]∧c≠32∧z.length≤1000∧((∃ n us,isText c z n us∧Φ (.d (.tup [.int n,.lst (us.map tieD)])) as)∨((¬ ∃ n us,isText c z n us)∧Φ (.d .non) as))
section
variable {P:Program} {w:World} {K:PySem.W.Frag} {mg:Str→Option Value} {base:Heap}
theorem sc__law_pairs:FnScope ["text","dash","words","found","word"] ["text","dash"] (defScope (top 36)):=by walk_at "sc"
theorem ok__law_pairs {f:Addr} {fd:FuncData} (F:Fun K "_law_pairs" "_law_pairs" (top 36) f fd) (T:Txt mg):FnOk P w K mg base CX0 1 f fd ["text","dash"] (spV pLPairs):=by
 refine fn_ok F sc__law_pairs [0,1] (fun as Φ h=>?_) (fun cdv A outer s H E hr=>?_)
 ·obtain ⟨z,c,rfl,_⟩:=h
  rfl
 ·have hu:=hr.units
  refine ⟨_,(pss_cons (ps_s 2 sc__law_pairs (pe_bmK (K:=K) rfl PySem.F.plainAttrs_str PySem.F.slot_str_split PySem.F.type_str_split mt_split (pv 0) (pa_cons pe_str pa_nil)))
   (pss_cons (ps_s 3 sc__law_pairs (pe_lst pa_nil))
   (pss_cons (ps_for PassesOwn.never rfl (pi_anyK (K:=K) rfl (pe_slice (slUK (K:=K) rfl) (pv 2) (po_some pe_int) po_none)) (pg_n 4 sc__law_pairs)
   (pss_cons (ps_if (PW.pt (pw_or (pt_cmpR (opNe hu) (pe_callB call_len_str (by rfl) T.n_len PySem.boot_len (pa_cons (pv 4) pa_nil)) pe_int (nomark _)) (pw_or (pt_cmpR (opNe hu) (pe_x (pv 4) pe_int) (pv 1) (nomark _)) (pw_or (pt_cmpR op_notin_str (pe_x (pv 4) pe_int) pe_str (by with_unfolding_all rfl)) (pw_or1 (pt_cmpR op_notin_str (pe_x (pv 4) pe_int) pe_str (by with_unfolding_all rfl)))))))
    (pss_one (ps_ret pe_non))
    pss_nil)
    (pss_one (ps_expr (pe_bmK (K:=K) rfl PySem.F.plainAttrs_list PySem.F.slot_list_append PySem.F.type_list_append mt_append (pv 3) (pa_cons (pe_tup (pa_cons (pe_bmK (K:=K) rfl PySem.F.plainAttrs_str PySem.F.slot_str_index PySem.F.type_str_index mt_idxF pe_str (pa_cons (pe_x (pv 4) pe_int) pa_nil)) (pa_cons (pe_bmK (K:=K) rfl PySem.F.plainAttrs_str PySem.F.slot_str_index PySem.F.type_str_index mt_idxF pe_str (pa_cons (pe_x (pv 4) pe_int) pa_nil)) pa_nil))) pa_nil))))))
   (pss_cons (ps_if (PW.pt (pw_or (pt_cmpR (opNe hu) (pe_callB call_len_str (by rfl) T.n_len PySem.boot_len (pa_cons (pe_x (pv 2) pe_int) pa_nil)) pe_int (nomark _)) (pw_or1 (pt_cmpR op_notin_str (pe_x (pv 2) pe_int) pe_str (by with_unfolding_all rfl)))))
   (pss_one (ps_ret pe_non))
   pss_nil)
   (pss_one (ps_ret (pe_tup (pa_cons (pe_bmK (K:=K) rfl PySem.F.plainAttrs_str PySem.F.slot_str_index PySem.F.type_str_index mt_idxF pe_str (pa_cons (pe_x (pv 2) pe_int) pa_nil)) (pa_cons (pv 3) pa_nil))))))))),?_⟩
  rintro as Φ ⟨z,c,rfl,hc,hz,k⟩
  have big:1001≤sizeLine:=by decide
  have pos:=PyProof.Rows.split_pos z ⟨#[32]⟩
  have le:=PyProof.Rows.split_le z ⟨#[32]⟩
  obtain ⟨w0,ws,ew⟩:∃ w0 ws,Txt.split z ⟨#[32]⟩=w0::ws:=by
   cases e:Txt.split z ⟨#[32]⟩ with
   | nil=>rw [e] at pos; exact absurd pos (by decide)
   | cons w0 ws=>exact ⟨w0,ws,rfl⟩
  have pl:∀ w∈w0::ws,w.length≤1001:=fun w hw=>Nat.le_trans (part_len (ew ▸ hw)) (by omega)
  have l2:ws.length≤1001:=by
   rw [ew,List.length_cons] at le
   omega
  have bad:(¬ (isFig w0∧∀ v∈ws,isWord c v))→Φ (.d .non) [.d (.str z),.d (.str ⟨#[c]⟩)]:=fun no=>by
   rcases k with ⟨n,us,ht,_⟩ | ⟨_,k⟩
   ·obtain ⟨w1,ws1,e1,e2,e3⟩:=text_of hc ht
    rw [ew] at e1
    cases e1
    exact absurd ⟨e2,e3⟩ no
   ·exact k
  let S0:Sl:=.d (.str z)
  let S1:Sl:=.d (.str ⟨#[c]⟩)
  walk_at "st"
  refine s_cut (fun ρ=>ρ=[S0,S1,.l ((w0::ws).map D.str),.u,.u]) ?_ ?_
  ·walk_at "v"
   refine ⟨_,rfl,?_⟩
   walk_at "v"
   refine ⟨32,congrArg (fun z=>[Rs.d (D.str z)]) sp_is,hz,?_⟩
   rw [ew]
   walk_at "v"
   rfl
  rintro ρ rfl
  refine s_cut (fun ρ=>ρ=[S0,S1,.l ((w0::ws).map D.str),.l [],.u]) ?_ ?_
  ·walk_at "v"
   rfl
  rintro ρ rfl
  refine s_cut (fun ρ=>∃(us:List Tie) (a:Sl),Digs us∧ws=us.map (wordS c)∧ρ=[S0,S1,.l ((w0::ws).map D.str),.l (us.map tieD),a]) ?_ ?_
  ·refine s_for (i_any ?_)
   walk_at "v"
   refine SlV.l (sl_L rfl ?_)
   rw [show cutD (List.map D.str (w0::ws)) (some 1) none=ws.map D.str from cut_one (w0::ws)]
   refine ⟨_,_,rfl,rfl,fun i ρ=>∃(us:List Tie) (a:Sl),Digs us∧ws.take i=us.map (wordS c)∧ρ=[S0,S1,.l ((w0::ws).map D.str),.l (us.map tieD),a],⟨[],_,(fun _ h=>nomatch h),rfl,rfl⟩,?_,?_⟩
   ·rintro i x ρ hx ⟨us,a,dg,eu,rfl⟩
    rw [List.getElem?_map] at hx
    obtain ⟨v,hv,rfl⟩:=Option.map_eq_some_iff.mp hx
    have mv:=List.mem_of_getElem? hv
    have lv:=pl v (List.mem_cons_of_mem _ mv)
    have no:¬ isWord c v→¬ (isFig w0∧∀ v∈ws,isWord c v):=fun n h=>n (h.2 v mv)
    have hul:us.length≤1001:=by
     have:=congrArg List.length eu
     rw [List.length_take,List.length_map] at this
     omega
    refine g_name rfl ?_
    walk_at "st"
    refine s_cut (fun ρ=>isWord c v∧ρ=[S0,S1,.l ((w0::ws).map D.str),.l (us.map tieD),.d (.str v)]) ?_ ?_
    ·refine s_if (t_or ?_)
     walk_at "v"
     refine c_lenS rfl (by omega) ?_
     walk_at "v"
     refine ite2 (fun h1=>?_) (fun h1=>?_)
     ·rw [if_pos rfl]
      walk_at "v"
      refine ⟨⟨_,rfl⟩,bad (no fun hw=>?_)⟩
      have:=of_decide_eq_false (nb_false h1)
      have:=word_len3 hw
      omega
     have l3:v.length=3:=by
      have:=of_decide_eq_true (nb_true h1)
      omega
     obtain ⟨x,y,q,rfl⟩:=three_of_len l3
     have w3:(⟨#[x,y,q]⟩:Str).length≤sizeLine:=by show 3≤_; omega
     refine t_or ?_
     walk_at "v"
     refine o_ixS (c:=y) rfl rfl w3 rfl ?_
     walk_at "v"
     refine OpV.l (o_neS rfl rfl rfl rfl rfl ?_)
     refine ⟨_,rfl,?_⟩
     refine ite2 (fun h2=>?_) (fun h2=>?_)
     ·rw [if_pos rfl]
      walk_at "v"
      refine ⟨⟨_,rfl⟩,bad (no fun hw=>?_)⟩
      have ey:=(word_three.mp hw).1
      have:=of_decide_eq_false (nb_false h2)
      exact this (by rw [ey])
     have ey:y=c:=by
      have:=of_decide_eq_true (nb_true h2)
      exact (List.cons.inj (str_inj (V.str.inj this))).1
     subst ey
     refine t_or ?_
     walk_at "v"
     refine o_ixS (c:=x) rfl rfl w3 rfl ?_
     walk_at "v"
     refine o_ninS rfl rfl ?_
     rw [show (Builtin.Str.occurrences (Str.ofString "0123456789") ⟨#[x]⟩ 0 (Str.ofString "0123456789").length 1).isEmpty=(Builtin.Str.occurrences figsT ⟨#[x]⟩ 0 figsT.length 1).isEmpty from rfl,StrLaws.found_one]
     walk_at "v"
     refine ite2 (fun h3=>?_) (fun h3=>?_)
     ·rw [if_pos rfl]
      walk_at "v"
      refine ⟨⟨_,rfl⟩,bad (no fun hw=>?_)⟩
      exact of_decide_eq_false (nb_false h3) (fig_one.mp (word_three.mp hw).2.1)
     have fx:isFig ⟨#[x]⟩:=fig_one.mpr (of_decide_eq_true (nb_true h3))
     walk_at "v"
     refine o_ixS (c:=q) rfl rfl w3 rfl ?_
     walk_at "v"
     refine o_ninS rfl rfl ?_
     rw [show (Builtin.Str.occurrences (Str.ofString "0123456789") ⟨#[q]⟩ 0 (Str.ofString "0123456789").length 1).isEmpty=(Builtin.Str.occurrences figsT ⟨#[q]⟩ 0 figsT.length 1).isEmpty from rfl,StrLaws.found_one]
     walk_at "v"
     refine ite2 (fun h4=>?_) (fun h4=>?_)
     ·walk_at "v"
      refine ⟨⟨_,rfl⟩,bad (no fun hw=>?_)⟩
      exact of_decide_eq_false (nb_false h4) (fig_one.mp (word_three.mp hw).2.2)
     have fq:isFig ⟨#[q]⟩:=fig_one.mpr (of_decide_eq_true (nb_true h4))
     exact s_next ⟨word_three.mpr ⟨rfl,fx,fq⟩,rfl⟩
    rintro ρ ⟨hw,rfl⟩
    obtain ⟨t,dt,rfl⟩:=hw
    obtain ⟨p,q,rfl,hp,hq⟩:=dig_pair (dt _ List.mem_cons_self)
    have w3:(wordS c ((p:Int),(q:Int))).length≤sizeLine:=by show 3≤_; omega
    walk_at "v"
    refine ⟨rfl,?_⟩
    walk_at "v"
    refine o_ixS (c:=48+p) rfl rfl w3 rfl ?_
    walk_at "v"
    refine ⟨p,rfl,hp,?_⟩
    walk_at "v"
    refine ⟨rfl,?_⟩
    walk_at "v"
    refine o_ixS (c:=48+q) rfl rfl w3 rfl ?_
    walk_at "v"
    refine ⟨q,rfl,hq,?_⟩
    walk_at "v"
    refine m_append rfl rfl (by rw [List.length_map]; exact Nat.lt_of_le_of_lt hul (by decide)) ?_
    walk_at "v"
    refine ⟨us++[((p:Int),(q:Int))],.d (.str (wordS c ((p:Int),(q:Int)))),fun u hu=>?_,?_,?_⟩
    ·rcases List.mem_append.mp hu with h | h
     ·exact dg u h
     ·exact dt u h
    ·rw [List.take_add_one,hv,eu,List.map_append]
     rfl
    ·rw [List.map_append]
     rfl
   ·rintro ρ ⟨us,a,dg,eu,rfl⟩
    rw [List.length_map,List.take_length] at eu
    exact ⟨us,a,dg,eu,rfl⟩
  rintro ρ ⟨us,a,dg,eu,rfl⟩
  have at0:atI ((w0::ws).map D.str) 0=some (.str w0):=atI_nat (j:=0) rfl
  have lw0:=pl w0 List.mem_cons_self
  refine s_cut (fun ρ=>isFig w0∧ρ=[S0,S1,.l ((w0::ws).map D.str),.l (us.map tieD),a]) ?_ ?_
  ·refine s_if (t_or ?_)
   walk_at "v"
   refine c_lenS rfl (by omega) ?_
   walk_at "v"
   refine ite2 (fun h1=>?_) (fun h1=>?_)
   ·rw [if_pos rfl]
    walk_at "v"
    refine ⟨⟨_,rfl⟩,bad fun h=>?_⟩
    have:=of_decide_eq_false (nb_false h1)
    have:=fig_len1 h.1
    omega
   have l1:w0.length=1:=by
    have:=of_decide_eq_true (nb_true h1)
    omega
   obtain ⟨x,rfl⟩:=one_of_len l1
   walk_at "v"
   refine o_ninS rfl rfl ?_
   rw [show (Builtin.Str.occurrences (Str.ofString "0123456789") ⟨#[x]⟩ 0 (Str.ofString "0123456789").length 1).isEmpty=(Builtin.Str.occurrences figsT ⟨#[x]⟩ 0 figsT.length 1).isEmpty from rfl,StrLaws.found_one]
   walk_at "v"
   refine ite2 (fun h3=>?_) (fun h3=>?_)
   ·walk_at "v"
    refine ⟨⟨_,rfl⟩,bad fun h=>?_⟩
    exact of_decide_eq_false (nb_false h3) (fig_one.mp h.1)
   exact s_next ⟨fig_one.mpr (of_decide_eq_true (nb_true h3)),rfl⟩
  rintro ρ ⟨⟨n,hn,e0⟩,rfl⟩
  have ok:∃ n us,isText c z n us:=words_text ⟨w0,ws,ew,⟨n,hn,e0⟩,fun v hv=>by
   rw [eu] at hv
   obtain ⟨t,ht,rfl⟩:=List.mem_map.mp hv
   exact ⟨t,fun u hu=>by rw [List.mem_singleton.mp hu]; exact dg t ht,rfl⟩⟩
  rcases k with ⟨n',us',ht,k⟩ | ⟨no,_⟩
  rotate_left
  ·exact absurd ok no
  have e1:=text_words hc ht
  rw [ew] at e1
  have e2:w0=figS n':=(List.cons.inj e1).1
  have e3:ws=us'.map (wordS c):=(List.cons.inj e1).2
  have e4:us=us':=(fig_words (n:=0) (n':=0) dg ht.2.1 (by decide) (by decide) (by show _::us.map (wordS c)=_::us'.map (wordS c); rw [← eu,e3])).2
  subst e4
  have fw:w0=⟨#[48+n']⟩:=e2.trans (fig_is n' ht.1)
  subst fw
  refine s_freeze (i:=3) rfl ?_
  walk_at "sv"
  refine ⟨rfl,?_⟩
  walk_at "v"
  refine ⟨n',rfl,ht.1,?_⟩
  walk_at "v"
  exact ⟨⟨_,rfl⟩,k⟩
end
local macro_rules | `(tactic| walk_at "nm")=>`(tactic| first
 | ((with_reducible refine nm8 ?_); intro _ _ _ _ _ _ _ _ _)
 | ((with_reducible refine nm6 ?_); intro _ _ _ _ _ _ _)
 | ((with_reducible refine nm5 ?_); intro _ _ _ _ _ _)
 | ((with_reducible refine nm4 ?_); intro _ _ _ _ _)
 | ((with_reducible refine nm3 ?_); intro _ _ _ _)
 | ((with_reducible refine nm2 ?_); intro _ _ _))
local macro_rules | `(tactic| walk_at "nf")=>`(tactic| first
 | ((with_reducible refine nf14 ?_); intro _ _ _ _ _ _ _ _ _ _ _ _ _ _ _))
local macro_rules | `(tactic| walk_at "ps")=>`(tactic| try ((with_reducible refine s_psi ?_); intro _))
local macro_rules | `(tactic| walk_at "rf")=>`(tactic| first | rfl | decide)
local macro_rules | `(tactic| walk_at "op")=>`(tactic| first
 | ((with_reducible refine' o_i0 ?h1 ?h2 ?_); (case h1=>rfl); (case h2=>rfl))
 | ((with_reducible refine' OpV.l (o_i0 ?h1 ?h2 ?_)); (case h1=>rfl); (case h2=>rfl))
 | ((with_reducible refine' o_b0 ?h1 ?h2 ?_); (case h1=>rfl); (case h2=>rfl))
 | ((with_reducible refine' OpV.l (o_b0 ?h1 ?h2 ?_)); (case h1=>rfl); (case h2=>rfl))
 | ((with_reducible refine' OpV.l (o_eqI ?h1 ?h2 ?_)); (case h1=>rfl); (case h2=>rfl))
 | ((with_reducible refine' OpV.l (o_neI ?h1 ?h2 ?_)); (case h1=>rfl); (case h2=>rfl))
 | ((with_reducible refine' OpV.l (o_eqB ?h1 ?h2 ?_)); (case h1=>rfl); (case h2=>rfl))
 | ((with_reducible refine' o_isN ?h1 ?_); (case h1=>rfl))
 | ((with_reducible refine' o_notN ?h1 ?_); (case h1=>rfl))
 | ((with_reducible refine' o_neNil ?h1 ?h2 ?h3 ?_); (case h1=>rfl); (case h2=>rfl); (case h3=>first | exact dep_int _ | assumption))
 | ((with_reducible refine' OpV.r (OpV.l (o_catL ?h1 ?h2 ?h3 ?_))); (case h1=>rfl); (case h2=>rfl); (case h3=>exact szl (Nat.le_of_ble_eq_true rfl)))
 | ((with_reducible refine' o_ixT ?h1 ?h2 ?h3 ?_); (case h1=>rfl); (case h2=>rfl); (case h3=>rfl))
 | ((with_reducible refine' o_ixL ?h1 ?h2 ?h3 ?_); (case h1=>rfl); (case h2=>rfl); (case h3=>rfl))
 | ((with_reducible refine' o_ixL ?h1 ?h2 ?h3 ?_); (case h1=>rfl); (case h2=>rfl); (case h3=>assumption))
 | ((with_reducible refine' o_ixT ?h1 ?h2 ?h3 ?_); (case h1=>rfl); (case h2=>rfl); (case h3=>assumption)))
local macro_rules | `(tactic| walk_at "ca")=>`(tactic| first
 | ((with_reducible refine' u_i ?h1 ?_); (case h1=>rfl))
 | ((with_reducible refine' c_ii ?h1 ?h2 ?_); (case h1=>rfl); (case h2=>rfl))
 | ((with_reducible refine' c_lenL ?h1 ?_); (case h1=>rfl))
 | ((with_reducible refine' c_lenT ?h1 ?_); (case h1=>rfl))
 | ((with_reducible refine' c_tupleL ?h1 ?_); (case h1=>rfl))
 | ((with_reducible refine' c_listT ?h1 ?_); (case h1=>rfl))
 | ((with_reducible refine' c_int_b ?h1 ?_); (case h1=>rfl))
 | ((with_reducible refine' c_isinst ?h1 ?h2 ?_); (case h1=>rfl); (case h2=>rfl)))
local macro_rules | `(tactic| walk_at "v1")=>`(tactic| first
 | with_reducible refine v_op ?_
 | with_reducible refine v_int ?_
 | ((with_reducible refine' v_var_d ?h ?_); (case h=>rfl))
 | ((with_reducible refine' v_var_l ?h ?_); (case h=>rfl))
 | ((with_reducible refine' v_var_f ?h ?_); (case h=>rfl))
 | with_reducible refine v_cb ?_
 | with_reducible refine v_join ?_
 | with_reducible refine v_split ?_
 | with_reducible refine v_fmt ?_
 | with_reducible refine v_idxF ?_
 | with_reducible refine v_revX ?_
 | with_reducible refine v_bm ?_
 | (refine ⟨⟨rfl,_,(rfl:rd _ _=some (D.lst _))⟩,?_⟩)
 | with_reducible refine a_cons ?_
 | with_reducible refine a_nil ?_
 | with_reducible refine v_tup ?_
 | with_reducible refine v_lst ?_
 | with_reducible refine v_bl ?_
 | with_reducible refine v_non ?_
 | with_reducible refine v_str ?_
 | with_reducible refine v_raw ?_
 | with_reducible refine v_sl ?_
 | with_reducible refine p_none ?_
 | with_reducible refine p_some ?_
 | with_reducible refine v_un ?_
 | with_reducible refine v_not ?_
 | with_reducible refine t_test ?_
 | with_reducible refine t_tru ?_
 | with_reducible refine t_true ?_
 | with_reducible refine t_not ?_
 | with_reducible refine s_seqN ?_
 | walk_at "nm"
 | with_reducible refine s_seq ?_
 | with_reducible refine s_asg ?_
 | ((with_reducible refine' g_name ?h ?_); (case h=>rfl))
 | ((with_reducible refine' g_tup ?h1 ?h2 ?_); (case h1=>rfl); (case h2=>rfl))
 | with_reducible refine gs_cons ?_
 | with_reducible refine g_put ?_
 | (refine ⟨_,(rfl:Rs.it _=some _),?_⟩)
 | (refine ⟨_,(rfl:_=Rs.b _),?_⟩)
 | with_reducible refine gs_nil ?_
 | with_reducible refine s_ret ?_
 | with_reducible refine s_drop ?_
 | with_reducible refine s_if ?_
 | with_reducible refine s_next ?_
 | walk_at "op"
 | walk_at "ca"
 | (refine ⟨_,(rfl:rd _ _=some _),?_⟩)
 | (refine ⟨_,_,(rfl:rd _ _=some _),(rfl:truD _=some _),?_⟩)
 | (refine ⟨_,(rfl:its _=some _),szl (Nat.le_of_ble_eq_true rfl),?_⟩))
local macro_rules | `(tactic| walk_at "v")=>`(tactic| (repeat (walk_at "v1")))
local macro_rules | `(tactic| walk_at "st")=>`(tactic| try dsimp only [List.length_cons,List.length_nil,Nat.reduceAdd,Nat.reduceSub,List.replicate,List.cons_append,List.nil_append,List.set,caps,List.map,Rs.sl,wb,L4.outer,capt,List.drop,inner,List.getElem?_cons_zero,List.getElem?_cons_succ,List.headD,List.tail,argS,Option.getD])
local macro_rules | `(tactic| walk_at "call")=>`(tactic| ((with_reducible refine v_call ?_); walk_at "v"; (refine ⟨of_decide_eq_true rfl,?_⟩); walk_at "st"))
local macro_rules | `(tactic| walk_at "J")=>`(tactic| first
 | ((with_reducible refine' v_orJ ?h1 ?h2 ?_); (case h1=>(walk_at "vJ"; exact ⟨rfl,rfl⟩)); (case h2=>(intro _; walk_at "vJ"; exact ⟨rfl,rfl⟩)))
 | ((with_reducible refine' v_andJ ?h1 ?h2 ?_); (case h1=>(walk_at "vJ"; exact ⟨rfl,rfl⟩)); (case h2=>(intro _; walk_at "vJ"; exact ⟨rfl,rfl⟩)))
 | ((with_reducible refine' t_andJ ?h1 ?h2 ?_); (case h1=>(walk_at "vJ"; exact ⟨rfl,rfl⟩)); (case h2=>(intro _; walk_at "vJ"; exact ⟨rfl,rfl⟩)))
 | ((with_reducible refine' v_chainJ ?h1 ?h2 ?h3 ?h4 ?h5 ?_); (case h1=>(walk_at "vJ"; exact ⟨rfl,rfl⟩)); (case h2=>(walk_at "vJ"; exact ⟨rfl,rfl⟩)); (case h3=>(walk_at "vJ"; exact ⟨rfl,rfl⟩)); (case h4=>(intro _; walk_at "vJ"; exact ⟨rfl,rfl⟩)); (case h5=>(intro _; walk_at "vJ"; exact ⟨rfl,rfl⟩)))
 | ((with_reducible refine' v_chain3J ?h1 ?h2 ?h3 ?h4 ?h5 ?h6 ?h7 ?_); (case h1=>(walk_at "vJ"; exact ⟨rfl,rfl⟩)); (case h2=>(walk_at "vJ"; exact ⟨rfl,rfl⟩)); (case h3=>(walk_at "vJ"; exact ⟨rfl,rfl⟩)); (case h4=>(intro _; walk_at "vJ"; exact ⟨rfl,rfl⟩)); (case h5=>(intro _; walk_at "vJ"; exact ⟨rfl,rfl⟩)); (case h6=>(intro _; walk_at "vJ"; exact ⟨rfl,rfl⟩)); (case h7=>(intro _; walk_at "vJ"; exact ⟨rfl,rfl⟩))))
local macro_rules | `(tactic| walk_at "vJ")=>`(tactic| (repeat (first | walk_at "v1" | walk_at "J")))
local macro_rules | `(tactic| walk_at "sc")=>`(tactic| exact ⟨rfl,rfl,rfl,by decide +kernel,rfl,by decide +kernel,by decide +kernel⟩)
local macro_rules | `(tactic| walk_at "cs")=>`(tactic| exact ⟨rfl,by decide +kernel,by decide +kernel,by repeat' (first | exact trivial | refine ⟨⟨rfl,rfl,by first | exact Or.inl rfl | exact Or.inr rfl⟩,?_⟩),by decide +kernel⟩)
local macro_rules | `(tactic| walk_at "vc")=>`(tactic| (walk_at "v"; walk_at "call"))
local macro_rules | `(tactic| walk_at "sv")=>`(tactic| (walk_at "st"; walk_at "v"))
def pLRead:PV:=fun as Φ=>∃ z:Str,as=[.d (.str z)]∧z.length≤1000∧((∃ n us,isWT (.str z) n us∧Φ (.d (ptgD n us)) as)∨((¬ ∃ n us,isWT (.str z) n us)∧Φ (.d .non) as))
section
variable {P:Program} {w:World} {K:PySem.W.Frag} {mg:Str→Option Value} {base:Heap}
theorem sc__law_read:FnScope ["text","told","web"] ["text"] (defScope (top 38)):=by walk_at "sc"
theorem ok__law_read {f:Addr} {fd:FuncData} (F:Fun K "_law_read" "_law_read" (top 38) f fd) (T:Txt mg) (G__law_pairs:Has P w K mg base "_law_pairs" (top 36) ["text","dash"] 1 (spV pLPairs)) (G__law_is_web:Has P w K mg base "_law_is_web" (top 31) ["thing"] 2 (spV pWebK)):FnOk P w K mg base CX0 3 f fd ["text"] (spV pLRead):=by
 refine fn_ok F sc__law_read [0] (fun as Φ h=>?_) (fun cdv A outer s H E hr=>?_)
 ·obtain ⟨z,rfl,_⟩:=h
  rfl
 ·have hu:=hr.units
  refine ⟨_,(pss_cons (ps_s 1 sc__law_read (pe_cd G__law_pairs hr (pa_cons (pv 0) (pa_cons pe_str pa_nil))))
   (pss_cons (ps_if (pt_cmpR op_isN (pv 1) pe_non (nomark _))
   (pss_one (ps_ret pe_non))
   pss_nil)
   (pss_cons (ps_s 2 sc__law_read (pe_tup (pa_cons (pe_x (pv 1) pe_int) (pa_cons (pe_callTy (tupleK (K:=K) rfl) (by rfl) T.n_tuple PyProof.Rows.boot_tuple (pa_cons (pe_comp rfl (own:=["a","b"]) (fr:=[]) (by walk_at "cs") (pi_anyK (K:=K) rfl (pe_x (pv 1) pe_int)) (fun cl C s0 H0 fp=>⟨(pg_tupK (K:=K) (n:=2) rfl rfl (pgs_cons (pg_c 0) (pgs_cons (pg_c 1) pgs_nil))),pf_nil,(pe_tup (pa_cons (pe_callB (call_min2 rfl) (by rfl) T.n_min PyProof.Rows.boot_min (pa_cons (pv 0) (pa_cons (pv 1) pa_nil))) (pa_cons (pe_callB (call_max2 rfl) (by rfl) T.n_max PyProof.Rows.boot_max (pa_cons (pv 0) (pa_cons (pv 1) pa_nil))) pa_nil)))⟩)) pa_nil)) pa_nil))))
   (pss_cons (ps_if (pt_not (pt_truthK (K:=K) rfl (pe_cd G__law_is_web hr (pa_cons (pv 2) pa_nil)) (fun _=>rfl)))
   (pss_one (ps_ret pe_non))
   pss_nil)
   (pss_one (ps_ret (pe_tup (pa_cons (pv 2) (pa_cons (pe_callTy (tupleK (K:=K) rfl) (by rfl) T.n_tuple PyProof.Rows.boot_tuple (pa_cons (pe_comp rfl (own:=["a","b"]) (fr:=[]) (by walk_at "cs") (pi_anyK (K:=K) rfl (pe_x (pv 1) pe_int)) (fun cl C s0 H0 fp=>⟨(pg_tupK (K:=K) (n:=2) rfl rfl (pgs_cons (pg_c 0) (pgs_cons (pg_c 1) pgs_nil))),pf_nil,(pe_callTy call_int1 (by rfl) T.n_int PyProof.Rows.boot_int (pa_cons (pe_cmpR (opLtK (K:=K) rfl hu) (pv 0) (pv 1) (nomark _)) pa_nil))⟩)) pa_nil)) pa_nil))))))))),?_⟩
  rintro as Φ ⟨z,rfl,hz,k⟩
  have big:1001<sizeLine:=by decide
  walk_at "st"
  by_cases ht:∃ n us,isText 62 z n us
  ·obtain ⟨n,us,ht⟩:=ht
   have hl:us.length≤1001:=by
    have:=ties_few (us:=us) (c:=62) ht.1 (by decide)
    rw [← ht.2.2] at this
    omega
   let SD:Sl:=.d (.tup [.int n,.lst (us.map tieD)])
   let SW:Sl:=.d (webD n (us.map mkU))
   have same:∀{n' us'},isWT (.str z) n' us'→n'=n∧us'=us∧webB (webD n (us.map mkU))=true:=fun {n' us'} ⟨hw,z',e,h1,h2,h3⟩=>by
    cases e
    have e1:=text_words (by decide) ht
    have e2:=text_words (c:=62) (by decide) ⟨h1,h2,h3⟩
    rw [e1] at e2
    obtain ⟨rfl,rfl⟩:=fig_words ht.2.1 h2 ht.1 h1 e2
    exact ⟨rfl,rfl,hw⟩
   refine s_cut (fun ρ=>ρ=[.d (.str z),SD,.u]) ?_ ?_
   ·walk_at "v"
    walk_at "call"
    refine ⟨z,62,by rw [gt_is],by decide,hz,.inl ⟨n,us,ht,⟨⟨_,rfl⟩,?_⟩⟩⟩
    walk_at "sv"
    rfl
   rintro ρ rfl
   refine s_cut (fun ρ=>ρ=[.d (.str z),SD,.u]) ?_ ?_
   ·refine s_if ?_
    walk_at "v"
    rw [if_neg (show ¬ isNon (D.tup [.int n,.lst (us.map tieD)])=true from Bool.false_ne_true)]
    exact s_next rfl
   rintro ρ rfl
   refine s_cut (fun ρ=>ρ=[.d (.str z),SD,SW]) ?_ ?_
   ·walk_at "v"
    refine v_pure tieD us (fun _=>true) (fun u=>tieD (mkU u)) (i_any ?_)
    walk_at "v"
    refine ⟨_,_,rfl,rfl,rfl,Nat.lt_of_le_of_lt hl big,known_of rfl,of_decide_eq_true rfl,?_,?_⟩
    ·rintro ⟨a,b⟩ _ os hos
     obtain ⟨z0,z1,rfl⟩:=len2 hos
     rw [show tieD (a,b)=D.tup [.int a,.int b] from rfl]
     walk_at "v"
     refine ⟨⟨[_,_],rfl,rfl⟩,t_true ⟨rfl,rfl⟩,fun _=>?_⟩
     walk_at "v"
     exact ⟨rfl,rfl⟩
    rw [filter_true,show us.map (fun u=>tieD (mkU u))=(us.map mkU).map tieD from (by rw [List.map_map]; rfl)]
    walk_at "v"
    rfl
   rintro ρ rfl
   refine s_cut (fun ρ=>webB (webD n (us.map mkU))=true∧ρ=[.d (.str z),SD,SW]) ?_ ?_
   ·refine s_if ?_
    walk_at "v"
    refine v_call ?_
    walk_at "v"
    refine ⟨of_decide_eq_true rfl,?_⟩
    walk_at "st"
    refine ⟨_,rfl,⟨⟨_,rfl⟩,?_⟩⟩
    walk_at "sv"
    refine ite2 (fun hb=>?_) (fun hb=>?_)
    ·walk_at "v"
     rcases k with ⟨n',us',hw,_⟩ | ⟨_,k⟩
     ·exact absurd (same hw).2.2 (by rw [nb_false hb]; decide)
     ·exact ⟨⟨_,rfl⟩,k⟩
    ·exact s_next ⟨nb_true hb,rfl⟩
   rintro ρ ⟨hw,rfl⟩
   rcases k with ⟨n',us',h',k⟩ | ⟨no,_⟩
   ·obtain ⟨rfl,rfl,_⟩:=same h'
    walk_at "v"
    refine v_pure tieD us' (fun _=>true) (fun u=>D.int (if u.1<u.2 then 1 else 0)) (i_any ?_)
    walk_at "v"
    refine ⟨_,_,rfl,rfl,rfl,Nat.lt_of_le_of_lt hl big,known_of rfl,of_decide_eq_true rfl,?_,?_⟩
    ·rintro ⟨a,b⟩ _ os hos
     obtain ⟨z0,z1,rfl⟩:=len2 hos
     rw [show tieD (a,b)=D.tup [.int a,.int b] from rfl]
     walk_at "v"
     refine ⟨⟨[_,_],rfl,rfl⟩,t_true ⟨rfl,rfl⟩,fun _=>?_⟩
     walk_at "v"
     refine ⟨?_,rfl⟩
     by_cases hc:a<b
     ·rw [decide_eq_true hc,if_pos hc]
      rfl
     ·rw [decide_eq_false hc,if_neg hc]
      rfl
    rw [filter_true,show us'.map (fun u=>D.int (if u.1<u.2 then 1 else 0))=intsD (waysU us') from (by unfold intsD waysU; rw [List.map_map]; rfl)]
    walk_at "v"
    exact ⟨⟨_,rfl⟩,k⟩
   ·exact absurd ⟨n,us,hw,z,rfl,ht⟩ no
  ·refine s_cut (fun ρ=>ρ=[.d (.str z),.d .non,.u]) ?_ ?_
   ·walk_at "v"
    walk_at "call"
    refine ⟨z,62,by rw [gt_is],by decide,hz,.inr ⟨ht,⟨⟨_,rfl⟩,?_⟩⟩⟩
    walk_at "sv"
    rfl
   rintro ρ rfl
   refine s_seq (s_if ?_)
   walk_at "v"
   rcases k with ⟨n,us,⟨_,z',e,h⟩,_⟩ | ⟨_,k⟩
   ·cases e
    exact absurd ⟨n,us,h⟩ ht
   ·rw [if_pos (show isNon D.non=true from rfl)]
    walk_at "v"
    exact ⟨⟨_,rfl⟩,k⟩
end
local macro_rules | `(tactic| walk_at "nm")=>`(tactic| first
 | ((with_reducible refine nm8 ?_); intro _ _ _ _ _ _ _ _ _)
 | ((with_reducible refine nm6 ?_); intro _ _ _ _ _ _ _)
 | ((with_reducible refine nm5 ?_); intro _ _ _ _ _ _)
 | ((with_reducible refine nm4 ?_); intro _ _ _ _ _)
 | ((with_reducible refine nm3 ?_); intro _ _ _ _)
 | ((with_reducible refine nm2 ?_); intro _ _ _))
local macro_rules | `(tactic| walk_at "nf")=>`(tactic| first
 | ((with_reducible refine nf14 ?_); intro _ _ _ _ _ _ _ _ _ _ _ _ _ _ _))
local macro_rules | `(tactic| walk_at "ps")=>`(tactic| try ((with_reducible refine s_psi ?_); intro _))
local macro_rules | `(tactic| walk_at "rf")=>`(tactic| first | rfl | decide)
local macro_rules | `(tactic| walk_at "op")=>`(tactic| first
 | ((with_reducible refine' o_i0 ?h1 ?h2 ?_); (case h1=>rfl); (case h2=>rfl))
 | ((with_reducible refine' OpV.l (o_i0 ?h1 ?h2 ?_)); (case h1=>rfl); (case h2=>rfl))
 | ((with_reducible refine' o_b0 ?h1 ?h2 ?_); (case h1=>rfl); (case h2=>rfl))
 | ((with_reducible refine' OpV.l (o_b0 ?h1 ?h2 ?_)); (case h1=>rfl); (case h2=>rfl))
 | ((with_reducible refine' OpV.l (o_eqI ?h1 ?h2 ?_)); (case h1=>rfl); (case h2=>rfl))
 | ((with_reducible refine' OpV.l (o_neI ?h1 ?h2 ?_)); (case h1=>rfl); (case h2=>rfl))
 | ((with_reducible refine' OpV.l (o_eqB ?h1 ?h2 ?_)); (case h1=>rfl); (case h2=>rfl))
 | ((with_reducible refine' o_isN ?h1 ?_); (case h1=>rfl))
 | ((with_reducible refine' o_notN ?h1 ?_); (case h1=>rfl))
 | ((with_reducible refine' o_neNil ?h1 ?h2 ?h3 ?_); (case h1=>rfl); (case h2=>rfl); (case h3=>first | exact dep_int _ | assumption))
 | ((with_reducible refine' OpV.r (OpV.l (o_catL ?h1 ?h2 ?h3 ?_))); (case h1=>rfl); (case h2=>rfl); (case h3=>exact szl (Nat.le_of_ble_eq_true rfl)))
 | ((with_reducible refine' o_ixT ?h1 ?h2 ?h3 ?_); (case h1=>rfl); (case h2=>rfl); (case h3=>rfl))
 | ((with_reducible refine' o_ixL ?h1 ?h2 ?h3 ?_); (case h1=>rfl); (case h2=>rfl); (case h3=>rfl))
 | ((with_reducible refine' o_ixL ?h1 ?h2 ?h3 ?_); (case h1=>rfl); (case h2=>rfl); (case h3=>assumption))
 | ((with_reducible refine' o_ixT ?h1 ?h2 ?h3 ?_); (case h1=>rfl); (case h2=>rfl); (case h3=>assumption)))
local macro_rules | `(tactic| walk_at "ca")=>`(tactic| first
 | ((with_reducible refine' u_i ?h1 ?_); (case h1=>rfl))
 | ((with_reducible refine' c_ii ?h1 ?h2 ?_); (case h1=>rfl); (case h2=>rfl))
 | ((with_reducible refine' c_lenL ?h1 ?_); (case h1=>rfl))
 | ((with_reducible refine' c_lenT ?h1 ?_); (case h1=>rfl))
 | ((with_reducible refine' c_tupleL ?h1 ?_); (case h1=>rfl))
 | ((with_reducible refine' c_listT ?h1 ?_); (case h1=>rfl))
 | ((with_reducible refine' c_int_b ?h1 ?_); (case h1=>rfl))
 | ((with_reducible refine' c_isinst ?h1 ?h2 ?_); (case h1=>rfl); (case h2=>rfl)))
local macro_rules | `(tactic| walk_at "v1")=>`(tactic| first
 | with_reducible refine v_op ?_
 | with_reducible refine v_int ?_
 | ((with_reducible refine' v_var_d ?h ?_); (case h=>rfl))
 | ((with_reducible refine' v_var_l ?h ?_); (case h=>rfl))
 | ((with_reducible refine' v_var_f ?h ?_); (case h=>rfl))
 | with_reducible refine v_cb ?_
 | with_reducible refine v_join ?_
 | with_reducible refine v_split ?_
 | with_reducible refine v_fmt ?_
 | with_reducible refine v_idxF ?_
 | with_reducible refine v_revX ?_
 | with_reducible refine v_bm ?_
 | (refine ⟨⟨rfl,_,(rfl:rd _ _=some (D.lst _))⟩,?_⟩)
 | with_reducible refine a_cons ?_
 | with_reducible refine a_nil ?_
 | with_reducible refine v_tup ?_
 | with_reducible refine v_lst ?_
 | with_reducible refine v_bl ?_
 | with_reducible refine v_non ?_
 | with_reducible refine v_str ?_
 | with_reducible refine v_raw ?_
 | with_reducible refine v_sl ?_
 | with_reducible refine p_none ?_
 | with_reducible refine p_some ?_
 | with_reducible refine v_un ?_
 | with_reducible refine v_not ?_
 | with_reducible refine t_test ?_
 | with_reducible refine t_tru ?_
 | with_reducible refine t_true ?_
 | with_reducible refine t_not ?_
 | with_reducible refine s_seqN ?_
 | walk_at "nm"
 | with_reducible refine s_seq ?_
 | with_reducible refine s_asg ?_
 | ((with_reducible refine' g_name ?h ?_); (case h=>rfl))
 | ((with_reducible refine' g_tup ?h1 ?h2 ?_); (case h1=>rfl); (case h2=>rfl))
 | with_reducible refine gs_cons ?_
 | with_reducible refine g_put ?_
 | (refine ⟨_,(rfl:Rs.it _=some _),?_⟩)
 | (refine ⟨_,(rfl:_=Rs.b _),?_⟩)
 | with_reducible refine gs_nil ?_
 | with_reducible refine s_ret ?_
 | with_reducible refine s_drop ?_
 | with_reducible refine s_if ?_
 | with_reducible refine s_next ?_
 | walk_at "op"
 | walk_at "ca"
 | (refine ⟨_,(rfl:rd _ _=some _),?_⟩)
 | (refine ⟨_,_,(rfl:rd _ _=some _),(rfl:truD _=some _),?_⟩)
 | (refine ⟨_,(rfl:its _=some _),szl (Nat.le_of_ble_eq_true rfl),?_⟩))
local macro_rules | `(tactic| walk_at "v")=>`(tactic| (repeat (walk_at "v1")))
local macro_rules | `(tactic| walk_at "st")=>`(tactic| try dsimp only [List.length_cons,List.length_nil,Nat.reduceAdd,Nat.reduceSub,List.replicate,List.cons_append,List.nil_append,List.set,caps,List.map,Rs.sl,wb,L4.outer,capt,List.drop,inner,List.getElem?_cons_zero,List.getElem?_cons_succ,List.headD,List.tail,argS,Option.getD])
local macro_rules | `(tactic| walk_at "call")=>`(tactic| ((with_reducible refine v_call ?_); walk_at "v"; (refine ⟨of_decide_eq_true rfl,?_⟩); walk_at "st"))
local macro_rules | `(tactic| walk_at "J")=>`(tactic| first
 | ((with_reducible refine' v_orJ ?h1 ?h2 ?_); (case h1=>(walk_at "vJ"; exact ⟨rfl,rfl⟩)); (case h2=>(intro _; walk_at "vJ"; exact ⟨rfl,rfl⟩)))
 | ((with_reducible refine' v_andJ ?h1 ?h2 ?_); (case h1=>(walk_at "vJ"; exact ⟨rfl,rfl⟩)); (case h2=>(intro _; walk_at "vJ"; exact ⟨rfl,rfl⟩)))
 | ((with_reducible refine' t_andJ ?h1 ?h2 ?_); (case h1=>(walk_at "vJ"; exact ⟨rfl,rfl⟩)); (case h2=>(intro _; walk_at "vJ"; exact ⟨rfl,rfl⟩)))
 | ((with_reducible refine' v_chainJ ?h1 ?h2 ?h3 ?h4 ?h5 ?_); (case h1=>(walk_at "vJ"; exact ⟨rfl,rfl⟩)); (case h2=>(walk_at "vJ"; exact ⟨rfl,rfl⟩)); (case h3=>(walk_at "vJ"; exact ⟨rfl,rfl⟩)); (case h4=>(intro _; walk_at "vJ"; exact ⟨rfl,rfl⟩)); (case h5=>(intro _; walk_at "vJ"; exact ⟨rfl,rfl⟩)))
 | ((with_reducible refine' v_chain3J ?h1 ?h2 ?h3 ?h4 ?h5 ?h6 ?h7 ?_); (case h1=>(walk_at "vJ"; exact ⟨rfl,rfl⟩)); (case h2=>(walk_at "vJ"; exact ⟨rfl,rfl⟩)); (case h3=>(walk_at "vJ"; exact ⟨rfl,rfl⟩)); (case h4=>(intro _; walk_at "vJ"; exact ⟨rfl,rfl⟩)); (case h5=>(intro _; walk_at "vJ"; exact ⟨rfl,rfl⟩)); (case h6=>(intro _; walk_at "vJ"; exact ⟨rfl,rfl⟩)); (case h7=>(intro _; walk_at "vJ"; exact ⟨rfl,rfl⟩))))
local macro_rules | `(tactic| walk_at "vJ")=>`(tactic| (repeat (first | walk_at "v1" | walk_at "J")))
local macro_rules | `(tactic| walk_at "sc")=>`(tactic| exact ⟨rfl,rfl,rfl,by decide +kernel,rfl,by decide +kernel,by decide +kernel⟩)
local macro_rules | `(tactic| walk_at "cs")=>`(tactic| exact ⟨rfl,by decide +kernel,by decide +kernel,by repeat' (first | exact trivial | refine ⟨⟨rfl,rfl,by first | exact Or.inl rfl | exact Or.inr rfl⟩,?_⟩),by decide +kernel⟩)
local macro_rules | `(tactic| walk_at "vc")=>`(tactic| (walk_at "v"; walk_at "call"))
local macro_rules | `(tactic| walk_at "sv")=>`(tactic| (walk_at "st"; walk_at "v"))
def gN (n k:Nat):Tie:=((0+(k:Int)) / (n:Int),(0+(k:Int)) % (n:Int))
def pairsN (n:Nat):List Tie:=((List.range (n*n)).filter fun k=>decide ((gN n k).1<(gN n k).2)).map (gN n)
def pLCrowd:PV:=fun as Φ=>∃ q:Int×Int×Int,as=[.l (poolD q)]∧∀(n:Nat) q',7≤n→n≤9→Φ (.d (.tup [.int n,.lst ((pairsN n).map tieD)])) [.l (poolD q')]
def AllS (xs:List D):Prop:=∀ d∈xs,∃ w:Str,d=.str w∧w.length≤3
theorem AllS.ex:∀{xs:List D},AllS xs→∃ ws:List Str,xs=ws.map D.str∧∀ w∈ws,w.length≤3
 | [],_=>⟨[],rfl,fun _ h=>nomatch h⟩
 | d::xs,h=>by
  obtain ⟨w,e,hw⟩:=h d List.mem_cons_self
  obtain ⟨ws,e2,h2⟩:=AllS.ex (xs:=xs) fun y hy=>h y (List.mem_cons_of_mem _ hy)
  refine ⟨w::ws,by rw [e,e2]; rfl,fun v hv=>?_⟩
  rcases List.mem_cons.mp hv with q | q
  ·rw [q]
   exact hw
  ·exact h2 v q
theorem AllS.cut {xs:List D} (h:AllS xs) (lo hi:Option Int):AllS (cutD xs lo hi):=fun d hd=>h d (List.mem_of_mem_drop (List.mem_of_mem_take hd))
theorem AllS.cat {xs ys:List D} (h:AllS xs) (g:AllS ys):AllS (xs++ys):=fun d hd=>(List.mem_append.mp hd).elim (h d) (g d)
theorem AllS.set {xs:List D} (h:AllS xs) {i:Nat} {d:D} (hd:∃ w:Str,d=.str w∧w.length≤3):AllS (xs.set i d):=fun e he=>by
 rcases List.mem_or_eq_of_mem_set he with q | q
 ·exact h e q
 ·rw [q]
  exact hd
theorem cut_len (xs:List D) (lo hi:Option Int):(cutD xs lo hi).length≤xs.length:=by
 unfold cutD
 rw [List.length_take,List.length_drop]
 omega
theorem few_len2 {ws:List Str} (h:∀ w∈ws,w.length≤3) (hl:ws.length≤100):JoinOk spS ws=true∧(Txt.join spS ws).length≤1000:=by
 have l1:spS.length=1:=rfl
 have e:ws.length*3+ws.length*spS.length≤400:=by
  rw [l1]
  omega
 refine ⟨?_,?_⟩
 ·unfold JoinOk
  rw [show (texts:List Str)→texts.toArray.foldl (· + ·.length+spS.length) 0=texts.toArray.foldl (fun a p=>a+p.length+spS.length) 0 from fun _=>rfl,StrLaws.joinFits h (Nat.le_trans e (by decide))]
  rfl
 ·rw [show Txt.join spS ws=Str.join spS ws from StrLaws.glued_eq_join spS ws]
  have h1:=StrLaws.join_length_le spS ws
  have h2:=StrLaws.sumLen_le ws h
  omega
theorem spot_at {n i:Nat} (h:i<n):ixN n (i:Int)=some i:=by
 unfold ixN
 rw [if_pos (show (0:Int)≤i by omega),Int.toNat_natCast,if_pos (show (i:Int)<(n:Int) by omega)]
def pTurned:PV:=fun as Φ=>∃(q:Int×Int×Int) (z:Str),as=[.l (poolD q),.d (.str z)]∧z.length≤1000∧(∀ w∈Txt.split z ⟨#[32]⟩,w.length≤3)∧(Txt.split z ⟨#[32]⟩).length≤25∧∀(y:Str) q',y.length≤1000→Φ (.d (.str y)) [.l (poolD q'),.d (.str z)]
section
variable {P:Program} {w:World} {K:PySem.W.Frag} {mg:Str→Option Value} {base:Heap}
theorem sc__law_crowd:FnScope ["pool","many","pairs"] ["pool"] (defScope (top 37)):=by walk_at "sc"
theorem ok__law_crowd {f:Addr} {fd:FuncData} (F:Fun K "_law_crowd" "_law_crowd" (top 37) f fd) (T:Txt mg) (G__law_next:Has P w K mg base "_law_next" (top 24) ["pool","base"] 1 (spV pNext)):FnOk P w K mg base CX0 2 f fd ["pool"] (spV pLCrowd):=by
 refine fn_ok F sc__law_crowd [0] (fun as Φ h=>?_) (fun cdv A outer s H E hr=>?_)
 ·obtain ⟨q,rfl,_⟩:=h
  rfl
 ·have hu:=hr.units
  refine ⟨_,(pss_cons (ps_s 1 sc__law_crowd (pe_op (opBK (K:=K) rfl) pe_int (pe_cd G__law_next hr (pa_cons (pv 0) (pa_cons pe_int pa_nil)))))
   (pss_cons (ps_setComp (i:=2) rfl sc__law_crowd.nd rfl rfl (own:=["k"]) (fr:=[("many",1)]) (by walk_at "cs") (pi_range1 (by rfl) T.n_range (pa_cons (pe_op opM (pv 1) (pv 1)) pa_nil)) (fun cl C s0 H0 fp=>⟨(pg_c 0),pf_nil,(pe_callB call_divmod (by rfl) T.n_divmod PyProof.Rows.boot_divmod (pa_cons (pv 0) (pa_cons (pv 1) pa_nil)))⟩))
   (pss_one (ps_ret (pe_tup (pa_cons (pv 1) (pa_cons (pe_comp rfl (own:=["pair"]) (fr:=[]) (by walk_at "cs") (pi_anyK (K:=K) rfl (pv 2)) (fun cl C s0 H0 fp=>⟨(pg_c 0),pf_one (pt_cmpR (opLtK (K:=K) rfl hu) (pe_x (pv 0) pe_int) (pe_x (pv 0) pe_int) (nomark _)),(pv 0)⟩)) pa_nil))))))),?_⟩
  rintro as Φ ⟨q,rfl,k⟩
  walk_at "st"
  refine s_cut (fun ρ=>∃(n:Nat) (q:Int×Int×Int),7≤n∧n≤9∧ρ=[.l (poolD q),.d (.int n),.u]) ?_ ?_
  ·walk_at "v"
   walk_at "call"
   refine ⟨q,3,rfl,by decide,by decide,fun r q' r0 r1=>⟨⟨_,rfl⟩,?_⟩⟩
   walk_at "sv"
   obtain ⟨n,hn⟩:∃ n:Nat,(n:Int)=7+r:=⟨(7+r).toNat,by omega⟩
   refine ⟨n,q',by omega,by omega,?_⟩
   rw [hn]
   rfl
  rintro ρ ⟨n,q,n7,n9,rfl⟩
  have nn:n*n≤81:=Nat.mul_le_mul n9 n9
  refine s_cut (fun ρ=>ρ=[.l (poolD q),.d (.int n),.l ((List.range (n*n)).map fun k=>tieD (gN n k))]) ?_ ?_
  ·walk_at "v"
   refine v_pure (fun i:Nat=>D.int (0+(i:Int))) (List.range (n*n)) (fun _=>true) (fun k=>tieD (gN n k)) (i_r1 ?_)
   walk_at "v"
   refine OpV.l (o_ic rfl rfl (.inl ⟨by omega,by omega⟩) ?_)
   walk_at "v"
   rw [show ((n:Int)*(n:Int))=((n*n:Nat):Int) from (Int.natCast_mul n n).symm]
   refine ⟨((n*n:Nat):Int),⟨_,rfl,rfl⟩,by omega,by omega,irng_map _ _,small1000 (by rw [List.length_range]; omega),known_of rfl,of_decide_eq_true rfl,?_,?_⟩
   ·rintro i _ os hos
    obtain ⟨z0,rfl⟩:=len1 hos
    walk_at "v"
    refine ⟨⟨[_],rfl,rfl⟩,t_true ⟨rfl,rfl⟩,fun _=>?_⟩
    walk_at "v"
    refine c_divmod rfl rfl ⟨by omega,by omega⟩ ?_
    exact ⟨rfl,rfl⟩
   rw [filter_true]
   walk_at "v"
   rfl
  rintro ρ rfl
  refine s_ret (v_tup ?_)
  walk_at "v"
  refine v_pureL (fun k=>tieD (gN n k)) (List.range (n*n)) (fun k=>decide ((gN n k).1<(gN n k).2)) (fun k=>tieD (gN n k)) rfl rfl (small1000 (by rw [List.length_range]; omega)) (known_of rfl) (of_decide_eq_true rfl) ?_ ?_
  ·rintro i _ os hos
   obtain ⟨z0,rfl⟩:=len1 hos
   walk_at "v"
   refine ⟨⟨[_],rfl,rfl⟩,?_,fun _=>?_⟩
   ·rw [show tieD (gN n i)=D.tup [.int (gN n i).1,.int (gN n i).2] from rfl]
    walk_at "v"
    exact ⟨rfl,rfl⟩
   ·walk_at "v"
    exact ⟨rfl,rfl⟩
  rw [show ((List.range (n*n)).filter fun k=>decide ((gN n k).1<(gN n k).2)).map (fun k=>tieD (gN n k))=(pairsN n).map tieD from (List.map_map (g:=tieD) (f:=gN n)).symm]
  walk_at "v"
  exact ⟨⟨_,rfl⟩,k n q n7 n9⟩
end
local macro_rules | `(tactic| walk_at "nm")=>`(tactic| first
 | ((with_reducible refine nm8 ?_); intro _ _ _ _ _ _ _ _ _)
 | ((with_reducible refine nm6 ?_); intro _ _ _ _ _ _ _)
 | ((with_reducible refine nm5 ?_); intro _ _ _ _ _ _)
 | ((with_reducible refine nm4 ?_); intro _ _ _ _ _)
 | ((with_reducible refine nm3 ?_); intro _ _ _ _)
 | ((with_reducible refine nm2 ?_); intro _ _ _))
local macro_rules | `(tactic| walk_at "nf")=>`(tactic| first
 | ((with_reducible refine nf14 ?_); intro _ _ _ _ _ _ _ _ _ _ _ _ _ _ _))
local macro_rules | `(tactic| walk_at "ps")=>`(tactic| try ((with_reducible refine s_psi ?_); intro _))
local macro_rules | `(tactic| walk_at "rf")=>`(tactic| first | rfl | decide)
local macro_rules | `(tactic| walk_at "op")=>`(tactic| first
 | ((with_reducible refine' o_i0 ?h1 ?h2 ?_); (case h1=>rfl); (case h2=>rfl))
 | ((with_reducible refine' OpV.l (o_i0 ?h1 ?h2 ?_)); (case h1=>rfl); (case h2=>rfl))
 | ((with_reducible refine' o_b0 ?h1 ?h2 ?_); (case h1=>rfl); (case h2=>rfl))
 | ((with_reducible refine' OpV.l (o_b0 ?h1 ?h2 ?_)); (case h1=>rfl); (case h2=>rfl))
 | ((with_reducible refine' OpV.l (o_eqI ?h1 ?h2 ?_)); (case h1=>rfl); (case h2=>rfl))
 | ((with_reducible refine' OpV.l (o_neI ?h1 ?h2 ?_)); (case h1=>rfl); (case h2=>rfl))
 | ((with_reducible refine' OpV.l (o_eqB ?h1 ?h2 ?_)); (case h1=>rfl); (case h2=>rfl))
 | ((with_reducible refine' o_isN ?h1 ?_); (case h1=>rfl))
 | ((with_reducible refine' o_notN ?h1 ?_); (case h1=>rfl))
 | ((with_reducible refine' o_neNil ?h1 ?h2 ?h3 ?_); (case h1=>rfl); (case h2=>rfl); (case h3=>first | exact dep_int _ | assumption))
 | ((with_reducible refine' OpV.r (OpV.l (o_catL ?h1 ?h2 ?h3 ?_))); (case h1=>rfl); (case h2=>rfl); (case h3=>exact szl (Nat.le_of_ble_eq_true rfl)))
 | ((with_reducible refine' o_ixT ?h1 ?h2 ?h3 ?_); (case h1=>rfl); (case h2=>rfl); (case h3=>rfl))
 | ((with_reducible refine' o_ixL ?h1 ?h2 ?h3 ?_); (case h1=>rfl); (case h2=>rfl); (case h3=>rfl))
 | ((with_reducible refine' o_ixL ?h1 ?h2 ?h3 ?_); (case h1=>rfl); (case h2=>rfl); (case h3=>assumption))
 | ((with_reducible refine' o_ixT ?h1 ?h2 ?h3 ?_); (case h1=>rfl); (case h2=>rfl); (case h3=>assumption)))
local macro_rules | `(tactic| walk_at "ca")=>`(tactic| first
 | ((with_reducible refine' u_i ?h1 ?_); (case h1=>rfl))
 | ((with_reducible refine' c_ii ?h1 ?h2 ?_); (case h1=>rfl); (case h2=>rfl))
 | ((with_reducible refine' c_lenL ?h1 ?_); (case h1=>rfl))
 | ((with_reducible refine' c_lenT ?h1 ?_); (case h1=>rfl))
 | ((with_reducible refine' c_tupleL ?h1 ?_); (case h1=>rfl))
 | ((with_reducible refine' c_listT ?h1 ?_); (case h1=>rfl))
 | ((with_reducible refine' c_int_b ?h1 ?_); (case h1=>rfl))
 | ((with_reducible refine' c_isinst ?h1 ?h2 ?_); (case h1=>rfl); (case h2=>rfl)))
local macro_rules | `(tactic| walk_at "v1")=>`(tactic| first
 | with_reducible refine v_op ?_
 | with_reducible refine v_int ?_
 | ((with_reducible refine' v_var_d ?h ?_); (case h=>rfl))
 | ((with_reducible refine' v_var_l ?h ?_); (case h=>rfl))
 | ((with_reducible refine' v_var_f ?h ?_); (case h=>rfl))
 | with_reducible refine v_cb ?_
 | with_reducible refine v_join ?_
 | with_reducible refine v_split ?_
 | with_reducible refine v_fmt ?_
 | with_reducible refine v_idxF ?_
 | with_reducible refine v_revX ?_
 | with_reducible refine v_bm ?_
 | (refine ⟨⟨rfl,_,(rfl:rd _ _=some (D.lst _))⟩,?_⟩)
 | with_reducible refine a_cons ?_
 | with_reducible refine a_nil ?_
 | with_reducible refine v_tup ?_
 | with_reducible refine v_lst ?_
 | with_reducible refine v_bl ?_
 | with_reducible refine v_non ?_
 | with_reducible refine v_str ?_
 | with_reducible refine v_raw ?_
 | with_reducible refine v_sl ?_
 | with_reducible refine p_none ?_
 | with_reducible refine p_some ?_
 | with_reducible refine v_un ?_
 | with_reducible refine v_not ?_
 | with_reducible refine t_test ?_
 | with_reducible refine t_tru ?_
 | with_reducible refine t_true ?_
 | with_reducible refine t_not ?_
 | with_reducible refine s_seqN ?_
 | walk_at "nm"
 | with_reducible refine s_seq ?_
 | with_reducible refine s_asg ?_
 | ((with_reducible refine' g_name ?h ?_); (case h=>rfl))
 | ((with_reducible refine' g_tup ?h1 ?h2 ?_); (case h1=>rfl); (case h2=>rfl))
 | with_reducible refine gs_cons ?_
 | with_reducible refine g_put ?_
 | (refine ⟨_,(rfl:Rs.it _=some _),?_⟩)
 | (refine ⟨_,(rfl:_=Rs.b _),?_⟩)
 | with_reducible refine gs_nil ?_
 | with_reducible refine s_ret ?_
 | with_reducible refine s_drop ?_
 | with_reducible refine s_if ?_
 | with_reducible refine s_next ?_
 | walk_at "op"
 | walk_at "ca"
 | (refine ⟨_,(rfl:rd _ _=some _),?_⟩)
 | (refine ⟨_,_,(rfl:rd _ _=some _),(rfl:truD _=some _),?_⟩)
 | (refine ⟨_,(rfl:its _=some _),szl (Nat.le_of_ble_eq_true rfl),?_⟩))
local macro_rules | `(tactic| walk_at "v")=>`(tactic| (repeat (walk_at "v1")))
local macro_rules | `(tactic| walk_at "st")=>`(tactic| try dsimp only [List.length_cons,List.length_nil,Nat.reduceAdd,Nat.reduceSub,List.replicate,List.cons_append,List.nil_append,List.set,caps,List.map,Rs.sl,wb,L4.outer,capt,List.drop,inner,List.getElem?_cons_zero,List.getElem?_cons_succ,List.headD,List.tail,argS,Option.getD])
local macro_rules | `(tactic| walk_at "call")=>`(tactic| ((with_reducible refine v_call ?_); walk_at "v"; (refine ⟨of_decide_eq_true rfl,?_⟩); walk_at "st"))
local macro_rules | `(tactic| walk_at "J")=>`(tactic| first
 | ((with_reducible refine' v_orJ ?h1 ?h2 ?_); (case h1=>(walk_at "vJ"; exact ⟨rfl,rfl⟩)); (case h2=>(intro _; walk_at "vJ"; exact ⟨rfl,rfl⟩)))
 | ((with_reducible refine' v_andJ ?h1 ?h2 ?_); (case h1=>(walk_at "vJ"; exact ⟨rfl,rfl⟩)); (case h2=>(intro _; walk_at "vJ"; exact ⟨rfl,rfl⟩)))
 | ((with_reducible refine' t_andJ ?h1 ?h2 ?_); (case h1=>(walk_at "vJ"; exact ⟨rfl,rfl⟩)); (case h2=>(intro _; walk_at "vJ"; exact ⟨rfl,rfl⟩)))
 | ((with_reducible refine' v_chainJ ?h1 ?h2 ?h3 ?h4 ?h5 ?_); (case h1=>(walk_at "vJ"; exact ⟨rfl,rfl⟩)); (case h2=>(walk_at "vJ"; exact ⟨rfl,rfl⟩)); (case h3=>(walk_at "vJ"; exact ⟨rfl,rfl⟩)); (case h4=>(intro _; walk_at "vJ"; exact ⟨rfl,rfl⟩)); (case h5=>(intro _; walk_at "vJ"; exact ⟨rfl,rfl⟩)))
 | ((with_reducible refine' v_chain3J ?h1 ?h2 ?h3 ?h4 ?h5 ?h6 ?h7 ?_); (case h1=>(walk_at "vJ"; exact ⟨rfl,rfl⟩)); (case h2=>(walk_at "vJ"; exact ⟨rfl,rfl⟩)); (case h3=>(walk_at "vJ"; exact ⟨rfl,rfl⟩)); (case h4=>(intro _; walk_at "vJ"; exact ⟨rfl,rfl⟩)); (case h5=>(intro _; walk_at "vJ"; exact ⟨rfl,rfl⟩)); (case h6=>(intro _; walk_at "vJ"; exact ⟨rfl,rfl⟩)); (case h7=>(intro _; walk_at "vJ"; exact ⟨rfl,rfl⟩))))
local macro_rules | `(tactic| walk_at "vJ")=>`(tactic| (repeat (first | walk_at "v1" | walk_at "J")))
local macro_rules | `(tactic| walk_at "sc")=>`(tactic| exact ⟨rfl,rfl,rfl,by decide +kernel,rfl,by decide +kernel,by decide +kernel⟩)
local macro_rules | `(tactic| walk_at "cs")=>`(tactic| exact ⟨rfl,by decide +kernel,by decide +kernel,by repeat' (first | exact trivial | refine ⟨⟨rfl,rfl,by first | exact Or.inl rfl | exact Or.inr rfl⟩,?_⟩),by decide +kernel⟩)
local macro_rules | `(tactic| walk_at "vc")=>`(tactic| (walk_at "v"; walk_at "call"))
local macro_rules | `(tactic| walk_at "sv")=>`(tactic| (walk_at "st"; walk_at "v"))
section
variable {P:Program} {w:World} {K:PySem.W.Frag} {mg:Str→Option Value} {base:Heap}
theorem sc__law_turned_words:FnScope ["pool","text","words","at","to","way"] ["pool","text"] (defScope (top 40)):=by walk_at "sc"
theorem ok__law_turned_words {f:Addr} {fd:FuncData} (F:Fun K "_law_turned_words" "_law_turned_words" (top 40) f fd) (T:Txt mg) (G__law_next:Has P w K mg base "_law_next" (top 24) ["pool","base"] 1 (spV pNext)):FnOk P w K mg base CX0 2 f fd ["pool","text"] (spV pTurned):=by
 refine fn_ok F sc__law_turned_words [0,1] (fun as Φ h=>?_) (fun cdv A outer s H E hr=>?_)
 ·obtain ⟨q,z,rfl,_⟩:=h
  rfl
 ·have hu:=hr.units
  refine ⟨_,(pss_cons (ps_s 2 sc__law_turned_words (pe_bmK (K:=K) rfl PySem.F.plainAttrs_str PySem.F.slot_str_split PySem.F.type_str_split mt_split (pv 1) (pa_cons pe_str pa_nil)))
   (pss_cons (ps_s 3 sc__law_turned_words (pe_cd G__law_next hr (pa_cons (pv 0) (pa_cons (pe_callB (lenK (K:=K) rfl) (by rfl) T.n_len PySem.boot_len (pa_cons (pv 2) pa_nil)) pa_nil))))
   (pss_cons (ps_s 4 sc__law_turned_words (pe_cd G__law_next hr (pa_cons (pv 0) (pa_cons (pe_callB (lenK (K:=K) rfl) (by rfl) T.n_len PySem.boot_len (pa_cons (pv 2) pa_nil)) pa_nil))))
   (pss_cons (ps_s 5 sc__law_turned_words (pe_cd G__law_next hr (pa_cons (pv 0) (pa_cons pe_int pa_nil))))
   (pss_cons (ps_if (pt_cmpR (opEq hu) (pv 5) pe_int (nomark _))
   (pss_one (ps_ret (pe_bmK (K:=K) rfl PySem.F.plainAttrs_str PySem.F.slot_str_join PySem.F.type_str_join (mt_join (K:=K) rfl) pe_str (pa_cons (pe_op (opBK (K:=K) rfl) (pe_op (opBK (K:=K) rfl) (pe_slice (slUK (K:=K) rfl) (pv 2) po_none (po_some (pv 3))) (pe_slice (slUK (K:=K) rfl) (pv 2) (po_some (pv 3)) (po_some (pe_op (opBK (K:=K) rfl) (pv 3) pe_int)))) (pe_slice (slUK (K:=K) rfl) (pv 2) (po_some (pv 3)) po_none)) pa_nil))))
   pss_nil)
   (pss_cons (ps_if (pt_cmpR (opEq hu) (pv 5) pe_int (nomark _))
   (pss_one (ps_ret (pe_bmK (K:=K) rfl PySem.F.plainAttrs_str PySem.F.slot_str_join PySem.F.type_str_join (mt_join (K:=K) rfl) pe_str (pa_cons (pe_op (opBK (K:=K) rfl) (pe_op (opBK (K:=K) rfl) (pe_slice (slUK (K:=K) rfl) (pv 2) po_none (po_some (pv 3))) (pe_lst (pa_cons (pe_revX (pe_x (pv 2) (pv 3)) (pe_un un_neg pe_int)) pa_nil))) (pe_slice (slUK (K:=K) rfl) (pv 2) (po_some (pe_op (opBK (K:=K) rfl) (pv 3) pe_int)) po_none)) pa_nil))))
   pss_nil)
   (pss_cons (ps_asg (pe_tup (pa_cons (pe_x (pv 2) (pv 4)) (pa_cons (pe_x (pv 2) (pv 3)) pa_nil))) (pg_tupK (K:=K) (n:=2) rfl rfl (pgs_cons (pg_sub (pv 2) (pv 3) set_list) (pgs_cons (pg_sub (pv 2) (pv 4) set_list) pgs_nil))))
   (pss_one (ps_ret (pe_bmK (K:=K) rfl PySem.F.plainAttrs_str PySem.F.slot_str_join PySem.F.type_str_join (mt_join (K:=K) rfl) pe_str (pa_cons (pv 2) pa_nil))))))))))),?_⟩
  rintro as Φ ⟨q,z,rfl,hz,h3,hl,k⟩
  have big:1000≤sizeLine:=by decide
  have pos:=PyProof.Rows.split_pos z ⟨#[32]⟩
  generalize ew:Txt.split z ⟨#[32]⟩=ws at h3 hl pos
  let S1:Sl:=.d (.str z)
  have all:AllS (ws.map D.str):=fun d hd=>by
   obtain ⟨w,hw,rfl⟩:=List.mem_map.mp hd
   exact ⟨w,rfl,h3 w hw⟩
  have wl:(ws.map D.str).length=ws.length:=List.length_map ..
  walk_at "st"
  refine s_cut (fun ρ=>ρ=[.l (poolD q),S1,.l (ws.map D.str),.u,.u,.u]) ?_ ?_
  ·walk_at "v"
   refine ⟨_,rfl,?_⟩
   walk_at "v"
   refine ⟨32,congrArg (fun z=>[Rs.d (D.str z)]) sp_is,hz,?_⟩
   rw [ew]
   walk_at "v"
   rfl
  rintro ρ rfl
  refine s_cut (fun ρ=>∃(q:Int×Int×Int) (i:Nat),i<ws.length∧ρ=[.l (poolD q),S1,.l (ws.map D.str),.d (.int i),.u,.u]) ?_ ?_
  ·walk_at "v"
   refine v_call ?_
   walk_at "v"
   refine ⟨of_decide_eq_true rfl,?_⟩
   walk_at "st"
   refine ⟨q,_,rfl,by rw [wl]; omega,by rw [wl]; omega,fun r q' r0 r1=>⟨⟨_,rfl⟩,?_⟩⟩
   rw [wl] at r1
   obtain ⟨j,rfl⟩:∃ j:Nat,r=(j:Int):=⟨r.toNat,by omega⟩
   walk_at "sv"
   exact ⟨q',j,by omega,rfl⟩
  rintro ρ ⟨q,i,hi,rfl⟩
  refine s_cut (fun ρ=>∃(q:Int×Int×Int) (j:Nat),j<ws.length∧ρ=[.l (poolD q),S1,.l (ws.map D.str),.d (.int i),.d (.int j),.u]) ?_ ?_
  ·walk_at "v"
   refine v_call ?_
   walk_at "v"
   refine ⟨of_decide_eq_true rfl,?_⟩
   walk_at "st"
   refine ⟨q,_,rfl,by rw [wl]; omega,by rw [wl]; omega,fun r q' r0 r1=>⟨⟨_,rfl⟩,?_⟩⟩
   rw [wl] at r1
   obtain ⟨j,rfl⟩:∃ j:Nat,r=(j:Int):=⟨r.toNat,by omega⟩
   walk_at "sv"
   exact ⟨q',j,by omega,rfl⟩
  rintro ρ ⟨q,j,hj,rfl⟩
  have gi:atI (ws.map D.str) (i:Int)=some (.str ws[i]):=atI_nat (by rw [List.getElem?_map,List.getElem?_eq_getElem hi]; rfl)
  have gj:atI (ws.map D.str) (j:Int)=some (.str ws[j]):=atI_nat (by rw [List.getElem?_map,List.getElem?_eq_getElem hj]; rfl)
  refine s_cut (fun ρ=>∃(q:Int×Int×Int) (v:Int),ρ=[.l (poolD q),S1,.l (ws.map D.str),.d (.int i),.d (.int j),.d (.int v)]) ?_ ?_
  ·walk_at "v"
   walk_at "call"
   refine ⟨q,3,rfl,by decide,by decide,fun r q' _ _=>⟨⟨_,rfl⟩,?_⟩⟩
   walk_at "sv"
   exact ⟨q',r,rfl⟩
  rintro ρ ⟨q,v,rfl⟩
  refine s_cut (fun ρ=>ρ=[.l (poolD q),S1,.l (ws.map D.str),.d (.int i),.d (.int j),.d (.int v)]) ?_ ?_
  ·refine s_if ?_
   walk_at "v"
   refine ite2 (fun _=>?_) (fun _=>s_next rfl)
   walk_at "v"
   refine ⟨_,rfl,?_⟩
   walk_at "v"
   refine SlV.l (sl_L rfl ?_)
   walk_at "v"
   refine SlV.l (sl_L rfl ?_)
   have c1:=cut_len (ws.map D.str) none (some (i:Int))
   have c2:=cut_len (ws.map D.str) (some (i:Int)) (some ((i:Int)+1))
   have c3:=cut_len (ws.map D.str) (some (i:Int)) none
   rw [wl] at c1 c2 c3
   refine OpV.r (OpV.l (o_catL rfl rfl (szl (by omega)) ?_))
   walk_at "v"
   refine SlV.l (sl_L rfl ?_)
   refine OpV.r (OpV.l (o_catL rfl rfl (szl (by rw [List.length_append]; omega)) ?_))
   obtain ⟨vs,ev,hv⟩:=(((all.cut none (some (i:Int))).cat (all.cut (some (i:Int)) (some ((i:Int)+1)))).cat (all.cut (some (i:Int)) none)).ex
   have lv:vs.length≤75:=by
    have:=congrArg List.length ev
    rw [List.length_append,List.length_append,List.length_map] at this
    omega
   rw [ev,sp_is]
   walk_at "v"
   exact ⟨vs,⟨_,rfl,rfl⟩,(few_len2 hv (by omega)).1,⟨_,rfl⟩,k _ _ (few_len2 hv (by omega)).2⟩
  rintro ρ rfl
  refine s_cut (fun ρ=>ρ=[.l (poolD q),S1,.l (ws.map D.str),.d (.int i),.d (.int j),.d (.int v)]) ?_ ?_
  ·refine s_if ?_
   walk_at "v"
   refine ite2 (fun _=>?_) (fun _=>s_next rfl)
   walk_at "v"
   refine ⟨_,rfl,?_⟩
   walk_at "v"
   refine SlV.l (sl_L rfl ?_)
   walk_at "v"
   refine ⟨_,rfl,by have:=h3 _ (List.getElem_mem hi); omega,?_⟩
   walk_at "v"
   refine ⟨rfl,fun y hy=>?_⟩
   have hy3:y.length≤3:=Nat.le_trans hy (h3 _ (List.getElem_mem hi))
   walk_at "v"
   have c1:=cut_len (ws.map D.str) none (some (i:Int))
   have c3:=cut_len (ws.map D.str) (some ((i:Int)+1)) none
   rw [wl] at c1 c3
   refine OpV.r (OpV.l (o_catL rfl rfl (szl (by show _+1≤1000; omega)) ?_))
   walk_at "v"
   refine SlV.l (sl_L rfl ?_)
   refine OpV.r (OpV.l (o_catL rfl rfl (szl (by rw [List.length_append]; show _+1+_≤1000; omega)) ?_))
   have one:AllS [D.str y]:=fun d hd=>⟨y,List.mem_singleton.mp hd,hy3⟩
   obtain ⟨vs,ev,hv⟩:=(((all.cut none (some (i:Int))).cat one).cat (all.cut (some ((i:Int)+1)) none)).ex
   have lv:vs.length≤75:=by
    have:=congrArg List.length ev
    rw [List.length_append,List.length_append,List.length_map] at this
    have t1 : [D.str y].length=1:=rfl
    omega
   rw [ev,sp_is]
   walk_at "v"
   exact ⟨vs,⟨_,rfl,rfl⟩,(few_len2 hv (by omega)).1,⟨_,rfl⟩,k _ _ (few_len2 hv (by omega)).2⟩
  rintro ρ rfl
  refine s_cut (fun ρ=>∃ xs:List D,AllS xs∧xs.length=ws.length∧ρ=[.l (poolD q),S1,.l xs,.d (.int i),.d (.int j),.d (.int v)]) ?_ ?_
  ·walk_at "v"
   refine ⟨_,i,_,rfl,rfl,spot_at (by rw [wl]; exact hi),?_⟩
   walk_at "v"
   refine ⟨_,j,_,rfl,rfl,spot_at (by rw [List.length_set,wl]; exact hj),?_⟩
   walk_at "v"
   refine ⟨_,(all.set ⟨_,rfl,h3 _ (List.getElem_mem hj)⟩).set ⟨_,rfl,h3 _ (List.getElem_mem hi)⟩,?_,rfl⟩
   rw [List.length_set,List.length_set,wl]
  rintro ρ ⟨xs,hx,lx,rfl⟩
  obtain ⟨vs,rfl,hv⟩:=hx.ex
  rw [List.length_map] at lx
  walk_at "v"
  refine ⟨_,rfl,?_⟩
  walk_at "v"
  rw [sp_is]
  exact ⟨vs,⟨_,rfl,rfl⟩,(few_len2 hv (by omega)).1,⟨_,rfl⟩,k _ _ (few_len2 hv (by omega)).2⟩
end
theorem form_ok {n:Nat} {ts:List Tie} (W:WebOk n ts):(ts.map tieD).all (tieFormB n)=true:=by
 rw [List.all_map,List.all_eq_true]
 intro t ht
 obtain ⟨h1,h2,h3⟩:=W.ok t ht
 show (true && (true && (decide (0≤t.1) && (decide (t.1<t.2) && decide (t.2<(n:Int))))))=true
 rw [decide_eq_true h1,decide_eq_true h2,decide_eq_true h3]
 rfl
theorem lex_tlt {s t:Tie} (h:tlt s t):HT.lexLt (row2 s) (row2 t)=true:=by
 unfold row2
 rw [HT.lexLt_cons]
 rcases h with h | ⟨h1,h2⟩
 ·rw [if_neg (by omega)]
  exact (decide_eq_true h)
 ·rw [if_pos h1,HT.lexLt_cons,if_neg (by omega)]
  exact (decide_eq_true h2)
theorem up_ok:∀{ts:List Tie} {last:List Int},ts.Pairwise tlt→(∀ t∈ts,HT.lexLt last (row2 t)=true)→upFrom last (ts.map tieD)=true
 | [],_,_,_=>rfl
 | t::ts,last,h,g=>by
  obtain ⟨h1,h2⟩:_∧_:=List.pairwise_cons.mp h
  show (HT.lexLt last (row2 t) && upFrom (row2 t) (ts.map tieD))=true
  rw [g t List.mem_cons_self,up_ok h2 fun u hu=>lex_tlt (h1 u hu)]
  rfl
theorem webB_ok {n:Nat} {ts:List Tie} (W:WebOk n ts):webB (webD n ts)=true:=by
 have h1:=W.pos
 have h2:=W.few
 have h3:=W.len
 show (true && ((decide (0<(n:Int)) && decide ((n:Int)<10)) && (decide ((ts.map tieD).length≤20) && goB n [-1,-1] (ts.map tieD))))=true
 rw [decide_eq_true (show (0:Int)<n by omega),decide_eq_true (show (n:Int)<10 by omega),decide_eq_true (by rw [List.length_map]; exact h3),go_split,form_ok W,up_ok W.up fun t ht=>?_]
 ·rfl
 ·have:=(W.ok t ht).1
  unfold row2
  rw [HT.lexLt_cons,if_neg (by omega)]
  exact (decide_eq_true (by omega))
theorem arr_two {n:Nat} {ts:List Tie} {bs:List Int}:bs.length=ts.length→(arrsL ts bs).length=ts.length:=by
 intro h
 rw [arrs_zip,List.length_map,List.length_zip,h,Nat.min_self]
theorem arr_digs {ts:List Tie} (h:Digs ts) (bs:List Int):Digs (arrsL ts bs):=fun u hu=>by
 rw [arrs_zip] at hu
 obtain ⟨p,hp,rfl⟩:=List.mem_map.mp hu
 obtain ⟨h1,h2,h3,h4⟩:=h p.1 (List.of_mem_zip hp).1
 unfold arr
 split
 ·exact ⟨h1,h2,h3,h4⟩
 ·exact ⟨h3,h4,h1,h2⟩
theorem many_no {n:Nat} {us:List Tie} (h:20<us.length):webB (webD n us)=false:=by
 show (true && ((decide (0<(n:Int)) && decide ((n:Int)<10)) && (decide ((us.map tieD).length≤20) && goB n [-1,-1] (us.map tieD))))=false
 rw [decide_eq_false (show ¬ (us.map tieD).length≤20 by rw [List.length_map]; omega)]
 simp
theorem joinL_mem {x:Nat}:∀{ls:List (List Nat)},x∈joinL ls→x=32∨∃ l∈ls,x∈l
 | [],h=>nomatch h
 | [y],h=>.inr ⟨y,List.mem_cons_self,h⟩
 | y::z::r,h=>by
  have h':x∈y++32::joinL (z::r):=h
  rcases List.mem_append.mp h' with q | q
  ·exact .inr ⟨y,List.mem_cons_self,q⟩
  ·rcases List.mem_cons.mp q with q | q
   ·exact .inl q
   ·rcases joinL_mem (ls:=z::r) q with q | ⟨l,hl,q⟩
    ·exact .inl q
    ·exact .inr ⟨l,List.mem_cons_of_mem _ hl,q⟩
theorem text_chars {n c:Nat} (hn:n<10) {us:List Tie} {x:Nat} (h:x∈(textS n c us).cps.toList):x=32∨x=c∨48≤x:=by
 rw [text_cps] at h
 rcases joinL_mem h with q | ⟨l,hl,q⟩
 ·exact .inl q
 ·obtain ⟨w,hw,rfl⟩:=List.mem_map.mp hl
  rcases List.mem_cons.mp hw with e | e
  ·rw [e,fig_is n hn] at q
   have:=List.mem_singleton.mp (show x∈[48+n] from q)
   omega
  ·obtain ⟨t,_,rfl⟩:=List.mem_map.mp e
   have q':x∈[48+t.1.toNat,c,48+t.2.toNat]:=q
   simp only [List.mem_cons,List.not_mem_nil,or_false] at q'
   omega
theorem crowd_web:∀ n:Nat,7≤n→n≤9→webB (webD n ((pairsN n).take 20))=true∧20<(pairsN n).length∧(pairsN n).length≤36:=by
 intro n h7 h9
 have:n=7∨n=8∨n=9:=by omega
 rcases this with rfl | rfl | rfl <;> exact ⟨by decide +kernel,by decide +kernel,by decide +kernel⟩
theorem crowd_digs {n:Nat} (h1:7≤n) (h9:n≤9):Digs (pairsN n):=fun t ht=>by
 obtain ⟨k,hk,rfl⟩:=List.mem_map.mp ht
 have hk':=List.mem_range.mp (List.mem_filter.mp hk).1
 unfold gN
 have kn:(k:Int)<(n:Int)*n:=by
  have:((n*n:Nat):Int)=(n:Int)*n:=Int.natCast_mul n n
  omega
 have a0:(0:Int)≤(0+(k:Int)) / n:=Int.ediv_nonneg (by omega) (by omega)
 have a1:(0+(k:Int)) / n<n:=Int.ediv_lt_of_lt_mul (by omega) (by omega)
 have b0:(0:Int)≤(0+(k:Int)) % n:=Int.emod_nonneg _ (by omega)
 have b1:(0+(k:Int)) % n<n:=Int.emod_lt_of_pos _ (by omega)
 exact ⟨a0,by show _<(10:Int); omega,b0,by show _<(10:Int); omega⟩
theorem digs_take {us:List Tie} (h:Digs us) (k:Nat):Digs (us.take k):=fun t ht=>h t (List.mem_of_mem_take ht)
theorem mk_arr {t:Tie} (h:t.1<t.2) (b:Int):mk (arr t b).1 (arr t b).2=t:=by
 obtain ⟨x,y⟩:=t
 dsimp only at h
 unfold arr
 by_cases hb:b=1
 ·rw [if_pos hb]
  show (if y<x then y else x,if y > x then y else x)=(x,y)
  rw [if_neg (by omega),if_pos (by omega)]
 ·rw [if_neg hb]
  show (if x<y then x else y,if x > y then x else y)=(x,y)
  rw [if_pos (by omega),if_neg (by omega)]
theorem arr_back:∀{ts:List Tie} {bs:List Int},bs.length=ts.length→(∀ t∈ts,t.1<t.2)→(arrsL ts bs).map (fun u=>mk u.1 u.2)=ts
 | [],_,_,_=>by
  rw [arrs_zip,List.zip_nil_left]
  rfl
 | _::_,[],h,_=>absurd h.symm (Nat.succ_ne_zero _)
 | t::ts,b::bs,h,lt=>by
  show mk (arr t b).1 (arr t b).2::(arrsL ts bs).map (fun u=>mk u.1 u.2)=_
  rw [mk_arr (lt t List.mem_cons_self),arr_back (Nat.succ.inj h) fun u hu=>lt u (List.mem_cons_of_mem _ hu)]
theorem ways_arr:∀{ts:List Tie} {bs:List Int},bs.length=ts.length→(∀ t∈ts,t.1<t.2)→Bits bs→waysU (arrsL ts bs)=bs
 | [],[],_,_,_=>rfl
 | [],_::_,h,_,_=>absurd h (Nat.succ_ne_zero _)
 | _::_,[],h,_,_=>absurd h.symm (Nat.succ_ne_zero _)
 | t::ts,b::bs,h,lt,B=>by
  show (if (arr t b).1<(arr t b).2 then (1:Int) else 0)::waysU (arrsL ts bs)=b::bs
  rw [ways_arr (Nat.succ.inj h) (fun u hu=>lt u (List.mem_cons_of_mem _ hu)) fun x hx=>B x (List.mem_cons_of_mem _ hx)]
  have l:=lt t List.mem_cons_self
  congr 1
  unfold arr
  rcases B b List.mem_cons_self with e | e
  ·rw [e]
   exact if_neg (show ¬ t.2<t.1 by omega)
  ·rw [e]
   exact if_pos l
theorem ptg_small {n c:Nat} (hn:n<10) {us:List Tie} (hl:us.length≤200):small (.str (textS n c us)):=fun z e=>by
 cases e
 rw [text_size hn]
 omega
theorem ptg_is {n:Nat} {ts:List Tie} {bs:List Int} (W:WebOk n ts) (hb:bs.length=ts.length) (B:Bits bs):isWT (.str (textS n 62 (arrsL ts bs))) n (arrsL ts bs)∧ptgD n (arrsL ts bs)=.tup [webD n ts,.tup (intsD bs)]:=by
 have:=W.few
 have lt:∀ t∈ts,t.1<t.2:=fun t ht=>(W.ok t ht).2.1
 have e1:(arrsL ts bs).map mkU=ts:=arr_back hb lt
 refine ⟨⟨by rw [e1]; exact webB_ok W,_,rfl,by omega,arr_digs (web_digs W) bs,rfl⟩,?_⟩
 unfold ptgD
 rw [e1,ways_arr hb lt B]
theorem is_no {n:Nat} {us:List Tie} (hn:n<10) (dg:Digs us) (h:webB (webD n (us.map mkU))=false):¬ ∃ n' us',isWT (.str (textS n 62 us)) n' us':=fun ⟨n',us',hw,z,e,h1,h2,h3⟩=>by
 cases e
 have e1:=text_words (c:=62) (by decide) ⟨hn,dg,rfl⟩
 have e2:=text_words (c:=62) (by decide) ⟨h1,h2,h3⟩
 rw [e1] at e2
 obtain ⟨rfl,rfl⟩:=fig_words dg h2 hn h1 e2
 rw [h] at hw
 cases hw
theorem line_no (z:Str):¬ ∃ n us,isWT (.str (z++Str.ofString "\n")) n us:=fun ⟨n,us,_,z',e,h1,_,h3⟩=>by
 cases e
 have m:(10:Nat)∈(z++Str.ofString "\n").cps.toList:=by
  show 10∈(z.cps++(Str.ofString "\n").cps).toList
  rw [Array.toList_append]
  exact List.mem_append_right _ (by decide)
 rw [h3] at m
 have:=text_chars h1 m
 omega
theorem crowd_up:∀ n:Nat,7≤n→n≤9→((pairsN n).take 20).Pairwise tlt∧∀ t∈(pairsN n).take 20,0≤t.1∧t.1<t.2∧t.2<(n:Int):=by
 intro n h7 h9
 have:n=7∨n=8∨n=9:=by omega
 unfold tlt
 rcases this with rfl | rfl | rfl <;> exact ⟨by decide +kernel,by decide +kernel⟩
theorem crowd_ok {n:Nat} (h7:7≤n) (h9:n≤9):WebOk n ((pairsN n).take 20):=by
 obtain ⟨h1,h2⟩:=crowd_up n h7 h9
 refine ⟨by omega,h9,?_,h2,h1⟩
 rw [List.length_take]
 omega
theorem dep_ptg (n:Nat) (us:List Tie):dDepths [webD n (us.map mkU),.tup (intsD (waysU us))]≤50:=by
 have h:=dep_map (f:=tieD) (k:=1) (fun a=>Nat.le_refl _) (us.map mkU)
 have h2:dDepths (intsD (waysU us))≤50:=dep_int _
 have h3:dDepths ((waysU us).map D.int)≤0:=dep_map (f:=D.int) (k:=0) (fun a=>Nat.le_refl _) _
 have a:dDepth (webD n (us.map mkU))≤4:=Nat.succ_le_succ (Nat.max_le.mpr ⟨Nat.zero_le _,Nat.max_le.mpr ⟨Nat.le_trans (Nat.succ_le_succ h) (by decide),Nat.zero_le _⟩⟩)
 have b:dDepth (D.tup (intsD (waysU us)))≤1:=Nat.succ_le_succ h3
 exact Nat.max_le.mpr ⟨Nat.le_trans a (by decide),Nat.max_le.mpr ⟨Nat.le_trans b (by decide),Nat.zero_le _⟩⟩
theorem dep_is {n:Nat} {ts us:List Tie} {bs:List Int} (e:ptgD n us=.tup [webD n ts,.tup (intsD bs)]):dDepths [webD n ts,.tup (intsD bs)]≤50:=by
 have h:=dep_ptg n us
 have e' : [webD n (us.map mkU),D.tup (intsD (waysU us))]=[webD n ts,.tup (intsD bs)]:=D.tup.inj e
 rw [e'] at h
 exact h
theorem map_len (us:List Tie):(us.map mkU).length=us.length:=List.length_map _
local macro_rules | `(tactic| walk_at "nm")=>`(tactic| first
 | ((with_reducible refine nm8 ?_); intro _ _ _ _ _ _ _ _ _)
 | ((with_reducible refine nm6 ?_); intro _ _ _ _ _ _ _)
 | ((with_reducible refine nm5 ?_); intro _ _ _ _ _ _)
 | ((with_reducible refine nm4 ?_); intro _ _ _ _ _)
 | ((with_reducible refine nm3 ?_); intro _ _ _ _)
 | ((with_reducible refine nm2 ?_); intro _ _ _))
local macro_rules | `(tactic| walk_at "nf")=>`(tactic| first
 | ((with_reducible refine nf14 ?_); intro _ _ _ _ _ _ _ _ _ _ _ _ _ _ _))
local macro_rules | `(tactic| walk_at "ps")=>`(tactic| try ((with_reducible refine s_psi ?_); intro _))
local macro_rules | `(tactic| walk_at "rf")=>`(tactic| first | rfl | decide)
local macro_rules | `(tactic| walk_at "op")=>`(tactic| first
 | ((with_reducible refine' o_i0 ?h1 ?h2 ?_); (case h1=>rfl); (case h2=>rfl))
 | ((with_reducible refine' OpV.l (o_i0 ?h1 ?h2 ?_)); (case h1=>rfl); (case h2=>rfl))
 | ((with_reducible refine' o_b0 ?h1 ?h2 ?_); (case h1=>rfl); (case h2=>rfl))
 | ((with_reducible refine' OpV.l (o_b0 ?h1 ?h2 ?_)); (case h1=>rfl); (case h2=>rfl))
 | ((with_reducible refine' OpV.l (o_eqI ?h1 ?h2 ?_)); (case h1=>rfl); (case h2=>rfl))
 | ((with_reducible refine' OpV.l (o_neI ?h1 ?h2 ?_)); (case h1=>rfl); (case h2=>rfl))
 | ((with_reducible refine' OpV.l (o_eqB ?h1 ?h2 ?_)); (case h1=>rfl); (case h2=>rfl))
 | ((with_reducible refine' o_isN ?h1 ?_); (case h1=>rfl))
 | ((with_reducible refine' o_notN ?h1 ?_); (case h1=>rfl))
 | ((with_reducible refine' o_neNil ?h1 ?h2 ?h3 ?_); (case h1=>rfl); (case h2=>rfl); (case h3=>first | exact dep_int _ | assumption))
 | ((with_reducible refine' OpV.r (OpV.l (o_catL ?h1 ?h2 ?h3 ?_))); (case h1=>rfl); (case h2=>rfl); (case h3=>exact szl (Nat.le_of_ble_eq_true rfl)))
 | ((with_reducible refine' o_ixT ?h1 ?h2 ?h3 ?_); (case h1=>rfl); (case h2=>rfl); (case h3=>rfl))
 | ((with_reducible refine' o_ixL ?h1 ?h2 ?h3 ?_); (case h1=>rfl); (case h2=>rfl); (case h3=>rfl))
 | ((with_reducible refine' o_ixL ?h1 ?h2 ?h3 ?_); (case h1=>rfl); (case h2=>rfl); (case h3=>assumption))
 | ((with_reducible refine' o_ixT ?h1 ?h2 ?h3 ?_); (case h1=>rfl); (case h2=>rfl); (case h3=>assumption)))
local macro_rules | `(tactic| walk_at "ca")=>`(tactic| first
 | ((with_reducible refine' u_i ?h1 ?_); (case h1=>rfl))
 | ((with_reducible refine' c_ii ?h1 ?h2 ?_); (case h1=>rfl); (case h2=>rfl))
 | ((with_reducible refine' c_lenL ?h1 ?_); (case h1=>rfl))
 | ((with_reducible refine' c_lenT ?h1 ?_); (case h1=>rfl))
 | ((with_reducible refine' c_tupleL ?h1 ?_); (case h1=>rfl))
 | ((with_reducible refine' c_listT ?h1 ?_); (case h1=>rfl))
 | ((with_reducible refine' c_int_b ?h1 ?_); (case h1=>rfl))
 | ((with_reducible refine' c_isinst ?h1 ?h2 ?_); (case h1=>rfl); (case h2=>rfl)))
local macro_rules | `(tactic| walk_at "v1")=>`(tactic| first
 | with_reducible refine v_op ?_
 | with_reducible refine v_int ?_
 | ((with_reducible refine' v_var_d ?h ?_); (case h=>rfl))
 | ((with_reducible refine' v_var_l ?h ?_); (case h=>rfl))
 | ((with_reducible refine' v_var_f ?h ?_); (case h=>rfl))
 | with_reducible refine v_cb ?_
 | with_reducible refine v_join ?_
 | with_reducible refine v_split ?_
 | with_reducible refine v_fmt ?_
 | with_reducible refine v_idxF ?_
 | with_reducible refine v_revX ?_
 | with_reducible refine v_bm ?_
 | (refine ⟨⟨rfl,_,(rfl:rd _ _=some (D.lst _))⟩,?_⟩)
 | with_reducible refine a_cons ?_
 | with_reducible refine a_nil ?_
 | with_reducible refine v_tup ?_
 | with_reducible refine v_lst ?_
 | with_reducible refine v_bl ?_
 | with_reducible refine v_non ?_
 | with_reducible refine v_str ?_
 | with_reducible refine v_raw ?_
 | with_reducible refine v_sl ?_
 | with_reducible refine p_none ?_
 | with_reducible refine p_some ?_
 | with_reducible refine v_un ?_
 | with_reducible refine v_not ?_
 | with_reducible refine t_test ?_
 | with_reducible refine t_tru ?_
 | with_reducible refine t_true ?_
 | with_reducible refine t_not ?_
 | with_reducible refine s_seqN ?_
 | walk_at "nm"
 | with_reducible refine s_seq ?_
 | with_reducible refine s_asg ?_
 | ((with_reducible refine' g_name ?h ?_); (case h=>rfl))
 | ((with_reducible refine' g_tup ?h1 ?h2 ?_); (case h1=>rfl); (case h2=>rfl))
 | with_reducible refine gs_cons ?_
 | with_reducible refine g_put ?_
 | (refine ⟨_,(rfl:Rs.it _=some _),?_⟩)
 | (refine ⟨_,(rfl:_=Rs.b _),?_⟩)
 | with_reducible refine gs_nil ?_
 | with_reducible refine s_ret ?_
 | with_reducible refine s_drop ?_
 | with_reducible refine s_if ?_
 | with_reducible refine s_next ?_
 | walk_at "op"
 | walk_at "ca"
 | (refine ⟨_,(rfl:rd _ _=some _),?_⟩)
 | (refine ⟨_,_,(rfl:rd _ _=some _),(rfl:truD _=some _),?_⟩)
 | (refine ⟨_,(rfl:its _=some _),szl (Nat.le_of_ble_eq_true rfl),?_⟩))
local macro_rules | `(tactic| walk_at "v")=>`(tactic| (repeat (walk_at "v1")))
local macro_rules | `(tactic| walk_at "st")=>`(tactic| try dsimp only [List.length_cons,List.length_nil,Nat.reduceAdd,Nat.reduceSub,List.replicate,List.cons_append,List.nil_append,List.set,caps,List.map,Rs.sl,wb,L4.outer,capt,List.drop,inner,List.getElem?_cons_zero,List.getElem?_cons_succ,List.headD,List.tail,argS,Option.getD])
local macro_rules | `(tactic| walk_at "call")=>`(tactic| ((with_reducible refine v_call ?_); walk_at "v"; (refine ⟨of_decide_eq_true rfl,?_⟩); walk_at "st"))
local macro_rules | `(tactic| walk_at "J")=>`(tactic| first
 | ((with_reducible refine' v_orJ ?h1 ?h2 ?_); (case h1=>(walk_at "vJ"; exact ⟨rfl,rfl⟩)); (case h2=>(intro _; walk_at "vJ"; exact ⟨rfl,rfl⟩)))
 | ((with_reducible refine' v_andJ ?h1 ?h2 ?_); (case h1=>(walk_at "vJ"; exact ⟨rfl,rfl⟩)); (case h2=>(intro _; walk_at "vJ"; exact ⟨rfl,rfl⟩)))
 | ((with_reducible refine' t_andJ ?h1 ?h2 ?_); (case h1=>(walk_at "vJ"; exact ⟨rfl,rfl⟩)); (case h2=>(intro _; walk_at "vJ"; exact ⟨rfl,rfl⟩)))
 | ((with_reducible refine' v_chainJ ?h1 ?h2 ?h3 ?h4 ?h5 ?_); (case h1=>(walk_at "vJ"; exact ⟨rfl,rfl⟩)); (case h2=>(walk_at "vJ"; exact ⟨rfl,rfl⟩)); (case h3=>(walk_at "vJ"; exact ⟨rfl,rfl⟩)); (case h4=>(intro _; walk_at "vJ"; exact ⟨rfl,rfl⟩)); (case h5=>(intro _; walk_at "vJ"; exact ⟨rfl,rfl⟩)))
 | ((with_reducible refine' v_chain3J ?h1 ?h2 ?h3 ?h4 ?h5 ?h6 ?h7 ?_); (case h1=>(walk_at "vJ"; exact ⟨rfl,rfl⟩)); (case h2=>(walk_at "vJ"; exact ⟨rfl,rfl⟩)); (case h3=>(walk_at "vJ"; exact ⟨rfl,rfl⟩)); (case h4=>(intro _; walk_at "vJ"; exact ⟨rfl,rfl⟩)); (case h5=>(intro _; walk_at "vJ"; exact ⟨rfl,rfl⟩)); (case h6=>(intro _; walk_at "vJ"; exact ⟨rfl,rfl⟩)); (case h7=>(intro _; walk_at "vJ"; exact ⟨rfl,rfl⟩))))
local macro_rules | `(tactic| walk_at "vJ")=>`(tactic| (repeat (first | walk_at "v1" | walk_at "J")))
local macro_rules | `(tactic| walk_at "sc")=>`(tactic| exact ⟨rfl,rfl,rfl,by decide +kernel,rfl,by decide +kernel,by decide +kernel⟩)
local macro_rules | `(tactic| walk_at "cs")=>`(tactic| exact ⟨rfl,by decide +kernel,by decide +kernel,by repeat' (first | exact trivial | refine ⟨⟨rfl,rfl,by first | exact Or.inl rfl | exact Or.inr rfl⟩,?_⟩),by decide +kernel⟩)
local macro_rules | `(tactic| walk_at "vc")=>`(tactic| (walk_at "v"; walk_at "call"))
local macro_rules | `(tactic| walk_at "sv")=>`(tactic| (walk_at "st"; walk_at "v"))
section
variable {P:Program} {w:World} {K:PySem.W.Frag} {mg:Str→Option Value} {base:Heap} {CT:Addr}
theorem sc_law:FnScope ["script","cell","pool","web","pointing","text","some","other","many","pairs","whole","back","more"] ["script"] (defScope (top 41)):=by walk_at "sc"
theorem ok_law {f:Addr} {fd:FuncData} (F:Fun K "law" "law" (top 41) f fd) (T:Txt mg)
  (G__law_pool:Has P w K mg base "_law_pool" (top 23) ["cell"] 1 (spV pPool))
  (G__law_web:Has P w K mg base "_law_web" (top 25) ["pool","most"] 2 (spV pWeb))
  (G__law_pointing:Has P w K mg base "_law_pointing" (top 32) ["pool","web"] 4 (spV pPointing))
  (G__law_text:Has P w K mg base "_law_text" (top 33) ["many","some","dash"] 1 (spV pLText))
  (G_pointing_text:Has P w K mg base "pointing_text" (top 16) ["web","pointing"] 2 (spV pPtgText))
  (G_read_pointing:HasE P w K mg base "read_pointing" (top 21) ["thing"] 5 (spE pReadP (pReadPX CT)))
  (G__law_bent_text:Has P w K mg base "_law_bent_text" (top 35) ["text","pool"] 3 (spV pBent))
  (G__law_turned_words:Has P w K mg base "_law_turned_words" (top 40) ["pool","text"] 2 (spV pTurned))
  (G__law_arrows:Has P w K mg base "_law_arrows" (top 29) ["web","pointing"] 1 (spV pLawArrows))
  (G__law_fall:Has P w K mg base "_law_fall" (top 28) ["pool","web"] 3 (spV pFall))
  (G__law_asked:Has P w K mg base "_law_asked" (top 39) ["thing"] 6 (spV pLAsked))
  (G__law_read:Has P w K mg base "_law_read" (top 38) ["text"] 3 (spV pLRead))
  (G__law_next:Has P w K mg base "_law_next" (top 24) ["pool","base"] 1 (spV pNext))
  (G__law_crowd:Has P w K mg base "_law_crowd" (top 37) ["pool"] 2 (spV pLCrowd)):FnOk P w K mg base CX0 7 f fd ["script"] (spLaw K):=by
 refine law_ok F sc_law (fun cdv A outer s H E hr=>?_)
 have hu:=hr.units
 have G_read_pointing:=G_read_pointing.calm
 refine ⟨_,(pss_cons (ps_for PassesOwn.never rfl (pi_anyK (K:=K) rfl (pe_op (opBK (K:=K) rfl) (pe_lst (pa_cons pe_int pa_nil)) (pv 0))) (pg_n 1 sc_law)
   (pss_cons (ps_s 2 sc_law (pe_cd G__law_pool hr (pa_cons (pv 1) pa_nil)))
    (pss_cons (ps_s 3 sc_law (pe_cd G__law_web hr (pa_cons (pv 2) (pa_cons pe_int pa_nil))))
    (pss_cons (ps_s 4 sc_law (pe_cd G__law_pointing hr (pa_cons (pv 2) (pa_cons (pv 3) pa_nil))))
    (pss_cons (ps_s 5 sc_law (pe_cd G__law_text hr (pa_cons (pe_x (pv 3) pe_int) (pa_cons (pe_cd G__law_arrows hr (pa_cons (pv 3) (pa_cons (pv 4) pa_nil))) (pa_cons pe_str pa_nil)))))
    (pss_cons (ps_if (PW.pt (pw_or (pt_cmpR (opNe hu) (pe_cd G_pointing_text hr (pa_cons (pv 3) (pa_cons (pv 4) pa_nil))) (pv 5) (nomark _)) (pw_or1 (pt_cmpR (opNe hu) (pe_cd G_read_pointing hr (pa_cons (pv 5) pa_nil)) (pe_tup (pa_cons (pv 3) (pa_cons (pv 4) pa_nil))) (nomark _)))))
    (pss_one (ps_ret pe_bl))
    pss_nil)
    (pss_cons (ps_s 6 sc_law (pe_op (opBK (K:=K) rfl) (pe_comp rfl (own:=["turn"]) (fr:=[("text",5),("pool",2)]) (by walk_at "cs") (pi_range1 (by rfl) T.n_range (pa_cons pe_int pa_nil)) (fun cl C s0 H0 fp=>⟨(pg_c 0),pf_nil,(pe_cd G__law_bent_text hr (pa_cons (pv 1) (pa_cons (pv 2) pa_nil)))⟩)) (pe_lst (pa_cons (pe_cd G__law_turned_words hr (pa_cons (pv 2) (pa_cons (pv 5) pa_nil))) pa_nil))))
    (pss_cons (ps_for PassesOwn.never rfl (pi_anyK (K:=K) rfl (pe_op (opBK (K:=K) rfl) (pv 6) (pe_lst (pa_cons (pe_cd G__law_text hr (pa_cons (pe_x (pv 3) pe_int) (pa_cons (pe_x (pv 3) pe_int) (pa_cons pe_str pa_nil)))) pa_nil)))) (pg_n 7 sc_law)
    (pss_one (ps_if (pt_cmpR (opNe hu) (pe_cd G__law_asked hr (pa_cons (pv 7) pa_nil)) (pe_cd G__law_read hr (pa_cons (pv 7) pa_nil)) (nomark _))
     (pss_one (ps_ret pe_bl))
     pss_nil)))
    (pss_cons (ps_if (pt_cmpR op_notN (pe_cd G__law_asked hr (pa_cons (pe_x (pe_lst (pa_cons pe_non (pa_cons pe_int (pa_cons (pe_tup (pa_cons (pv 3) (pa_cons (pv 4) pa_nil))) (pa_cons (pe_lst (pa_cons (pv 5) pa_nil)) (pa_cons pe_bl (pa_cons (pe_tup (pa_cons (pv 5) pa_nil)) pa_nil))))))) (pe_cd G__law_next hr (pa_cons (pv 2) (pa_cons pe_int pa_nil)))) pa_nil)) pe_non (nomark _))
    (pss_one (ps_ret pe_bl))
    pss_nil)
    (pss_cons (ps_asg (pe_cd G__law_crowd hr (pa_cons (pv 2) pa_nil)) (pg_tupK (K:=K) (n:=2) rfl rfl (pgs_cons (pg_n 8 sc_law) (pgs_cons (pg_n 9 sc_law) pgs_nil))))
    (pss_cons (ps_s 10 sc_law (pe_tup (pa_cons (pv 8) (pa_cons (pe_callTy (tupleK (K:=K) rfl) (by rfl) T.n_tuple PyProof.Rows.boot_tuple (pa_cons (pe_slice (slUK (K:=K) rfl) (pv 9) po_none (po_some pe_int)) pa_nil)) pa_nil))))
    (pss_cons (ps_s 11 sc_law (pe_cd G__law_fall hr (pa_cons (pv 2) (pa_cons (pv 10) pa_nil))))
    (pss_cons (ps_if (pt_cmpR (opNe hu) (pe_cd G_read_pointing hr (pa_cons (pe_cd G__law_text hr (pa_cons (pv 8) (pa_cons (pe_cd G__law_arrows hr (pa_cons (pv 10) (pa_cons (pv 11) pa_nil))) (pa_cons pe_str pa_nil)))) pa_nil)) (pe_tup (pa_cons (pv 10) (pa_cons (pv 11) pa_nil))) (nomark _))
    (pss_one (ps_ret pe_bl))
    pss_nil)
    (pss_cons (ps_s 12 sc_law (pe_slice (slUK (K:=K) rfl) (pv 9) po_none (po_some (pe_op (opBK (K:=K) rfl) pe_int (pe_cd G__law_next hr (pa_cons (pv 2) (pa_cons pe_int pa_nil)))))))
    (pss_one (ps_if (PW.pt (pw_or (pt_cmpR op_notN (pe_cd G__law_asked hr (pa_cons (pe_cd G__law_text hr (pa_cons (pv 8) (pa_cons (pv 12) (pa_cons pe_str pa_nil)))) pa_nil)) pe_non (nomark _)) (pw_or1 (pt_cmpR op_notN (pe_cd G__law_asked hr (pa_cons (pe_op op_catS (pv 5) pe_str) pa_nil)) pe_non (nomark _)))))
    (pss_one (ps_ret pe_bl))
    pss_nil))))))))))))))))
   (pss_one (ps_ret pe_bl))),?_⟩
 intro ns hns
 walk_at "st"
 walk_at "nm"
 refine s_seq ?_
 walk_at "nf"
 refine s_for (i_any ?_)
 walk_at "v"
 refine OpV.r (OpV.l (o_catF rfl rfl (szl (by rw [List.length_map]; show 1+ns.length≤1000; omega)) ?_))
 refine ⟨_,_,rfl,rfl,fun i ρ=>Le ρ [.u,.u,.u,.u,.u,.u,.u,.u,.u,.u,.u,.u,.u],trivial,?_,?_⟩
 rotate_left
 ·intro ρ hle
  refine s_le hle ?_
  walk_at "v"
  rfl
 intro i x ρ hx hle
 obtain ⟨cl,rfl⟩:∃ c:Int,x=.int c:=by
  have e : [D.int 0]++ns.map D.int=(0::ns).map D.int:=rfl
  rw [e] at hx
  obtain ⟨c,_,ec⟩:=List.mem_map.mp (List.mem_of_getElem? hx)
  exact ⟨c,ec.symm⟩
 refine g_leD hle ?_
 clear hx hle
 let S1:Sl:=.d (.int cl)
 refine g_name rfl ?_
 walk_at "st"
 walk_at "ps"
 walk_at "vc"
 refine ⟨cl,rfl,fun q=>⟨⟨_,rfl⟩,?_⟩⟩
 walk_at "st"
 refine g_name rfl ?_
 walk_at "st"
 walk_at "vc"
 refine ⟨q,9,rfl,by decide,by decide,fun n ts q1 W _=>⟨⟨_,rfl⟩,?_⟩⟩
 have W0:=W.pos
 have W1:=W.few
 have W2:=W.len
 have n10:n<10:=by omega
 have dt:=web_digs W
 walk_at "st"
 refine g_name rfl ?_
 walk_at "st"
 walk_at "vc"
 refine ⟨q1,n,ts,rfl,W,fun bs q1 hb B=>⟨⟨_,rfl⟩,?_⟩⟩
 obtain ⟨pw,pd⟩:=ptg_is W hb B
 have al:(arrsL ts bs).length=ts.length:=arr_two (n:=n) hb
 have ad:=arr_digs dt bs
 walk_at "st"
 refine g_name rfl ?_
 walk_at "st"
 generalize hus:arrsL ts bs=us at pw pd al ad
 have sm:=ptg_small (c:=62) n10 (us:=us) (by omega)
 have tl:=text_size (c:=62) n10 us
 let SW:Sl:=.d (webD n ts)
 let SP:Sl:=.d (.tup (intsD bs))
 let ST:Sl:=.d (.str (textS n 62 us))
 refine s_cut (fun ρ=>ρ=[.u,S1,.l (poolD q1),SW,SP,ST,.u,.u,.u,.u,.u,.u,.u]) ?_ ?_
 ·walk_at "v"
  refine v_call ?_
  walk_at "vc"
  refine ⟨n,ts,bs,rfl,W2,B,⟨⟨_,rfl⟩,?_⟩⟩
  rw [hus]
  walk_at "sv"
  refine ⟨of_decide_eq_true rfl,?_⟩
  walk_at "st"
  refine ⟨n,62,us,_,by rw [gt_is],.inr rfl,n10,by omega,ad,⟨⟨_,rfl⟩,?_⟩⟩
  walk_at "sv"
  rfl
 rintro ρ rfl
 refine s_cut (fun ρ=>ρ=[.u,S1,.l (poolD q1),SW,SP,ST,.u,.u,.u,.u,.u,.u,.u]) ?_ ?_
 ·refine s_if (t_or ?_)
  walk_at "vc"
  refine ⟨n,ts,bs,rfl,n10,W2,hus ▸ ad,by rw [hus]; omega,⟨⟨_,rfl⟩,?_⟩⟩
  rw [hus]
  walk_at "sv"
  refine OpV.l (o_neS rfl rfl rfl rfl rfl ?_)
  rw [decide_eq_true rfl]
  refine ⟨_,rfl,?_⟩
  refine ite_no ?_
  walk_at "vc"
  refine ⟨_,n,us,rfl,sm,pw,⟨⟨_,rfl⟩,?_⟩⟩
  rw [pd]
  walk_at "sv"
  refine o_neT_same rfl rfl (dep_is pd) ?_
  refine ⟨_,rfl,?_⟩
  refine ite_no ?_
  exact s_next rfl
 rintro ρ rfl
 refine s_cut (fun ρ=>∃(q:Int×Int×Int) (ws:List Str),ws.length≤5∧(∀ w∈ws,w.length≤1000)∧ρ=[.u,S1,.l (poolD q),SW,SP,ST,.l (ws.map D.str),.u,.u,.u,.u,.u,.u]) ?_ ?_
 ·walk_at "v"
  refine v_comp (i_r1 ?_)
  walk_at "v"
  refine ⟨4,⟨_,rfl,rfl⟩,by decide,by decide,known_of rfl,of_decide_eq_true rfl,fun i ys ρc=>∃ s q ws,ρc=[s,ST,.l (poolD q)]∧ys=ws.map D.str∧ws.length=i∧i≤4∧∀ w∈ws,w.length≤1000,⟨_,_,[],rfl,rfl,rfl,Nat.zero_le _,fun _ h=>nomatch h⟩,?_,?_,?_⟩
  ·rintro i ys ρc ⟨s,q,ws,rfl,rfl,hl,hi,_⟩
   refine ⟨small1000 ?_,rfl⟩
   rw [List.length_map]
   omega
  ·rintro i x ys ρc hx ⟨s,q,ws,rfl,rfl,hl,hi,hws⟩
   have hin:i<4:=by
    have:=(List.getElem?_eq_some_iff.mp hx).1
    rw [irng_len] at this
    exact this
   walk_at "v"
   rw [if_pos rfl]
   walk_at "call"
   refine ⟨_,q,rfl,by rw [tl]; omega,fun y q' hy=>⟨⟨_,rfl⟩,_,rfl,_,q',ws++[y],rfl,?_,?_,by omega,fun w hw=>?_⟩⟩
   ·rw [List.map_append]
    rfl
   ·rw [List.length_append,hl]
    rfl
   ·rcases List.mem_append.mp hw with h | h
    ·exact hws w h
    ·rw [List.mem_singleton.mp h]
     exact hy
  ·rintro ys ρc ⟨s,q,ws,rfl,rfl,hl,hi,hws⟩
   have hl4:ws.length=4:=hl
   walk_at "st"
   walk_at "vc"
   have sp:=text_split (n:=n) (c:=62) n10 (by decide) us
   refine ⟨q,_,rfl,by rw [tl]; omega,fun w hw=>?_,?_,fun y q' hy=>⟨⟨_,rfl⟩,?_⟩⟩
   ·rw [sp] at hw
    rcases List.mem_cons.mp hw with e | e
    ·rw [e,fig_len n10]
     decide
    ·obtain ⟨t,_,rfl⟩:=List.mem_map.mp e
     exact Nat.le_refl 3
   ·rw [sp]
    show (us.map (wordS 62)).length+1≤25
    rw [List.length_map]
    omega
   walk_at "sv"
   refine OpV.r (OpV.l (o_catL rfl rfl (szl (by rw [List.length_map]; show _+1≤1000; omega)) ?_))
   walk_at "v"
   refine ⟨q',ws++[y],by rw [List.length_append]; show _+1≤5; omega,fun w hw=>?_,?_⟩
   ·rcases List.mem_append.mp hw with h | h
    ·exact hws w h
    ·rw [List.mem_singleton.mp h]
     exact hy
   ·rw [List.map_append]
    rfl
 rintro ρ ⟨q2,ws,hw5,hws,rfl⟩
 refine s_cut (fun ρ=>∃ a:Sl,ρ=[.u,S1,.l (poolD q2),SW,SP,ST,.l (ws.map D.str),a,.u,.u,.u,.u,.u]) ?_ ?_
 ·refine s_for (i_any ?_)
  walk_at "v"
  refine v_call ?_
  walk_at "v"
  refine ⟨of_decide_eq_true rfl,?_⟩
  walk_at "st"
  refine ⟨n,45,ts,_,by rw [da_is],.inl rfl,n10,by omega,dt,⟨⟨_,rfl⟩,?_⟩⟩
  walk_at "sv"
  refine OpV.r (OpV.l (o_catL rfl rfl (szl (by rw [List.length_map]; show _+1≤1000; omega)) ?_))
  let vs:=ws++[textS n 45 ts]
  have hvs:∀ w∈vs,w.length≤1000:=fun w hw=>by
   rcases List.mem_append.mp hw with h | h
   ·exact hws w h
   ·rw [List.mem_singleton.mp h,text_size n10]
    omega
  rw [show ws.map D.str++[D.str (textS n 45 ts)]=vs.map D.str from by show _=(ws++[textS n 45 ts]).map D.str; rw [List.map_append]; rfl]
  refine ⟨_,_,rfl,rfl,fun _ ρ=>∃ a:Sl,ρ=[.u,S1,.l (poolD q2),SW,SP,ST,.l (ws.map D.str),a,.u,.u,.u,.u,.u],⟨_,rfl⟩,?_,?_⟩
  ·rintro i x ρ hx ⟨a,rfl⟩
   obtain ⟨z,hz,rfl⟩:=List.mem_map.mp (List.mem_of_getElem? hx)
   have zl:=hvs z hz
   have sz:small (.str z):=fun z' e=>by
    cases e
    exact zl
   refine g_name rfl ?_
   walk_at "st"
   refine s_if ?_
   walk_at "v"
   refine v_call ?_
   walk_at "v"
   refine ⟨of_decide_eq_true rfl,?_⟩
   walk_at "st"
   by_cases h:∃ n us,isWT (.str z) n us
   ·obtain ⟨n',us',h⟩:=h
    refine ⟨_,rfl,sz,.inl ⟨n',us',h,⟨⟨_,rfl⟩,?_⟩⟩⟩
    walk_at "sv"
    refine v_call ?_
    walk_at "v"
    refine ⟨of_decide_eq_true rfl,?_⟩
    walk_at "st"
    refine ⟨z,rfl,zl,.inl ⟨n',us',h,⟨⟨_,rfl⟩,?_⟩⟩⟩
    walk_at "st"
    refine o_neT_same rfl rfl (dep_ptg n' us') ?_
    refine ⟨_,rfl,?_⟩
    refine ite_no ?_
    exact s_next ⟨_,rfl⟩
   ·refine ⟨_,rfl,sz,.inr ⟨h,⟨⟨_,rfl⟩,?_⟩⟩⟩
    walk_at "sv"
    refine v_call ?_
    walk_at "v"
    refine ⟨of_decide_eq_true rfl,?_⟩
    walk_at "st"
    refine ⟨z,rfl,zl,.inr ⟨h,⟨⟨_,rfl⟩,?_⟩⟩⟩
    walk_at "st"
    refine OpV.l (o_neS rfl rfl rfl rfl rfl ?_)
    rw [decide_eq_true rfl]
    refine ⟨_,rfl,?_⟩
    refine ite_no ?_
    exact s_next ⟨_,rfl⟩
  ·rintro ρ ⟨a,rfl⟩
   exact ⟨_,rfl⟩
 rintro ρ ⟨a0,rfl⟩
 clear hws hw5
 generalize hb6:Sl.l (ws.map D.str)=b0
 refine s_cut (fun ρ=>∃(q:Int×Int×Int) (a b:Sl),ρ=[.u,S1,.l (poolD q),SW,SP,ST,b,a,.u,.u,.u,.u,.u]) ?_ ?_
 ·refine s_if ?_
  walk_at "v"
  refine v_call ?_
  walk_at "vc"
  refine ⟨q2,6,rfl,by decide,by decide,fun r q' r0 r1=>⟨⟨_,rfl⟩,?_⟩⟩
  walk_at "st"
  have pick:∃ d,atI [D.non,.int 7,.tup [webD n ts,.tup (intsD bs)],.lst [.str (textS n 62 us)],.bl true,.tup [.str (textS n 62 us)]] r=some d∧∀ z,d≠.str z:=by
   have:r=0∨r=1∨r=2∨r=3∨r=4∨r=5:=by omega
   rcases this with e | e | e | e | e | e <;> rw [e] <;> exact ⟨_,rfl,fun _ z=>D.noConfusion z⟩
  obtain ⟨d,ed,nd⟩:=pick
  refine o_ixLe rfl rfl ⟨d,ed,?_⟩
  walk_at "v"
  refine ⟨of_decide_eq_true rfl,?_⟩
  walk_at "st"
  refine ⟨d,rfl,fun z e=>absurd e (nd z),.inr ⟨fun ⟨_,_,_,z,e,_⟩=>nd z e,⟨⟨_,rfl⟩,?_⟩⟩⟩
  walk_at "sv"
  refine ite_no ?_
  exact s_next ⟨q',_,_,rfl⟩
 rintro ρ ⟨q4,a0,b0,rfl⟩
 refine s_cut (fun ρ=>∃(m:Nat) (q:Int×Int×Int),7≤m∧m≤9∧ρ=[.u,S1,.l (poolD q),SW,SP,ST,b0,a0,.d (.int m),.d (.lst ((pairsN m).map tieD)),.u,.u,.u]) ?_ ?_
 ·walk_at "v"
  walk_at "call"
  refine ⟨q4,rfl,fun m q5 m7 m9=>⟨⟨_,rfl⟩,?_⟩⟩
  walk_at "st"
  refine g_tup rfl rfl ?_
  walk_at "v"
  exact ⟨m,q5,m7,m9,rfl⟩
 rintro ρ ⟨m,q5,m7,m9,rfl⟩
 obtain ⟨cw,c20,c36⟩:=crowd_web m m7 m9
 have cd:=crowd_digs m7 m9
 have WC:=crowd_ok m7 m9
 have m10:m<10:=by omega
 have ct20:cutD ((pairsN m).map tieD) none (some 20)=((pairsN m).take 20).map tieD:=by
  rw [show (some (20:Int))=some ((20:Nat):Int) from rfl,cut_to,List.map_take]
 have l20:((pairsN m).take 20).length≤20:=by
  rw [List.length_take]
  omega
 have dg20:=digs_take cd 20
 generalize hcs:(pairsN m).take 20=cs at WC ct20 l20 dg20
 let SC:Sl:=.d (webD m cs)
 refine s_cut (fun ρ=>ρ=[.u,S1,.l (poolD q5),SW,SP,ST,b0,a0,.d (.int m),.d (.lst ((pairsN m).map tieD)),SC,.u,.u]) ?_ ?_
 ·walk_at "v"
  refine SlV.l (sl_L rfl ?_)
  rw [ct20]
  walk_at "v"
  rfl
 rintro ρ rfl
 refine s_cut (fun ρ=>∃(o:List Int) (q:Int×Int×Int),ρ=[.u,S1,.l (poolD q),SW,SP,ST,b0,a0,.d (.int m),.d (.lst ((pairsN m).map tieD)),SC,.d (.tup (intsD (byOrd cs o))),.u]) ?_ ?_
 ·walk_at "v"
  walk_at "call"
  refine ⟨q5,m,cs,rfl,WC,fun o q6 _=>⟨⟨_,rfl⟩,?_⟩⟩
  walk_at "sv"
  exact ⟨o,q6,rfl⟩
 rintro ρ ⟨o,q6,rfl⟩
 have kb:=byOrd_bits cs o
 have kl2:=byOrd_len cs o
 obtain ⟨cpw,cpd⟩:=ptg_is WC kl2 kb
 have cal:(arrsL cs (byOrd cs o)).length=cs.length:=arr_two (n:=m) kl2
 have cad:=arr_digs dg20 (byOrd cs o)
 generalize hvs:arrsL cs (byOrd cs o)=vs at cpw cpd cal cad
 generalize byOrd cs o=cb at hvs kb kl2 cpd
 let SB:Sl:=.d (.tup (intsD cb))
 refine s_cut (fun ρ=>ρ=[.u,S1,.l (poolD q6),SW,SP,ST,b0,a0,.d (.int m),.d (.lst ((pairsN m).map tieD)),SC,SB,.u]) ?_ ?_
 ·refine s_if ?_
  walk_at "v"
  refine v_call ?_
  walk_at "v"
  refine v_call ?_
  walk_at "vc"
  refine ⟨m,cs,cb,rfl,l20,kb,⟨⟨_,rfl⟩,?_⟩⟩
  rw [hvs]
  walk_at "sv"
  refine ⟨of_decide_eq_true rfl,?_⟩
  walk_at "st"
  refine ⟨m,62,vs,_,by rw [gt_is],.inr rfl,m10,by omega,cad,⟨⟨_,rfl⟩,?_⟩⟩
  walk_at "sv"
  refine ⟨of_decide_eq_true rfl,?_⟩
  walk_at "st"
  refine ⟨_,m,vs,rfl,ptg_small m10 (by omega),cpw,⟨⟨_,rfl⟩,?_⟩⟩
  rw [cpd]
  walk_at "sv"
  refine o_neT_same rfl rfl (dep_is cpd) ?_
  refine ⟨_,rfl,?_⟩
  refine ite_no ?_
  exact s_next rfl
 rintro ρ rfl
 refine s_cut (fun ρ=>∃(k:Nat) (q:Int×Int×Int),21≤k∧ρ=[.u,S1,.l (poolD q),SW,SP,ST,b0,a0,.d (.int m),.d (.lst ((pairsN m).map tieD)),SC,SB,.l (((pairsN m).take k).map tieD)]) ?_ ?_
 ·walk_at "v"
  walk_at "call"
  refine ⟨q6,16,rfl,by decide,by decide,fun r q' r0 r1=>⟨⟨_,rfl⟩,?_⟩⟩
  walk_at "sv"
  refine SlV.l (sl_L rfl ?_)
  obtain ⟨j,hj⟩:∃ j:Nat,(j:Int)=21+r:=⟨(21+r).toNat,by omega⟩
  rw [← hj,cut_to,← List.map_take]
  walk_at "v"
  exact ⟨j,q',by omega,rfl⟩
 rintro ρ ⟨k,q7,k21,rfl⟩
 refine s_if (t_or ?_)
 walk_at "v"
 have kl:((pairsN m).take k).length≤36∧20<((pairsN m).take k).length:=by
  rw [List.length_take]
  omega
 refine v_call ?_
 walk_at "v"
 refine v_call ?_
 walk_at "v"
 refine ⟨of_decide_eq_true rfl,?_⟩
 walk_at "st"
 refine ⟨m,62,(pairsN m).take k,_,by rw [gt_is],.inr rfl,m10,by omega,digs_take cd k,⟨⟨_,rfl⟩,?_⟩⟩
 walk_at "sv"
 refine ⟨of_decide_eq_true rfl,?_⟩
 walk_at "st"
 refine ⟨_,rfl,ptg_small m10 (by omega),.inr ⟨is_no m10 (digs_take cd k) (many_no (by rw [map_len]; exact kl.2)),⟨⟨_,rfl⟩,?_⟩⟩⟩
 walk_at "sv"
 refine ite_no ?_
 walk_at "v"
 refine v_call ?_
 walk_at "v"
 refine o_catS rfl rfl (by rw [tl]; exact Nat.le_trans (show _≤200 by show 1+4*us.length+1≤200; omega) (by decide)) ?_
 walk_at "v"
 refine ⟨of_decide_eq_true rfl,?_⟩
 walk_at "st"
 refine ⟨_,rfl,fun z e=>?_,.inr ⟨line_no _,⟨⟨_,rfl⟩,?_⟩⟩⟩
 ·cases e
  rw [Str.length_append,tl]
  show 1+4*us.length+1≤1000
  omega
 walk_at "sv"
 refine ite_no ?_
 exact s_next trivial
end
theorem us0 {P:List Value→Prop} (h:P []):∀ us:List Value,us.length=0→P us:=fun _ e=>(List.eq_nil_of_length_eq_zero e) ▸ h
theorem usS {k:Nat} {P:List Value→Prop} (h:∀(a:Value) (us:List Value),us.length=k→P (a::us)):∀ us:List Value,us.length=k+1→P us:=fun us e=>by
 cases us with
 | nil=>cases e
 | cons a us=>exact h a us (Nat.succ.inj e)
theorem us1 {P:List Value→Prop} (h:∀ a0,P [a0]):∀ us:List Value,us.length=1→P us:=usS (k:=0) (P:=fun us=>P (us)) fun a0=>us0 (P:=fun us=>P (a0::us)) (h a0)
theorem us2 {P:List Value→Prop} (h:∀ a0 a1,P [a0,a1]):∀ us:List Value,us.length=2→P us:=usS (k:=1) (P:=fun us=>P (us)) fun a0=>usS (k:=0) (P:=fun us=>P (a0::us)) fun a1=>us0 (P:=fun us=>P (a0::a1::us)) (h a0 a1)
theorem us3 {P:List Value→Prop} (h:∀ a0 a1 a2,P [a0,a1,a2]):∀ us:List Value,us.length=3→P us:=usS (k:=2) (P:=fun us=>P (us)) fun a0=>usS (k:=1) (P:=fun us=>P (a0::us)) fun a1=>usS (k:=0) (P:=fun us=>P (a0::a1::us)) fun a2=>us0 (P:=fun us=>P (a0::a1::a2::us)) (h a0 a1 a2)
def At (K:PySem.W.Frag) (x:Str) (st:Stmt) (f:Addr) (fd:FuncData):Prop:=PySem.W.nsIn K mainGlobals x=some (some (.ref f))∧Fun K x x st f fd
def Zs (K:PySem.W.Frag):List Str→Prop
 | []=>True
 | x::r=>PySem.W.nsIn K mainGlobals x=some none∧Zs K r
structure Car (P:Program) (w:World) (K:PySem.W.Frag) (mg:Str→Option Value) (base h:Heap):Prop where
 X:K.In h
 G:h.Ns mainGlobals mg
theorem At.h {P:Program} {w:World} {K:PySem.W.Frag} {h base:Heap} {mg:Str→Option Value} {x:Str} {st:Stmt} {f:Addr} {fd:FuncData} {k:Nat} {sp:Sp} {ps:List Str} (a:At K x st f fd) (Z:Car P w K mg base h) (F:FnOk P w K mg base CX0 k f fd ps sp) (b:∀(kV doc pm:Value) (an:Option Addr) (cdv ct:Value) (us:List Value),us.length=ps.length→bindArgs (PySem.W.fnOf x x (defArgs st) (defBody st) (defScope st) .none kV doc pm an cdv ct) ⟨us,[]⟩=pure (ps.zip us)):Has P w K mg base x st ps k sp:=⟨f,fd,⟨a.2,a.2.binds b,PySem.W.mg_of Z.X Z.G a.1⟩,F⟩
theorem At.he {P:Program} {w:World} {K:PySem.W.Frag} {h base:Heap} {mg:Str→Option Value} {x:Str} {st:Stmt} {f:Addr} {fd:FuncData} {k:Nat} {sp:Sp} {ps:List Str} (a:At K x st f fd) (Z:Car P w K mg base h) (F:FnOk P w K mg base (CXA P w) k f fd ps sp) (b:∀(kV doc pm:Value) (an:Option Addr) (cdv ct:Value) (us:List Value),us.length=ps.length→bindArgs (PySem.W.fnOf x x (defArgs st) (defBody st) (defScope st) .none kV doc pm an cdv ct) ⟨us,[]⟩=pure (ps.zip us)):HasE P w K mg base x st ps k sp:=⟨f,fd,⟨a.2,a.2.binds b,PySem.W.mg_of Z.X Z.G a.1⟩,F⟩
local macro_rules | `(tactic| walk_at "d")=>`(tactic| first | exact fun _ _ _ _ _ _=>us1 fun _=>rfl | exact fun _ _ _ _ _ _=>us2 fun _ _=>rfl | exact fun _ _ _ _ _ _=>us3 fun _ _ _=>rfl)
theorem all_mk {l:PySem.W.OpenLaw} {w:World} {K:PySem.W.Frag} {h:Heap} {mg:Str→Option Value} {fa f0 f1 f2 f3 f4 f5 f6 f7 f8 f9 f10 f11 f12 f13 f14 f15 f16 f17 f18 f19 f20 f21 f22 f23 f24 f25 f26 f27 f28 f29 f30:Addr} {e0 e1 e2 e3 e4 e5 e6 e7 e8 e9 e10 e11 e12 e13 e14 e15 e16 e17 e18 e19 e20 e21 e22 e23 e24 e25 e26 e27 e28 e29 e30:FuncData} (X:K.In h) (G:h.Ns mainGlobals mg) (hfa:mg "law" = some (.ref fa))
  {CT CR CN NA:Addr} {nmA qA:Str} {bsA bmA sbA:List Value} {hdA abA:Bool} {snA:List Str} {clA:Option Bool} {ddA:Option Addr} {kA0 kA1 kA2 kA3 kA5:Option Value} {cdA:ClassData}
  (x0:At K "is_whole" (top 7) f0 e0)
  (x1:At K "is_tie_form" (top 8) f1 e1)
  (x2:At K "is_web" (top 9) f2 e2)
  (x3:At K "tie_of" (top 10) f3 e3)
  (x4:At K "arrows" (top 12) f4 e4)
  (x5:At K "joined" (top 15) f5 e5)
  (x6:At K "pointing_text" (top 16) f6 e6)
  (x7:At K "read_figure" (top 17) f7 e7)
  (x8:At K "read_pair" (top 18) f8 e8)
  (x9:At K "read_pairs" (top 19) f9 e9)
  (x10:At K "asked_web" (top 20) f10 e10)
  (x11:At K "read_pointing" (top 21) f11 e11)
  (x12:At K "_law_pool" (top 23) f12 e12)
  (x13:At K "_law_next" (top 24) f13 e13)
  (x14:At K "_law_web" (top 25) f14 e14)
  (x15:At K "_law_order" (top 26) f15 e15)
  (x16:At K "_law_by_order" (top 27) f16 e16)
  (x17:At K "_law_fall" (top 28) f17 e17)
  (x18:At K "_law_arrows" (top 29) f18 e18)
  (x19:At K "_law_sound" (top 30) f19 e19)
  (x20:At K "_law_is_web" (top 31) f20 e20)
  (x21:At K "_law_pointing" (top 32) f21 e21)
  (x22:At K "_law_text" (top 33) f22 e22)
  (x23:At K "_law_sign" (top 34) f23 e23)
  (x24:At K "_law_bent_text" (top 35) f24 e24)
  (x25:At K "_law_pairs" (top 36) f25 e25)
  (x26:At K "_law_crowd" (top 37) f26 e26)
  (x27:At K "_law_read" (top 38) f27 e27)
  (x28:At K "_law_asked" (top 39) f28 e28)
  (x29:At K "_law_turned_words" (top 40) f29 e29)
  (x30:At K "law" (top 41) f30 e30)
  (z:Zs K ["min","max","tuple","range","len","zip","isinstance","int","bool","list","all","sorted","str","divmod","ValueError"])
  {tk_MOST_PLACES:Tok} (v_MOST_PLACES:PySem.W.nsIn K mainGlobals "MOST_PLACES" = some (some (.int 9 tk_MOST_PLACES)))
  {tk_MOST_TIES:Tok} (v_MOST_TIES:PySem.W.nsIn K mainGlobals "MOST_TIES" = some (some (.int 20 tk_MOST_TIES)))
  {tk_FIGURES:Tok} (v_FIGURES:PySem.W.nsIn K mainGlobals "FIGURES" = some (some (.str "0123456789" tk_FIGURES)))
  (n_CT:PySem.W.nsIn K mainGlobals "NoText" = some (some (.ref CT)))
  (n_CR:PySem.W.nsIn K mainGlobals "RillError" = some (some (.ref CR)))
  (n_CN:PySem.W.nsIn K mainGlobals "NoFall" = some (some (.ref CN)))
  (xl:K.lookup CT=some (excClassObj nmA qA CT NA bsA bmA hdA snA sbA abA clA ddA kA0 kA1 kA2 kA3 kA5 "ValueError.__new__"))
  (xn:PySem.W.nsOkIn K NA=true)
  (xi:PySem.W.nsIn K NA "__init__" = some none)
  (xt:PySem.W.tailIn K bmV bmA=true)
  (yc:PySem.W.clsIn K CT=some cdA)
  (yg:PySem.W.findIn K (.ref CT) "__getattribute__" = some (some (.builtin "BaseException.__getattribute__")))
  (yn:PySem.W.findIn K (.ref CT) "__getattr__" = some none)
  (yf:PySem.W.findIn K (.ref CT) "__class__" = some (some (.builtin "object.__class__")))
  (ys:PySem.W.specialIn K (.builtin "object.__class__") "__get__" = some (some (.builtin "getset_descriptor.__get__")))
  (yt:PySem.W.takesIn K (.builtin "object.__class__")=some true)
  (ym:PySem.W.mroIn K CT (.type "object")=some true)
  (yb:PySem.W.mroIn K CT (.type "BaseException")=some true)
  (eR:PySem.W.exmOne K (.ref CT) (.ref CR)=some true)
  (kT:PySem.W.kitOne K (.ref CT) (.ref CT)=some true)
  (kV:PySem.W.kitOne K (.ref CT) (.type "ValueError")=some true)
  (kN:PySem.W.kitOne K (.ref CT) (.ref CN)=some false) :
  ∃ fd:FuncData,(∀(s:Shared) (v:Value),BindsTo s fd ⟨[v],[]⟩ [("script",v)])∧∀ base:Heap,K.In base→base.Ns mainGlobals mg→FnOk l.prog w K mg base CX0 7 fa fd ["script"] (spLaw K):=by
 have e:=hfa.symm.trans (PySem.W.mg_of X G x30.1)
 cases e
 have m:∀{x:Str},PySem.W.nsIn K mainGlobals x=some none→mg x=none:=fun z=>PySem.W.mg_none_of X G z
 obtain ⟨z0,z1,z2,z3,z4,z5,z6,z7,z8,z9,z10,z11,z12,z13,z14,_⟩:=z
 have T:Txt mg:=⟨m z0,m z1,m z2,m z3,m z4,m z5,m z6,m z7,m z8,m z9,m z10,m z11,m z12,m z13,m z14,⟨_,PySem.W.mg_of X G v_MOST_PLACES⟩,⟨_,PySem.W.mg_of X G v_MOST_TIES⟩,⟨_,PySem.W.mg_of X G v_FIGURES⟩⟩
 have x:Exs K mg CT CR CN:=⟨⟨_,_,_,_,_,_,_,_,_,_,_,_,_,_,_,_,xl,xn,xi,xt⟩,⟨⟨_,yc⟩,yg,yn,yf,ys,yt,ym,yb⟩,PySem.W.mg_of X G n_CT,PySem.W.mg_of X G n_CR,PySem.W.mg_of X G n_CN,eR,kT,kV,kN⟩
 refine ⟨e30,fun s v=>?b,fun base _ _=>?_⟩
 case b=>
  obtain ⟨_,_,_,_,_,_,_,_,_,rfl,_,_⟩:=x30.2.ex
  exact .of_eq rfl
 have Z:Car l.prog w K mg base h:=⟨X,G⟩
 have G__law_pool:=x12.h Z (ok__law_pool x12.2 T) (by walk_at "d")
 have G__law_next:=x13.h Z (ok__law_next x13.2 T) (by walk_at "d")
 have G__law_web:=x14.h Z (ok__law_web x14.2 T G__law_next) (by walk_at "d")
 have G__law_order:=x15.h Z (ok__law_order x15.2 T G__law_next) (by walk_at "d")
 have G__law_by_order:=x16.h Z (ok__law_by_order x16.2 T) (by walk_at "d")
 have G__law_fall:=x17.h Z (ok__law_fall x17.2 T G__law_order G__law_by_order) (by walk_at "d")
 have G__law_pointing:=x21.h Z (ok__law_pointing x21.2 T G__law_next G__law_fall) (by walk_at "d")
 have G__law_text:=x22.h Z (ok__law_text x22.2 T) (by walk_at "d")
 have G_joined:=x5.h Z (ok_joined x5.2 T) (by walk_at "d")
 have G_arrows:=x4.h Z (ok_arrows x4.2 T) (by walk_at "d")
 have G_pointing_text:=x6.h Z (ok_pointing_text x6.2 T G_joined G_arrows) (by walk_at "d")
 have G_read_figure:=x7.he Z (okE_read_figure x7.2 T x) (by walk_at "d")
 have G_read_pair:=x8.he Z (okE_read_pair x8.2 T x G_read_figure) (by walk_at "d")
 have G_read_pairs:=x9.he Z (okE_read_pairs x9.2 T x G_read_figure G_read_pair) (by walk_at "d")
 have G_is_whole:=x0.h Z (ok_is_whole x0.2 T) (by walk_at "d")
 have G_is_tie_form:=x1.h Z (ok_is_tie_form x1.2 T G_is_whole) (by walk_at "d")
 have G_is_web:=x2.h Z (ok_is_web x2.2 T G_is_whole G_is_tie_form) (by walk_at "d")
 have G_asked_web:=x10.he Z (okE_asked_web x10.2 T x G_is_web) (by walk_at "d")
 have G_tie_of:=x3.h Z (ok_tie_of x3.2 T) (by walk_at "d")
 have G_read_pointing:=x11.he Z (okE_read_pointing x11.2 T x G_read_pairs G_asked_web G_tie_of) (by walk_at "d")
 have G__law_sign:=x23.h Z (ok__law_sign x23.2 T G__law_next) (by walk_at "d")
 have G__law_bent_text:=x24.h Z (ok__law_bent_text x24.2 T G__law_next G__law_sign) (by walk_at "d")
 have G__law_turned_words:=x29.h Z (ok__law_turned_words x29.2 T G__law_next) (by walk_at "d")
 have G__law_arrows:=x18.h Z (ok__law_arrows x18.2 T) (by walk_at "d")
 have G__law_asked:=x28.h Z (ok__law_asked x28.2 T x G_read_pointing) (by walk_at "d")
 have G__law_pairs:=x25.h Z (ok__law_pairs x25.2 T) (by walk_at "d")
 have G__law_sound:=x19.h Z (ok__law_sound x19.2 T) (by walk_at "d")
 have G__law_is_web:=x20.h Z (ok__law_is_web x20.2 T G__law_sound) (by walk_at "d")
 have G__law_read:=x27.h Z (ok__law_read x27.2 T G__law_pairs G__law_is_web) (by walk_at "d")
 have G__law_crowd:=x26.h Z (ok__law_crowd x26.2 T G__law_next) (by walk_at "d")
 exact ok_law x30.2 T G__law_pool G__law_web G__law_pointing G__law_text G_pointing_text G_read_pointing G__law_bent_text G__law_turned_words G__law_arrows G__law_fall G__law_asked G__law_read G__law_next G__law_crowd
theorem walk {l:PySem.W.OpenLaw} {q:Program} {loose:List Str} {XP:(Str→Option Value)→Heap→Prop} {YP:World→Heap→Prop} {d:DefRec} {K:Params→PySem.W.Frag} (hn:l.most=some 63) (hdf:d.params.defaults=[])
  (hY:∀(w:World) (h:Heap),YP w h→(K w.params).In h)
  (F:∀(w:World) (mg:Str→Option Value) (fa:Addr) (h:Heap),(K w.params).In h→h.Ns mainGlobals mg→mg d.name=some (.ref fa)→
   ∃ fd:FuncData,(∀(s:Shared) (u:Value),BindsTo s fd ⟨[u],[]⟩ [("script",u)])∧∀ base:Heap,(K w.params).In base→base.Ns mainGlobals mg→FnOk l.prog w (K w.params) mg base CX0 7 fa fd ["script"] (spLaw (K w.params))) :
  PySem.W.WalkO q loose XP YP l.row.toRowW d [] (fun f vs=>PySem.call f vs):=
 L2.walk_of (n:=63) (k:=7) (x:="script") (CX:=fun _=>CX0) (sp:=fun w=>spLaw (K w.params)) hn (by decide) hdf ⟨rfl,by decide,by decide⟩ hY F (fun _ _ a ns hl _ hS=>⟨a,ns,rfl,hS,hl,fun _=>rfl⟩) fun _ _ _ _ _ z=>z
def pwo:Program:={ main:={ body:=[top 0,top 1,top 2,top 3,top 4,top 5,top 6,top 7,top 8,top 9,top 10,top 11,top 12,top 13,top 14,top 15,top 16,top 17,top 18,top 19,top 20,top 21,top 22,top 23,top 24,top 25,top 26,top 27,top 28,top 29,top 30,top 31,top 32,top 33,top 34,top 35,top 36,top 37,top 38,top 39,top 40,top 41],scope:=PySem.Challenge.pw_rillturn_k60_pointings_written.main.scope,futureAnnotations:=false,file:="/claim/cut.py",more:=[] },modules:=[],parses:=[],absent:=[],harvested:=[],given:={ argv:=[],stdin:=[],environ:=(some [([76,67,95,65,76,76],[67,46,85,84,70,45,56])]) } }
def rwo:PySem.W.OpenLaw:={ PySem.Challenge.rw_rillturn_k60_pointings_written with prog:=pwo }
def kEnt (P:Params) (n:Str) (t:Nat) (v:Value):DictEntry:=⟨PyData.keyHash P n,.str n t,v⟩
def kName (s:Stmt):Str:=match s with
 | .FunctionDef n _ _ _ _ _ _ _ _ _=>n
 | _=>""
def kCode (n:Str) (t:Nat) (l a b:Int) (c:Nat) (x y:Value) (z:Nat) (u:Int) (u':Nat):Obj:={ cls:=.type "code",data:=.fields #[.str n t,.str n (t+1),.str "/claim/cut.py" (t+2),.int l 0,.int a 0,.int 0 0,.int 0 0,.int b 0,.ref c,.bool true,.int 181 0,.ref (c+1),.none,x,y,.ref z,.int u 0,.int l 0,.str "/claim/cut.py" u'] }
def kFun (i:Nat) (m:Str) (mt c:Nat):Obj:={ cls:=.type "function",data:=.func (PySem.W.fnOf (kName (top i)) (kName (top i)) (defArgs (top i)) (defBody (top i)) (defScope (top i)) .none .none .none (.str m mt) none (.ref c) .none) }
def kE0 (P:Params):List DictEntry:=[kEnt P "__name__" 165 (.str "law_rillturn_k60_pointings_written" 338),kEnt P "__doc__" 166 .none,kEnt P "__package__" 167 .none,kEnt P "__loader__" 168 (.builtin "__main__.__loader__#opaque"),kEnt P "__spec__" 169 .none,kEnt P "__annotations__" 170 (.ref 6),kEnt P "__builtins__" 171 (.ref 4),kEnt P "__file__" 173 (.str "/claim/cut.py" 172)]
def kE1 (P:Params):List DictEntry:=[kEnt P "__cached__" 174 .none,kEnt P "RillError" 206 (.ref 24),kEnt P "NoText" 222 (.ref 37),kEnt P "NoFall" 238 (.ref 49),kEnt P "MOST_PLACES" 242 (.int 9 241),kEnt P "MOST_TIES" 244 (.int 20 243),kEnt P "is_whole" 251 (.ref 58),kEnt P "is_tie_form" 261 (.ref 65)]
def kE2 (P:Params):List DictEntry:=[kEnt P "is_web" 267 (.ref 70),kEnt P "tie_of" 275 (.ref 77),kEnt P "arrows" 283 (.ref 82),kEnt P "FIGURES" 287 (.str "0123456789" 286),kEnt P "joined" 293 (.ref 87),kEnt P "pointing_text" 301 (.ref 94),kEnt P "read_figure" 308 (.ref 101),kEnt P "read_pair" 316 (.ref 108)]
def kE3 (P:Params):List DictEntry:=[kEnt P "read_pairs" 322 (.ref 113),kEnt P "asked_web" 331 (.ref 120),kEnt P "read_pointing" 337 (.ref 125),kEnt P "_law_pool" 346 (.ref 132),kEnt P "_law_next" 357 (.ref 139),kEnt P "_law_web" 363 (.ref 144),kEnt P "_law_order" 373 (.ref 151),kEnt P "_law_by_order" 379 (.ref 156)]
def kE4 (P:Params):List DictEntry:=[kEnt P "_law_fall" 387 (.ref 163),kEnt P "_law_arrows" 393 (.ref 168),kEnt P "_law_sound" 400 (.ref 175),kEnt P "_law_is_web" 409 (.ref 182),kEnt P "_law_pointing" 415 (.ref 187),kEnt P "_law_text" 427 (.ref 194),kEnt P "_law_sign" 435 (.ref 201),kEnt P "_law_bent_text" 445 (.ref 208)]
def kE5 (P:Params):List DictEntry:=[kEnt P "_law_pairs" 456 (.ref 215),kEnt P "_law_crowd" 462 (.ref 220),kEnt P "_law_read" 468 (.ref 225),kEnt P "_law_asked" 477 (.ref 232),kEnt P "_law_turned_words" 489 (.ref 239),kEnt P "law" 495 (.ref 244)]
def kAll (P:Params):List DictEntry:=kE0 P++kE1 P++kE2 P++kE3 P++kE4 P++kE5 P
def kGlob (P:Params):Obj:={ cls:=.type "dict",data:=.dict ⟨kAll P⟩ 46 }
def kC15 (P:Params):Obj:={ cls:=.type "tuple",data:=.seq #[.type "ValueError"] }
def kC22 (P:Params):Obj:={ cls:=.type "tuple",data:=.seq #[] }
def kC23 (P:Params):Obj:={ cls:=.type "dict",data:=.dict #[kEnt P "__module__" 196 (.str "rillturn.errors" 187),kEnt P "__firstlineno__" 200 (.int 2 199),kEnt P "__static_attributes__" 201 (.ref 22),kEnt P "__weakref__" 203 (.ref 25),kEnt P "__doc__" 204 (.none)] 3 }
def kC24 (P:Params):Obj:={ cls:=.type "type",data:=.cls { name:="RillError",bases:=[.type "ValueError"],mro:=[.ref 24,.type "ValueError",.type "Exception",.type "BaseException",.type "object"],ns:=23,qualname:="RillError",subclasses:=[.ref 37,.ref 49] },slots:=#[some (.ref 15),none,some (.str "RillError" 189),some (.str "RillError" 197),some (.builtin "ValueError.__new__"),some (.bool true)] }
def kC25 (P:Params):Obj:={ cls:=.type "getset_descriptor",data:=.fields #[.str "__weakref__" 202,.ref 24,.builtin "ExceptionGroup.__weakref__",.none] }
def kC28 (P:Params):Obj:={ cls:=.type "tuple",data:=.seq #[.ref 24] }
def kC35 (P:Params):Obj:={ cls:=.type "tuple",data:=.seq #[] }
def kC36 (P:Params):Obj:={ cls:=.type "dict",data:=.dict #[kEnt P "__module__" 214 (.str "rillturn.errors" 187),kEnt P "__firstlineno__" 218 (.int 4 217),kEnt P "__static_attributes__" 219 (.ref 35),kEnt P "__doc__" 220 (.none)] 2 }
def kC37 (P:Params):Obj:={ cls:=.type "type",data:=.cls { name:="NoText",bases:=[.ref 24],mro:=[.ref 37,.ref 24,.type "ValueError",.type "Exception",.type "BaseException",.type "object"],ns:=36,qualname:="NoText" },slots:=#[some (.ref 28),none,some (.str "NoText" 207),some (.str "NoText" 215),some (.builtin "ValueError.__new__"),some (.bool true)] }
def kC40 (P:Params):Obj:={ cls:=.type "tuple",data:=.seq #[.ref 24] }
def kC47 (P:Params):Obj:={ cls:=.type "tuple",data:=.seq #[] }
def kC48 (P:Params):Obj:={ cls:=.type "dict",data:=.dict #[kEnt P "__module__" 230 (.str "rillturn.errors" 187),kEnt P "__firstlineno__" 234 (.int 6 233),kEnt P "__static_attributes__" 235 (.ref 47),kEnt P "__doc__" 236 (.none)] 2 }
def kC49 (P:Params):Obj:={ cls:=.type "type",data:=.cls { name:="NoFall",bases:=[.ref 24],mro:=[.ref 49,.ref 24,.type "ValueError",.type "Exception",.type "BaseException",.type "object"],ns:=48,qualname:="NoFall" },slots:=#[some (.ref 40),none,some (.str "NoFall" 223),some (.str "NoFall" 231),some (.builtin "ValueError.__new__"),some (.bool true)] }
def KF:Params→PySem.W.Frag:=fun P=>(nat_lit 3,kGlob P)::(nat_lit 15,kC15 P)::(nat_lit 22,kC22 P)::(nat_lit 23,kC23 P)::(nat_lit 24,kC24 P)::(nat_lit 25,kC25 P)::(nat_lit 28,kC28 P)::(nat_lit 35,kC35 P)::(nat_lit 36,kC36 P)::(nat_lit 37,kC37 P)::(nat_lit 40,kC40 P)::(nat_lit 47,kC47 P)::(nat_lit 48,kC48 P)::(nat_lit 49,kC49 P)::(nat_lit 57,kCode (kName (top 7)) 245 11 1 3 52 (.ref 54) (.ref 55) 56 249 250)::(nat_lit 58,kFun 7 "rillturn.webs" 239 57)::(nat_lit 64,kCode (kName (top 8)) 252 13 2 3 59 (.ref 61) (.ref 62) 63 259 260)::(nat_lit 65,kFun 8 "rillturn.webs" 239 64)::(nat_lit 69,kCode (kName (top 9)) 262 18 1 3 66 .none .none 68 265 266)::(nat_lit 70,kFun 9 "rillturn.webs" 239 69)::(nat_lit 76,kCode (kName (top 10)) 268 29 2 3 71 (.ref 73) (.ref 74) 75 273 274)::(nat_lit 77,kFun 10 "rillturn.webs" 239 76)::(nat_lit 81,kCode (kName (top 12)) 278 32 2 3 78 .none .none 80 281 282)::(nat_lit 82,kFun 12 "rillturn.pointings" 276 81)::(nat_lit 86,kCode (kName (top 15)) 288 36 3 3 83 .none .none 85 291 292)::(nat_lit 87,kFun 15 "rillturn.texts" 284 86)::(nat_lit 93,kCode (kName (top 16)) 294 38 2 3 88 (.ref 90) (.ref 91) 92 299 300)::(nat_lit 94,kFun 16 "rillturn.texts" 284 93)::(nat_lit 100,kCode (kName (top 17)) 302 40 1 3 95 (.ref 97) (.ref 98) 99 306 307)::(nat_lit 101,kFun 17 "rillturn.texts" 284 100)::(nat_lit 107,kCode (kName (top 18)) 309 44 2 3 102 (.ref 104) (.ref 105) 106 314 315)::(nat_lit 108,kFun 18 "rillturn.texts" 284 107)::(nat_lit 112,kCode (kName (top 19)) 317 48 2 3 109 .none .none 111 320 321)::(nat_lit 113,kFun 19 "rillturn.texts" 284 112)::(nat_lit 119,kCode (kName (top 20)) 323 53 2 3 114 (.ref 116) (.ref 117) 118 329 330)::(nat_lit 120,kFun 20 "rillturn.texts" 284 119)::(nat_lit 124,kCode (kName (top 21)) 332 58 1 3 121 .none .none 123 335 336)::(nat_lit 125,kFun 21 "rillturn.texts" 284 124)::(nat_lit 131,kCode (kName (top 23)) 340 63 1 3 126 (.ref 128) (.ref 129) 130 344 345)::(nat_lit 132,kFun 23 "law_rillturn_k60_pointings_written" 338 131)::(nat_lit 138,kCode (kName (top 24)) 347 65 2 3 133 (.ref 135) (.ref 136) 137 355 356)::(nat_lit 139,kFun 24 "law_rillturn_k60_pointings_written" 338 138)::(nat_lit 143,kCode (kName (top 25)) 358 74 2 3 140 .none .none 142 361 362)::(nat_lit 144,kFun 25 "law_rillturn_k60_pointings_written" 338 143)::(nat_lit 150,kCode (kName (top 26)) 364 89 2 3 145 (.ref 147) (.ref 148) 149 371 372)::(nat_lit 151,kFun 26 "law_rillturn_k60_pointings_written" 338 150)::(nat_lit 155,kCode (kName (top 27)) 374 94 2 3 152 .none .none 154 377 378)::(nat_lit 156,kFun 27 "law_rillturn_k60_pointings_written" 338 155)::(nat_lit 162,kCode (kName (top 28)) 380 96 2 3 157 (.ref 159) (.ref 160) 161 385 386)::(nat_lit 163,kFun 28 "law_rillturn_k60_pointings_written" 338 162)::(nat_lit 167,kCode (kName (top 29)) 388 98 2 3 164 .none .none 166 391 392)::(nat_lit 168,kFun 29 "law_rillturn_k60_pointings_written" 338 167)::(nat_lit 174,kCode (kName (top 30)) 394 100 1 3 169 (.ref 171) (.ref 172) 173 398 399)::(nat_lit 175,kFun 30 "law_rillturn_k60_pointings_written" 338 174)::(nat_lit 181,kCode (kName (top 31)) 401 102 1 3 176 (.ref 178) (.ref 179) 180 407 408)::(nat_lit 182,kFun 31 "law_rillturn_k60_pointings_written" 338 181)::(nat_lit 186,kCode (kName (top 32)) 410 115 2 3 183 .none .none 185 413 414)::(nat_lit 187,kFun 32 "law_rillturn_k60_pointings_written" 338 186)::(nat_lit 193,kCode (kName (top 33)) 416 124 3 3 188 (.ref 190) (.ref 191) 192 425 426)::(nat_lit 194,kFun 33 "law_rillturn_k60_pointings_written" 338 193)::(nat_lit 200,kCode (kName (top 34)) 428 129 1 3 195 (.ref 197) (.ref 198) 199 433 434)::(nat_lit 201,kFun 34 "law_rillturn_k60_pointings_written" 338 200)::(nat_lit 207,kCode (kName (top 35)) 436 134 2 3 202 (.ref 204) (.ref 205) 206 443 444)::(nat_lit 208,kFun 35 "law_rillturn_k60_pointings_written" 338 207)::(nat_lit 214,kCode (kName (top 36)) 446 139 2 3 209 (.ref 211) (.ref 212) 213 454 455)::(nat_lit 215,kFun 36 "law_rillturn_k60_pointings_written" 338 214)::(nat_lit 219,kCode (kName (top 37)) 457 149 1 3 216 .none .none 218 460 461)::(nat_lit 220,kFun 37 "law_rillturn_k60_pointings_written" 338 219)::(nat_lit 224,kCode (kName (top 38)) 463 153 1 3 221 .none .none 223 466 467)::(nat_lit 225,kFun 38 "law_rillturn_k60_pointings_written" 338 224)::(nat_lit 231,kCode (kName (top 39)) 469 161 1 3 226 (.ref 228) (.ref 229) 230 475 476)::(nat_lit 232,kFun 39 "law_rillturn_k60_pointings_written" 338 231)::(nat_lit 238,kCode (kName (top 40)) 478 169 2 3 233 (.ref 235) (.ref 236) 237 487 488)::(nat_lit 239,kFun 40 "law_rillturn_k60_pointings_written" 338 238)::(nat_lit 243,kCode (kName (top 41)) 490 180 1 3 240 .none .none 242 493 494)::(nat_lit 244,kFun 41 "law_rillturn_k60_pointings_written" 338 243)::[]
def kAt:List Addr:=[3,15,22,23,24,25,28,35,36,37,40,47,48,49,57,58,64,65,69,70,76,77,81,82,86,87,93,94,100,101,107,108,112,113,119,120,124,125,131,132,138,139,143,144,150,151,155,156,162,163,167,168,174,175,181,182,186,187,193,194,200,201,207,208,214,215,219,220,224,225,231,232,238,239,243,244]
end K60
open PySem PySem.W PyProof.Rows
set_option maxRecDepth 100000 in
set_option maxHeartbeats 0 in
theorem K60.oh:K60.rwo.Holds:=by
 w_on; refine PySem.W.holds_law (by decide +kernel) fun said=>?_; o_head (PySem.W.kHook K60.KF K60.kAt (fun _=>by kernel_rfl)); (case hw=>w_witness2)
 k_fill
 refine K60.walk (l:=K60.rwo) rfl rfl (fun w h Y=>PySem.W.kIn_of Y) ?F
 case F=>
  intro w mg fa h KX G hmg
  refine' K60.all_mk KX G hmg ?x0 ?x1 ?x2 ?x3 ?x4 ?x5 ?x6 ?x7 ?x8 ?x9 ?x10 ?x11 ?x12 ?x13 ?x14 ?x15 ?x16 ?x17 ?x18 ?x19 ?x20 ?x21 ?x22 ?x23 ?x24 ?x25 ?x26 ?x27 ?x28 ?x29 ?x30 ?z ?v_MOST_PLACES ?v_MOST_TIES ?v_FIGURES ?n_CT ?n_CR ?n_CN ?xl ?xn ?xi ?xt ?yc ?yg ?yn ?yf ?ys ?yt ?ym ?yb ?eR ?kT ?kV ?kN
  case x0 | x1 | x2 | x3 | x4 | x5 | x6 | x7 | x8 | x9 | x10 | x11 | x12 | x13 | x14 | x15 | x16 | x17 | x18 | x19 | x20 | x21 | x22 | x23 | x24 | x25 | x26 | x27 | x28 | x29 | x30=>exact ⟨by k_is,L2.fun_mk (by k_is) (by k_is) (by k_is)⟩
  case z=>repeat' (first | exact trivial | refine ⟨by k_is,?_⟩)
  case v_MOST_PLACES | v_MOST_TIES | v_FIGURES=>k_is
  (case n_CT=>k_is)
  (case n_CR=>k_is)
  (case n_CN=>k_is)
  (case xl=>k_is)
  (case xn=>kernel_rfl)
  (case xi=>k_is)
  (case xt=>kernel_rfl)
  (case yc=>k_is)
  (case yg=>k_is)
  (case yn=>k_is)
  (case yf=>k_is)
  (case ys=>k_is)
  (case yt=>k_is)
  (case ym=>k_is)
  (case yb=>k_is)
  (case eR=>kts_exm)
  (case kT=>kit_is)
  (case kV=>kit_is)
  (case kN=>kit_is)
theorem PySem.Challenge.cw_rillturn_k60_pointings_written_holds : PySem.Challenge.rw_rillturn_k60_pointings_written.Holds :=
 K60.oh
