import PyProof.Rows.All
import Wide.All
import OpenK.AllK
import Wide.FinOn
import Lean
import KE.KNestM
import PyProof.EqAt
import PyProof.EqKinds
import PyProof.TupleCall
import PyProof.EnumMake
import PyProof.Draws
import KE.KDictList
import KE.KTryMore
import KE.KEqDict
import PyProof.ExcInit
import PyProof.InstStoreFacts
import KE.KSortTup
import PySem.Challenge.RW_fallcounts_k55_whole_boxes
set_option Elab.async false
set_option linter.all false
set_option maxRecDepth 100000
set_option maxHeartbeats 8000000
namespace L2.FE
open PySem PySem.W PySem.Calls
noncomputable def EV:List Obj->BT->Nat->Option BT
 | [],t,_=>some t
 | o::r,t,n=>match ((t.ins n o).get n).isSome with
  | true=>EV r (t.ins n o) (n+1)
  | false=>none
theorem uT {life:Life}:∀{r:List Obj} {t T:BT} {n:Nat} {a:Array Obj},EV r t n=some T->absHeap t n life=⟨a,life⟩->absHeap T (n+r.length) life=⟨a++r.toArray,life⟩
 | [],t,T,n,a,h,e=>by cases h;simpa using e
 | o::r,t,T,n,a,h,e=>by
  unfold EV at h
  cases g:((t.ins n o).get n).isSome with
  | false=>rw[g] at h;cases h
  | true=>
   rw[g] at h
   have x:absHeap (t.ins n o) (n+1) life=⟨a.push o,life⟩:=by rw[absHeap_ins g,e];rfl
   have:=uT h x
   rw[List.length_cons,show n+(r.length+1)=n+1+r.length by omega,this]
   simp
noncomputable def yM (p:Program) (w:World) (n₀:Nat) (ann:Option Value):Nat->SharedT->Thread->Option SharedT
 | 0,_,_=>none
 | n+1,s,t=>match through t with
  | true=>some s
  | false=>match PySem.W.Fast.tw6613529449190102663 n₀ ann t with
   | false=>none
   | true=>match PySem.W.Fast.tw10156331382660048174 (PySem.W.Fast.tw11892475500146522536 PySem.W.Fast.tw14364793385576792824) p w s t with
    | some (s',t')=>yM p w n₀ ann n s' t'
    | none=>none
theorem uI {p:Program} {w:World} {n₀:Nat} {ann:Option Value}:∀{n:Nat} {s r:SharedT} {t:Thread},yM p w n₀ ann n s t=some r->topRun treeTable p w n₀ ann n s.abs t=some r.abs
 | 0,_,_,_,h=>by cases h
 | n+1,s,r,t,h=>by
  unfold yM at h
  unfold topRun
  cases ht:through t with
  | true=>rw[ht] at h;cases h;rfl
  | false=>
   rw[ht,<- PySem.W.Fast.te6613529449190102663] at h
   cases hk:stepOk n₀ ann t with
   | false=>simp only[hk] at h;cases h
   | true=>
    simp only[hk] at h
    rw[<- PySem.W.Fast.te10156331382660048174,<- PySem.W.Fast.te11892475500146522536,<- PySem.W.Fast.te14364793385576792824] at h
    cases hs:stepT (denote treeTable) p w s t with
    | none=>rw[hs] at h;cases h
    | some x=>obtain⟨s₂,t₂⟩:=x;rw[hs] at h;rw[stepT_spec hs];exact uI h
noncomputable def qO (p:Program) (w:World) (N:Nat) (os:OsState):Option SharedT:=
 match (boot_heap w.params).isNs mainGlobals with
 | true=>(EV (boot_heap w.params).objs.toList .nil 0).bind fun T=>yM p w (boot_heap w.params).objs.size ((boot_heap w.params).nsMap mainGlobals (Str.ofString "__annotations__")) N ⟨T,(boot_heap w.params).objs.size,(boot_heap w.params).life,#[],boot_drawn,boot_toks,os⟩ (topStub p)
 | false=>none
noncomputable def CW (p:Program) (w:World) (s₁:Shared):Bool:=staticsOk (PySem.W.Fast.tw5923862056798008813 p.main.body) (boot_heap w.params) s₁.heap&&namesBound p s₁.heap&&gensDone s₁&&laidKept (boot_heap w.params) s₁.heap
theorem zA {p q:Program} {loose:List Str} {Xt:Shared->Bool} {α:Type} {Yf:Shared->α} {Ya:World->α} {N:Nat} (hN:Nat.ble 600 N=true) (e:opening p=plainProg p.main.scope.names) (f:∀s,fenceModules? p s=some s)
  (h1:∀(w:World) (os:OsState),(qO p w N os).map (fun s=>CW p w s.abs)=some true)
  (h2:∀(w:World) (os:OsState),(qO p w N os).map (fun s=>PySem.W.Fast.tw4187177175401517315 q loose (PySem.W.Fast.tw5923862056798008813 p.main.body) Xt true s.abs)=some (openGood q loose))
  (h3:∀(w:World) (os:OsState),(qO p w N os).map (fun s=>Yf s.abs)=some (Ya w)):LeftO p q loose Xt Yf Ya N:=fun w=>by
 obtain⟨s,hs,e'⟩:=Option.map_eq_some_iff.mp (boot_open e hN f w)
 obtain⟨H,gs,d,k,os⟩:=s
 obtain⟨rfl,rfl,rfl,rfl⟩:H=boot_heap w.params/\gs=_/\d=boot_drawn/\k=boot_toks:=by simpa using e'
 obtain⟨r,hr,l1⟩:=Option.map_eq_some_iff.mp (h1 w os)
 obtain⟨r2,hr2,l2⟩:=Option.map_eq_some_iff.mp (h2 w os)
 obtain⟨r3,hr3,l3⟩:=Option.map_eq_some_iff.mp (h3 w os)
 obtain rfl:r=r2:=Option.some.inj (hr.symm.trans hr2)
 obtain rfl:r=r3:=Option.some.inj (hr.symm.trans hr3)
 unfold CW at l1
 rw[<- PySem.W.Fast.te5923862056798008813] at l1
 rw[<- PySem.W.Fast.te4187177175401517315,<- PySem.W.Fast.te5923862056798008813] at l2
 unfold qO at hr
 cases hn:(boot_heap w.params).isNs mainGlobals with
 | false=>rw[hn] at hr;cases hr
 | true=>
  rw[hn] at hr
  obtain⟨T,hT,hr⟩:=Option.bind_eq_some_iff.mp hr
  have z:=uT (life:=(boot_heap w.params).life) (n:=0) (a:=#[]) hT rfl
  have z':absHeap T (boot_heap w.params).objs.size (boot_heap w.params).life=boot_heap w.params:=by
   rw[Nat.zero_add,Array.length_toList] at z
   rw[z]
   simp
  have hr:=uI hr
  have st:(SharedT.mk T (boot_heap w.params).objs.size (boot_heap w.params).life #[] boot_drawn boot_toks os).abs=⟨boot_heap w.params,#[],boot_drawn,boot_toks,os⟩:=by
   show Shared.mk _ _ _ _ _=_
   rw[z']
  rw[st] at hr
  unfold openEnds
  rw[hs]
  show Option.map _ (topFrom treeTable p w N _)=_
  have t:topFrom treeTable p w N ⟨boot_heap w.params,#[],boot_drawn,boot_toks,os⟩=some r.abs:=by
   unfold topFrom
   dsimp only
   rw[hn]
   rw[hr]
   show(match staticsOk (importedModules p.main.body) (boot_heap w.params) r.abs.heap&&namesBound p r.abs.heap&&gensDone r.abs&&laidKept (boot_heap w.params) r.abs.heap with | true=>_ | false=>_)=_
   rw[l1]
  rw[t]
  show some (openSeen q loose (importedModules p.main.body) Xt true r.abs,Yf r.abs)=_
  rw[l2,l3]
noncomputable def viewOf (p:Program) (keep:List Nat):Program:={ p with main:={ p.main with body:=keep.filterMap fun i=>p.main.body[i]? } }
end L2.FE
section
open PySem PySem.W PyProof.Rows
noncomputable def FC.Q:Program:=L2.FE.viewOf PySem.Challenge.pw_fallcounts_k55_whole_boxes [1,2,3,4,6,7,8,9,10,11,12,14,16,17,19,20,21,22,23,25,26,27,28,29,30,31,32,33,34,35,36,37,38,39,40,42,43,44,45,46,47,48,49,50]
theorem FC.JM:∀(w:World) (os:OsState),(L2.FE.qO PySem.Challenge.pw_fallcounts_k55_whole_boxes w 4140 os).map (fun s=>L2.FE.CW PySem.Challenge.pw_fallcounts_k55_whole_boxes w s.abs)=some true:=fun w os=>by kernel_rfl
theorem FC.Ja:∀(w:World) (os:OsState),(L2.FE.qO PySem.Challenge.pw_fallcounts_k55_whole_boxes w 4140 os).map (fun s=>PySem.W.Fast.tw4187177175401517315 FC.Q [] (PySem.W.Fast.tw5923862056798008813 PySem.Challenge.pw_fallcounts_k55_whole_boxes.main.body) (fun s=>xlAt FC.Q [] s&&recOk (RowW.records (OpenRow.toRowW (OpenLaw.row PySem.Challenge.rw_fallcounts_k55_whole_boxes))) s) true s.abs)=some (openGood FC.Q []):=fun w os=>by kernel_rfl
end
namespace L2
open PySem PySem.Spec PyProof.Rows
noncomputable abbrev Key:=Sum Int Str
noncomputable def Fx:Key->Value->Bool
 | .inl k,v=>Value.isInt k v
 | .inr x,v=>Value.isStrOf x v
noncomputable def Lk (w:World):Key->Int
 | .inl k=>hashInt k
 | .inr x=>hashStr w x
theorem b8:∀{k:Key} {v:Value},Fx k v=true->(∃i t,k=Sum.inl i/\v=Value.int i t)\/(∃x t,k=Sum.inr x/\v=Value.str x t)
 | .inl i,v,h=>by
  obtain⟨t,e⟩:=Value.isInt_shape (k:=i) (v:=v) h
  exact .inl ⟨i,t,rfl,e⟩
 | .inr x,v,h=>by
  obtain⟨t,e⟩:=Value.isStrOf_shape (x:=x) (v:=v) h
  exact .inr ⟨x,t,rfl,e⟩
theorem HD (a b:Int):decide ((Sum.inl a:Key)=Sum.inl b)=(a == b):=by
 by_cases e:a=b
 ·subst e;simp
 ·have h:¬ (Sum.inl a:Key)=Sum.inl b:=fun q=>e (Sum.inl.inj q)
  rw[decide_eq_false h]
  exact(beq_eq_false_iff_ne.mpr e).symm
theorem GL (a b:Str):decide ((Sum.inr a:Key)=Sum.inr b)=decide (a=b):=by
 by_cases e:a=b
 ·subst e;simp
 ·have h:¬ (Sum.inr a:Key)=Sum.inr b:=fun q=>e (Sum.inr.inj q)
  rw[decide_eq_false h,decide_eq_false e]
theorem Gu (a:Int) (b:Str):decide ((Sum.inl a:Key)=Sum.inr b)=false:=decide_eq_false (fun q=>nomatch q)
theorem FV (a:Str) (b:Int):decide ((Sum.inr a:Key)=Sum.inl b)=false:=decide_eq_false (fun q=>nomatch q)
noncomputable def sQ (prog:Program) (w:World):PySem.KeyKind prog w Key where
 is:=Fx
 hash:=Lk w
 inj:=fun v a b ha hb=>by
  rcases b8 ha with⟨i,t,rfl,rfl⟩ | ⟨x,t,rfl,rfl⟩
  ·rcases b8 hb with⟨j,u,rfl,e⟩ | ⟨y,u,rfl,e⟩
   ·injection e with e1 _;rw[e1]
   ·exact nomatch e
  ·rcases b8 hb with⟨j,u,rfl,e⟩ | ⟨y,u,rfl,e⟩
   ·exact nomatch e
   ·injection e with e1 _;rw[e1]
 byValue:=fun k v h=>by
   rcases b8 h with⟨i,t,rfl,rfl⟩ | ⟨x,t,rfl,rfl⟩<;>rfl
 pyHash:=fun hv h=>by
  rcases b8 hv with⟨i,t,rfl,rfl⟩ | ⟨x,t,rfl,rfl⟩
  ·exact wpAny_pyHash_int h
  ·exact wpAny_pyHash_str h
 eqBool:=fun hu hv h=>by
  rcases b8 hu with⟨i,t,rfl,rfl⟩ | ⟨x,t,rfl,rfl⟩
  ·rcases b8 hv with⟨j,u,rfl,rfl⟩ | ⟨y,u,rfl,rfl⟩
   ·rw[HD] at h;exact wpAny_eqBool_int h
   ·rw[Gu] at h;exact SeqAt.EqAt.int_str i t y u _ _ _ _ h
  ·rcases b8 hv with⟨j,u,rfl,rfl⟩ | ⟨y,u,rfl,rfl⟩
   ·rw[FV] at h;exact SeqAt.EqAt.str_int x t j u _ _ _ _ h
   ·rw[GL] at h;exact wpAny_eqBool_str h
 «strs»:=fun k x t v h=>by
  rcases b8 h with⟨i,u,rfl,e⟩ | ⟨y,u,rfl,e⟩
  ·exact nomatch e
  ·injection e with e1 _
   subst e1
   cases v<;>rfl
inductive V where
 | non | bl (b:Bool) | int (i:Int) | str (x:Str) | byt (b:Array UInt8) | flt (b:UInt64) | ref (a:Addr) | ty (n:String)
 deriving DecidableEq
noncomputable def RelV:V->Value->Prop
 | .non,u=>u=Value.none
 | .bl b,u=>u=Value.bool b
 | .int i,u=>∃t,u=Value.int i t
 | .str x,u=>∃t,u=Value.str x t
 | .byt b,u=>∃t,u=Value.bytes b t
 | .flt b,u=>∃t,u=Value.float b t
 | .ref a,u=>u=Value.ref a
 | .ty n,u=>u=Value.type n
noncomputable abbrev Vals:List V->List Value->Prop:=Paired RelV
theorem Vals.length {xs:List V} {us:List Value} (r:Vals xs us):xs.length=us.length:=Paired.length r
theorem Vals.get:∀{xs:List V} {us:List Value} {i:Nat} {x:V},Vals xs us->xs[i]?=some x->∃u,us[i]?=some u/\RelV x u
 | _,_,_,_,.nil,e=>by simp at e
 | _,_,0,_,.cons r _,e=>by simp at e;subst e;exact⟨_,rfl,r⟩
 | _,_,i+1,x,.cons _ t,e=>by
  obtain⟨u,h1,h2⟩:=Vals.get (i:=i) (x:=x) t (by simpa using e)
  exact⟨u,by simpa using h1,h2⟩
theorem Vals.set {x:V} {u:Value} (r:RelV x u):∀{xs:List V} {us:List Value} (i:Nat),Vals xs us->Vals (xs.set i x) (us.set i u)
 | _,_,_,.nil=>.nil
 | _,_,0,.cons _ t=>.cons r t
 | _,_,i+1,.cons q t=>.cons q (Vals.set r i t)
theorem Vals.append:∀{xs ys:List V} {us ws:List Value},Vals xs us->Vals ys ws->Vals (xs++ys) (us++ws)
 | _,_,_,_,.nil,s=>s
 | _,_,_,_,.cons r t,s=>.cons r (Vals.append t s)
theorem Vals.take:∀{xs:List V} {us:List Value} (n:Nat),Vals xs us->Vals (xs.take n) (us.take n)
 | _,_,0,_=>.nil
 | _,_,_+1,.nil=>.nil
 | _,_,n+1,.cons r t=>.cons r (Vals.take n t)
theorem Vals.drop:∀{xs:List V} {us:List Value} (n:Nat),Vals xs us->Vals (xs.drop n) (us.drop n)
 | _,_,0,r=>r
 | _,_,_+1,.nil=>.nil
 | _,_,n+1,.cons _ t=>Vals.drop n t
noncomputable def GK:Option V->Option Value->Prop
 | some v,some u=>RelV v u
 | none,none=>True
 | _,_=>False
noncomputable def KV {κ:Type}:List (κ × V)->List (κ × Value)->Prop:=Paired fun(p:κ × V) (q:κ × Value)=>p.1=q.1/\RelV p.2 q.2
noncomputable def kV:Key->V
 | .inl i=>.int i
 | .inr x=>.str x
inductive HO where
 | lst (xs:List V)
 | tup (xs:List V)
 | dK (kvs:List (Key × V)) | dT (kvs:List (List Key × V))
 | set (S:Int->Bool) (n:Nat)
 | ins (C dx:Addr) (fs:List (Str × V))
 | own (x:Addr)
 | xd (fs:List (Str × V))
 | met (f x:Addr)
 | rng (lo hi:Int)
 | frz (o:Obj) (u:HO)
 | tbl (ps:Array Value)
 | ext (φ:Heap->Prop)
noncomputable abbrev Hp:=Addr->Option HO
noncomputable def upd (H:Hp) (a:Addr) (o:HO):Hp:=fun b=>if b=a then some o else H b
theorem a9 {H:Hp} {a:Addr} {o:HO}:upd H a o a=some o:=by unfold upd;rw[if_pos rfl]
theorem aS {H:Hp} {a b:Addr} {o:HO} (h:b≠a):upd H a o b=H b:=by unfold upd;rw[if_neg h]
theorem cc {H:Hp} {a b:Addr} {o:HO} (h:H a=some o) (h':H b=none):a≠b:=by
 intro e;subst e;rw[h] at h';cases h'
noncomputable def lQ (h:Heap) (a:Addr) (its:Array Value):Prop:=∃o,h.get? a=some o/\(o.cls=.type "tuple" /\ ∃n,o.data=.seq its n)/\o.dict=none
theorem lQ.tup {h:Heap} {a:Addr} {its:Array Value} (x:lQ h a its):IsTup h a its:=let ⟨o,e,⟨c,n,d⟩,_⟩:=x;⟨o,e,c,n,d⟩
theorem lQ.new (h:Heap) (its:Array Value):lQ (h.push { cls:=.type "tuple", data:=.seq its }) h.objs.size its:=⟨_,Heap.get?_push_size _ rfl,⟨rfl,_,rfl⟩,rfl⟩
section
variable (P:Program) (w:World)
noncomputable def cF (H:Hp) (h:Heap) (a:Addr):HO->Prop
 | .lst xs=>xs.length<=sizeLine/\∃(its:List Value) (n:Nat),Vals xs its/\h.get? a=some { cls:=.type "list", data:=.seq its.toArray n }
 | .tup xs=>xs.length<=sizeLine/\∃its:List Value,Vals xs its/\lQ h a its.toArray
 | .dK kvs=>kvs.length<=sizeLine/\(a == sysModules)=false/\∃vs,KV kvs vs/\h.DictOf (sQ P w) a vs
 | .dT kvs=>kvs.length<=sizeLine/\(a == sysModules)=false/\∃xs:List (List Key × Addr × Value),
   Paired (fun(p:List Key × V) (q:List Key × Addr × Value)=>p.1=q.1/\H q.2.1=some (.tup (p.1.map kV))/\RelV p.2 q.2.2) kvs xs ∧
   ∃o es ep,h.get? a=some o/\o.ExactDict/\o.data=.dict es ep/\es.toList=xs.map (entryOfKey (tupleKind (sQ P w)))/\(xs.map (·.1)).Nodup
 | .set S n=>h.SetOf (intKind P w) a S n
 | .ins C dx fs=>H dx=some (.own a)/\fs.length<=1000/\dx≠a/\h.get? a=some (PySem.W.instObj C dx) ∧
   ∃mA,h.Ns1 dx mA/\(∀f,GK (fs.lookup f) (mA f))/\PySem.Within mA (fs.map (·.1))
 | .own _=>∃o,h.get? a=some o
 | .xd fs=>∃mA,h.Ns1 a mA/\∀f,GK (fs.lookup f) (mA f)
 | .rng lo hi=>∃t u v,h.get? a=some { cls:=.type "range", data:=.fields #[.int lo t,.int hi u,.int 1 v] }
 | .frz o u=>h.get? a=some o/\cF H h a u
 | .tbl ps=>h.get? a=some { cls:=.none,data:=.fields ps }
 | .met f x=>h.get? a=some (PySem.W.methodObj (.ref f) (.ref x))
 | .ext φ=>φ h/\(∃o,h.get? a=some o)/\∀h1 h2:Heap,φ h1->(∀o,h1.get? a=some o->h2.get? a=some o)->φ h2
noncomputable def HOk (H:Hp) (h:Heap):Prop:=∀a o,H a=some o->cF P w H h a o
end
section
variable {P:Program} {w:World} {H H':Hp} {h h':Heap} {a:Addr} {o:HO}
theorem cF.lt (x:cF P w H h a o):a<h.objs.size:=by
 cases o with
 | lst xs=>obtain⟨_,_,_,_,e⟩:=x;exact Heap.lt_size e
 | tup xs=>obtain⟨_,_,_,_,e,_⟩:=x;exact Heap.lt_size e
 | dK kvs=>obtain⟨_,_,_,_,o,_,_,e,_⟩:=x;exact Heap.lt_size e
 | dT kvs=>obtain⟨_,_,_,_,o,_,_,e,_⟩:=x;exact Heap.lt_size e
 | set S n=>obtain⟨o,_,_,_,e,_⟩:=x;exact Heap.lt_size e
 | ins C dx fs=>obtain⟨_,_,_,e,_⟩:=x;exact Heap.lt_size e
 | own y=>obtain⟨_,e⟩:=x;exact Heap.lt_size e
 | xd fs=>obtain⟨_,⟨_,_,_,e,_⟩,_⟩:=x;exact Heap.lt_size e
 | rng lo hi=>obtain⟨_,_,_,e⟩:=x;exact Heap.lt_size e
 | frz ob u=>obtain⟨e,_⟩:=x;exact Heap.lt_size e
 | tbl ps=>exact Heap.lt_size (show h.get? a=some _ from x)
 | met f y=>exact Heap.lt_size (show h.get? a=some _ from x)
 | ext φ=>obtain⟨_,⟨_,e⟩,_⟩:=x;exact Heap.lt_size e
theorem Paired.D0 {α β:Type} {F G:α->β->Prop}:∀{l₁:List α} {l₂:List β},Paired F l₁ l₂->(∀a b,F a b->G a b)->Paired G l₁ l₂
 | _,_,.nil,_=>.nil
 | _,_,.cons r t,f=>.cons (f _ _ r) (Paired.D0 t f)
theorem cF.pN (x:cF P w H h a o) (k:∀b u,(b=a\/H b=some (.own a))->h.get? b=some u->h'.get? b=some u)
  (ho:∀b,H b=some (.own a)->H' b=some (.own a)) (ht:∀b xs,H b=some (.tup xs)->H' b=some (.tup xs)):cF P w H' h' a o:=by
 induction o with
 | lst xs=>obtain⟨z,its,n,r,e⟩:=x;exact⟨z,its,n,r,k _ _ (.inl rfl) e⟩
 | tup xs=>obtain⟨z,its,r,ob,e,c⟩:=x;exact⟨z,its,r,ob,k _ _ (.inl rfl) e,c⟩
 | dK kvs=>obtain⟨z,y,vs,r,ob,es,ep,e,c⟩:=x;exact⟨z,y,vs,r,ob,es,ep,k _ _ (.inl rfl) e,c⟩
 | dT kvs=>
  obtain⟨z,y,xs,r,ob,es,ep,e,c⟩:=x
  exact⟨z,y,xs,Paired.D0 r fun p q z=>⟨z.1,ht _ _ z.2.1,z.2.2⟩,ob,es,ep,k _ _ (.inl rfl) e,c⟩
 | set S n=>obtain⟨ob,es,ep,t,e,c⟩:=x;exact⟨ob,es,ep,t,k _ _ (.inl rfl) e,c⟩
 | ins C dx fs=>
  obtain⟨d,z,ne,e,mA,⟨od,es,ep,e2,c⟩,r⟩:=x
  exact⟨ho _ d,z,ne,k _ _ (.inl rfl) e,mA,⟨od,es,ep,k _ _ (.inr d) e2,c⟩,r⟩
 | own y=>obtain⟨ob,e⟩:=x;exact⟨ob,k _ _ (.inl rfl) e⟩
 | xd fs=>obtain⟨mA,⟨od,es,ep,e,c⟩,r⟩:=x;exact⟨mA,⟨od,es,ep,k _ _ (.inl rfl) e,c⟩,r⟩
 | rng lo hi=>obtain⟨t,u,v,e⟩:=x;exact⟨t,u,v,k _ _ (.inl rfl) e⟩
 | frz ob u ih=>obtain⟨e,q⟩:=x;exact⟨k _ _ (.inl rfl) e,ih q⟩
 | tbl ps=>
  have e:h.get? a=some { cls:=.none,data:=.fields ps }:=x
  show h'.get? a=some { cls:=.none,data:=.fields ps }
  exact k a _ (.inl rfl) e
 | met f y=>
  have e:h.get? a=some (PySem.W.methodObj (.ref f) (.ref y)):=x
  show h'.get? a=some (PySem.W.methodObj (.ref f) (.ref y))
  exact k a _ (.inl rfl) e
 | ext φ=>obtain⟨p,⟨o,e⟩,st⟩:=x;exact⟨st _ _ p fun o q=>k _ _ (.inl rfl) q,⟨o,k _ _ (.inl rfl) e⟩,st⟩
theorem HOk.lt (x:HOk P w H h) (e:H a=some o):a<h.objs.size:=(x a o e).lt
theorem HOk.fresh (x:HOk P w H h) (e:h.objs.size<=a):H a=none:=by
 cases q:H a with
 | none=>rfl
 | some u=>exact absurd (Nat.lt_of_lt_of_le (x.lt q) e) (Nat.lt_irrefl _)
theorem HOk.kept (x:HOk P w H h) (k:∀b u,h.get? b=some u->h'.get? b=some u):HOk P w H h':=fun a o e=>
 (x a o e).pN (fun b u _ q=>k b u q) (fun _ q=>q) fun _ _ q=>q
theorem HOk.laid (x:HOk P w H h) (k:∀b u,h.get? b=some u->h'.get? b=some u) (hp:h.objs.size<=a) (new:cF P w (upd H a o) h' a o):HOk P w (upd H a o) h':=fun b u e=>by
 have hn:=x.fresh hp
 by_cases hb:b=a
 ·subst hb;rw[a9] at e;cases e;exact new
 ·rw[aS hb] at e
  exact(x b u e).pN (fun c v _ q=>k c v q) (fun c q=>by rw[aS (cc q hn)];exact q) fun c xs q=>by rw[aS (cc q hn)];exact q
end
noncomputable def Rd (H:Hp) (a:Addr) (u:HO):Prop:=H a=some u\/∃o,H a=some (.frz o u)
theorem Rd.ok {P:Program} {w:World} {H:Hp} {h:Heap} {a:Addr} {u:HO} (r:Rd H a u) (x:HOk P w H h):cF P w H h a u:=by
 rcases r with r | ⟨o,r⟩
 ·exact x a u r
 ·obtain⟨_,q⟩:=x a _ r
  exact q
noncomputable def Mut:Option HO->Prop
 | some (.lst _)=>True
 | some (.dK _)=>True
 | some (.dT _)=>True
 | some (.set _ _)=>True
 | some (.ins _ _ _)=>True
 | some (.ext _)=>True
 | _=>False
section
variable {P:Program} {w:World} {H:Hp} {h h':Heap} {x e:Addr} {o':HO}
theorem HOk.write (ok:HOk P w H h) (mu:Mut (H x)) (he:e=x\/H e=some (.own x)) (k:∀b u,b≠e->h.get? b=some u->h'.get? b=some u) (heo:∃u,h'.get? e=some u)
  (new:cF P w (upd H x o') h' x o'):HOk P w (upd H x o') h':=fun b u q=>by
 have nown:∀c y,H c=some (.own y)->c≠x:=fun c y r z=>by subst z;rw[r] at mu;exact mu
 have ntup:∀c xs,H c=some (.tup xs)->c≠x:=fun c xs r z=>by subst z;rw[r] at mu;exact mu
 by_cases hb:b=x
 ·subst hb;rw[a9] at q;cases q;exact new
 ·rw[aS hb] at q
  by_cases hbe:b=e
  ·have q':H b=some (.own x):=by
    rcases he with z | z
    ·exact absurd (hbe.trans z) hb
    ·rw[hbe];exact z
   rw[q] at q';cases q'
   obtain⟨v,hv⟩:=heo
   exact⟨v,by rw[hbe];exact hv⟩
  ·refine(ok b u q).pN (fun c v hc r=>k c v ?_ r) (fun c r=>by rw[aS (nown c b r)];exact r) fun c xs r=>by rw[aS (ntup c xs r)];exact r
   rcases hc with rfl | hc
   ·exact hbe
   ·rintro rfl
    rcases he with z | z
    ·exact nown c b hc z
    ·rw[hc] at z;cases z;exact hb rfl
end
structure Un (fs ex:List Addr) (H H':Hp) (h h':Heap):Prop where
 keep:∀b o,h.get? b=some o->H b=none->b∉fs->b∉ex->h'.get? b=some o
 slot:∀b o,h.get? b=some o->H b=none->b∈fs->b∉ex->∃sl,h'.get? b=some { o with slots:=sl }
 free:∀b o,h.get? b=some o->H b=none->b∉ex->H' b=none
 there:∀b o,h.get? b=some o->b∉ex->∃o',h'.get? b=some o'
 oh:∀b xs,H b=some (.tup xs)->H' b=some (.tup xs)
 qh:∀b o u,H b=some (.frz o u)->H' b=some (.frz o u)
 tD:∀b ps,H b=some (.tbl ps)->∃more,H' b=some (.tbl (ps++more))
section
variable {fs fs' ex ex':List Addr} {H H1 H2:Hp} {h h1 h2 h':Heap} {a x e:Addr} {o:HO}
theorem Un.any (u:Un fs ex H H1 h h1) {b:Addr} {ob:Obj} (q:h.get? b=some ob) (n:H b=none) (hx:b∉ex):∃sl,h1.get? b=some { ob with slots:=sl }:=by
 by_cases hb:b∈fs
 ·exact u.slot b ob q n hb hx
 ·exact⟨ob.slots,u.keep b ob q n hb hx⟩
theorem Un.kept (k:∀b u,h.get? b=some u->h'.get? b=some u):Un fs ex H H h h':=
 ⟨fun b ob q _ _ _=>k b ob q,fun b ob q _ _ _=>⟨ob.slots,k b ob q⟩,fun _ _ _ n _=>n,fun b ob q _=>⟨ob,k b ob q⟩,fun _ _ q=>q,fun _ _ _ q=>q,fun _ ps q=>⟨#[],by rw[q];simp⟩⟩
theorem Un.refl:Un fs ex H H h h:=Un.kept fun _ _ q=>q
theorem Un.laid (k:∀b u,h.get? b=some u->h'.get? b=some u) (hp:h.objs.size<=a) (hn:H a=none):Un fs ex H (upd H a o) h h' where
 keep:=fun b u q _ _ _=>k b u q
 slot:=fun b u q _ _ _=>⟨u.slots,k b u q⟩
 free:=fun b u q n _=>by rw[aS (Nat.ne_of_lt (Nat.lt_of_lt_of_le (Heap.lt_size q) hp))];exact n
 there:=fun b u q _=>⟨u,k b u q⟩
 oh:=fun b xs q=>by rw[aS (cc q hn)];exact q
 qh:=fun b u xs q=>by rw[aS (cc q hn)];exact q
 tD:=fun b ps q=>⟨#[],by rw[aS (cc q hn),q];simp⟩
theorem Un.write (mu:Mut (H x)) (he:e=x\/H e=some (.own x)) (k:∀b u,b≠e->h.get? b=some u->h'.get? b=some u) (heo:∃u,h'.get? e=some u):Un fs ex H (upd H x o) h h':=by
 have hx:∀b,H b=none->b≠x:=fun b n z=>by subst z;rw[n] at mu;exact mu
 have hb:∀b,H b=none->b≠e:=fun b n z=>by
  subst z
  rcases he with r | r
  ·exact hx b n r
  ·rw[n] at r;cases r
 have hm:∀b u,H b=some u->¬ Mut (some u)->b≠x:=fun b u q nm z=>by subst z;rw[q] at mu;exact nm mu
 refine⟨fun b u q n _ _=>k b u (hb b n) q,fun b u q n _ _=>⟨u.slots,k b u (hb b n) q⟩,fun b u q n _=>by rw[aS (hx b n)];exact n,fun b u q _=>?_,
  fun b xs q=>by rw[aS (hm b _ q fun z=>z)];exact q,fun b u xs q=>by rw[aS (hm b _ q fun z=>z)];exact q,fun b ps q=>⟨#[],by rw[aS (hm b _ q fun z=>z),q];simp⟩⟩
 by_cases hbe:b=e
 ·subst hbe;exact heo
 ·exact⟨u,k b u hbe q⟩
end
noncomputable def trk (h:Heap) (H:Hp):List Addr:=(List.range h.objs.size).filter fun a=>(H a).isSome
noncomputable def tW (h:Heap) (H:Hp):Heap:=PySem.W.hideAll h (trk h H)
theorem zi (h:Heap) (H:Hp):(tW h H).objs.size=h.objs.size:=PySem.W.hideAll_size _ _
theorem AH {h:Heap} {H:Hp} {b:Addr} {o:Obj} (e:h.get? b=some o) (n:H b=none):(tW h H).get? b=some o:=
 PySem.W.hideAll_get _ e fun hm=>by
  have q:(H b).isSome=true:=(List.mem_filter.mp hm).2
  rw[n] at q;simp at q
theorem DN {h:Heap} {H:Hp} {b:Addr} {o:Obj} (e:(tW h H).get? b=some o):h.get? b=some o/\H b=none:=by
 have e':h.get? b=some o:=PySem.W.of_hideAll (trk h H) e
 refine⟨e',?_⟩
 cases q:H b with
 | none=>rfl
 | some x=>
  have hm:b∈trk h H:=List.mem_filter.mpr ⟨List.mem_range.mpr (Heap.lt_size e'),by simp[q]⟩
  have z:(tW h H).get? b=none:=PySem.W.hideAll_none (trk h H) hm
  rw[z] at e;cases e
structure Mod (K:PySem.W.Frag) (mg:Str->Option Value) (base:Heap):Prop where
 kin:K.In base
 glob:base.Ns mainGlobals mg
 blt:∃mb,base.Ns builtinsNs mb/\∀x:Str,x≠"__name__" -> mb x=bootBuiltins x
 nolimit:base.NoLimit
structure Cx where
 prog:Program
 w:World
 K:PySem.W.Frag
 mg:Str->Option Value
 base:Heap
 A:Around
 N:List Str
 aK:Shared
 aN:Hp
 env:Env
 outer:List Env
 stack:List Env
 ex:List Addr
 fn:Str->Bool
 calm:Bool
 pn:List (Addr × Obj)
 xe:Value->Shared->Prop
noncomputable def frs (l:List Env):List Addr:=l.filterMap (·.frame)
noncomputable abbrev Cx.fs (X:Cx):List Addr:=frs X.outer
noncomputable def Vis (sc:Scope) (x:Str):Prop:=sc.names.lookup x=some .local\/sc.names.lookup x=some .cell\/sc.names.lookup x=some .free
noncomputable def Loc (sc:Scope) (x:Str):Prop:=sc.names.lookup x=some .local\/sc.names.lookup x=some .cell
noncomputable def Look (env:Env) (h:Heap) (m:Str->Option Value) (x:Str) (u:Value):Prop:=
 (env.kindOf x=some .local/\m x=some u)\/((env.kindOf x=some .cell\/env.kindOf x=some .free)/\∃c,env.cells.lookup x=some c/\h.IsCell c (some u))
structure Cx.Ok (X:Cx):Prop where
 mod:Mod X.K X.mg X.base
 kind:X.env.scope.kind=.function
 glob:X.env.globals=mainGlobals
 blt:X.env.builtins=builtinsNs
 above:X.aK.heap.objs.size<=X.env.locals
 inj:∀x y c,X.env.cells.lookup x=some c->X.env.cells.lookup y=some c->x=y
 has:∀x,(X.env.kindOf x=some .cell\/X.env.kindOf x=some .free)->∃c,X.env.cells.lookup x=some c
 cab:∀x c,X.fn x=true->X.env.cells.lookup x=some c->X.aK.heap.objs.size<=c
 hd:X.calm=true->X.A.handled=none
 frames:X.A.frames=some X.stack
 stk:X.stack=X.outer\/(X.stack=X.env::X.outer/\X.env.frame=some X.env.locals)
 exf:∀b∈X.ex,b≠X.env.locals/\∀x c,X.env.cells.lookup x=some c->c≠b
 bs:∀b o,X.base.get? b=some o->X.aK.heap.get? b=some o/\X.aN b=none
 bsz:X.base.objs.size<=X.aK.heap.objs.size
 Af:∀b o,X.base.get? b=some o->b∉X.ex
 ET:∀b∈X.ex,b∉X.fs
 oW:X.aK.heap.FunFrames X.base X.outer
 frf:∀b∈X.fs,X.aN b=none
structure Inv (X:Cx) (pins:List (Addr × Obj)) (σ:List (Option V)) (H:Hp) (s:Shared):Prop where
 ok:X.Ok
 os:s.os=X.aK.os
 bare:AllBare s.gens
 base:Un X.fs X.ex X.aN H X.aK.heap s.heap
 loc:∃m,s.heap.Ns X.env.locals m/\∀(i:Nat) (x:Str) (v:V),X.N[i]?=some x->σ[i]?=some (some v)->Vis X.env.scope x->∃u,RelV v u/\Look X.env s.heap m x u
 cell:∀x c,X.env.cells.lookup x=some c->∃v,s.heap.IsCell c v
 free:H X.env.locals=none
 jo:∀x c,X.env.cells.lookup x=some c->H c=none
 pin:∀p∈X.pn++pins,s.heap.get? p.1=some p.2/\H p.1=none/\p.1≠X.env.locals/\p.1∉X.fs/\∀v,p.2.data≠.cell v
 hok:HOk X.prog X.w H s.heap
 len:σ.length=X.N.length
section
variable {X:Cx} {pins:List (Addr × Obj)} {σ:List (Option V)} {H H':Hp} {s:Shared} {h':Heap}
theorem Cx.Ok.Kv (ok:X.Ok) {b:Addr} {o:Obj} (e:X.base.get? b=some o):b∉X.fs:=fun hb=>by
 have:=(ok.oW.mem hb).1
 rw[e] at this;cases this
theorem Inv.bs (I:Inv X pins σ H s):∀b o,X.base.get? b=some o->s.heap.get? b=some o/\H b=none:=fun b o e=>
 ⟨I.base.keep b o (I.ok.bs b o e).1 (I.ok.bs b o e).2 (I.ok.Kv e) (I.ok.Af b o e),I.base.free b o (I.ok.bs b o e).1 (I.ok.bs b o e).2 (I.ok.Af b o e)⟩
theorem Inv.bk (I:Inv X pins σ H s):∀b o,X.base.get? b=some o->s.heap.get? b=some o:=fun b o e=>(I.bs b o e).1
theorem Inv.mod (I:Inv X pins σ H s):Mod X.K X.mg X.base:=I.ok.mod
theorem Inv.kIn (I:Inv X pins σ H s):X.K.In s.heap:=I.ok.mod.kin.keeps I.bk
theorem Inv.lt (I:Inv X pins σ H s):X.env.locals<s.heap.objs.size:=let ⟨_,hn,_⟩:=I.loc;hn.lt
theorem Inv.sz (I:Inv X pins σ H s):X.aK.heap.objs.size<=s.heap.objs.size:=Nat.le_trans I.ok.above (Nat.le_of_lt I.lt)
theorem Inv.Gw (I:Inv X pins σ H s) {a:Addr} (h:s.heap.objs.size<=a):a∉X.fs:=fun hb=>by
 obtain⟨_,o,ho,_⟩:=I.ok.oW.mem hb
 exact absurd (Nat.lt_of_lt_of_le (Heap.lt_size ho) (Nat.le_trans I.sz h)) (Nat.lt_irrefl _)
theorem Inv.cne (I:Inv X pins σ H s):∀x c,X.env.cells.lookup x=some c->c≠X.env.locals:=fun x c e z=>by
 obtain⟨v,o,ho,hd⟩:=I.cell x c e
 obtain⟨m,⟨o',es,ep,ho',hd',_⟩,_⟩:=I.loc
 rw[z,ho'] at ho;cases ho;rw[hd'] at hd;cases hd
theorem Inv.oW (I:Inv X pins σ H s):s.heap.FunFrames X.base X.outer:=by
 have all:∀(l:List Env),(∀b∈frs l,b∈X.fs)->X.aK.heap.FunFrames X.base l->s.heap.FunFrames X.base l:=by
  intro l
  induction l with
  | nil=>intro _ _;trivial
  | cons env r ih=>
   intro hs hl
   obtain⟨hk,⟨L,o,hf,hn,ho,hd⟩,hr⟩:=hl
   have hL:L∈X.fs:=hs L (by unfold frs;rw[List.filterMap_cons,hf];exact List.mem_cons_self)
   obtain⟨sl,e⟩:=I.base.slot L o ho (I.ok.frf L hL) hL fun z=>I.ok.ET L z hL
   exact⟨hk,⟨L,_,hf,hn,e,hd⟩,ih (fun b hb=>hs b (by unfold frs;rw[List.filterMap_cons,hf];exact List.mem_cons_of_mem _ hb)) hr⟩
 exact all X.outer (fun _ hb=>hb) I.ok.oW
theorem Inv.stack (I:Inv X pins σ H s):s.heap.FunFrames X.base X.stack:=by
 rcases I.ok.stk with e | ⟨e,hf⟩
 ·rw[e];exact I.oW
 ·rw[e]
  obtain⟨m,hn,_⟩:=I.loc
  refine .cons (by rw[I.ok.kind];decide) hf hn ?_ I.oW
  exact Heap.get?_none_of_le (Nat.le_trans I.ok.bsz I.ok.above)
theorem Inv.lX (I:Inv X pins σ H s):∀b∈frs X.stack,b∈X.env.locals::X.fs:=fun b hb=>by
 rcases I.ok.stk with e | ⟨e,hf⟩
 ·rw[e] at hb;exact List.mem_cons_of_mem _ hb
 ·rw[e] at hb
  unfold frs at hb
  rw[List.filterMap_cons,hf] at hb
  exact hb
theorem Inv.rO (I:Inv X pins σ H s):∀b∈frs X.stack,H b=none:=fun b hb=>by
 rcases List.mem_cons.mp (I.lX b hb) with e | hb
 ·rw[e];exact I.free
 ·obtain⟨_,o,ho,_⟩:=I.ok.oW.mem hb
  exact I.base.free b o ho (I.ok.frf b hb) fun z=>I.ok.ET b z hb
theorem Inv.step {g':Array GenState} {t':Nat} {d':Drawn} {ch:List Addr} (I:Inv X pins σ H s)
  (hch:∀b∈ch,(b∈X.ex\/X.aK.heap.objs.size<=b)/\b≠X.env.locals/\(∀x c,X.env.cells.lookup x=some c->c≠b)/\∀p∈X.pn++pins,p.1≠b)
  (keep:∀b o,b≠X.env.locals->b∉X.fs->b∉ch->s.heap.get? b=some o->H b=none->h'.get? b=some o)
  (slot:∀b o,b≠X.env.locals->b∈X.fs->b∉ch->s.heap.get? b=some o->H b=none->∃sl,h'.get? b=some { o with slots:=sl }) (free:∀b o,b∉ch->s.heap.get? b=some o->H b=none->H' b=none)
  (there:∀b o,b∉ch->s.heap.get? b=some o->∃o',h'.get? b=some o')
  (oh:∀b xs,H b=some (.tup xs)->H' b=some (.tup xs)) (qh:∀b o u,H b=some (.frz o u)->H' b=some (.frz o u)) (tD:∀b ps,H b=some (.tbl ps)->∃more,H' b=some (.tbl (ps++more)))
  (ns:∀m,s.heap.Ns X.env.locals m->h'.Ns X.env.locals m) (hok:HOk X.prog X.w H' h') (hg:AllBare g') :
  Inv X pins σ H' { s with heap:=h',gens:=g',drawn:=d',toks:=t' }:=by
 have neL:∀b o,X.aK.heap.get? b=some o->b≠X.env.locals:=fun b o e=>Nat.ne_of_lt (Nat.lt_of_lt_of_le (Heap.lt_size e) I.ok.above)
 have neC:∀b o,X.aK.heap.get? b=some o->b∉X.ex->b∉ch:=fun b o e hx hb=>by
  rcases(hch b hb).1 with z | z
  ·exact hx z
  ·exact absurd (Nat.lt_of_lt_of_le (Heap.lt_size e) z) (Nat.lt_irrefl _)
 have cellK:∀x c,X.env.cells.lookup x=some c->∀v,s.heap.IsCell c v->h'.IsCell c v:=fun x c e v ⟨o,ho,hd⟩=>by
  have nch:c∉ch:=fun z=>(hch c z).2.2.1 x c e rfl
  by_cases hc:c∈X.fs
  ·obtain⟨sl,q⟩:=slot c o (I.cne x c e) hc nch ho (I.jo x c e)
   exact⟨_,q,hd⟩
  ·exact⟨o,keep c o (I.cne x c e) hc nch ho (I.jo x c e),hd⟩
 refine⟨I.ok,I.os,hg,⟨fun b o e n hb hx=>?_,fun b o e n hb hx=>?_,fun b o e n hx=>?_,fun b o e hx=>?_,fun b xs e=>oh b xs (I.base.oh b xs e),fun b o xs e=>qh b o xs (I.base.qh b o xs e),fun b ps e=>?_⟩,?_,fun x c e=>?_,?_,fun x c e=>?_,fun p hp=>?_,hok,I.len⟩
 ·exact keep b o (neL b o e) hb (neC b o e hx) (I.base.keep b o e n hb hx) (I.base.free b o e n hx)
 ·obtain⟨sl,e1⟩:=I.base.slot b o e n hb hx
  obtain⟨sl',e2⟩:=slot b _ (neL b o e) hb (neC b o e hx) e1 (I.base.free b o e n hx)
  exact⟨sl',e2⟩
 ·obtain⟨o',e1⟩:=I.base.there b o e hx
  exact free b o' (neC b o e hx) e1 (I.base.free b o e n hx)
 ·obtain⟨o',e1⟩:=I.base.there b o e hx
  exact there b o' (neC b o e hx) e1
 ·obtain⟨m1,e1⟩:=I.base.tD b ps e
  obtain⟨m2,e2⟩:=tD b _ e1
  exact⟨m1++m2,by rw[e2,Array.append_assoc]⟩
 ·obtain⟨m,hn,hl⟩:=I.loc
  refine⟨m,ns m hn,fun i x v e1 e2 e3=>?_⟩
  obtain⟨u,r,l⟩:=hl i x v e1 e2 e3
  refine⟨u,r,?_⟩
  rcases l with l | ⟨k,c,e,z⟩
  ·exact .inl l
  ·exact .inr ⟨k,c,e,cellK x c e _ z⟩
 ·obtain⟨v,z⟩:=I.cell x c e
  exact⟨v,cellK x c e v z⟩
 ·obtain⟨m,⟨o,_,_,ho,_⟩,_⟩:=I.loc
  exact free _ o (fun z=>(hch _ z).2.1 rfl) ho I.free
 ·obtain⟨v,o,ho,hd⟩:=I.cell x c e
  exact free c o (fun z=>(hch c z).2.2.1 x c e rfl) ho (I.jo x c e)
 ·obtain⟨e,n,ne,nf,d⟩:=I.pin p hp
  have nch:p.1∉ch:=fun z=>(hch p.1 z).2.2.2 p hp rfl
  exact⟨keep p.1 p.2 ne nf nch e n,free p.1 p.2 nch e n,ne,nf,d⟩
theorem Inv.un {t':Nat} (I:Inv X pins σ H s) (u:Un X.fs [] H H' s.heap h') (hok:HOk X.prog X.w H' h'):Inv X pins σ H' { s with heap:=h',toks:=t' }:=by
 obtain⟨m,⟨o,es,ep,ho,r⟩,_⟩:=id I.loc
 obtain⟨sl,hL⟩:=u.any ho I.free (by simp)
 exact I.step (g':=s.gens) (d':=s.drawn) (ch:=[]) (fun _ z=>nomatch z) (fun b o _ hb _ e n=>u.keep b o e n hb (by simp)) (fun b o _ hb _ e n=>u.slot b o e n hb (by simp)) (fun b o _ e n=>u.free b o e n (by simp)) (fun b o _ e=>u.there b o e (by simp)) u.oh u.qh u.tD (fun m' hm=>by
  obtain⟨o',es',ep',ho',r'⟩:=hm
  rw[ho] at ho';cases ho'
  exact⟨_,es',ep',hL,r'⟩) hok I.bare
theorem Inv.call {g':Array GenState} {t':Nat} {d':Drawn} {ch:List Addr} (I:Inv X pins σ H s) (u:Un (frs X.stack) ch H H' s.heap h') (hok:HOk X.prog X.w H' h') (hg:AllBare g')
  (hch:∀b∈ch,(b∈X.ex\/X.aK.heap.objs.size<=b)/\b≠X.env.locals/\(∀x c,X.env.cells.lookup x=some c->c≠b)/\∀p∈X.pn++pins,p.1≠b) :
  Inv X pins σ H' { s with heap:=h',gens:=g',drawn:=d',toks:=t' }:=by
 obtain⟨m,⟨o,es,ep,ho,r⟩,_⟩:=id I.loc
 obtain⟨sl,hL⟩:=u.any ho I.free fun z=>(hch _ z).2.1 rfl
 exact I.step (ch:=ch) hch (fun b o hL hb hc e n=>u.keep b o e n (fun z=>(List.mem_cons.mp (I.lX b z)).elim hL hb) hc) (fun b o _ _ hc e n=>u.any e n hc) (fun b o hc e n=>u.free b o e n hc) (fun b o hc e=>u.there b o e hc) u.oh u.qh u.tD (fun m' hm=>by
  obtain⟨o',es',ep',ho',r'⟩:=hm
  rw[ho] at ho';cases ho'
  exact⟨_,es',ep',hL,r'⟩) hok hg
theorem Inv.turned {t':Nat} {it:Addr} (I:Inv X pins σ H s) (k:∀b o,b≠it->s.heap.get? b=some o->h'.get? b=some o) (hn:H it=none) (hL:it≠X.env.locals)
  (h1:it∈X.ex\/X.aK.heap.objs.size<=it) (h2:∀x c,X.env.cells.lookup x=some c->c≠it) (h3:∀p∈X.pn++pins,p.1≠it):Inv X pins σ H { s with heap:=h',toks:=t' }:=by
 have nit:∀b u,H b=some u->b≠it:=fun b u e z=>by rw[z,hn] at e;cases e
 refine I.step (g':=s.gens) (d':=s.drawn) (ch:=[it]) (fun b hb=>?_) (fun b o _ _ hc e _=>k b o (fun z=>hc (by simp[z])) e) (fun b o _ _ hc e _=>⟨o.slots,k b o (fun z=>hc (by simp[z])) e⟩) (fun _ _ _ _ n=>n)
  (fun b o hc e=>⟨o,k b o (fun z=>hc (by simp[z])) e⟩) (fun _ _ e=>e) (fun _ _ _ e=>e) (fun b ps e=>⟨#[],by rw[e];simp⟩) (fun m hm=>?_) (fun b u e=>?_) I.bare
 ·have e:b=it:=by simpa using hb
  subst e
  exact⟨h1,hL,h2,h3⟩
 ·obtain⟨o,es,ep,ho,r⟩:=hm
  exact⟨o,es,ep,k _ o (Ne.symm hL) ho,r⟩
 ·refine(I.hok b u e).pN (fun c v hc q=>k c v ?_ q) (fun _ q=>q) fun _ _ q=>q
  rcases hc with z | z
  ·rw[z];exact nit b u e
  ·exact nit c _ z
theorem Inv.tok (I:Inv X pins σ H s) (t:Nat):Inv X pins σ H { s with toks:=t }:=I.un (h':=s.heap) (t':=t) Un.refl I.hok
theorem Inv.kept {t':Nat} (I:Inv X pins σ H s) (k:∀b u,s.heap.get? b=some u->h'.get? b=some u):Inv X pins σ H { s with heap:=h',toks:=t' }:=I.un (Un.kept k) (I.hok.kept k)
theorem Inv.laid {a:Addr} {o:HO} {t':Nat} (I:Inv X pins σ H s) (k:∀b u,s.heap.get? b=some u->h'.get? b=some u) (hp:s.heap.objs.size<=a) (new:cF X.prog X.w (upd H a o) h' a o) :
  Inv X pins σ (upd H a o) { s with heap:=h',toks:=t' }:=I.un (Un.laid k hp (I.hok.fresh hp)) (I.hok.laid k hp new)
theorem Inv.write {x e:Addr} {o:HO} {t':Nat} (I:Inv X pins σ H s) (mu:Mut (H x)) (he:e=x\/H e=some (.own x)) (k:∀b u,b≠e->s.heap.get? b=some u->h'.get? b=some u) (heo:∃u,h'.get? e=some u)
  (new:cF X.prog X.w (upd H x o) h' x o):Inv X pins σ (upd H x o) { s with heap:=h',toks:=t' }:=I.un (Un.write mu he k heo) (I.hok.write mu he k heo new)
theorem Inv.kL {pins':List (Addr × Obj)} (I:Inv X pins σ H s) (h:∀p∈pins',s.heap.get? p.1=some p.2/\H p.1=none/\p.1≠X.env.locals/\p.1∉X.fs/\∀v,p.2.data≠.cell v):Inv X pins' σ H s:=
 ⟨I.ok,I.os,I.bare,I.base,I.loc,I.cell,I.free,I.jo,fun p hp=>(List.mem_append.mp hp).elim (fun z=>I.pin p (List.mem_append_left _ z)) (h p),I.hok,I.len⟩
theorem vy {N:List Str} (hN:N.Nodup) {i j:Nat} {x:Str} (a:N[i]?=some x) (b:N[j]?=some x):i=j:=by
 obtain⟨h1,e1⟩:=List.getElem?_eq_some_iff.mp a
 obtain⟨h2,e2⟩:=List.getElem?_eq_some_iff.mp b
 exact(List.getElem_inj hN).mp (e1.trans e2.symm)
theorem yU {M:Model} {A:Around} {E:Value->Shared->Prop} {i:Nat} {x:Str} {v:V} {u:Value} {Q:Unit->Shared->Prop} (I:Inv X pins σ H s) (hN:X.N.Nodup) (hi:X.N[i]?=some x) (hx:Loc X.env.scope x) (r:RelV v u)
  (h:∀s',Inv X pins (σ.set i (some v)) H s'->(∃a,Heap.SameBut a s.heap s'.heap/\(a=X.env.locals\/X.env.cells.lookup x=some a))->Q () s') (hf:X.fn x=true\/X.env.scope.names.lookup x=some .local:=by first | exact .inl rfl | exact .inr rfl | assumption):wpAny M A (storeName X.env x u) Q E s:=by
 obtain⟨m,hn,hl⟩:=id I.loc
 have hcls:(X.env.scope.kind == .class || (X.env.scope.kind == .module&&X.env.locals != X.env.globals))=false:=by rw[I.ok.kind];rfl
 have hiσ:i<σ.length:=by rw[I.len];exact(List.getElem?_eq_some_iff.mp hi).1
 have cne:=I.cne
 have tracked:∀{a:Addr} {h':Heap},(∃o,s.heap.get? a=some o/\H a=none)->Heap.SameBut a s.heap h'->HOk X.prog X.w H h':=fun{a h'} ha hs b ob e=>by
  obtain⟨_,_,hfree⟩:=ha
  refine(I.hok b ob e).pN (fun c w' hc q=>(hs.2 c ?_).trans q) (fun _ q=>q) fun _ _ q=>q
  rintro rfl
  rcases hc with rfl | hc
  ·rw[hfree] at e;cases e
  ·rw[hfree] at hc;cases hc
 rcases hx with hk | hk
 ·refine wpAny_storeName_local hk hn (fun h' hn' hs=>?_) hcls
  obtain⟨oL,_,_,hoL,_⟩:=id hn
  refine h _ ⟨I.ok,I.os,I.bare,⟨fun b o e n hb hx=>?_,fun b o e n hb hx=>?_,I.base.free,fun b o e hx=>?_,I.base.oh,I.base.qh,I.base.tD⟩,⟨_,hn',fun j y v' e1 e2 e3=>?_⟩,fun y c e=>?_,I.free,I.jo,fun p hp=>?_,tracked ⟨oL,hoL,I.free⟩ hs,by simpa using I.len⟩ ⟨_,hs,.inl rfl⟩
  ·exact(hs.2 b (Nat.ne_of_lt (Nat.lt_of_lt_of_le (Heap.lt_size e) I.ok.above))).trans (I.base.keep b o e n hb hx)
  ·obtain⟨sl,e1⟩:=I.base.slot b o e n hb hx
   exact⟨sl,(hs.2 b (Nat.ne_of_lt (Nat.lt_of_lt_of_le (Heap.lt_size e) I.ok.above))).trans e1⟩
  ·obtain⟨o',e1⟩:=I.base.there b o e hx
   exact⟨o',(hs.2 b (Nat.ne_of_lt (Nat.lt_of_lt_of_le (Heap.lt_size e) I.ok.above))).trans e1⟩
  ·by_cases hj:j=i
   ·subst hj
    rw[hi] at e1;cases e1
    rw[List.getElem?_set_self hiσ] at e2
    cases e2
    exact⟨u,r,.inl ⟨hk,by simp⟩⟩
   ·rw[List.getElem?_set_ne (Ne.symm hj)] at e2
    obtain⟨u',r',q⟩:=hl j y v' e1 e2 e3
    refine⟨u',r',?_⟩
    rcases q with⟨k,e⟩ | ⟨k,c,e,z⟩
    ·refine .inl ⟨k,?_⟩
     have:y≠x:=fun e=>hj (vy hN e1 (e ▸ hi))
     simp[this,e]
    ·exact .inr ⟨k,c,e,z.sameBut hs (cne y c e)⟩
  ·obtain⟨w',z⟩:=I.cell y c e
   exact⟨w',z.sameBut hs (cne y c e)⟩
  ·obtain⟨e,n,ne,nf,d⟩:=I.pin p hp
   exact⟨(hs.2 p.1 ne).trans e,n,ne,nf,d⟩
 ·have hfn:X.fn x=true:=by
   rcases hf with z | z
   ·exact z
   ·rw[z] at hk;cases hk
  obtain⟨c,hc⟩:=I.ok.has x (.inl hk)
  obtain⟨w',z⟩:=I.cell x c hc
  refine wpAny_storeName_cell I.ok.kind hk hc z (fun h' hc' hs=>?_)
  obtain⟨oc,hoc,hocd⟩:=id z
  refine h { s with heap:=h' } ⟨I.ok,I.os,I.bare,⟨fun b o e n hb hx=>?_,fun b o e n hb hx=>?_,I.base.free,fun b o e hx=>?_,I.base.oh,I.base.qh,I.base.tD⟩,⟨m,hn.sameBut hs (Ne.symm (cne x c hc)),fun j y v' e1 e2 e3=>?_⟩,fun y c' e=>?_,I.free,I.jo,fun p hp=>?_,tracked ⟨oc,hoc,I.jo x c hc⟩ hs,by simpa using I.len⟩ ⟨c,hs,.inr hc⟩
  ·exact(hs.2 b (Nat.ne_of_lt (Nat.lt_of_lt_of_le (Heap.lt_size e) (I.ok.cab x c hfn hc)))).trans (I.base.keep b o e n hb hx)
  ·obtain⟨sl,e1⟩:=I.base.slot b o e n hb hx
   exact⟨sl,(hs.2 b (Nat.ne_of_lt (Nat.lt_of_lt_of_le (Heap.lt_size e) (I.ok.cab x c hfn hc)))).trans e1⟩
  ·obtain⟨o',e1⟩:=I.base.there b o e hx
   exact⟨o',(hs.2 b (Nat.ne_of_lt (Nat.lt_of_lt_of_le (Heap.lt_size e) (I.ok.cab x c hfn hc)))).trans e1⟩
  ·by_cases hj:j=i
   ·subst hj
    rw[hi] at e1;cases e1
    rw[List.getElem?_set_self hiσ] at e2
    cases e2
    exact⟨u,r,.inr ⟨.inl hk,c,hc,hc'⟩⟩
   ·rw[List.getElem?_set_ne (Ne.symm hj)] at e2
    obtain⟨u',r',q⟩:=hl j y v' e1 e2 e3
    refine⟨u',r',?_⟩
    rcases q with q | ⟨k,c',e,z'⟩
    ·exact .inl q
    ·refine .inr ⟨k,c',e,z'.sameBut hs ?_⟩
     rintro rfl
     exact hj (vy hN e1 (I.ok.inj _ _ _ e hc ▸ hi))
  ·by_cases hcc:c'=c
   ·subst hcc;exact⟨_,hc'⟩
   ·obtain⟨w2,z2⟩:=I.cell y c' e
    exact⟨w2,z2.sameBut hs hcc⟩
  ·obtain⟨e,n,ne,nf,d⟩:=I.pin p hp
   refine⟨(hs.2 p.1 ?_).trans e,n,ne,nf,d⟩
   intro q
   rw[q,hoc] at e
   have q':oc=p.2:=Option.some.inj e
   exact d w' (by rw[<- q'];exact hocd)
theorem fY {M:Model} {A:Around} {E:Value->Shared->Prop} {i:Nat} {x:Str} {v:V} {u:Value} {Q:Unit->Shared->Prop} (I:Inv X pins σ H s) (hN:X.N.Nodup) (hi:X.N[i]?=some x) (hx:Loc X.env.scope x) (r:RelV v u)
  (h:∀s',Inv X pins (σ.set i (some v)) H s'->Q () s') (hf:X.fn x=true\/X.env.scope.names.lookup x=some .local:=by first | exact .inl rfl | exact .inr rfl | assumption):wpAny M A (storeName X.env x u) Q E s:=
 yU I hN hi hx r (fun s' I' _=>h s' I') hf
theorem Inv.ve {s':Shared} {ch:List Addr} (I:Inv X pins σ H s) (ho:s'.os=s.os) (u:Un (frs X.stack) ch H H' s.heap s'.heap) (hok:HOk X.prog X.w H' s'.heap) (hg:AllBare s'.gens)
  (hch:∀b∈ch,(b∈X.ex\/X.aK.heap.objs.size<=b)/\b≠X.env.locals/\(∀x c,X.env.cells.lookup x=some c->c≠b)/\∀p∈X.pn++pins,p.1≠b):Inv X pins σ H' s':=by
 obtain⟨h',g',d',t',o'⟩:=s'
 have e:o'=s.os:=ho
 subst e
 exact I.call (g':=g') (t':=t') (d':=d') u hok hg hch
end
noncomputable abbrev XK:=Value->Option Addr->Hp->Prop
noncomputable abbrev St:=List (Option V)
noncomputable abbrev VK:=V->Hp->Prop
noncomputable abbrev TE:=St->Hp->VK->Prop
noncomputable abbrev TT:=St->Hp->(Bool->Hp->Prop)->Prop
noncomputable abbrev TA:=St->Hp->(List V->Hp->Prop)->Prop
structure Ends where
 nx:St->Hp->Prop
 rt:VK
 bk:St->Hp->Prop:=fun _ _=>False
 ct:St->Hp->Prop:=fun _ _=>False
noncomputable abbrev TS:=Ends->St->Hp->Prop
noncomputable def EP (X:Cx) (pins:List (Addr × Obj)) (σ:St) (Q:VK) (u:Value) (s':Shared):Prop:=∃v H',Inv X pins σ H' s'/\RelV v u/\Q v H'
noncomputable def TP (X:Cx) (pins:List (Addr × Obj)) (σ:St) (Q:Bool->Hp->Prop) (b:Bool) (s':Shared):Prop:=∃H',Inv X pins σ H' s'/\Q b H'
noncomputable def AP (X:Cx) (pins:List (Addr × Obj)) (σ:St) (Q:List V->Hp->Prop) (us:List Value) (s':Shared):Prop:=∃vs H',Inv X pins σ H' s'/\Vals vs us/\Q vs H'
noncomputable def SP (X:Cx) (pins:List (Addr × Obj)) (D:Ends) (f:Flow) (s':Shared):Prop:=
 match f with
 | .next=>∃σ' H',Inv X pins σ' H' s'/\D.nx σ' H'
 | .brk=>∃σ' H',Inv X pins σ' H' s'/\D.bk σ' H'
 | .cont=>∃σ' H',Inv X pins σ' H' s'/\D.ct σ' H'
 | .ret u=>∃v σ' H',Inv X pins σ' H' s'/\RelV v u/\D.rt v H'
noncomputable def PE (X:Cx) (e:Expr) (t:TE):Prop:=
 ∀(pins:List (Addr × Obj)) (s:Shared) (σ:St) (H:Hp) (Q:VK),Inv X pins σ H s->t σ H Q->wpAny (model X.prog X.w) X.A (eval e X.env) (EP X pins σ Q) X.xe s
noncomputable def PT (X:Cx) (e:Expr) (t:TT):Prop:=
 ∀(pins:List (Addr × Obj)) (s:Shared) (σ:St) (H:Hp) (Q:Bool->Hp->Prop),Inv X pins σ H s->t σ H Q->wpAny (model X.prog X.w) X.A (isTrue e X.env (eval e X.env)) (TP X pins σ Q) X.xe s
noncomputable def PW (X:Cx) (e:Expr) (t:TT):Prop:=
 ∀(whole:Sem Value) (pins:List (Addr × Obj)) (s:Shared) (σ:St) (H:Hp) (Q:Bool->Hp->Prop),Inv X pins σ H s->t σ H Q->wpAny (model X.prog X.w) X.A (isTrue e X.env whole) (TP X pins σ Q) X.xe s
theorem PW.pt {X:Cx} {e:Expr} {t:TT} (h:PW X e t):PT X e t:=h _
noncomputable def PA (X:Cx) (es:List Expr) (t:TA):Prop:=
 ∀(pos:Pos) (pins:List (Addr × Obj)) (s:Shared) (σ:St) (H:Hp) (Q:List V->Hp->Prop),Inv X pins σ H s->t σ H Q->wpAny (model X.prog X.w) X.A (spliced (backTo pos (starEach es X.env))) (AP X pins σ Q) X.xe s
noncomputable def PS (X:Cx) (st:Stmt) (t:TS):Prop:=
 ∀(pins:List (Addr × Obj)) (s:Shared) (σ:St) (H:Hp) (D:Ends),Inv X pins σ H s->t D σ H->wpAny (model X.prog X.w) X.A (exec st X.env) (SP X pins D) X.xe s
noncomputable def PSs (X:Cx) (st:List Stmt) (t:TS):Prop:=
 ∀(pins:List (Addr × Obj)) (s:Shared) (σ:St) (H:Hp) (D:Ends),Inv X pins σ H s->t D σ H->wpAny (model X.prog X.w) X.A (execs st X.env) (SP X pins D) X.xe s
theorem thn {α:Type} {t:Sem α} {Q Q':α->Shared->Prop} {M:Model} {A:Around} {E:Value->Shared->Prop} {s:Shared} (h:wpAny M A t Q E s) (hQ:∀a s,Q a s->Q' a s):wpAny M A t Q' E s:=wpAny_mono h hQ fun _ _ x=>x
section
variable {X:Cx}
noncomputable def KG (i:Nat):TE:=fun σ H Q=>∃v,σ[i]?=some (some v)/\Q v H
noncomputable def tC (v:V):TE:=fun _ H Q=>Q v H
theorem Hs {i:Nat} {x:Str} {pos:Pos} (hN:X.N[i]?=some x) (hv:Vis X.env.scope x) (hd:(x == ("__debug__" : Str))=false:=by decide) (hcd:(x == ("__classdict__" : Str))=false:=by decide):PE X (.Name x pos) (KG i):=by
 intro pins s σ H Q I h
 obtain⟨v,e,h⟩:=h
 obtain⟨m,hn,hl⟩:=I.loc
 obtain⟨u,r,l⟩:=hl i x v hN e hv
 have fin:EP X pins σ Q u s:=⟨v,H,I,r,h⟩
 rcases l with⟨hk,hm⟩ | ⟨hk,c,hc,hcell⟩
 ·exact wpAny_Name (wpAny_loadName_local I.ok.kind hk hn hm fin) hd
 ·rcases hk with hk | hk
  ·exact wpAny_Name (wpAny_loadName_cell I.ok.kind hk hc hcell fin) hd
  ·exact wpAny_Name (wpAny_loadName_free I.ok.kind hk hc hcell fin hcd) hd
theorem F8 {i j pos}:PE X (.Constant (.int i) j pos) (tC (.int i)):=fun _ _ _ H _ I h=>wpAny_Constant_int ⟨.int i,H,I.tok _,⟨_,rfl⟩,h⟩
theorem JJ {b j pos}:PE X (.Constant (.bool b) j pos) (tC (.bl b)):=fun _ _ _ H _ I h=>Constant_bool ⟨.bl b,H,I,rfl,h⟩
noncomputable def Gl (X:Cx) (x:Str):Prop:=X.env.kindOf x=some .globalImplicit
theorem ya {E:Value->Shared->Prop} {pins:List (Addr × Obj)} {s:Shared} {σ:St} {H:Hp} {x:Str} {u:Value} {pos:Pos} {Q:Value->Shared->Prop} (I:Inv X pins σ H s) (hg:Gl X x) (hm:X.mg x=some u) (h:Q u s)
  (hd:(x == ("__debug__" : Str))=false:=by decide):wpAny (model X.prog X.w) X.A (eval (.Name x pos) X.env) Q E s:=
 Calls.Name_function_global I.ok.kind hg (Calls.loadGlobal_global (by rw[I.ok.glob];exact I.mod.glob.keeps I.bk) hm h) hd
theorem jm {E:Value->Shared->Prop} {pins:List (Addr × Obj)} {s:Shared} {σ:St} {H:Hp} {x:Str} {u:Value} {pos:Pos} {Q:Value->Shared->Prop} (I:Inv X pins σ H s) (hg:Gl X x) (hm:X.mg x=none) (hv:bootBuiltins x=some u) (h:Q u s)
  (hn:x≠"__name__" := by decide) (hd:(x == ("__debug__" : Str))=false:=by decide):wpAny (model X.prog X.w) X.A (eval (.Name x pos) X.env) Q E s:=by
 obtain⟨mb,h1,h2⟩:=I.mod.blt
 exact Calls.Name_function_global I.ok.kind hg (Calls.loadGlobal_builtin (by rw[I.ok.glob];exact I.mod.glob.keeps I.bk) hm (by rw[I.ok.blt];exact h1.keeps I.bk) ((h2 x hn).trans hv) h) hd
theorem DX {x:Str} {v:V} {u:Value} {pos:Pos} (hg:Gl X x) (hm:X.mg x=some u) (r:RelV v u) (hd:(x == ("__debug__" : Str))=false:=by decide):PE X (.Name x pos) (tC v):=
 fun _ _ _ H _ I h=>ya I hg hm ⟨v,H,I,r,h⟩ hd
theorem DH {x:Str} {v:V} {u:Value} {pos:Pos} (hg:Gl X x) (hm:X.mg x=none) (hv:bootBuiltins x=some u) (r:RelV v u) (hn:x≠"__name__" := by decide) (hd:(x == ("__debug__" : Str))=false:=by decide):PE X (.Name x pos) (tC v):=
 fun _ _ _ H _ I h=>jm I hg hm hv ⟨v,H,I,r,h⟩ hn hd
variable {a b:Expr} {ta tb:TE} {pos:Pos}
variable {tA tB':TT} {rest:List Expr}
noncomputable def Ky (t u:TT):TT:=fun σ H Q=>t σ H fun c H1=>if c=true then u σ H1 Q else Q false H1
noncomputable def tOr (t u:TT):TT:=fun σ H Q=>t σ H fun c H1=>if c=true then Q true H1 else u σ H1 Q
noncomputable def J6 (t:TT):TT:=fun σ H Q=>t σ H fun c H1=>Q (!c) H1
theorem pw_and1 (ha:PT X a tA):PW X (.BoolOp .And [a] pos) tA:=by
 intro wh pins s σ H Q I h
 refine isTrue_and (thn (ha pins s σ H Q I h) fun c s1 e=>?_)
 cases c with
 | true=>exact isTrue_and_nil e
 | false=>exact e
theorem pw_or1 (ha:PT X a tA):PW X (.BoolOp .Or [a] pos) tA:=by
 intro wh pins s σ H Q I h
 refine isTrue_or (thn (ha pins s σ H Q I h) fun c s1 e=>?_)
 cases c with
 | false=>exact isTrue_or_nil e
 | true=>exact e
theorem pw_and (ha:PT X a tA) (hb:PW X (.BoolOp .And (b::rest) pos) tB'):PW X (.BoolOp .And (a::b::rest) pos) (Ky tA tB'):=by
 intro wh pins s σ H Q I h
 refine isTrue_and (thn (ha pins s σ H _ I h) fun c s1 ⟨H1,I1,q1⟩=>?_)
 cases c with
 | true=>exact hb wh pins s1 σ H1 Q I1 q1
 | false=>exact⟨H1,I1,q1⟩
theorem pw_or (ha:PT X a tA) (hb:PW X (.BoolOp .Or (b::rest) pos) tB'):PW X (.BoolOp .Or (a::b::rest) pos) (tOr tA tB'):=by
 intro wh pins s σ H Q I h
 refine isTrue_or (thn (ha pins s σ H _ I h) fun c s1 ⟨H1,I1,q1⟩=>?_)
 cases c with
 | true=>exact⟨H1,I1,q1⟩
 | false=>exact hb wh pins s1 σ H1 Q I1 q1
theorem HJ (ha:PT X a tA):PT X (.UnaryOp .Not a pos) (J6 tA):=by
 intro pins s σ H Q I h
 exact isTrue_not (ha pins s σ H (fun c H1=>Q (!c) H1) I h)
noncomputable def IH (ta tb:TE):TE:=fun σ H Q=>ta σ H fun x H1=>∃c,x=.bl c/\if c=true then tb σ H1 Q else Q (.bl false) H1
noncomputable def Ip (ta:TE):TE:=fun σ H Q=>ta σ H fun x H1=>∃c,x=.bl c/\Q (.bl (!c)) H1
theorem GJ {op} {t:TE} (h:PE X a t):PE X (.BoolOp op [a] pos) t:=fun pins s σ H Q I hw=>BoolOp_one (h pins s σ H Q I hw)
theorem Hu (ha:PE X a ta) (hb:PE X (.BoolOp .And (b::rest) pos) tb):PE X (.BoolOp .And (a::b::rest) pos) (IH ta tb):=by
 intro pins s σ H Q I h
 refine BoolOp_and (thn (ha pins s σ H _ I h) fun v s1 ⟨x,H1,I1,r1,q1⟩=>?_)
 obtain⟨c,rfl,q1⟩:=q1
 cases r1
 refine wpAny_truthy_bool ?_
 cases c with
 | true=>exact hb pins s1 σ H1 Q I1 q1
 | false=>exact⟨.bl false,H1,I1,rfl,q1⟩
theorem FN (ha:PE X a ta):PE X (.UnaryOp .Not a pos) (Ip ta):=by
 intro pins s σ H Q I h
 refine UnaryOp_ (thn (ha pins s σ H _ I h) fun v s1 ⟨x,H1,I1,r1,q1⟩=>?_)
 obtain⟨c,rfl,q1⟩:=q1
 cases r1
 exact not_of (wpAny_truthy_bool ⟨.bl (!c),H1,I1,rfl,q1⟩)
noncomputable def tIf (t:TT) (ta tb:TE):TE:=fun σ H Q=>t σ H fun c H1=>if c=true then ta σ H1 Q else tb σ H1 Q
theorem Cr {c:Expr} (hc:PT X c tA) (ha:PE X a ta) (hb:PE X b tb):PE X (.IfExp c a b pos) (tIf tA ta tb):=by
 intro pins s σ H Q I h
 refine wpAny_IfExp (thn (hc pins s σ H _ I h) fun d s1 ⟨H1,I1,q1⟩=>?_)
 cases d with
 | true=>exact ha pins s1 σ H1 Q I1 q1
 | false=>exact hb pins s1 σ H1 Q I1 q1
end
noncomputable def SqL (K:PySem.W.Frag) (H:Hp) (a:Addr) (xs:List V):Prop:=
 Rd H a (.lst xs) ∨
  ∃(o:Obj) (its:Array Value) (n:Nat),K.lookup a=some o/\o.cls=.type "list" /\ o.dict=none/\o.data=.seq its n/\its.size<=sizeLine/\Vals xs its.toList
noncomputable def SqT (K:PySem.W.Frag) (H:Hp) (a:Addr) (xs:List V):Prop:=
 Rd H a (.tup xs) ∨
  ∃(o:Obj) (its:Array Value) (n:Nat),K.lookup a=some o/\o.cls=.type "tuple" /\ o.data=.seq its n/\its.size<=sizeLine/\Vals xs its.toList
noncomputable def KZ:Value->Option V
 | .none=>some .non
 | .bool b=>some (.bl b)
 | .int i _=>some (.int i)
 | .str x _=>some (.str x)
 | .bytes b _=>some (.byt b)
 | .float b _=>some (.flt b)
 | .ref a=>some (.ref a)
 | .type n=>some (.ty n)
 | _=>none
theorem RelV.abs {x:V} {u:Value} (r:RelV x u):KZ u=some x:=by
 cases x with
 | non=>cases r;rfl
 | bl _=>cases r;rfl
 | int _=>obtain⟨t,rfl⟩:=r;rfl
 | str _=>obtain⟨t,rfl⟩:=r;rfl
 | byt _=>obtain⟨t,rfl⟩:=r;rfl
 | flt _=>obtain⟨t,rfl⟩:=r;rfl
 | ref _=>cases r;rfl
 | ty _=>cases r;rfl
theorem RelV.inj {x y:V} {u:Value} (r:RelV x u) (q:RelV y u):x=y:=Option.some.inj (r.abs.symm.trans q.abs)
theorem Vals.inj:∀{xs ys:List V} {us:List Value},Vals xs us->Vals ys us->xs=ys
 | _,_,_,.nil,.nil=>rfl
 | _,_,_,.cons r t,.cons r' t'=>by rw[r.inj r',Vals.inj t t']
section
variable {X:Cx} {pins:List (Addr × Obj)} {σ:St} {H:Hp} {s:Shared} {a:Addr} {xs ys:List V}
theorem SqL.of {K:PySem.W.Frag} (h:H a=some (.lst xs)):SqL K H a xs:=.inl (.inl h)
theorem SqT.of {K:PySem.W.Frag} (h:H a=some (.tup xs)):SqT K H a xs:=.inl (.inl h)
theorem Inv.list (I:Inv X pins σ H s) (h:SqL X.K H a xs):∃its:List Value,Vals xs its/\PlainL s.heap a its.toArray/\xs.length<=sizeLine:=by
 rcases h with h | ⟨o,its,n,hk,hc,hd,hs,hz,r⟩
 ·obtain⟨z,its,n,r,e⟩:=h.ok I.hok
  exact⟨its,r,⟨_,n,e,rfl,rfl,rfl⟩,z⟩
 ·refine⟨its.toList,r,⟨o,n,I.kIn a o hk,hc,hd,by simpa using hs⟩,?_⟩
  have e:=r.length
  simp only[Array.length_toList] at e
  omega
theorem Inv.tuple (I:Inv X pins σ H s) (h:SqT X.K H a xs):∃its:List Value,Vals xs its/\IsTup s.heap a its.toArray/\xs.length<=sizeLine:=by
 rcases h with h | ⟨o,its,n,hk,hc,hs,hz,r⟩
 ·obtain⟨z,its,r,p⟩:=h.ok I.hok
  exact⟨its,r,p.tup,z⟩
 ·refine⟨its.toList,r,⟨o,I.kIn a o hk,hc,n,by simpa using hs⟩,?_⟩
  have e:=r.length
  simp only[Array.length_toList] at e
  omega
theorem Inv.jv (I:Inv X pins σ H s) (h:SqL X.K H a xs) (h':SqL X.K H a ys):xs=ys:=by
 obtain⟨its,r,⟨o,n,e,_,_,d⟩,_⟩:=I.list h
 obtain⟨its',r',⟨o',n',e',_,_,d'⟩,_⟩:=I.list h'
 rw[e] at e';cases e'
 rw[d] at d'
 injection d' with d1 _
 have:its=its':=by simpa using congrArg Array.toList d1
 subst this
 exact r.inj r'
theorem Inv.gZ (I:Inv X pins σ H s) (h:SqT X.K H a xs) (h':SqT X.K H a ys):xs=ys:=by
 obtain⟨its,r,⟨o,e,_,n,d⟩,_⟩:=I.tuple h
 obtain⟨its',r',⟨o',e',_,n',d'⟩,_⟩:=I.tuple h'
 rw[e] at e';cases e'
 rw[d] at d'
 injection d' with d1 _
 have:its=its':=by simpa using congrArg Array.toList d1
 subst this
 exact r.inj r'
end
noncomputable abbrev Cx.qr (X:Cx) (E:Value->Shared->Prop):Cx:={ X with xe:=E }
noncomputable abbrev Cx.nox (X:Cx):Cx:=X.qr fun _ _=>False
theorem Cx.Ok.qr {X:Cx} (ok:X.Ok) (E:Value->Shared->Prop):(X.qr E).Ok:=
 ⟨ok.mod,ok.kind,ok.glob,ok.blt,ok.above,ok.inj,ok.has,ok.cab,ok.hd,ok.frames,ok.stk,ok.exf,ok.bs,ok.bsz,ok.Af,ok.ET,ok.oW,ok.frf⟩
theorem Cx.Ok.jt {X:Cx} {E:Value->Shared->Prop} (ok:(X.qr E).Ok):X.Ok:=
 ⟨ok.mod,ok.kind,ok.glob,ok.blt,ok.above,ok.inj,ok.has,ok.cab,ok.hd,ok.frames,ok.stk,ok.exf,ok.bs,ok.bsz,ok.Af,ok.ET,ok.oW,ok.frf⟩
section
variable {X:Cx} {pins:List (Addr × Obj)} {σ:St} {H:Hp} {s:Shared} {E:Value->Shared->Prop}
theorem Inv.qr (I:Inv X pins σ H s) (E:Value->Shared->Prop):Inv (X.qr E) pins σ H s:=⟨I.ok.qr E,I.os,I.bare,I.base,I.loc,I.cell,I.free,I.jo,I.pin,I.hok,I.len⟩
theorem Inv.jt (I:Inv (X.qr E) pins σ H s):Inv X pins σ H s:=⟨I.ok.jt,I.os,I.bare,I.base,I.loc,I.cell,I.free,I.jo,I.pin,I.hok,I.len⟩
theorem SP.jt {D:Ends} {f:Flow} {s':Shared} (h:SP (X.qr E) pins D f s'):SP X pins D f s':=by
 cases f with
 | next=>obtain⟨σ',H',I,q⟩:=h;exact⟨σ',H',I.jt,q⟩
 | brk=>obtain⟨σ',H',I,q⟩:=h;exact⟨σ',H',I.jt,q⟩
 | cont=>obtain⟨σ',H',I,q⟩:=h;exact⟨σ',H',I.jt,q⟩
 | ret u=>obtain⟨v,σ',H',I,r,q⟩:=h;exact⟨v,σ',H',I.jt,r,q⟩
theorem PSs.nox {st:List Stmt} {t:TS} (h:PSs X.nox st t):PSs X st t:=fun pins s σ H D I hw=>
 wpAny_mono (h pins s σ H D (I.qr _) hw) (fun _ _ q=>q.jt) fun _ _ z=>False.elim z
end
section
variable {X:Cx} {st:Stmt} {rest:List Stmt} {t u:TS} {e:Expr} {te:TE} {pos:Pos}
noncomputable def Ia:TS:=fun D σ H=>D.nx σ H
noncomputable def Kd (t u:TS):TS:=fun D σ H=>t { D with nx:=u D } σ H
theorem Dw:PSs X [] Ia:=fun _ _ σ H _ I h=>wpAny_execs_nil ⟨σ,H,I,h⟩
theorem BH (h1:PS X st t) (h2:PSs X rest u):PSs X (st::rest) (Kd t u):=by
 intro pins s σ H D I h
 refine wpAny_execs_cons (thn (h1 pins s σ H { D with nx:=u D } I h) fun f s1 q=>?_)
 cases f with
 | next=>
  obtain⟨σ',H',I',q⟩:=q
  exact h2 pins s1 σ' H' D I' q
 | ret v=>exact q
 | brk=>exact q
 | cont=>exact q
theorem Du (h1:PS X st t):PSs X [st] t:=by
 intro pins s σ H D I h
 refine wpAny_execs_cons (thn (h1 pins s σ H D I h) fun f s1 q=>?_)
 cases f with
 | next=>exact wpAny_execs_nil q
 | ret v=>exact q
 | brk=>exact q
 | cont=>exact q
theorem Inv.quiet {pins:List (Addr × Obj)} {σ:St} {H:Hp} {s:Shared} (I:Inv X pins σ H s):interactive X.env=false:=by simp[interactive,I.ok.kind]
noncomputable def Iv (te:TE):TS:=fun D σ H=>te σ H fun _ H1=>D.nx σ H1
theorem Dv (he:PE X e te) (hs:swapsWith e none pos.line X.env=pure false:=by rfl):PS X (.Expr e pos) (Iv te):=by
 intro pins s σ H D I h
 exact wpAny_Expr_any (thn (he pins s σ H _ I h) fun v s1 ⟨x,H1,I1,r1,q1⟩=>⟨σ,H1,I1,q1⟩) I.quiet hs
noncomputable def Kj (te:TE):TS:=fun D σ H=>te σ H D.rt
theorem G0 (he:PE X e te):PS X (.Return (some e) pos) (Kj te):=by
 intro pins s σ H D I h
 exact wpAny_Return_some (thn (he pins s σ H _ I h) fun v s1 ⟨x,H1,I1,r1,q1⟩=>⟨x,σ,H1,I1,r1,q1⟩)
noncomputable def La (c:TT) (t u:TS):TS:=fun D σ H=>c σ H fun b H1=>if b=true then t D σ H1 else u D σ H1
theorem Jy {c:Expr} {a b:List Stmt} {tc:TT} (hc:PT X c tc) (ha:PSs X a t) (hb:PSs X b u):PS X (.If c a b pos) (La tc t u):=by
 intro pins s σ H D I h
 refine wpAny_If (thn (hc pins s σ H _ I h) fun d s1 ⟨H1,I1,q1⟩=>?_)
 cases d with
 | true=>exact ha pins s1 σ H1 D I1 q1
 | false=>exact hb pins s1 σ H1 D I1 q1
noncomputable def Hy:TS:=fun _ _ _=>False
theorem hG:PS X st Hy:=fun _ _ _ _ _ _ h=>h.elim
end
noncomputable abbrev TG:=V->St->Hp->(St->Hp->Prop)->Prop
noncomputable abbrev TGs:=List V->St->Hp->(St->Hp->Prop)->Prop
noncomputable def PG (X:Cx) (target:Expr) (t:TG):Prop:=
 ∀(pins:List (Addr × Obj)) (s:Shared) (σ:St) (H:Hp) (v:V) (u:Value) (Q:St->Hp->Prop),Inv X pins σ H s->RelV v u->t v σ H Q →
  wpAny (model X.prog X.w) X.A (assign target X.env u) (fun _ s'=>∃σ' H',Inv X pins σ' H' s'/\Q σ' H') X.xe s
noncomputable def PGs (X:Cx) (ts:List Expr) (t:TGs):Prop:=
 ∀(pins:List (Addr × Obj)) (s:Shared) (σ:St) (H:Hp) (vs:List V) (us:List Value) (Q:St->Hp->Prop),Inv X pins σ H s->Vals vs us->t vs σ H Q →
  wpAny (model X.prog X.w) X.A (assignInOrder ((assignEach ts X.env).map (·.2)) us) (fun _ s'=>∃σ' H',Inv X pins σ' H' s'/\Q σ' H') X.xe s
noncomputable abbrev xi:=V->V->V->Hp->(Hp->Prop)->Prop
noncomputable def E3 (X:Cx) (t:xi):Prop:=
 ∀(pins:List (Addr × Obj)) (s:Shared) (σ:St) (H:Hp) (o i v:V) (ov iv u:Value) (Q:Hp->Prop),Inv X pins σ H s->RelV o ov->RelV i iv->RelV v u->t o i v H Q →
  wpAny (model X.prog X.w) X.A (setItem ov iv u) (fun _ s'=>∃H',Inv X pins σ H' s'/\Q H') X.xe s
noncomputable abbrev TIp:=V->V->Hp->VK->Prop
noncomputable def PIp (X:Cx) (op:Operator) (t:TIp):Prop:=
 ∀(pins:List (Addr × Obj)) (s:Shared) (σ:St) (H:Hp) (x y:V) (v u:Value) (Q:VK),Inv X pins σ H s->RelV x v->RelV y u->t x y H Q →
  wpAny (model X.prog X.w) X.A (inplaceOp op v u) (EP X pins σ Q) X.xe s
section
variable {X:Cx} {pos:Pos}
noncomputable def dE (i:Nat):TG:=fun v σ H Q=>Q (σ.set i (some v)) H
theorem bb {i:Nat} {x:Str} (hN:X.N.Nodup) (hi:X.N[i]?=some x) (hx:Loc X.env.scope x) (hf:X.fn x=true\/X.env.scope.names.lookup x=some .local:=by first | exact .inl rfl | exact .inr rfl | assumption):PG X (.Name x pos) (dE i):=by
 intro pins s σ H v u Q I r h
 exact wpAny_assign_Name (fY I hN hi hx r (fun s' I'=>⟨_,H,I',h⟩) hf)
noncomputable def B5:TGs:=fun vs σ H Q=>vs=[]/\Q σ H
noncomputable def kJ (t:TG) (u:TGs):TGs:=fun vs σ H Q=>∃v r,vs=v::r/\t v σ H fun σ' H'=>u r σ' H' Q
theorem n6:PGs X [] B5:=by
 intro pins s σ H vs us Q I r h
 obtain⟨e,h⟩:=h
 subst e
 cases r
 exact assignInOrder_nil ⟨σ,H,I,h⟩
theorem eV {e:Expr} {es:List Expr} {t:TG} {u:TGs} (h1:PG X e t) (h2:PGs X es u)
  (hs:(assignEach (e::es) X.env).map (·.2)=assign e X.env::(assignEach es X.env).map (·.2):=by rfl):PGs X (e::es) (kJ t u):=by
 intro pins s σ H vs us Q I r h
 obtain⟨v,vr,e1,h⟩:=h
 subst e1
 cases r with
 | cons r rr=>
  rw[hs]
  refine assignInOrder_cons (thn (h1 pins s σ H _ _ _ I r h) fun _ s1 ⟨σ1,H1,I1,q1⟩=>?_)
  exact h2 pins s1 σ1 H1 _ _ Q I1 rr q1
noncomputable def AJ (K:PySem.W.Frag) (n:Nat) (t:TGs):TG:=fun v σ H Q=>∃a xs,v=.ref a/\SqT K H a xs/\xs.length=n/\t xs σ H Q
theorem t_ {es:List Expr} {k:Nat} {t:TGs} {n:Nat} (hc:X.calm=true) (h:PGs X es t)
  (hn:(assignEach es X.env).length=n:=by rfl) (hst:(assignEach es X.env).findIdx? (·.1)=none:=by rfl):PG X (.Tuple es k pos) (AJ X.K n t):=by
 intro pins s σ H v u Q I r hw
 obtain⟨a,xs,e1,hq,hl,hw⟩:=hw
 subst e1
 cases r
 obtain⟨its,rv,ht,hz⟩:=I.tuple hq
 refine assign_Tuple_tuple (I.ok.hd hc) ht (by simp[hn,<- hl,rv.length]) hst fun h' hx=>?_
 have I1:Inv X pins σ H { s with heap:=h' }:=I.kept (t':=s.toks) fun b o e=>hx b o (Nat.ne_of_lt (Heap.lt_size e)) e
 exact h pins _ σ H xs _ Q I1 (by simpa using rv) hw
noncomputable def Kn (to ti:TE) (t:xi):TG:=fun v σ H Q=>to σ H fun o H1=>ti σ H1 fun i H2=>t o i v H2 fun H3=>Q σ H3
theorem GO {o i:Expr} {to ti:TE} {t:xi} (ho:PE X o to) (hi:PE X i ti) (hs:E3 X t)
  (ha:∀v,assign (.Subscript o i pos) X.env v=(do
   let ov ← holding [v] (eval o X.env)
   let iv ← holding [v,ov] (eval i X.env)
   standAt pos
   holding [v,ov,iv] (setItem ov iv v)
   release [v,ov,iv] []):=by intro _;rfl):PG X (.Subscript o i pos) (Kn to ti t):=by
 intro pins s σ H v u Q I r h
 rw[ha]
 refine wpAny_bind (wpAny_holding (thn (ho pins s σ H _ I h) fun ov s1 ⟨x,H1,I1,r1,q1⟩=>?_))
 refine wpAny_bind (wpAny_holding (thn (hi pins s1 σ H1 _ I1 q1) fun iv s2 ⟨y,H2,I2,r2,q2⟩=>?_))
 refine wpAny_bind (wpAny_standAt (wpAny_bind (wpAny_holding (thn (hs pins s2 σ H2 x y v ov iv u _ I2 r1 r2 r q2) fun _ s3 ⟨H3,I3,q3⟩=>?_))))
 exact wpAny_release ⟨σ,H3,I3,q3⟩
noncomputable def DA (te:TE) (g:TG):TS:=fun D σ H=>te σ H fun x H1=>g x σ H1 D.nx
theorem CT {tg e:Expr} {te:TE} {g:TG} (he:PE X e te) (hg:PG X tg g) (hs:swapsWithSole [tg] e pos.line X.env=pure false:=by rfl) (hw:swappedStores [tg] e X.env=pure none:=by rfl)
  (h1:(assignEach [tg] X.env).map (·.2)=[assign tg X.env]:=by rfl):PS X (.Assign [tg] e pos) (DA te g):=by
 intro pins s σ H D I h
 refine wpAny_Assign_stores (thn (he pins s σ H _ I h) fun v s1 ⟨x,H1,I1,r1,q1⟩=>?_) hs hw
 rw[h1]
 exact thn (hg pins s1 σ H1 x v _ I1 r1 q1) fun _ s2 q=>q
theorem Hm {i:Nat} {x:Str} {e:Expr} {te:TE} {pos':Pos} (hN:X.N.Nodup) (hi:X.N[i]?=some x) (hx:Loc X.env.scope x) (he:PE X e te) (hs:swapsWith e (some (.Name x pos')) pos.line X.env=pure false:=by rfl) (hf:X.fn x=true\/X.env.scope.names.lookup x=some .local:=by first | exact .inl rfl | exact .inr rfl | assumption) :
  PS X (.Assign [.Name x pos'] e pos) (DA te (dE i)):=by
 intro pins s σ H D I h
 refine wpAny_Assign_Name (thn (he pins s σ H _ I h) fun v s1 ⟨y,H1,I1,r1,q1⟩=>?_) hs
 exact fY I1 hN hi hx r1 (fun s2 I2=>⟨_,H1,I2,q1⟩) hf
noncomputable def KS (i j:Nat) (ta:TA):TS:=fun D σ H=>ta σ H fun vs H1=>∃v w,vs=[v,w]/\D.nx ((σ.set i (some v)).set j (some w)) H1
theorem GI {i j:Nat} {x y:Str} {a b:Expr} {ta:TA} {px py pt:Pos} {kt k2 pt2} (hc:X.calm=true) (hN:X.N.Nodup) (hi:X.N[i]?=some x) (hj:X.N[j]?=some y) (hij:i≠j)
  (hx:X.env.scope.names.lookup x=some .local) (hy:X.env.scope.names.lookup y=some .local) (ha:PA X [a,b] ta)
  (hw:swappedStores [.Tuple [.Name x px,.Name y py] kt pt] (.Tuple [a,b] k2 pt2) X.env=pure (some [x,y]))
  (hs:swapsWithSole [.Tuple [.Name x px,.Name y py] kt pt] (.Tuple [a,b] k2 pt2) pos.line X.env=pure false:=by rfl) :
  PS X (.Assign [.Tuple [.Name x px,.Name y py] kt pt] (.Tuple [a,b] k2 pt2) pos) (KS i j ta):=by
 intro pins s σ H D I h
 rw[exec_Assign_arm]
 refine wpAny_bind (wpAny_standAt ?_)
 rw[hs]
 refine wpAny_bind (wpAny_pure ?_)
 rw[if_neg (by decide)]
 refine wpAny_bind (Tuple_ (thn (ha _ pins s σ H _ I h) fun us s1 ⟨vs,H1,I1,r1,q1⟩=>?_))
 obtain⟨v,w,e1,q1⟩:=q1
 subst e1
 obtain⟨u1,u2,rfl,rv,rw'⟩:∃u1 u2,us=[u1,u2]/\RelV v u1/\RelV w u2:=by
  cases r1 with
  | cons p q=>
   cases q with
   | cons p' q'=>
    cases q'
    exact⟨_,_,rfl,p,p'⟩
 refine wpAny_newObj_type ?_ (by show 2<=sizeLine;decide)
 have I2:Inv X pins σ H1 { s1 with heap:=s1.heap.push { cls:=.type "tuple", data:=.seq [u1,u2].toArray } }:=I1.kept (t':=s1.toks) fun b o e=>Heap.get?_push_of_some _ e
 rw[hw]
 refine wpAny_bind (wpAny_pure ?_)
 show wpAny (model X.prog X.w) X.A (do rule "assign.swapped-stores"; let items ← unpackItems (.ref s1.heap.objs.size) 2 none;assignInOrder [fun v=>bindName X.env y v,fun v=>bindName X.env x v] items.reverse;pure Flow.next) _ _ _
 refine wpAny_bind (wpAny_rule (wpAny_bind (unpackItems_tuple (items:=#[u1,u2]) (I.ok.hd hc) (IsTup.new s1.heap _) fun h' hx'=>?_)))
 have I3:=I2.kept (h':=h') (t':=s1.toks) fun b o e=>hx' b o (Nat.ne_of_lt (Heap.lt_size e)) e
 show wpAny _ _ (assignInOrder [fun v=>bindName X.env y v,fun v=>bindName X.env x v] [u2,u1] >>= fun _=>pure Flow.next) _ _ _
 refine wpAny_bind (assignInOrder_cons (wpAny_bindName (fY I3 hN hj (.inl hy) rw' (fun s2 I4=>?_) (.inr hy))))
 refine assignInOrder_cons (wpAny_bindName (fY I4 hN hi (.inl hx) rv (fun s3 I5=>assignInOrder_nil (wpAny_pure ?_)) (.inr hx)))
 rw[List.set_comm _ _ (Ne.symm hij)] at I5
 exact⟨_,H1,I5,q1⟩
noncomputable def Lq (i:Nat) (te:TE) (ti:TIp):TS:=fun D σ H=>∃x,σ[i]?=some (some x)/\te σ H fun y H1=>ti x y H1 fun z H2=>D.nx (σ.set i (some z)) H2
theorem FY {i:Nat} {x:Str} {e:Expr} {te:TE} {op:Operator} {ti:TIp} {pos':Pos} (hN:X.N.Nodup) (hi:X.N[i]?=some x) (hx:Loc X.env.scope x) (he:PE X e te) (ho:PIp X op ti) (hf:X.fn x=true\/X.env.scope.names.lookup x=some .local:=by first | exact .inl rfl | exact .inr rfl | assumption) :
  PS X (.AugAssign (.Name x pos') op e pos) (Lq i te ti):=by
 intro pins s σ H D I h
 obtain⟨v,e1,h⟩:=h
 obtain⟨m,hn,hl⟩:=I.loc
 have vis:Vis X.env.scope x:=by rcases hx with k | k;exact .inl k;exact .inr (.inl k)
 obtain⟨u,r,l⟩:=hl i x v hi e1 vis
 refine wpAny_AugAssign_Name ?_
 have go:wpAny (model X.prog X.w) X.A (eval e X.env) (fun w s₂=>wpAny (model X.prog X.w) X.A (inplaceOp op u w) (fun r s₃=>wpAny (model X.prog X.w) X.A (storeName X.env x r) (fun _=>SP X pins D .next) X.xe s₃) X.xe s₂) X.xe s:=by
  refine thn (he pins s σ H _ I h) fun w s1 ⟨y,H1,I1,r1,q1⟩=>?_
  refine thn (ho pins s1 σ H1 v y u w _ I1 r r1 q1) fun z s2 ⟨zv,H2,I2,r2,q2⟩=>?_
  exact fY I2 hN hi hx r2 (fun s3 I3=>⟨_,H2,I3,q2⟩) hf
 rcases l with⟨hk,hm⟩ | ⟨hk,c,hc,hcell⟩
 ·exact wpAny_loadName_local I.ok.kind hk hn hm go
 ·rcases hk with hk | hk
  ·exact wpAny_loadName_cell I.ok.kind hk hc hcell go
  ·rcases hx with k | k
   ·have:X.env.scope.names.lookup x=some .free:=hk
    rw[k] at this;cases this
   ·have:X.env.scope.names.lookup x=some .free:=hk
    rw[k] at this;cases this
noncomputable def Jz (to ti te:TE) (tget:V->V->Hp->VK->Prop) (tip:TIp) (tset:xi):TS:=fun D σ H=>to σ H fun o H1=>ti σ H1 fun i H2=>tget o i H2 fun x H3=>te σ H3 fun y H4=>tip x y H4 fun z H5=>tset o i z H5 fun H6=>D.nx σ H6
noncomputable def JN (X:Cx) (t:V->V->Hp->VK->Prop):Prop:=
 ∀(pins:List (Addr × Obj)) (s:Shared) (σ:St) (H:Hp) (o i:V) (ov iv:Value) (Q:VK),Inv X pins σ H s->RelV o ov->RelV i iv->t o i H Q →
  wpAny (model X.prog X.w) X.A (getItem ov iv) (EP X pins σ Q) X.xe s
theorem EY {o i e:Expr} {to ti te:TE} {tget:V->V->Hp->VK->Prop} {tip:TIp} {tset:xi} {op:Operator} {tpos:Pos} (ho:PE X o to) (hi:PE X i ti) (hg:JN X tget) (he:PE X e te) (hp:PIp X op tip) (hs:E3 X tset)
  (ha:∀ov iv new,augStore i ov iv new=(do holding [new,ov,iv] (setItem ov iv new);release [new,ov,iv] [];pure .next):=by intros;rfl):PS X (.AugAssign (.Subscript o i tpos) op e pos) (Jz to ti te tget tip tset):=by
 intro pins s σ H D I h
 refine wpAny_AugAssign_SubscriptAny (thn (ho pins s σ H _ I h) fun ov s1 ⟨x1,H1,I1,r1,q1⟩=>?_) ha
 refine thn (hi pins s1 σ H1 _ I1 q1) fun iv s2 ⟨x2,H2,I2,r2,q2⟩=>?_
 refine thn (hg pins s2 σ H2 x1 x2 ov iv _ I2 r1 r2 q2) fun old s3 ⟨x3,H3,I3,r3,q3⟩=>?_
 refine thn (he pins s3 σ H3 _ I3 q3) fun v s4 ⟨x4,H4,I4,r4,q4⟩=>?_
 refine thn (hp pins s4 σ H4 x3 x4 old v _ I4 r3 r4 q4) fun new s5 ⟨x5,H5,I5,r5,q5⟩=>?_
 exact thn (hs pins s5 σ H5 x1 x2 x5 ov iv new _ I5 r1 r2 r5 q5) fun _ s6 ⟨H6,I6,q6⟩=>⟨σ,H6,I6,q6⟩
noncomputable def ipI (f:Int->Int->Int):TIp:=fun x y H Q=>∃i j,x=.int i/\y=.int j/\Q (.int (f i j)) H
theorem C3:PIp X .Add (ipI fun i j=>i+j):=by
 intro pins s σ H x y v u Q I r1 r2 h
 obtain⟨i,j,e1,e2,q⟩:=h
 subst e1;subst e2
 obtain⟨t,rfl⟩:=r1
 obtain⟨t',rfl⟩:=r2
 exact iadd_int ⟨.int _,H,I.tok _,⟨_,rfl⟩,q⟩
end
section
variable {X:Cx} {pos:Pos}
noncomputable def G_ (c:TT) (tb:TS):TS:=fun D σ H=>∃W:Nat->St->Hp->Prop,(∃m,W m σ H)/\∀m σ H,W m σ H →
 c σ H fun b H1=>if b=true then ∃N:St->Hp->Prop,(∀σ' H',N σ' H'->∃m',m'<m/\W m' σ' H')/\tb { D with nx:=N,ct:=N,bk:=D.nx } σ H1 else D.nx σ H1
theorem Bp {c:Expr} {body:List Stmt} {tc:TT} {tb:TS} (hp:PassesOwn (model X.prog X.w) X.A X.env X.xe) (hc:PT X c tc) (hb:PSs X body tb):PS X (.While c body [] pos) (G_ tc tb):=by
 intro pins s σ H D I h
 obtain⟨W,⟨m0,w0⟩,turn⟩:=h
 refine wpAny_While (codeAny_whileLoop (fun n s'=>∃σ' H',Inv X pins σ' H' s'/\W n σ' H') ?_ m0 ⟨σ,H,I,w0⟩)
 rintro n s1 ⟨σ1,H1,I1,w1⟩
 refine wpAny_passesOwn hp (thn (hc pins s1 σ1 H1 _ I1 (turn n σ1 H1 w1)) fun b s2 ⟨H2,I2,q2⟩=>?_)
 cases b with
 | true=>
  obtain⟨N,hN,q2⟩:=q2
  rw[if_pos rfl]
  refine wpAny_passesOwn hp (thn (hb pins s2 σ1 H2 _ I2 q2) fun f s3 q3=>?_)
  cases f with
  | next=>
   obtain⟨σ3,H3,I3,n3⟩:=q3
   obtain⟨m',hm,w3⟩:=hN σ3 H3 n3
   exact⟨m',hm,σ3,H3,I3,w3⟩
  | cont=>
   obtain⟨σ3,H3,I3,n3⟩:=q3
   obtain⟨m',hm,w3⟩:=hN σ3 H3 n3
   exact⟨m',hm,σ3,H3,I3,w3⟩
  | brk=>exact q3
  | ret v=>exact q3
 | false=>
  rw[if_neg Bool.false_ne_true]
  exact wpAny_execs_nil ⟨σ1,H2,I2,q2⟩
end
structure It where
 go:Nat->Hp->Prop
 yld:Nat->Hp->V->Hp->Prop
 stop:Nat->Hp->Prop
noncomputable def mx (X:Cx) (pins:List (Addr × Obj)) (H:Hp) (b:Addr):Prop:=
 H b=none/\b≠X.env.locals/\b∉X.fs/\(b∈X.ex\/X.aK.heap.objs.size<=b)/\(∀x c,X.env.cells.lookup x=some c->c≠b)/\∀p∈X.pn++pins,p.1≠b
theorem Inv.Ag {X:Cx} {pins:List (Addr × Obj)} {σ:St} {H H':Hp} {s:Shared} {b:Addr} (I:Inv X pins σ H s) (hb:s.heap.objs.size<=b) (hn:H' b=none):mx X pins H' b:=by
 refine⟨hn,Nat.ne_of_gt (Nat.lt_of_lt_of_le I.lt hb),I.Gw hb,.inr (Nat.le_trans I.sz hb),fun x c e z=>?_,fun p hp z=>?_⟩
 ·obtain⟨v,q⟩:=I.cell x c e
  exact absurd (Nat.lt_of_lt_of_le q.lt (by rw[z];exact hb)) (Nat.lt_irrefl _)
 ·exact absurd (Nat.lt_of_lt_of_le (Heap.lt_size (I.pin p hp).1) (by rw[z];exact hb)) (Nat.lt_irrefl _)
structure Turn (P:Program) (w:World) (K:PySem.W.Frag) (tg:Expr) (J:It) (fp:List Addr) (it:Addr) (tn:Nat->Heap->Prop):Prop where
 mem:it∈fp
 obj:∀i h,tn i h->∀b∈fp,∃o,h.get? b=some o/\∀v,o.data≠.cell v
 keep:∀i h h',tn i h->(∀b∈fp,∀o,h.get? b=some o->h'.get? b=some o)->tn i h'
 item:∀(X:Cx),X.prog=P->X.w=w->X.K=K->X.calm=true->∀(i:Nat) (pins:List (Addr × Obj)) (s:Shared) (σ:St) (H:Hp) (E:Value->Shared->Prop),Inv X pins σ H s->(∀b∈fp,mx X pins H b)->tn i s.heap->J.go i H →
  wpAny (model P w) X.A (pyNext (.ref it)) (fun r s1=>∃u,r=some u ∧
   wpAny (model P w) X.A (letOwnedTupleGo tg (.ref it) u) (fun _ s2=>∃x H',Inv X pins σ H' s2/\RelV x u/\J.yld i H x H'/\tn (i+1) s2.heap/\∀b∈fp,H' b=none) E s1) E s
 done:∀(X:Cx),X.prog=P->X.w=w->X.K=K->X.calm=true->∀(i:Nat) (pins:List (Addr × Obj)) (s:Shared) (σ:St) (H:Hp) (E:Value->Shared->Prop),Inv X pins σ H s->(∀b∈fp,mx X pins H b)->tn i s.heap->J.stop i H →
  wpAny (model P w) X.A (pyNext (.ref it)) (fun r s1=>r=none/\Inv X pins σ H s1) E s
 self:∀(A:Around) (i:Nat) (s:Shared) (Q:Value->Shared->Prop) (E:Value->Shared->Prop),tn i s.heap->Q (.ref it) s->wpAny (model P w) A (pyIter (.ref it)) Q E s
noncomputable abbrev TI:=St->Hp->(It->Hp->Prop)->Prop
noncomputable def PIE (X:Cx) (pins:List (Addr × Obj)) (σ:St) (tg:Expr) (R:It->Hp->Prop) (itv:Value) (s2:Shared):Prop:=
 ∃(it:Addr) (fp:List Addr) (tn:Nat->Heap->Prop) (J:It) (H':Hp),itv=.ref it/\Inv X pins σ H' s2/\Turn X.prog X.w X.K tg J fp it tn/\tn 0 s2.heap/\(∀b∈fp,mx X pins H' b)/\R J H'
noncomputable def PI (X:Cx) (tg iter:Expr) (wi:TI):Prop:=
 ∀(pins:List (Addr × Obj)) (s:Shared) (σ:St) (H:Hp) (R:It->Hp->Prop),Inv X pins σ H s->wi σ H R →
  wpAny (model X.prog X.w) X.A (eval iter X.env) (fun v s1=>wpAny (model X.prog X.w) X.A (pyIter v) (PIE X pins σ tg R) X.xe s1) X.xe s
theorem xC {M:Model} {A:Around} {E:Value->Shared->Prop} {s:Shared} {tg:Expr} {it:Addr} {u:Value} {o:Obj} {n:String} {vs:Array Value} {Q:Unit->Shared->Prop} (ho:s.heap.get? it=some o) (hc:o.cls=.type n) (hd:o.data=.fields vs)
  (hn:["enumerate", "zip", "dict_itemiterator", "dict_reverseitemiterator", "odict_iterator", "itertools.zip_longest", "itertools.pairwise"].contains n=false) (hQ:Q () s):wpAny M A (letOwnedTupleGo tg (.ref it) u) Q E s:=by
 unfold letOwnedTupleGo
 cases tg<;>first
  | exact wpAny_pure hQ
  | (cases u<;>first
    | exact wpAny_pure hQ
    | (refine wpAny_bind (wpAny_load ho ?_)
       rw[hc,hd]
       show wpAny M A (if (["enumerate", "zip", "dict_itemiterator", "dict_reverseitemiterator", "odict_iterator", "itertools.zip_longest", "itertools.pairwise"].contains n&&vs[0]? == some (rawInt _))=true then _ else _) Q E s
       rw[if_neg (by intro h;rw[hn,Bool.false_and] at h;cases h)]
       exact wpAny_pure hQ))
noncomputable def Itl (K:PySem.W.Frag) (a:Addr):It:=
 ⟨fun i H=>∃xs x,SqL K H a xs/\xs[i]?=some x,fun i H x H'=>H'=H/\∀xs,SqL K H a xs->xs[i]?=some x,fun i H=>∃xs,SqL K H a xs/\xs.length<=i⟩
noncomputable def Itt (K:PySem.W.Frag) (a:Addr):It:=
 ⟨fun i H=>∃xs x,SqT K H a xs/\xs[i]?=some x,fun i H x H'=>H'=H/\∀xs,SqT K H a xs->xs[i]?=some x,fun i H=>∃xs,SqT K H a xs/\xs.length<=i⟩
noncomputable def Itr (lo:Int) (n:Nat):It:=⟨fun i _=>i<n,fun i H x H'=>H'=H/\x=.int (lo+i),fun i _=>n<=i⟩
theorem zd {P:Program} {w:World} {K:PySem.W.Frag} {tg:Expr} (a it:Addr):Turn P w K tg (Itl K a) [it] it (fun i h=>h.IsListIter it a i) where
 mem:=by simp
 obj:=fun i h st b hb=>by
  have e:b=it:=by simpa using hb
  subst e
  obtain⟨o,e,c,d⟩:=st
  exact⟨o,e,fun v z=>by rw[d] at z;cases z⟩
 keep:=fun i h h' st k=>st.at fun o e=>k it (by simp) o e
 item:=by
  intro X hP hw hK hc i pins s σ H E I hf st hg
  subst hP hw hK
  obtain⟨xs,x,hq,hx⟩:=hg
  obtain⟨its,rv,p,hz⟩:=I.list hq
  obtain⟨u,hu,ru⟩:=rv.get hx
  obtain⟨f0,f1,f2,f3,f4,f5⟩:=hf it (by simp)
  refine wpAny_pyNext_list_item st p.isList (x:=u) (by simpa using hu) fun h' st' sb=>?_
  have I1:Inv X pins σ H { s with heap:=h' }:=I.turned (t':=s.toks) (fun b o hb e=>(sb.2 b hb).trans e) f0 f1 f3 f4 f5
  obtain⟨o,e,c,d⟩:=id st'
  exact⟨u,rfl,xC (s:={ s with heap:=h' }) e c d (by decide) ⟨x,H,I1,ru,⟨rfl,fun ys hy=>by rw[I.jv hy hq];exact hx⟩,st',fun b hb=>(hf b hb).1⟩⟩
 done:=by
  intro X hP hw hK hc i pins s σ H E I hf st hg
  subst hP hw hK
  obtain⟨xs,hq,hx⟩:=hg
  obtain⟨its,rv,p,hz⟩:=I.list hq
  obtain⟨f0,f1,f2,f3,f4,f5⟩:=hf it (by simp)
  have hl:=rv.length
  exact wpAny_pyNext_list_end (I.ok.hd hc) st p.isList (by simp;omega) fun h' eb=>⟨rfl,I.turned (t':=s.toks) (fun b o hb e=>eb b o hb e) f0 f1 f3 f4 f5⟩
 self:=fun _ _ _ _ _ st h=>wpAny_pyIter_listiter st h
theorem wD {P:Program} {w:World} {K:PySem.W.Frag} {tg:Expr} (a it:Addr):Turn P w K tg (Itt K a) [it] it (fun i h=>h.IsTupleIter it a i) where
 mem:=by simp
 obj:=fun i h st b hb=>by
  have e:b=it:=by simpa using hb
  subst e
  obtain⟨o,e,c,d⟩:=st
  exact⟨o,e,fun v z=>by rw[d] at z;cases z⟩
 keep:=fun i h h' st k=>st.at fun o e=>k it (by simp) o e
 item:=by
  intro X hP hw hK hc i pins s σ H E I hf st hg
  subst hP hw hK
  obtain⟨xs,x,hq,hx⟩:=hg
  obtain⟨its,rv,p,hz⟩:=I.tuple hq
  obtain⟨u,hu,ru⟩:=rv.get hx
  obtain⟨f0,f1,f2,f3,f4,f5⟩:=hf it (by simp)
  refine wpAny_pyNext_tuple_item st (show s.heap.IsTuple a its.toArray from p) (x:=u) (by simpa using hu) fun h' st' sb=>?_
  have I1:Inv X pins σ H { s with heap:=h' }:=I.turned (t':=s.toks) (fun b o hb e=>(sb.2 b hb).trans e) f0 f1 f3 f4 f5
  obtain⟨o,e,c,d⟩:=id st'
  exact⟨u,rfl,xC (s:={ s with heap:=h' }) e c d (by decide) ⟨x,H,I1,ru,⟨rfl,fun ys hy=>by rw[I.gZ hy hq];exact hx⟩,st',fun b hb=>(hf b hb).1⟩⟩
 done:=by
  intro X hP hw hK hc i pins s σ H E I hf st hg
  subst hP hw hK
  obtain⟨xs,hq,hx⟩:=hg
  obtain⟨its,rv,p,hz⟩:=I.tuple hq
  obtain⟨f0,f1,f2,f3,f4,f5⟩:=hf it (by simp)
  have hl:=rv.length
  exact wpAny_pyNext_tuple_end (I.ok.hd hc) st (show s.heap.IsTuple a its.toArray from p) (by simp;omega) fun h' eb=>⟨rfl,I.turned (t':=s.toks) (fun b o hb e=>eb b o hb e) f0 f1 f3 f4 f5⟩
 self:=fun _ _ _ _ _ st h=>wpAny_pyIter_tupleiter st h
theorem vS {P:Program} {w:World} {K:PySem.W.Frag} {tg:Expr} (it:Addr) (lo:Int) (n:Nat):Turn P w K tg (Itr lo n) [it] it (fun i h=>IsRangeIter h it (lo+(i:Nat)*1) ((n:Int) - (i:Nat)) 1) where
 mem:=by simp
 obj:=fun i h st b hb=>by
  have e:b=it:=by simpa using hb
  subst e
  exact⟨_,st,fun v z=>by
   have z':Data.fields _=Data.cell v:=z
   cases z'⟩
 keep:=fun i h h' st k=>k it (by simp) _ st
 item:=by
  intro X hP hw hK hc i pins s σ H E I hf st hg
  subst hP hw hK
  obtain⟨f0,f1,f2,f3,f4,f5⟩:=hf it (by simp)
  have W:=Walks.range (prog:=X.prog) (w:=X.w) (I.ok.hd hc) it lo 1 n
  refine W.item i s _ _ hg st fun v h' tk hv st' kk=>?_
  obtain⟨t,rfl⟩:=hv
  have I1:Inv X pins σ H { s with heap:=h',toks:=tk }:=I.turned (fun b o hb e=>kk b o (by simpa using hb) e) f0 f1 f3 f4 f5
  refine⟨_,rfl,xC (s:={ s with heap:=h',toks:=tk }) (n:="range_iterator") st' rfl rfl (by decide) ⟨.int (lo+i),H,I1,⟨t,?_⟩,⟨rfl,rfl⟩,st',fun b hb=>(hf b hb).1⟩⟩
  rw[Int.mul_one]
 done:=by
  intro X hP hw hK hc i pins s σ H E I hf st hg
  subst hP hw hK
  obtain⟨f0,f1,f2,f3,f4,f5⟩:=hf it (by simp)
  exact wpAny_pyNext_range_end (I.ok.hd hc) st (by have:n<=i:=hg;omega) fun h' eb=>⟨rfl,I.turned (t':=s.toks) (fun b o hb e=>eb b o hb e) f0 f1 f3 f4 f5⟩
 self:=fun _ _ _ _ _ st h=>wpAny_pyIter_rangeiter st h
section
variable {X:Cx} {tg:Expr}
theorem uD {pins:List (Addr × Obj)} {σ:St} {H:Hp} {s:Shared} {R:It->Hp->Prop} {E:Value->Shared->Prop} {lo hi:Int} {t u v:Tok} {tk:Nat} (I:Inv X pins σ H s) (h1:-(2 ^ 62)<=lo) (h2:lo<2 ^ 62) (h3:-(2 ^ 62)<=hi) (h4:hi<2 ^ 62)
  (q:R (Itr lo (hi - lo).toNat) H):wpAny (model X.prog X.w) X.A (pyIter (.ref s.heap.objs.size)) (PIE X pins σ tg R) E { s with heap:=s.heap.push { cls:=.type "range", data:=.fields #[.int lo t,.int hi u,.int 1 v] },toks:=tk }:=by
 refine wpAny_pyIter_range (IsRange.new ..) (small_one h1 h2 h3 h4) ?_
 have I1:Inv X pins σ H { s with heap:=s.heap.push { cls:=.type "range", data:=.fields #[.int lo t,.int hi u,.int 1 v] },toks:=tk }:=I.kept fun b o e=>Heap.get?_push_of_some _ e
 refine⟨(s.heap.push { cls:=.type "range", data:=.fields #[.int lo t,.int hi u,.int 1 v] }).objs.size,[(s.heap.push { cls:=.type "range", data:=.fields #[.int lo t,.int hi u,.int 1 v] }).objs.size],_,_,H,rfl,
  I1.kept (t':=tk) fun b o e=>Heap.get?_push_of_some _ e,vS _ lo (hi - lo).toNat,?_,fun b hb=>?_,q⟩
 ·have e1:lo+((0:Nat):Int)*1=lo:=by simp
  have e2:(((hi - lo).toNat:Nat):Int) - ((0:Nat):Int)=Builtin.Range.rangeSize lo hi 1:=by rw[rangeSize_one];split<;>omega
  show IsRangeIter _ _ (lo+((0:Nat):Int)*1) ((((hi - lo).toNat:Nat):Int) - ((0:Nat):Int)) 1
  rw[e1,e2]
  exact Heap.get?_push_size _ rfl
 ·have e:b=(s.heap.push { cls:=.type "range", data:=.fields #[.int lo t,.int hi u,.int 1 v] }).objs.size:=by simpa using hb
  subst e
  exact I1.Ag (Nat.le_refl _) (I1.hok.fresh (Nat.le_refl _))
noncomputable def Ic (ta:TA):TI:=fun σ H R=>ta σ H fun vs H1=>∃j:Int,vs=[.int j]/\-(2 ^ 62)<=j/\j<2 ^ 62/\R (Itr 0 j.toNat) H1
noncomputable def Jl (ta:TA):TI:=fun σ H R=>ta σ H fun vs H1=>∃i j:Int,vs=[.int i,.int j]/\(-(2 ^ 62)<=i/\i<2 ^ 62/\-(2 ^ 62)<=j/\j<2 ^ 62)/\R (Itr i (j - i).toNat) H1
theorem zU {a:Expr} {ta:TA} {p pos:Pos} (hg:Gl X "range") (hm:X.mg "range" = none) (ha:PA X [a] ta) (hs:starEach [a] X.env=[(false,eval a X.env)]:=by rfl):PI X tg (.Call (.Name "range" p) [a] [] pos) (Ic ta):=by
 intro pins s σ H R I h
 refine Call_ (jm I hg hm boot_range (PyProof.Rows.callWith_type1 (thn (ha pos pins s σ H _ I h) fun us s1 ⟨vs,H1,I1,r1,q1⟩=>?_) hs rfl))
 obtain⟨j,e,q1,q2,q⟩:=q1
 subst e
 cases r1 with
 | cons r rr=>
  cases rr
  obtain⟨t,rfl⟩:=r
  exact call_range_1 (uD I1 (by omega) (by omega) q1 q2 (by simpa using q))
theorem yY {a b:Expr} {ta:TA} {p pos:Pos} (hg:Gl X "range") (hm:X.mg "range" = none) (ha:PA X [a,b] ta) (hs:starEach [a,b] X.env=[(false,eval a X.env),(false,eval b X.env)]:=by rfl) (hs2:starEach [b] X.env=[(false,eval b X.env)]:=by rfl) :
  PI X tg (.Call (.Name "range" p) [a,b] [] pos) (Jl ta):=by
 intro pins s σ H R I h
 refine Call_ (jm I hg hm boot_range (PyProof.Rows.callWith_type1 (thn (ha pos pins s σ H _ I h) fun us s1 ⟨vs,H1,I1,r1,q1⟩=>?_) (by rw[hs,hs2]) (by rw[hs2];rfl)))
 obtain⟨i,j,e,⟨q1,q2,q3,q4⟩,q⟩:=q1
 subst e
 cases r1 with
 | cons r rr=>
  cases rr with
  | cons r' rr=>
   cases rr
   obtain⟨t,rfl⟩:=r
   obtain⟨t',rfl⟩:=r'
   exact call_range_2 (uD I1 q1 q2 q3 q4 q)
noncomputable def KH (wi:TI) (g:TG) (tb:TS):TS:=fun D σ H=>wi σ H fun J H1=>∃W:Nat->Nat->St->Hp->Prop,(∃m,W 0 m σ H1)/\∀i m σ H,W i m σ H →
 (J.stop i H/\D.nx σ H)\/(J.go i H/\∃N:St->Hp->Prop,(∀σ' H',N σ' H'->∃m',m'<m/\W (i+1) m' σ' H')/\∀x H',J.yld i H x H'->g x σ H' fun σ2 H2=>tb { D with nx:=N,ct:=N,bk:=D.nx } σ2 H2)
noncomputable def jF (fp:List Addr) (h:Heap):List (Addr × Obj):=fp.filterMap fun b=>(h.get? b).map fun o=>(b,o)
theorem cR {fp:List Addr} {h:Heap} {b:Addr} {o:Obj} (hb:b∈fp) (e:h.get? b=some o):(b,o)∈jF fp h:=List.mem_filterMap.mpr ⟨b,hb,by rw[e];rfl⟩
theorem zH {fp:List Addr} {h:Heap} {p:Addr × Obj} (hp:p∈jF fp h):p.1∈fp/\h.get? p.1=some p.2:=by
 obtain⟨b,hb,e⟩:=List.mem_filterMap.mp hp
 cases q:h.get? b with
 | none=>rw[q] at e;cases e
 | some o=>
  rw[q] at e
  have e':(b,o)=p:=Option.some.inj e
  subst e'
  exact⟨hb,q⟩
theorem Inv.pinned {pins:List (Addr × Obj)} {σ:St} {H:Hp} {s:Shared} {fp:List Addr} (I:Inv X pins σ H s) (hf:∀b∈fp,mx X pins H b) (ho:∀b∈fp,∃o,s.heap.get? b=some o/\∀v,o.data≠.cell v):Inv X (pins++jF fp s.heap) σ H s:=
 I.kL fun p hp=>(List.mem_append.mp hp).elim (fun z=>I.pin p (List.mem_append_right _ z)) fun z=>by
  obtain⟨hb,e⟩:=zH z
  obtain⟨f0,f1,f2,_⟩:=hf p.1 hb
  obtain⟨o,e',d⟩:=ho p.1 hb
  rw[e] at e';cases e'
  exact⟨e,f0,f1,f2,d⟩
theorem Inv.gT {pins pl:List (Addr × Obj)} {σ:St} {H:Hp} {s:Shared} (I:Inv X (pins++pl) σ H s):Inv X pins σ H s:=I.kL fun p hp=>I.pin p (List.mem_append_right _ (List.mem_append_left _ hp))
theorem Hw {iter:Expr} {body:List Stmt} {wi:TI} {g:TG} {tb:TS} {pos:Pos} (hp:PassesOwn (model X.prog X.w) X.A X.env X.xe) (hc:X.calm=true) (hi:PI X tg iter wi) (hg:PG X tg g) (hb:PSs X body tb)
  (hs:∀x,foldedSetIterable iter X.env x=pure x:=by intro _;rfl):PS X (.For tg iter body [] pos) (KH wi g tb):=by
 intro pins s σ H D I h
 refine wpAny_For (thn (hi pins s σ H _ I h) fun v s1 h1=>thn h1 fun itv s2 h2=>?_) hs
 obtain⟨it,fp,tn,J,H2,e,I2,T,st2,f2,W,⟨m0,w0⟩,turn⟩:=h2
 subst e
 -- what stays true of the iterator's objects through the loop
 have stat:∀{H':Hp},(∀b∈fp,H' b=none)->∀b∈fp,mx X pins H' b:=fun hn b hb=>⟨hn b hb,(f2 b hb).2⟩
 refine codeAny_forLoop_any (fun n s'=>∃i σ' H',Inv X pins σ' H' s'/\tn i s'.heap/\(∀b∈fp,H' b=none)/\W i n σ' H') ?_ m0 ⟨0,σ,H2,I2,st2,fun b hb=>(f2 b hb).1,w0⟩
 rintro n s3 ⟨i,σ3,H3,I3,st3,fr3,w3⟩
 rcases turn i n σ3 H3 w3 with⟨stop,qn⟩ | ⟨go,N,hN,step⟩
 ·refine wpAny_passesOwn hp (thn (T.done X rfl rfl rfl hc i pins s3 σ3 H3 X.xe I3 (stat fr3) st3 stop) fun r s4 ⟨hr,I4⟩=>?_)
  subst hr
  exact wpAny_execs_nil ⟨σ3,H3,I4,qn⟩
 ·refine wpAny_passesOwn hp (thn (T.item X rfl rfl rfl hc i pins s3 σ3 H3 X.xe I3 (stat fr3) st3 go) fun r s4 ⟨u,hr,h4⟩=>?_)
  subst hr
  refine wpAny_passesOwn hp (thn h4 fun _ s5 ⟨x,H5,I5,r5,y5,st5,fr5⟩=>?_)
  have I5':=I5.pinned (stat fr5) (T.obj _ _ st5)
  refine wpAny_passesOwn hp (thn (hg _ s5 σ3 H5 x u _ I5' r5 (step x H5 y5)) fun _ s6 ⟨σ6,H6,I6,q6⟩=>?_)
  refine wpAny_passesOwn hp (thn (hb _ s6 σ6 H6 _ I6 q6) fun f s7 q7=>?_)
  have again:∀{σ7:St} {H7:Hp},Inv X (pins++jF fp s5.heap) σ7 H7 s7->N σ7 H7->∃m,m<n/\∃i σ' H',Inv X pins σ' H' s7/\tn i s7.heap/\(∀b∈fp,H' b=none)/\W i m σ' H':=fun{σ7 H7} I7 n7=>by
   obtain⟨m',hm,w7⟩:=hN σ7 H7 n7
   refine⟨m',hm,i+1,σ7,H7,I7.gT,T.keep _ _ _ st5 fun b hb o e=>(I7.pin (b,o) (List.mem_append_right _ (List.mem_append_right _ (cR hb e)))).1,fun b hb=>?_,w7⟩
   obtain⟨o,e,d⟩:=T.obj _ _ st5 b hb
   exact(I7.pin (b,o) (List.mem_append_right _ (List.mem_append_right _ (cR hb e)))).2.1
  cases f with
  | next=>obtain⟨σ7,H7,I7,n7⟩:=q7;exact again I7 n7
  | cont=>obtain⟨σ7,H7,I7,n7⟩:=q7;exact again I7 n7
  | brk=>obtain⟨σ7,H7,I7,q7⟩:=q7;exact⟨σ7,H7,I7.gT,q7⟩
  | ret v=>obtain⟨x7,σ7,H7,I7,r7,q7⟩:=q7;exact⟨x7,σ7,H7,I7.gT,r7,q7⟩
end
noncomputable abbrev R2:=V->V->Hp->VK->Prop
noncomputable def OpR (X:Cx) (f:Value->Value->Sem Value) (r:R2):Prop:=
 ∀(pins:List (Addr × Obj)) (s:Shared) (σ:St) (H:Hp) (x y:V) (v u:Value) (Q:VK),Inv X pins σ H s->RelV x v->RelV y u->r x y H Q →
  wpAny (model X.prog X.w) X.A (f v u) (EP X pins σ Q) X.xe s
noncomputable def UnR (X:Cx) (f:Value->Sem Value) (r:V->Hp->VK->Prop):Prop:=
 ∀(pins:List (Addr × Obj)) (s:Shared) (σ:St) (H:Hp) (x:V) (v:Value) (Q:VK),Inv X pins σ H s->RelV x v->r x H Q →
  wpAny (model X.prog X.w) X.A (f v) (EP X pins σ Q) X.xe s
noncomputable def bY (X:Cx) (f:Value) (r:List V->Hp->VK->Prop):Prop:=
 ∀(pins:List (Addr × Obj)) (s:Shared) (σ:St) (H:Hp) (xs:List V) (us:List Value) (Q:VK),Inv X pins σ H s->Vals xs us->r xs H Q →
  wpAny (model X.prog X.w) X.A (call f us) (EP X pins σ Q) X.xe s
noncomputable def J_ (X:Cx) (r:V->Hp->(Bool->Hp->Prop)->Prop):Prop:=
 ∀(pins:List (Addr × Obj)) (s:Shared) (σ:St) (H:Hp) (x:V) (v:Value) (Q:Bool->Hp->Prop),Inv X pins σ H s->RelV x v->r x H Q →
  wpAny (model X.prog X.w) X.A (truthy v) (TP X pins σ Q) X.xe s
noncomputable def tOp (r:R2) (ta tb:TE):TE:=fun σ H Q=>ta σ H fun x H1=>tb σ H1 fun y H2=>r x y H2 Q
noncomputable def tUn (r:V->Hp->VK->Prop) (ta:TE):TE:=fun σ H Q=>ta σ H fun x H1=>r x H1 Q
noncomputable def rI (C:Int->Int->Prop) (g:Int->Int->V):R2:=fun x y H Q=>∃i j,x=.int i/\y=.int j/\C i j/\Q (g i j) H
noncomputable def rI0 (g:Int->Int->V):R2:=fun x y H Q=>∃i j,x=.int i/\y=.int j/\Q (g i j) H
noncomputable def rU (g:Int->V):V->Hp->VK->Prop:=fun x H Q=>∃i,x=.int i/\Q (g i) H
section
variable {X:Cx} {a b c:Expr} {ta tb tc:TE} {pos:Pos}
theorem Gs (ha:PE X a ta) (hb:PE X b tb) {pins:List (Addr × Obj)} {s:Shared} {σ:St} {H:Hp} {R:V->V->Hp->Prop} (I:Inv X pins σ H s)
  (h:ta σ H fun x H1=>tb σ H1 fun y H2=>R x y H2) {Q:Value->Shared->Prop} {f:Value->Value->Sem Value}
  (hf:∀v u s2 x y H2,Inv X pins σ H2 s2->RelV x v->RelV y u->R x y H2->wpAny (model X.prog X.w) X.A (f v u) Q X.xe s2) :
  wpAny (model X.prog X.w) X.A (eval a X.env) (fun v s₁=>wpAny (model X.prog X.w) X.A (eval b X.env) (fun u s₂=>wpAny (model X.prog X.w) X.A (f v u) Q X.xe s₂) X.xe s₁) X.xe s:=by
 refine thn (ha pins s σ H _ I h) fun v s1 ⟨x,H1,I1,r1,q1⟩=>?_
 refine thn (hb pins s1 σ H1 _ I1 q1) fun u s2 ⟨y,H2,I2,r2,q2⟩=>?_
 exact hf v u s2 x y H2 I2 r1 r2 q2
theorem JB {op:Operator} {r:R2} (ho:OpR X (binaryOp op) r) (ha:PE X a ta) (hb:PE X b tb):PE X (.BinOp a op b pos) (tOp r ta tb):=by
 intro pins s σ H Q I h
 exact wpAny_BinOp (Gs ha hb I h fun v u s2 x y H2 I2 rx ry q=>ho pins s2 σ H2 x y v u Q I2 rx ry q)
theorem Jv {op:UnaryOp} {r:V->Hp->VK->Prop} (ho:UnR X (unaryOp op) r) (ha:PE X a ta):PE X (.UnaryOp op a pos) (tUn r ta):=by
 intro pins s σ H Q I h
 exact UnaryOp_ (thn (ha pins s σ H _ I h) fun v s1 ⟨x,H1,I1,r1,q1⟩=>ho pins s1 σ H1 x v Q I1 r1 q1)
theorem opI {f:Value->Value->Sem Value} {C:Int->Int->Prop} {g:Int->Int->Int}
  (rule:∀(i j:Int) (t u:Tok) (s:Shared) (Q:Value->Shared->Prop) (E:Value->Shared->Prop),C i j->Q (.int (g i j) s.toks) { s with toks:=s.toks+1 }->wpAny (model X.prog X.w) X.A (f (.int i t) (.int j u)) Q E s) :
  OpR X f (rI C fun i j=>.int (g i j)):=by
 intro pins s σ H x y v u Q I rx ry h
 obtain⟨i,j,rfl,rfl,hc,q⟩:=h
 obtain⟨t,rfl⟩:=rx
 obtain⟨t',rfl⟩:=ry
 exact rule i j t t' s _ _ hc ⟨.int (g i j),H,I.tok _,⟨_,rfl⟩,q⟩
theorem Ie {f:Value->Value->Sem Value} {g:Int->Int->Int}
  (rule:∀(i j:Int) (t u:Tok) (s:Shared) (Q:Value->Shared->Prop) (E:Value->Shared->Prop),Q (.int (g i j) s.toks) { s with toks:=s.toks+1 }->wpAny (model X.prog X.w) X.A (f (.int i t) (.int j u)) Q E s) :
  OpR X f (rI0 fun i j=>.int (g i j)):=by
 intro pins s σ H x y v u Q I rx ry h
 obtain⟨i,j,rfl,rfl,q⟩:=h
 obtain⟨t,rfl⟩:=rx
 obtain⟨t',rfl⟩:=ry
 exact rule i j t t' s _ _ ⟨.int (g i j),H,I.tok _,⟨_,rfl⟩,q⟩
theorem ED {f:Value->Value->Sem Value} {g:Int->Int->Bool}
  (rule:∀(i j:Int) (t u:Tok) (s:Shared) (Q:Value->Shared->Prop) (E:Value->Shared->Prop),Q (.bool (g i j)) s->wpAny (model X.prog X.w) X.A (f (.int i t) (.int j u)) Q E s) :
  OpR X f (rI0 fun i j=>.bl (g i j)):=by
 intro pins s σ H x y v u Q I rx ry h
 obtain⟨i,j,rfl,rfl,q⟩:=h
 obtain⟨t,rfl⟩:=rx
 obtain⟨t',rfl⟩:=ry
 exact rule i j t t' s _ _ ⟨.bl (g i j),H,I,rfl,q⟩
theorem Ge:OpR X (binaryOp .Add) (rI0 fun i j=>.int (i+j)):=Ie fun _ _ _ _ _ _ _ q=>add_int q
theorem dW:OpR X (binaryOp .Sub) (rI0 fun i j=>.int (i - j)):=Ie fun _ _ _ _ _ _ _ q=>sub_int q
theorem gw:OpR X (binaryOp .Mod) (rI (fun _ j=>0<j) fun i j=>.int (i % j)):=opI fun i j _ _ _ _ _ hc q=>by
 have h1:(0:Int)<j:=hc
 exact mod_int' (by omega) (by rw[Int.fmod_eq_emod_of_nonneg i (by omega)];exact q)
theorem unI {f:Value->Sem Value} {g:Int->Int}
  (rule:∀(i:Int) (t:Tok) (s:Shared) (Q:Value->Shared->Prop) (E:Value->Shared->Prop),Q (.int (g i) s.toks) { s with toks:=s.toks+1 }->wpAny (model X.prog X.w) X.A (f (.int i t)) Q E s) :
  UnR X f (rU fun i=>.int (g i)):=by
 intro pins s σ H x v Q I rx h
 obtain⟨i,rfl,q⟩:=h
 obtain⟨t,rfl⟩:=rx
 exact rule i t s _ _ ⟨.int (g i),H,I.tok _,⟨_,rfl⟩,q⟩
theorem t7:UnR X (unaryOp .USub) (rU fun i=>.int (-i)):=unI fun _ _ _ _ _ q=>neg_int q
end
section
variable {X:Cx} {a b c:Expr} {ta tb tc:TE} {pos:Pos}
theorem Fj:OpR X (compareOp .Lt) (rI0 fun i j=>.bl (decide (i<j))):=ED fun _ _ _ _ _ _ _ q=>lt_int q
theorem qH:OpR X (compareOp .LtE) (rI0 fun i j=>.bl (decide (i<=j))):=ED fun _ _ _ _ _ _ _ q=>le_int q
theorem xA:OpR X (compareOp .Gt) (rI0 fun i j=>.bl (decide (j<i))):=ED fun _ _ _ _ _ _ _ q=>gt_int q
theorem Ij:OpR X (compareOp .GtE) (rI0 fun i j=>.bl (decide (j<=i))):=ED fun _ _ _ _ _ _ _ q=>ge_int q
theorem bV (b:Expr) {op:CmpOp} (h:op≠.In:=by decide) (h2:op≠.NotIn:=by decide):behindInMarks op b=false:=by
 have e1:(op == CmpOp.In)=false:=by cases op<;>first | rfl | exact absurd rfl h
 have e2:(op == CmpOp.NotIn)=false:=by cases op<;>first | rfl | exact absurd rfl h2
 cases b<;>simp[behindInMarks,e1,e2]
theorem Eu {op:CmpOp} {r:R2} (ho:OpR X (compareOp op) r) (ha:PE X a ta) (hb:PE X b tb) (hm:behindInMarks op b=false):PE X (.Compare a [op] [b] pos) (tOp r ta tb):=by
 intro pins s σ H Q I h
 exact wpAny_Compare1 (Gs ha hb I h fun v u s2 x y H2 I2 rx ry q=>ho pins s2 σ H2 x y v u Q I2 rx ry q) hm
noncomputable def C0 (t:TE):TT:=fun σ H Q=>t σ H fun x H'=>∃k,x=.bl k/\Q k H'
theorem DW {op:CmpOp} {r:R2} (ho:OpR X (compareOp op) r) (ha:PE X a ta) (hb:PE X b tb) (hm:behindInMarks op b=false):PT X (.Compare a [op] [b] pos) (C0 (tOp r ta tb)):=by
 intro pins s σ H Q I h
 refine wpAny_isTrue_Compare1 (thn (ha pins s σ H _ I h) fun v s1 ⟨x,H1,I1,r1,q1⟩=>thn (hb pins s1 σ H1 _ I1 q1) fun u s2 ⟨y,H2,I2,r2,q2⟩=>
  thn (ho pins s2 σ H2 x y v u _ I2 r1 r2 q2) fun c s3 ⟨z,H3,I3,r3,k,e,q3⟩=>?_) hm
 subst e
 cases r3
 exact wpAny_truthy_bool ⟨H3,I3,q3⟩
noncomputable def wY (r r':R2) (ta tb tc:TE):TE:=fun σ H Q=>ta σ H fun x H1=>tb σ H1 fun y H2=>r x y H2 fun z H3=>∃k,z=.bl k ∧
 (if k=true then tc σ H3 fun w' H4=>r' y w' H4 Q else Q (.bl false) H3)
theorem AB {op op':CmpOp} {r r':R2} (ho:OpR X (compareOp op) r) (ho':OpR X (compareOp op') r') (ha:PE X a ta) (hb:PE X b tb) (hc:PE X c tc)
  (hm:lastMarks [op,op'] [b,c]=false:=by with_unfolding_all rfl):PE X (.Compare a [op,op'] [b,c] pos) (wY r r' ta tb tc):=by
 intro pins s σ H Q I h
 refine Compare_chain (thn (ha pins s σ H _ I h) fun v s1 ⟨x,H1,I1,r1,q1⟩=>chain_link (thn (hb pins s1 σ H1 _ I1 q1) fun u s2 ⟨y,H2,I2,r2,q2⟩=>
  thn (ho pins s2 σ H2 x y v u _ I2 r1 r2 q2) fun d s3 ⟨z,H3,I3,r3,k,e,q3⟩=>?_)) hm
 subst e
 cases r3
 refine wpAny_truthy_bool ?_
 cases k with
 | false=>exact ite_ff ⟨.bl false,H3,I3,rfl,q3⟩
 | true=>exact ite_tt (chain_last (thn (hc pins s3 σ H3 _ I3 q3) fun w' s4 ⟨z',H4,I4,r4,q4⟩=>ho' pins s4 σ H4 y z' u w' Q I4 r2 r4 q4))
theorem By {op op':CmpOp} {r r':R2} (ho:OpR X (compareOp op) r) (ho':OpR X (compareOp op') r') (ha:PE X a ta) (hb:PE X b tb) (hc:PE X c tc)
  (hm:lastMarks [op,op'] [b,c]=false:=by with_unfolding_all rfl):PT X (.Compare a [op,op'] [b,c] pos) (C0 (wY r r' ta tb tc)):=by
 intro pins s σ H Q I h
 refine isTrue_chain (thn (ha pins s σ H _ I h) fun v s1 ⟨x,H1,I1,r1,q1⟩=>test_link (thn (hb pins s1 σ H1 _ I1 q1) fun u s2 ⟨y,H2,I2,r2,q2⟩=>
  thn (ho pins s2 σ H2 x y v u _ I2 r1 r2 q2) fun d s3 ⟨z,H3,I3,r3,k,e,q3⟩=>?_)) hm
 subst e
 cases r3
 refine wpAny_truthy_bool ?_
 cases k with
 | false=>
  obtain⟨k',e',q'⟩:=q3
  cases e'
  exact ite_ff ⟨H3,I3,q'⟩
 | true=>
  refine ite_tt (test_last (thn (hc pins s3 σ H3 _ I3 q3) fun w' s4 ⟨z',H4,I4,r4,q4⟩=>thn (ho' pins s4 σ H4 y z' u w' _ I4 r2 r4 q4) fun d' s5 ⟨z2,H5,I5,r5,k2,e2,q5⟩=>?_))
  subst e2
  cases r5
  exact wpAny_truthy_bool ⟨H5,I5,q5⟩
noncomputable def Ek (K:PySem.W.Frag) (x:V) (H:Hp) (k:Bool):Prop:=
 match x with
 | .non=>k=false
 | .bl b=>k=b
 | .int i=>k=(i != 0)
 | .str y=>y.length<=sizeLine/\k=((y.length:Int) != 0)
 | .byt y=>y.size<=sizeLine/\k=((y.size:Int) != 0)
 | .ref p=>(∃xs,SqL K H p xs/\k = !xs.isEmpty)\/(∃xs,SqT K H p xs/\k = !xs.isEmpty)\/∃kvs,H p=some (.dK kvs)/\k = !kvs.isEmpty
 | _=>False
theorem wA {κ:Type} {kvs:List (κ × V)} {vs:List (κ × Value)} (r:KV kvs vs):(!vs.isEmpty) = !kvs.isEmpty:=by
 cases r<;>rfl
theorem pV {xs:List V} {its:List Value} (r:Vals xs its):(!its.toArray.isEmpty) = !xs.isEmpty:=by
 cases r<;>simp
theorem jj:(sizeLine:Nat)<2 ^ 63:=by rw[sizeLine_eq];decide
theorem GW:J_ X (fun x H Q=>∃k,Ek X.K x H k/\Q k H):=by
 intro pins s σ H x v Q I rx h
 obtain⟨k,e,q⟩:=h
 have hl:=jj
 have hs:sizeLine=16777216:=sizeLine_eq
 cases x with
 | non=>
  cases rx
  have e':k=false:=e
  subst e'
  exact truthy_none ⟨H,I,q⟩
 | bl b=>
  cases rx
  have e':k=b:=e
  subst e'
  exact wpAny_truthy_bool ⟨H,I,q⟩
 | int i=>
  obtain⟨t,rfl⟩:=rx
  have e':k=(i != 0):=e
  subst e'
  exact PySem.P.truthy_int ⟨H,I,q⟩
 | str y=>
  obtain⟨t,rfl⟩:=rx
  obtain⟨hy,e'⟩:y.length<=sizeLine/\k=((y.length:Int) != 0):=e
  subst e'
  exact PySem.P.truthy_str (by omega) ⟨H,I.tok _,q⟩
 | byt y=>
  obtain⟨t,rfl⟩:=rx
  obtain⟨hy,e'⟩:y.size<=sizeLine/\k=((y.size:Int) != 0):=e
  subst e'
  exact PySem.W.truthy_bytes (by omega) ⟨H,I.tok _,q⟩
 | ref p=>
  cases rx
  have e':(∃xs,SqL X.K H p xs/\k = !xs.isEmpty)\/(∃xs,SqT X.K H p xs/\k = !xs.isEmpty)\/∃kvs,H p=some (.dK kvs)/\k = !kvs.isEmpty:=e
  rcases e' with⟨xs,hx,e'⟩ | ⟨xs,hx,e'⟩ | ⟨kvs,hx,e'⟩
  ·subst e'
   obtain⟨its,r,pl,hz⟩:=I.list hx
   have hlen:=r.length
   exact wpAny_truthy_list pl.isList (by simp only[List.size_toArray];omega) ⟨H,I.tok _,by rw[pV r];exact q⟩
  ·subst e'
   obtain⟨its,r,pl,hz⟩:=I.tuple hx
   have hlen:=r.length
   exact truthy_tuple pl (by simp only[List.size_toArray];omega) ⟨H,I.tok _,by rw[pV r];exact q⟩
  ·subst e'
   obtain⟨hz,hS,vs,r,m⟩:kvs.length<=sizeLine/\(p == sysModules)=false/\∃vs,KV kvs vs/\s.heap.DictOf (sQ X.prog X.w) p vs:=I.hok p _ hx
   have hlen:kvs.length=vs.length:=Paired.length r
   exact wpAny_truthy_dict hS m (by omega) ⟨H,I.tok _,by rw[wA r];exact q⟩
 | _=>exact(show False from e).elim
theorem Bf (ha:PE X a ta) (he:∀whole,isTrue a X.env whole=(do let v ← whole;standAt a.pos;holding [v] (truthy v))) :
  PT X a (fun σ H Q=>ta σ H fun x H'=>∃k,Ek X.K x H' k/\Q k H'):=by
 intro pins s σ H Q I h
 exact isTrue_plain (thn (ha pins s σ H _ I h) fun v s1 ⟨x,H1,I1,r1,q1⟩=>GW pins s1 σ H1 x v Q I1 r1 q1) (he _)
theorem vT:OpR X (binaryOp .Add) (fun x y H Q=>∃i j,x=.str i/\y=.str j/\i.length+j.length<=sizeLine/\Q (.str (i++j)) H):=by
 intro pins s σ H x y v u Q I rx ry h
 obtain⟨i,j,rfl,rfl,hz,q⟩:=h
 obtain⟨t,rfl⟩:=rx
 obtain⟨t',rfl⟩:=ry
 exact add_str (fun t' tk=>⟨.str (i++j),H,I.tok _,⟨_,rfl⟩,q⟩) hz
theorem vals1 {x:V} {us:List Value} (r:Vals [x] us):∃u,us=[u]/\RelV x u:=by
 cases r with
 | cons r1 r2=>cases r2;exact⟨_,rfl,r1⟩
theorem vals2 {x y:V} {us:List Value} (r:Vals [x,y] us):∃u w',us=[u,w']/\RelV x u/\RelV y w':=by
 cases r with
 | cons r1 r2=>
  cases r2 with
  | cons r3 r4=>cases r4;exact⟨_,_,rfl,r1,r3⟩
theorem uL:bY X (.builtin "abs") (fun xs H Q=>∃i,xs=[.int i]/\Q (.int (if i<0 then -i else i)) H):=by
 intro pins s σ H xs us Q I r h
 obtain⟨i,rfl,q⟩:=h
 obtain⟨u,rfl,t,rfl⟩:=vals1 r
 exact call_abs_int fun u tk=>⟨.int (if i<0 then -i else i),H,I.tok _,⟨_,rfl⟩,q⟩
theorem zc (hc:X.calm=true):bY X (.builtin "max") (fun xs H Q=>∃i j,xs=[.int i,.int j]/\Q (.int (if j > i then j else i)) H):=by
 intro pins s σ H xs us Q I r h
 obtain⟨i,j,rfl,q⟩:=h
 obtain⟨u,w',rfl,⟨t,rfl⟩,⟨t',rfl⟩⟩:=vals2 r
 refine max_two_ints (I.ok.hd hc) fun h' tk k=>⟨_,H,I.kept k,?_,q⟩
 by_cases hj:j > i
 ·rw[if_pos hj,if_pos hj];exact⟨_,rfl⟩
 ·rw[if_neg hj,if_neg hj];exact⟨_,rfl⟩
theorem zq:bY X (.type "int") (fun xs H Q=>(∃i,xs=[.int i]/\Q (.int i) H)\/∃k,xs=[.bl k]/\Q (.int (if k then 1 else 0)) H):=by
 intro pins s σ H xs us Q I r h
 rcases h with⟨i,rfl,q⟩ | ⟨k,rfl,q⟩
 ·obtain⟨u,rfl,t,rfl⟩:=vals1 r
  exact call_int_int ⟨.int i,H,I,⟨_,rfl⟩,q⟩
 ·obtain⟨u,rfl,r1⟩:=vals1 r
  cases r1
  exact call_int_bool ⟨.int (if k then 1 else 0),H,I.tok _,⟨_,rfl⟩,q⟩
end
structure FR (h:Heap) (x dx C:Addr) (mA:Str->Option Value):Prop where
 obj:h.get? x=some (PySem.W.instObj C dx)
 ns:h.Ns1 dx mA
 ne:dx≠x
theorem Ai {h:Heap} {dx:Addr} {mA:Str->Option Value} (n:h.Ns1 dx mA):∃od,h.get? dx=some od/\∀name,PySem.W.lookIn name od=some (mA name):=by
 obtain⟨o,es,ep,ho,hd,hk,_,hm⟩:=n
 refine⟨o,ho,fun name=>?_⟩
 have e:=hm name
 unfold nsFind findBy at e
 rw[<- Array.find?_toList] at e
 unfold PySem.W.lookIn
 rw[hd]
 dsimp only
 split
 ·rename_i y q
  rw[q] at e
  exact congrArg some e
 ·rename_i q
  rw[q] at e
  have a:es.toList.any (·.refKey)=false:=by
   rw[List.any_eq_false]
   intro y hy
   obtain⟨z,t,hkey⟩:=hk y (Array.mem_toList_iff.mp hy)
   simp[DictEntry.refKey,hkey]
  have a':¬ es.toList.any (·.refKey)=true:=by rw[a];exact Bool.false_ne_true
  rw[if_neg a']
  exact congrArg some e
theorem FR.look {h:Heap} {x dx C:Addr} {mA:Str->Option Value} (I:FR h x dx C mA):∃od,PySem.W.InstAt h x (PySem.W.instObj C dx) C (some od)/\∀name,PySem.W.lookIn name od=some (mA name):=
 let ⟨od,ho,hl⟩:=Ai I.ns
 ⟨od,⟨I.obj,rfl,rfl,ho⟩,hl⟩
section
variable {P:Program} {w:World} {H H':Hp} {h h':Heap} {a C dx:Addr} {fs fs':List (Str × V)}
theorem D5 (hok:HOk P w H h) (e:H a=some (.ins C dx fs)):∃mA,FR h a dx C mA/\(∀f,GK (fs.lookup f) (mA f))/\PySem.Within mA (fs.map (·.1))/\fs.length<=1000/\H dx=some (.own a):=by
 obtain⟨d,z,ne,ob,mA,n,r,q⟩:=(show cF P w H h a (.ins C dx fs) from hok a _ e)
 exact⟨mA,⟨ob,n,ne⟩,r,q,z,d⟩
end
structure Cls (K:PySem.W.Frag) (C:Addr):Prop where
 pg:PySem.W.plainGet K C Str.empty=true
 hd:PySem.W.hasDictIn K C=true
 po:PySem.W.plainOver K C=true
 sa:PySem.W.findIn K (.ref C) "__setattr__" = some (some (.builtin "object.__setattr__"))
theorem Cls.get {K:PySem.W.Frag} {C:Addr} (c:Cls K C) (f:Str):PySem.W.plainGet K C f=true:=c.pg
section
variable {X:Cx} {pins:List (Addr × Obj)} {σ:St} {H:Hp} {s:Shared} {A:Around} {E:Value->Shared->Prop} {Q:Value->Shared->Prop} {c:Value} {b:Bool}
inductive ku (K:PySem.W.Frag) (H:Hp):V->Value->Prop where
 | non:ku K H .non (.type "NoneType")
 | bl (x:Bool):ku K H (.bl x) (.type "bool")
 | int (i:Int):ku K H (.int i) (.type "int")
 | str (x:Str):ku K H (.str x) (.type "str")
 | flt (x:UInt64):ku K H (.flt x) (.type "float")
 | lst {a:Addr} {xs:List V} (e:H a=some (.lst xs)):ku K H (.ref a) (.type "list")
 | frz {a:Addr} {o:Obj} {xs:List V} (e:H a=some (.frz o (.lst xs))):ku K H (.ref a) (.type "list")
 | tup {a:Addr} {xs:List V} (e:H a=some (.tup xs)):ku K H (.ref a) (.type "tuple")
 | iL {a:Addr} {o:Obj} {kvs:List (Key × V)} (e:H a=some (.frz o (.dK kvs))):ku K H (.ref a) (.type "dict")
 | dK {a:Addr} {kvs:List (Key × V)} (e:H a=some (.dK kvs)):ku K H (.ref a) (.type "dict")
 | dT {a:Addr} {kvs:List (List Key × V)} (e:H a=some (.dT kvs)):ku K H (.ref a) (.type "dict")
 | ins {a C dx:Addr} {fs:List (Str × V)} (e:H a=some (.ins C dx fs)) (cl:Cls K C) (ha:PySem.W.findIn K (.ref C) "__class__" = some (some (.builtin "object.__class__")))
   (hn:PySem.W.specialIn K (.builtin "object.__class__") "__get__" = some (some (.builtin "getset_descriptor.__get__"))) (htk:PySem.W.takesIn K (.builtin "object.__class__")=some true)
   (hm:PySem.W.mroIn K C (.type "object")=some true):ku K H (.ref a) (.ref C)
theorem yT {x:V} {u t:Value} (I:Inv X pins σ H s) (rx:RelV x u) (ty:ku X.K H x t) (e:PySem.W.kitOne X.K t c=some b) (h:∀tk,Q (.bool b) { s with toks:=tk }) :
  wpAny (model X.prog X.w) A (call (.builtin "isinstance") [u,c]) Q E s:=by
 cases ty with
 | non=>cases (show u=Value.none from rx);exact PySem.W.kia_one PySem.W.kitx_none I.kIn True.intro e (fun z=>nomatch z) h
 | bl y=>cases (show u=Value.bool y from rx);exact PySem.W.kia_one PySem.W.kitx_bool I.kIn True.intro e (fun z=>nomatch z) h
 | int i=>obtain⟨t,q⟩:=(show ∃t,u=Value.int i t from rx);cases q;exact PySem.W.kia_one PySem.W.kitx_int I.kIn True.intro e (fun z=>nomatch z) h
 | str y=>obtain⟨t,q⟩:=(show ∃t,u=Value.str y t from rx);cases q;exact PySem.W.kia_one PySem.W.kitx_str I.kIn True.intro e (fun z=>nomatch z) h
 | flt y=>obtain⟨t,q⟩:=(show ∃t,u=Value.float y t from rx);cases q;exact PySem.W.kia_one PySem.W.kitx_float I.kIn True.intro e (fun z=>nomatch z) h
 | @lst a xs ea=>
  cases (show u=Value.ref a from rx)
  obtain⟨_,_,n,_,h1⟩:=(show cF X.prog X.w H s.heap a (.lst xs) from I.hok a _ ea)
  exact PySem.W.kia_one PySem.W.kitx_list I.kIn ⟨_,h1,rfl⟩ e (fun z=>nomatch z) h
 | @frz a ob xs ea=>
  cases (show u=Value.ref a from rx)
  obtain⟨_,_,_,n,_,h1⟩:=(show cF X.prog X.w H s.heap a (.frz ob (.lst xs)) from I.hok a _ ea)
  exact PySem.W.kia_one PySem.W.kitx_list I.kIn ⟨_,h1,rfl⟩ e (fun z=>nomatch z) h
 | @tup a xs ea=>
  cases (show u=Value.ref a from rx)
  obtain⟨_,_,_,p⟩:=(show cF X.prog X.w H s.heap a (.tup xs) from I.hok a _ ea)
  obtain⟨o,h1,⟨h2,_⟩,_⟩:=p
  exact PySem.W.kia_one PySem.W.kitx_tuple I.kIn ⟨o,h1,h2⟩ e (fun z=>nomatch z) h
 | @iL a ob kvs ea=>
  cases (show u=Value.ref a from rx)
  obtain⟨_,_,_,vs,_,p⟩:=(show cF X.prog X.w H s.heap a (.frz ob (.dK kvs)) from I.hok a _ ea)
  obtain⟨o,es,ep,h1,h2,_⟩:=p
  exact PySem.W.kia_one PySem.W.kitx_dict I.kIn ⟨o,h1,h2.1⟩ e (fun z=>nomatch z) h
 | @dK a kvs ea=>
  cases (show u=Value.ref a from rx)
  obtain⟨_,_,vs,_,p⟩:=(show cF X.prog X.w H s.heap a (.dK kvs) from I.hok a _ ea)
  obtain⟨o,es,ep,h1,h2,_⟩:=p
  exact PySem.W.kia_one PySem.W.kitx_dict I.kIn ⟨o,h1,h2.1⟩ e (fun z=>nomatch z) h
 | @dT a kvs ea=>
  cases (show u=Value.ref a from rx)
  obtain⟨_,_,xs,_,o,es,ep,h1,h2,_⟩:=(show cF X.prog X.w H s.heap a (.dT kvs) from I.hok a _ ea)
  exact PySem.W.kia_one PySem.W.kitx_dict I.kIn ⟨o,h1,h2.1⟩ e (fun z=>nomatch z) h
 | @ins a C dx fs ea cl ha hn htk hm=>
  cases (show u=Value.ref a from rx)
  obtain⟨mA,O,_⟩:=D5 I.hok ea
  obtain⟨od,J,_⟩:=O.look
  exact PySem.W.kia_one (PySem.W.kitx_own (cl.get _) cl.hd ha hn htk hm) I.kIn J e (fun z=>nomatch z) h
end
structure gX (k:Nat) (A:Around):Prop where
 hd:A.handled=none
 dp:A.depth+3*k+5<recursionLimit
 un:A.units+16*k+200<cLine
 gd:A.guards=some []
theorem gX.mono {j k:Nat} {A:Around} (r:gX k A) (h:j<=k):gX j A:=⟨r.hd,by have:=r.dp;omega,by have:=r.un;omega,r.gd⟩
theorem gX.deeper {k:Nat} {A:Around} (r:gX (k+1) A) (env:Env):gX k (A.deeper env):=
 ⟨r.hd,by have:=r.dp;show A.depth+1+3*k+5<_;omega,by have:=r.un;show A.units+3+16*k+200<_;omega,r.gd⟩
theorem gX.depth {k:Nat} {A:Around} (r:gX k A):A.depth<recursionLimit:=by have:=r.dp;omega
theorem gX.units {k:Nat} {A:Around} (r:gX k A):A.units+64<cLine:=by have:=r.un;omega
noncomputable def IY:TA:=fun _ H Q=>Q [] H
noncomputable def Fy (ta:TE) (tr:TA):TA:=fun σ H Q=>ta σ H fun x H1=>tr σ H1 fun xs H2=>Q (x::xs) H2
section
variable {X:Cx} {e:Expr} {es:List Expr} {te:TE} {t:TA} {pos:Pos}
theorem t6:PA X [] IY:=fun _ _ _ _ H Q I h=>Calls.spliced_nil ⟨[],H,I,.nil,h⟩
theorem lJ (ha:PE X e te) (hr:PA X es t) (hs:starEach (e::es) X.env=(false,eval e X.env)::starEach es X.env:=by rfl):PA X (e::es) (Fy te t):=by
 intro pos pins s σ H Q I h
 rw[hs]
 show wpAny _ _ (spliced ((false,eval e X.env)::backTo pos (starEach es X.env))) _ _ s
 refine Calls.spliced_cons (thn (ha pins s σ H _ I h) fun u s1 ⟨x,H1,I1,r1,q1⟩=>?_)
 exact thn (hr pos pins s1 σ H1 _ I1 q1) fun us s2 ⟨xs,H2,I2,r2,q2⟩=>⟨x::xs,H2,I2,.cons r1 r2,q2⟩
noncomputable def K7 (t:TA):TE:=fun σ H Q=>t σ H fun xs H1=>xs.length<=sizeLine/\∀p,H1 p=none->Q (.ref p) (upd H1 p (.tup xs))
noncomputable def K_ (t:TA):TE:=fun σ H Q=>t σ H fun xs H1=>xs.length<=sizeLine/\∀p,H1 p=none->Q (.ref p) (upd H1 p (.lst xs))
theorem HK {x1} (h:PA X es t):PE X (.Tuple es x1 pos) (K7 t):=by
 intro pins s σ H Q I hq
 refine wpAny_Tuple_spliced (thn (h pos pins s σ H _ I hq) fun us s1 ⟨xs,H1,I1,r,z,q⟩=>⟨by rw[<- r.length];exact z,?_⟩)
 have hf:H1 s1.heap.objs.size=none:=I1.hok.fresh (Nat.le_refl _)
 refine⟨.ref s1.heap.objs.size,upd H1 s1.heap.objs.size (.tup xs),I1.laid (t':=s1.toks) (fun b u e=>Heap.get?_push_of_some _ e) (Nat.le_refl _) ?_,rfl,q _ hf⟩
 exact⟨z,us,r,⟨_,Heap.get?_push_size _ rfl,⟨rfl,_,rfl⟩,rfl⟩⟩
theorem HC (h:PA X es t):PE X (.List es pos) (K_ t):=by
 intro pins s σ H Q I hq
 refine wpAny_List_spliced (thn (h pos pins s σ H _ I hq) fun us s1 ⟨xs,H1,I1,r,z,q⟩=>⟨by rw[<- r.length];exact z,?_⟩)
 have hf:H1 s1.heap.objs.size=none:=I1.hok.fresh (Nat.le_refl _)
 refine⟨.ref s1.heap.objs.size,upd H1 s1.heap.objs.size (.lst xs),I1.laid (t':=s1.toks) (fun b u e=>Heap.get?_push_of_some _ e) (Nat.le_refl _) ?_,rfl,q _ hf⟩
 exact⟨z,us,0,r,Heap.get?_push_size _ rfl⟩
end
noncomputable abbrev Sp:=List V->Hp->VK->XK->Prop
noncomputable abbrev CXT:=List Env->Hp->Shared->XK->Value->Shared->Prop
structure Ea (P:Program) (w:World) (K:PySem.W.Frag) (mg:Str->Option Value) (base:Heap) (A:Around) (outer:List Env) (s:Shared) (H:Hp):Prop where
 frames:A.frames=some outer
 mod:Mod K mg base
 bs:∀b o,base.get? b=some o->s.heap.get? b=some o/\H b=none
 bsz:base.objs.size<=s.heap.objs.size
 oW:s.heap.FunFrames base outer
 frf:∀b∈frs outer,H b=none
 hok:HOk P w H s.heap
 bare:AllBare s.gens
noncomputable def CE (outer:List Env) (P:Program) (w:World) (H:Hp) (s:Shared) (Q:VK) (u:Value) (s':Shared):Prop:=
 ∃v H',s'.os=s.os/\AllBare s'.gens/\Un (frs outer) [] H H' s.heap s'.heap/\HOk P w H' s'.heap/\RelV v u/\Q v H'
noncomputable def CR (CX:CXT) (outer:List Env) (P:Program) (w:World) (H:Hp) (s:Shared) (Q:VK) (E:XK) (r:Result) (s':Shared):Prop:=
 match r with
 | .ok (.ret u)=>CE outer P w H s Q u s'
 | .ok _=>False
 | .error e=>CX outer H s E e s'
structure fL (P:Program) (w:World) (K:PySem.W.Frag) (mg:Str->Option Value) (base:Heap) (CX:CXT) (k:Nat) (f:Addr) (fd:FuncData) (ps:List Str) (sp:Sp):Prop where
 len:∀vs H Q E,sp vs H Q E->vs.length=ps.length
 run:∀(A:Around) (outer:List Env) (s:Shared) (H:Hp) (args:Args) (us:List Value) (vs:List V) (Q:VK) (E:XK),gX k A->Ea P w K mg base A outer s H->BindsTo s fd args (ps.zip us)->Vals vs us->sp vs H Q E →
  codeAny (model P w) A (.call (.ref f) args) (CR CX outer P w H s Q E) s
theorem fL.mono {P:Program} {w:World} {K:PySem.W.Frag} {mg:Str->Option Value} {base:Heap} {CX:CXT} {j k:Nat} {f:Addr} {fd:FuncData} {ps:List Str} {sp:Sp} (F:fL P w K mg base CX j f fd ps sp) (h:j<=k) :
  fL P w K mg base CX k f fd ps sp:=⟨F.len,fun A outer s H args us vs Q E hr=>F.run A outer s H args us vs Q E (hr.mono h)⟩
theorem fL.imp {P:Program} {w:World} {K:PySem.W.Frag} {mg:Str->Option Value} {base:Heap} {CX:CXT} {k:Nat} {f:Addr} {fd:FuncData} {ps:List Str} {sp sp':Sp} (F:fL P w K mg base CX k f fd ps sp)
  (h:∀vs H Q E,sp' vs H Q E->sp vs H Q E):fL P w K mg base CX k f fd ps sp':=
 ⟨fun vs H Q E q=>F.len vs H Q E (h _ _ _ _ q),fun A outer s H args us vs Q E hr he hb hv hs=>F.run A outer s H args us vs Q E hr he hb hv (h _ _ _ _ hs)⟩
section
variable {X:Cx} {pins:List (Addr × Obj)} {σ:St} {H:Hp} {s s':Shared}
theorem Inv.K5 (I:Inv X pins σ H s):Ea X.prog X.w X.K X.mg X.base X.A X.stack s H:=
 ⟨I.ok.frames,I.ok.mod,I.bs,Nat.le_trans I.ok.bsz I.sz,I.stack,I.rO,I.hok,I.bare⟩
theorem Inv.after {Q:VK} {u:Value} (I:Inv X pins σ H s) (h:CE X.stack X.prog X.w H s Q u s'):EP X pins σ Q u s':=by
 obtain⟨v,H',os,bare,un,hok,r,q⟩:=h
 obtain⟨hh,g,d,t,os'⟩:=s'
 obtain rfl:os'=s.os:=os
 exact⟨v,H',I.call (h':=hh) (g':=g) (d':=d) (t':=t) (ch:=[]) un hok bare (fun b z=>absurd z (by simp)),r,q⟩
end
noncomputable def Ik (sp:Sp) (dvs:List V) (E:XK) (t:TA):TE:=fun σ H Q=>t σ H fun vs H1=>sp (vs++dvs) H1 Q E
noncomputable def Binds (K:PySem.W.Frag) (fd:FuncData) (ps:List Str) (ds:List Value):Prop:=
 ∀(s:Shared) (us:List Value),K.In s.heap->(us++ds).length=ps.length->BindsTo s fd ⟨us,[]⟩ (ps.zip (us++ds))
theorem Binds.all {K:PySem.W.Frag} {fd:FuncData} {ps:List Str} (h:∀us:List Value,us.length=ps.length->bindArgs fd ⟨us,[]⟩=pure (ps.zip us)):Binds K fd ps []:=fun s us _ hl=>by
 rw[List.append_nil] at hl ⊢
 exact .of_eq (h us hl)
noncomputable def Passes (CX:CXT) (X:Cx) (E:XK):Prop:=∀(pins:List (Addr × Obj)) (σ:St) (H:Hp) (s:Shared) (e:Value) (s':Shared),Inv X pins σ H s->CX X.stack H s E e s'->X.xe e s'
section
variable {X:Cx} {CX:CXT} {k:Nat} {f C:Addr} {fd:FuncData} {ps:List Str} {sp:Sp} {dvs:List V} {ds:List Value} {E:XK} {x m:Str} {p pos apos:Pos} {e o:Expr} {es:List Expr} {ta:TE} {t:TA}
theorem He {pins:List (Addr × Obj)} {σ:St} {H:Hp} {s:Shared} {Q:VK} {us:List Value} {vs:List V} (F:fL X.prog X.w X.K X.mg X.base CX k f fd ps sp) (hr:gX k X.A) (hb:Binds X.K fd ps ds) (hd:Vals dvs ds) (hx:Passes CX X E)
  (I:Inv X pins σ H s) (r:Vals vs us) (h:sp (vs++dvs) H Q E):wpAny (model X.prog X.w) X.A (call (.ref f) us) (EP X pins σ Q) X.xe s:=by
 have r2:Vals (vs++dvs) (us++ds):=r.append hd
 have hl:(us++ds).length=ps.length:=by rw[<- r2.length];exact F.len _ _ _ _ h
 refine wpAny_call (codeAny_mono (F.run X.A X.stack s H ⟨us,[]⟩ (us++ds) (vs++dvs) Q E hr I.K5 (hb s us I.kIn hl) r2 h) fun r s' hq=>?_)
 cases r with
 | error e=>exact hx pins σ H s e s' I hq
 | ok fl=>
  cases fl with
  | ret u=>exact I.after hq
  | next=>exact False.elim hq
  | brk=>exact False.elim hq
  | cont=>exact False.elim hq
theorem EN (F:fL X.prog X.w X.K X.mg X.base CX k f fd ps sp) (hr:gX k X.A) (hg:Gl X x) (hm:X.mg x=some (.ref f)) (hk:PySem.W.keepIn X.K (.ref f)=true) (hb:Binds X.K fd ps ds) (hd:Vals dvs ds) (hx:Passes CX X E)
  (ha:PA X (e::es) t) (hdb:(x == ("__debug__" : Str))=false:=by decide) (he:starEach (e::es) X.env=(false,eval e X.env)::starEach es X.env:=by rfl) (hpl:(backTo pos (starEach es X.env)).any (·.1)=false:=by rfl) :
  PE X (.Call (.Name x p) (e::es) [] pos) (Ik sp dvs E t):=by
 intro pins s σ H Q I h
 refine wpAny_Call_Name_kw (ya I hg hm ?_ hdb)
 refine PySem.W.callWith_K (h₀:=X.base) I.ok.mod.kin hk (thn (ha pos pins s σ H _ I h) fun us s1 ⟨vs,H1,I1,r,q⟩=>⟨I1.kIn,?_⟩) he hpl
 exact He F hr hb hd hx I1 r q
end
structure aQ (N P:List Str) (sc:Scope):Prop where
 kind:sc.kind=.function
 co:sc.isCoroutine=false
 gen:sc.isGenerator=false
 nd:N.Nodup
 pre:N.take P.length=P
 par:∀x∈P,sc.names.lookup x=some .local\/sc.names.lookup x=some .cell
 Gk:∀y∈sc.names,y.2≠.free
theorem qF {kindOf:Str->Option NameKind} {x:Str}:∀{binds:List (Str × Value)} {m:Str->Option Value},(∀v,(x,v)∉binds)->bindL kindOf binds m x=m x
 | [],_,_=>rfl
 | (n,v)::r,m,h=>by
  unfold bindL
  rw[qF fun w hw=>h w (List.mem_cons_of_mem _ hw)]
  split
  ·have:x≠n:=by rintro rfl;exact h v List.mem_cons_self
   simp[this]
  ·rfl
theorem rg {kindOf:Str->Option NameKind} {x:Str}:∀{binds:List (Str × Value)} {m:Str->Option Value},(∀v,(x,v)∉binds)->bindC kindOf binds m x=m x
 | [],_,_=>rfl
 | (n,v)::r,m,h=>by
  unfold bindC
  rw[rg fun w hw=>h w (List.mem_cons_of_mem _ hw)]
  split
  ·rfl
  ·have:x≠n:=by rintro rfl;exact h v List.mem_cons_self
   simp[this]
theorem qN {kindOf:Str->Option NameKind} {x:Str} {v:Value}:∀{P:List Str} {vs:List Value} {i:Nat} {m:Str->Option Value},P.Nodup->P[i]?=some x->vs[i]?=some v->kindOf x=some .local →
  bindL kindOf (P.zip vs) m x=some v
 | [],_,_,_,_,h,_,_=>by simp at h
 | _::_,[],_,_,_,_,h,_=>by simp at h
 | p::P,w::vs,0,m,nd,h1,h2,hk=>by
  simp at h1 h2;subst h1;subst h2
  show bindL kindOf ((p,w)::P.zip vs) m p=_
  unfold bindL
  rw[qF fun v hv=>(List.nodup_cons.mp nd).1 (List.of_mem_zip hv).1,if_pos hk]
  simp
 | p::P,w::vs,i+1,m,nd,h1,h2,hk=>by
  show bindL kindOf ((p,w)::P.zip vs) m x=_
  unfold bindL
  exact qN (i:=i) (List.nodup_cons.mp nd).2 (by simpa using h1) (by simpa using h2) hk
theorem rz {kindOf:Str->Option NameKind} {x:Str} {v:Value}:∀{P:List Str} {vs:List Value} {i:Nat} {m:Str->Option Value},P.Nodup->P[i]?=some x->vs[i]?=some v->kindOf x≠some .local →
  bindC kindOf (P.zip vs) m x=some v
 | [],_,_,_,_,h,_,_=>by simp at h
 | _::_,[],_,_,_,_,h,_=>by simp at h
 | p::P,w::vs,0,m,nd,h1,h2,hk=>by
  simp at h1 h2;subst h1;subst h2
  show bindC kindOf ((p,w)::P.zip vs) m p=_
  unfold bindC
  rw[rg fun v hv=>(List.nodup_cons.mp nd).1 (List.of_mem_zip hv).1,if_neg hk]
  simp
 | p::P,w::vs,i+1,m,nd,h1,h2,hk=>by
  show bindC kindOf ((p,w)::P.zip vs) m x=_
  unfold bindC
  exact rz (i:=i) (List.nodup_cons.mp nd).2 (by simpa using h1) (by simpa using h2) hk
noncomputable def start (N:List Str) (vs:List V):St:=vs.map some++List.replicate (N.length - vs.length) none
noncomputable def wq (CX:CXT) (P:Program) (w:World) (K:PySem.W.Frag) (mg:Str->Option Value) (base:Heap) (N:List Str) (qual:Str) (scope:Scope) (f:Addr) (cd:Value) (A:Around) (outer:List Env) (s:Shared) (H:Hp) (E:XK):Cx where
 prog:=P
 w:=w
 K:=K
 mg:=mg
 base:=base
 A:=A.deeper (envOfC qual scope s.heap.objs.size f cd)
 N:=N
 aK:=s
 aN:=H
 env:=envOfC qual scope s.heap.objs.size f cd
 outer:=outer
 stack:=envOfC qual scope s.heap.objs.size f cd::outer
 ex:=[]
 calm:=true
 fn:=fun _=>true
 pn:=[]
 xe:=fun e s'=>wpAny (model P w) (A.deeper (envOfC qual scope s.heap.objs.size f cd)) (leaving (envOfC qual scope s.heap.objs.size f cd) e) (fun _ s''=>CX outer H s E e s'') (fun e' s''=>CX outer H s E e' s'') s'
theorem vD {sc:Scope} {n:Nat} {x:Str} (h:sc.names.lookup x=some .cell):∃c,(cellsFrom n sc.names []).lookup x=some c:=by
 have q:=PySem.W.cellsFrom_some sc.names n [] (.inl h)
 exact Option.isSome_iff_exists.mp q
theorem zI {CX:CXT} {P:Program} {w:World} {K:PySem.W.Frag} {mg:Str->Option Value} {base:Heap} {N ps:List Str} {qual:Str} {scope:Scope} {f:Addr} {cd:Value} {A:Around} {outer:List Env} {s s1:Shared} {H:Hp} {E:XK} {us:List Value} {vs:List V}
  (S:aQ N ps scope) (hd:A.handled=none) (e0:Ea P w K mg base A outer s H) (hl:vs.length=ps.length) (r:Vals vs us)
  (x:InCallC s s.heap.objs.size (bindL (envOfC qual scope s.heap.objs.size f cd).kindOf (ps.zip us) fun _=>none) (cellsFrom (s.heap.objs.size+1) scope.names []) (bindC (envOfC qual scope s.heap.objs.size f cd).kindOf (ps.zip us) fun _=>none) s1) :
  Inv (wq CX P w K mg base N qual scope f cd A outer s H E) [] (start N vs) H s1:=by
 have hpl:ps.length<=N.length:=by have:=congrArg List.length S.pre;rw[List.length_take] at this;omega
 obtain⟨h1,tk,rfl,hk⟩:=x.done
 have noA:∀b:Addr,b∉(wq CX P w K mg base N qual scope f cd A outer s H E).ex:=fun b z=>absurd (show b∈([]:List Addr) from z) (by simp)
 refine⟨⟨e0.mod,S.kind,rfl,rfl,Nat.le_refl _,fun y z c h1 h2=>?_,fun y hy=>?_,fun y c _ h=>?_,fun _=>hd,Around.frames_deeper e0.frames,.inr ⟨rfl,rfl⟩,fun b z=>absurd z (noA b),e0.bs,e0.bsz,fun b _ _=>noA b,fun b z=>absurd z (noA b),e0.oW,e0.frf⟩,
  rfl,e0.bare,Un.kept hk,⟨_,x.toInCall.ns,fun i y v h1 h2 h3=>?_⟩,fun y c h=>⟨_,x.cell y c h⟩,e0.hok.fresh (Nat.le_refl _),fun y c h=>?_,fun p hp=>absurd (show p∈([]:List (Addr × Obj)) from hp) (by simp),e0.hok.kept hk,?_⟩
 ·exact name_of_addr x.apart (PySem.mem_of_lookup h1) (PySem.mem_of_lookup h2)
 ·have hy:scope.names.lookup y=some .cell\/scope.names.lookup y=some .free:=hy
  rcases hy with hy | hy
  ·exact vD hy
  ·exact absurd rfl (S.Gk _ (PySem.mem_of_lookup hy))
 ·exact Nat.le_of_lt (x.above y c (PySem.mem_of_lookup h))
 ·have hi:i<vs.length:=by
   unfold start at h2
   by_cases hi:i<vs.length
   ·exact hi
   ·rw[List.getElem?_append_right (by simpa using hi)] at h2
    rw[List.getElem?_replicate] at h2
    split at h2<;>cases h2
  have ha:vs[i]?=some v:=by
   unfold start at h2
   rw[List.getElem?_append_left (by simpa using hi),List.getElem?_map] at h2
   cases e:vs[i]? with
   | none=>rw[e] at h2;cases h2
   | some a=>rw[e] at h2;cases h2;rfl
  obtain⟨u,hu,rv⟩:=r.get ha
  have hp:ps[i]?=some y:=by
   rw[<- S.pre,List.getElem?_take_of_lt (by omega)];exact h1
  have ndP:ps.Nodup:=by rw[<- S.pre];exact S.nd.sublist (List.take_sublist _ _)
  refine⟨u,rv,?_⟩
  rcases S.par y (List.mem_of_getElem? hp) with k | k
  ·exact .inl ⟨k,qN ndP hp hu k⟩
  ·obtain⟨c,e⟩:=vD (n:=s.heap.objs.size+1) k
   refine .inr ⟨.inl k,c,e,?_⟩
   have q:=x.cell y c e
   rw[rz ndP hp hu (by show scope.names.lookup y≠_;rw[k];decide)] at q
   exact q
 ·exact e0.hok.fresh (Nat.le_of_lt (x.above y c (PySem.mem_of_lookup h)))
 ·unfold start
  show _=N.length
  rw[List.length_append,List.length_map,List.length_replicate]
  omega
theorem ID {CX:CXT} {P:Program} {w:World} {K:PySem.W.Frag} {mg:Str->Option Value} {base:Heap} {k:Nat} {f:Addr} {name qual:Str} {params:Arguments} {body:List Stmt} {scope:Scope} {dV kV doc pm cdv ct oc:Value} {an od:Option Addr}
  {osl:Array (Option Value)} {N ps:List Str} {sp:Sp} (lk:K.lookup f=some ⟨oc,od,.func (PySem.W.fnOf name qual params body scope dV kV doc pm an cdv ct),osl⟩) (hcd:PySem.W.codeIn K cdv qual=true) (S:aQ N ps scope)
  (len:∀vs H Q E,sp vs H Q E->vs.length=ps.length)
  (hbody:∀(A:Around) (outer:List Env) (s:Shared) (H:Hp) (vs:List V) (Q:VK) (E:XK),gX k (A.deeper (envOfC qual scope s.heap.objs.size f cdv))->sp vs H Q E →
   ∃t,PSs (wq CX P w K mg base N qual scope f cdv A outer s H E) body t/\t { nx:=fun _ H'=>Q .non H',rt:=Q } (start N vs) H) :
  fL P w K mg base CX (k+1) f (PySem.W.fnOf name qual params body scope dV kV doc pm an cdv ct) ps sp:=by
 refine⟨len,fun A outer s H args us vs Q E hr e0 hb r hsp=>?_⟩
 have hl:=len _ _ _ _ hsp
 have KX:K.In s.heap:=e0.mod.kin.keeps fun b o e=>(e0.bs b o e).1
 have lim:s.heap.NoLimit:=e0.mod.nolimit.keeps fun b o e=>(e0.bs b o e).1
 have hkind:∀y∈ps.zip us,scope.names.lookup y.1=some .local\/(scope.names.lookup y.1=some .cell/\((cellsFrom (s.heap.objs.size+1) scope.names []).lookup y.1).isSome=true):=fun⟨n,v⟩ hy=>by
  rcases S.par n (List.of_mem_zip hy).1 with q | q
  ·exact .inl q
  ·exact .inr ⟨q,PySem.W.cellsFrom_some _ _ _ (.inl q)⟩
 refine codeAny_call_function hr.depth (KX _ _ lk) rfl S.co S.gen rfl (PySem.W.codeRec_of KX hcd) (hb _ _ _ _ ?_)
 refine wpAny_newFunctionEnv_cells S.kind hkind fun env he s1 x=>?_
 subst he
 refine⟨lim.keeps x.toInCall.keep,codeAny_func ?_⟩
 obtain⟨t,ht,hq⟩:=hbody A outer s H vs Q E (hr.deeper _) hsp
 have I:Inv (wq CX P w K mg base N qual scope f cdv A outer s H E) [] (start N vs) H s1:=zI S hr.hd e0 hl r x
 refine wpAny_mono (ht [] s1 (start N vs) H _ I hq) (fun fl s' hs=>?_) fun e s' hs=>hs
 have fin:∀{σ':St} {H':Hp} {v:V} {u:Value},Inv (wq CX P w K mg base N qual scope f cdv A outer s H E) [] σ' H' s'->RelV v u->Q v H'->CE outer P w H s Q u s':=
  fun{σ' H' v u} J rv q=>⟨v,H',J.os,J.bare,J.base,J.hok,rv,q⟩
 cases fl with
 | ret u=>
  obtain⟨v,σ',H',J,rv,q⟩:=hs
  exact fin J rv q
 | next=>
  obtain⟨σ',H',J,q⟩:=hs
  exact fin (v:=V.non) (u:=Value.none) J rfl q
 | brk=>
  obtain⟨_,_,_,q⟩:=hs
  exact False.elim q
 | cont=>
  obtain⟨_,_,_,q⟩:=hs
  exact False.elim q
section
variable {X:Cx} {x:Str} {p pos:Pos} {e:Expr} {es:List Expr} {t:TA} {id T:String} {r:List V->Hp->VK->Prop}
noncomputable def tCB (r:List V->Hp->VK->Prop) (t:TA):TE:=fun σ H Q=>t σ H fun vs H1=>r vs H1 Q
theorem o6 (hc:bY X (.builtin id) r) (hg:Gl X x) (hm:X.mg x=none) (hv:bootBuiltins x=some (.builtin id)) (ha:PA X (e::es) t) (hn:x≠"__name__" := by decide) (hdb:(x == ("__debug__" : Str))=false:=by decide)
  (he:starEach (e::es) X.env=(false,eval e X.env)::starEach es X.env:=by rfl) (hpl:(backTo pos (starEach es X.env)).any (·.1)=false:=by rfl):PE X (.Call (.Name x p) (e::es) [] pos) (tCB r t):=by
 intro pins s σ H Q I h
 refine wpAny_Call_Name_kw (jm I hg hm hv ?_ hn hdb)
 exact PyProof.Rows.callWith_builtin1 (thn (ha pos pins s σ H _ I h) fun us s1 ⟨vs,H1,I1,r1,q1⟩=>hc pins s1 σ H1 vs us Q I1 r1 q1) he hpl
theorem rA (hc:bY X (.type T) r) (hg:Gl X x) (hm:X.mg x=none) (hv:bootBuiltins x=some (.type T)) (ha:PA X (e::es) t) (hn:x≠"__name__" := by decide) (hdb:(x == ("__debug__" : Str))=false:=by decide)
  (he:starEach (e::es) X.env=(false,eval e X.env)::starEach es X.env:=by rfl) (hpl:(backTo pos (starEach es X.env)).any (·.1)=false:=by rfl):PE X (.Call (.Name x p) (e::es) [] pos) (tCB r t):=by
 intro pins s σ H Q I h
 refine wpAny_Call_Name_kw (jm I hg hm hv ?_ hn hdb)
 exact PyProof.Rows.callWith_type1 (thn (ha pos pins s σ H _ I h) fun us s1 ⟨vs,H1,I1,r1,q1⟩=>hc pins s1 σ H1 vs us Q I1 r1 q1) he hpl
end
end L2
namespace HT
open PySem PyProof.Rows
section
variable {prog:Program} {w:World} {A:Around} {E:Value->Shared->Prop} {s:Shared}
theorem D4 {t b:Addr} {vs ws:List Value} {Q:Value->Shared->Prop} (ht:IsTup s.heap t vs.toArray) (hb:IsTup s.heap b ws.toArray) (hv:vs≠[])
  (h1:ws=[]->Q (.ref t) s) (h2:ws≠[]->Q (.ref s.heap.objs.size) { s with heap:=s.heap.push { cls:=.type "tuple", data:=.seq (vs++ws).toArray } })
  (hsz:vs.length+ws.length<=sizeLine):wpAny (model prog w) A (binaryOp .Add (.ref t) (.ref b)) Q E s:=by
 obtain⟨⟨cls,dd,data,sl⟩,ho,hc,n,hd⟩:=id ht
 obtain⟨⟨cls2,dd2,data2,sl2⟩,ho2,hc2,n2,hd2⟩:=id hb
 simp only at hc hd hc2 hd2
 subst hc hd hc2 hd2
 have e:vs.toArray++ws.toArray=(vs++ws).toArray:=by simp
 by_cases hw:ws=[]
 ·exact concat_meets ⟨_,ho,rfl⟩ ⟨_,ho2,rfl⟩ noFill_tuple_add seq_tuple_add PySem.F.slot_tuple_add PySem.F.entry_tuple_add (PySem.F.args_tuple_add_2 _ _)
   (tuple_addW1 t b vs.toArray ws.toArray n n2 dd dd2 sl sl2 (by simpa using hv) (by simp[hw])) ⟨ho,ho2,h1 hw⟩
 ·refine concat_meets ⟨_,ho,rfl⟩ ⟨_,ho2,rfl⟩ noFill_tuple_add seq_tuple_add PySem.F.slot_tuple_add PySem.F.entry_tuple_add (PySem.F.args_tuple_add_2 _ _)
   (tuple_addW2 t b vs.toArray ws.toArray n n2 dd dd2 sl sl2 (by simpa using hv) (by simpa using hw) (by rw[List.size_toArray,List.size_toArray];exact hsz)) ⟨ho,ho2,?_⟩
  rw[e]
  exact h2 hw
noncomputable def sIx (n d:Nat):Option Int->Nat
 | none=>d
 | some v=>if v<0 then (v+(n:Int)).toNat else min v.toNat n
theorem BI (n d:Nat):sIx n d none=d:=rfl
theorem HG (n d:Nat) (hd:d<=n) (o:Option Int):sIx n d o<=n:=by
 cases o with
 | none=>exact hd
 | some v=>
  show(if v<0 then (v+(n:Int)).toNat else min v.toNat n)<=n
  by_cases hv:v<0
  ·rw[if_pos hv];omega
  ·rw[if_neg hv];exact Nat.min_le_right _ _
theorem xW (v:Int) (n d:Nat):(if v<0 then max (v+(n:Int)) 0 else min v (n:Int))=((sIx n d (some v):Nat):Int):=by
 show(if v<0 then max (v+(n:Int)) 0 else min v (n:Int))=(((if v<0 then (v+(n:Int)).toNat else min v.toNat n):Nat):Int)
 by_cases hv:v<0
 ·simp only[if_pos hv];omega
 ·simp only[if_neg hv];omega
theorem wu (lo hi:Option Int) (n:Nat):Builtin.Slice.sliceAdjust lo hi 1 (n:Int)=(((sIx n 0 lo:Nat):Int),((sIx n n hi:Nat):Int)):=by
 have h1:¬ ((1:Int)<0):=by omega
 unfold Builtin.Slice.sliceAdjust
 simp only[h1,if_false]
 refine Prod.ext ?_ ?_
 ·cases lo with
  | none=>rfl
  | some v=>exact xW v n 0
 ·cases hi with
  | none=>rfl
  | some v=>exact xW v n n
theorem wG (i j:Nat):Builtin.Slice.slicePlaces (i:Int) (j:Int) 1=j - i:=by
 unfold Builtin.Slice.slicePlaces
 have h1:(1:Int) > 0:=by omega
 simp only[h1,if_true,Int.ediv_one]
 split<;>omega
theorem pL {v:Value} {o:Option Int} {Q:Option Int->Shared->Prop} (p:IsPart v o) (h:Q o s):wpAny (model prog w) A (Builtin.Slice.slicePartIndex v) Q E s:=by
 cases p with
 | none=>exact slicePart_none h
 | int i t=>exact slicePart_int h
theorem gY {sl:Addr} {vl vu:Value} {lo hi:Option Int} {n:Nat} {Q:Int × Int × Nat->Shared->Prop} (hs:s.heap.IsSliceOf sl vl vu .none) (pl:IsPart vl lo) (pu:IsPart vu hi)
  (h:Q (((sIx n 0 lo:Nat):Int),1,sIx n n hi - sIx n 0 lo) s):wpAny (model prog w) A (Builtin.Slice.sliceApplied (.ref sl) (pure (n:Int))) Q E s:=by
 obtain⟨os,hos,hcs,hds⟩:=id hs
 unfold Builtin.Slice.sliceApplied Builtin.Slice.sliceFields
 refine wpAny_bind (wpAny_bind (wpAny_field hos hds (x:=vl) rfl (wpAny_bind (wpAny_field hos hds (x:=vu) rfl (wpAny_bind (wpAny_field hos hds (x:=.none) rfl (wpAny_pure ?_)))))))
 refine wpAny_bind (slicePart_none ?_)
 show wpAny _ _ (if ((1:Int) == 0)=true then _ else _) _ _ s
 rw[if_neg (by decide)]
 refine wpAny_bind (pL pl (wpAny_bind (pL pu (wpAny_bind (wpAny_pure ?_)))))
 show wpAny _ _ (match Builtin.Slice.sliceAdjust lo hi 1 (n:Int) with | (lo,hi)=>pure (lo,(1:Int),Builtin.Slice.slicePlaces lo hi 1)) _ _ s
 rw[wu lo hi n]
 show wpAny _ _ (pure (((sIx n 0 lo:Nat):Int),(1:Int),Builtin.Slice.slicePlaces ((sIx n 0 lo:Nat):Int) ((sIx n n hi:Nat):Int) 1)) _ _ s
 rw[wG]
 exact wpAny_pure h
theorem Ba (xs:Array Value) (i k:Nat):((List.range k).filterMap fun(m:Nat)=>xs[((i:Int)+(m:Int)*1).toNat]?).toArray=((xs.toList.drop i).take k).toArray:=by
 have e:(fun(m:Nat)=>xs[((i:Int)+(m:Int)*1).toNat]?)=fun m=>xs[i+m]?:=by
  funext m
  have:((i:Int)+(m:Int)*1).toNat=i+m:=by omega
  rw[this]
 rw[e]
 have:=pick_run xs i k
 rw[List.filterMap_map] at this
 have e2:((fun x=>xs[x]?) ∘ fun x=>i+x)=fun m=>xs[i+m]?:=rfl
 rw[e2] at this
 rw[this]
theorem kZ {t sl:Addr} {items:Array Value} {vl vu:Value} {lo hi:Option Int} {Q:Value->Shared->Prop} (ht:IsTup s.heap t items) (hs:s.heap.IsSliceOf sl vl vu .none) (pl:IsPart vl lo) (pu:IsPart vu hi)
  (hw:¬ (sIx items.size 0 lo=0/\sIx items.size items.size hi=items.size))
  (h:Q (.ref s.heap.objs.size) { s with heap:=s.heap.push { cls:=.type "tuple", data:=.seq ((items.toList.drop (sIx items.size 0 lo)).take (sIx items.size items.size hi - sIx items.size 0 lo)).toArray } })
  (hsz:items.size<=sizeLine):wpAny (model prog w) A (getItem (.ref t) (.ref sl)) Q E s:=by
 have htake:sizeOk (.seq ((items.toList.drop (sIx items.size 0 lo)).take (sIx items.size items.size hi - sIx items.size 0 lo)).toArray):=by
  show((items.toList.drop (sIx items.size 0 lo)).take (sIx items.size items.size hi - sIx items.size 0 lo)).toArray.size<=sizeLine
  rw[List.size_toArray,List.length_take,List.length_drop,Array.length_toList]
  omega
 have hj:sIx items.size items.size hi<=items.size:=HG _ _ (Nat.le_refl _) hi
 obtain⟨os,hos,hcs,hds⟩:=id hs
 have hTs:s.TypeIs (.ref sl) "slice" := ⟨os,hos,hcs⟩
 unfold getItem
 try with_reducible refine wpAny_holding ?_
 first | refine wpAny_bind (wpAny_pure ?_) | skip
 refine wpAny_bind (wpAny_sequenceKey ht.typeIs (by decide) ?_)
 refine wpAny_bind (wpAny_callSpecial?_slot (name:=Str.ofString "__getitem__") ht.typeIs PyProof.Rows.slot_tuple_getitem
  (wpAny_call_entry PyProof.Rows.slot_tuple_getitem ht.typeIs entry_tuple_getitem ?_ (args_tuple_getitem _ _)))
 show wpAny _ _ (Builtin.Tuple.tupleItemsOf (.ref t) >>= _) _ _ s
 refine wpAny_bind (tupleItemsOf_ ht ?_)
 refine wpAny_bind (wpAny_typeOf hTs ?_)
 rw[if_pos (by decide)]
 refine wpAny_bind (gY hs pl pu ?_)
 have hno:¬ ((((sIx items.size 0 lo:Nat):Int) == 0&&(1:Int) == 1&&(sIx items.size items.size hi - sIx items.size 0 lo) == items.size)=true):=by
  intro q
  rw[Bool.and_eq_true,Bool.and_eq_true] at q
  have q1:((sIx items.size 0 lo:Nat):Int)=0:=eq_of_beq q.1.1
  have q2:sIx items.size items.size hi - sIx items.size 0 lo=items.size:=eq_of_beq q.2
  exact hw ⟨by omega,by omega⟩
 show wpAny _ _ (if (((sIx items.size 0 lo:Nat):Int) == 0&&(1:Int) == 1&&(sIx items.size items.size hi - sIx items.size 0 lo) == items.size)=true then _ else _) _ _ s
 rw[if_neg hno,Ba]
 first
  | exact wpAny_bind (m:=Builtin.Tuple.tupleExact _) (wpAny_newObj_type (wpAny_pure ⟨_,rfl,wpAny_pure h⟩) htake)
  | exact wpAny_bind (m:=Builtin.Tuple.tupleExact _) (wpAny_newObj_type (wpAny_bind (wpAny_pure (wpAny_pure ⟨_,rfl,wpAny_pure h⟩))) htake)
  | exact wpAny_bind (wpAny_bind (m:=Builtin.Tuple.tupleExact _) (wpAny_newObj_type (wpAny_pure (wpAny_pure ⟨_,rfl,wpAny_pure h⟩)) htake))
  | exact wpAny_bind (wpAny_bind (m:=Builtin.Tuple.tupleExact _) (wpAny_newObj_type (wpAny_pure ⟨_,rfl,wpAny_pure h⟩) htake))
end
end HT
namespace L2
open PySem PySem.Spec PyProof.Rows
noncomputable abbrev TO:=St->Hp->(Option Int->Hp->Prop)->Prop
noncomputable def PO (X:Cx) (e:Option Expr) (t:TO):Prop:=
 ∀(pins:List (Addr × Obj)) (s:Shared) (σ:St) (H:Hp) (Q:Option Int->Hp->Prop),Inv X pins σ H s->t σ H Q →
  wpAny (model X.prog X.w) X.A (evalPart e X.env) (fun u s'=>∃o H',Inv X pins σ H' s'/\IsPart u o/\Q o H') X.xe s
noncomputable def E7:TO:=fun _ H Q=>Q none H
noncomputable def Jq (t:TE):TO:=fun σ H Q=>t σ H fun x H1=>∃i,x=.int i/\Q (some i) H1
section
variable {X:Cx} {e:Expr} {te:TE} {lo hi:Option Expr} {tl th:TO} {pos p2:Pos}
theorem EO:PO X none E7:=by
 intro pins s σ H Q I h
 rw[evalPart_none]
 exact wpAny_pure ⟨none,H,I,.none,h⟩
theorem EL (h:PE X e te):PO X (some e) (Jq te):=by
 intro pins s σ H Q I hw
 rw[evalPart_some]
 refine thn (h pins s σ H _ I hw) fun u s1 ⟨x,H1,I1,r1,q1⟩=>?_
 obtain⟨i,rfl,q⟩:=q1
 obtain⟨t,rfl⟩:=r1
 exact⟨some i,H1,I1,.int i t,q⟩
noncomputable def SlR (X:Cx) (r:V->Option Int->Option Int->Hp->VK->Prop):Prop:=
 ∀(pins:List (Addr × Obj)) (s:Shared) (σ:St) (H:Hp) (x:V) (v vl vu:Value) (lo hi:Option Int) (sl:Addr) (Q:VK),Inv X pins σ H s->RelV x v->s.heap.IsSliceOf sl vl vu .none->IsPart vl lo->IsPart vu hi->r x lo hi H Q →
  ∃T id,typeLookup (.type T) "__getitem__" = pure (some (.builtin id))/\s.TypeIs v T/\wpAny (model X.prog X.w) X.A (getItem v (.ref sl)) (EP X pins σ Q) X.xe s
theorem SlR.or {r r':V->Option Int->Option Int->Hp->VK->Prop} (h:SlR X r) (h':SlR X r'):SlR X (fun x lo hi H Q=>r x lo hi H Q\/r' x lo hi H Q):=by
 intro pins s σ H x v vl vu lo hi sl Q I rx hs pl pu q
 rcases q with q | q
 ·exact h pins s σ H x v vl vu lo hi sl Q I rx hs pl pu q
 ·exact h' pins s σ H x v vl vu lo hi sl Q I rx hs pl pu q
noncomputable def tSl (r:V->Option Int->Option Int->Hp->VK->Prop) (te:TE) (tl th:TO):TE:=fun σ H Q=>te σ H fun x H1=>tl σ H1 fun l H2=>th σ H2 fun u H3=>r x l u H3 Q
theorem AX {r:V->Option Int->Option Int->Hp->VK->Prop} (hr:SlR X r) (he:PE X e te) (hl:PO X lo tl) (hu:PO X hi th):PE X (.Subscript e (.Slice lo hi none p2) pos) (tSl r te tl th):=by
 intro pins s σ H Q I h
 refine Subscript_ (thn (he pins s σ H _ I h) fun v s1 ⟨x,H1,I1,r1,q1⟩=>?_)
 refine wpAny_Slice (thn (hl pins s1 σ H1 _ I1 q1) fun vl s2 ⟨l,H2,I2,pl,q2⟩=>thn (hu pins s2 σ H2 _ I2 q2) fun vu s3 ⟨u,H3,I3,pu,q3⟩=>?_)
 rw[evalPart_none]
 refine wpAny_pure ?_
 have I4:Inv X pins σ H3 { s3 with heap:=s3.heap.push { cls:=.type "slice", data:=.fields #[vl,vu,.none] } }:=I3.kept (t':=s3.toks) fun b ob q=>Heap.get?_push_of_some _ q
 obtain⟨T,id,hT,ht,hg⟩:=hr pins { s3 with heap:=s3.heap.push { cls:=.type "slice", data:=.fields #[vl,vu,.none] } } σ H3 x v vl vu l u s3.heap.objs.size Q I4 r1 (Heap.IsSliceOf.new ..) pl pu q3
 show wpAny (model X.prog X.w) X.A (subscriptTail e (.Slice lo hi none p2) v (.ref s3.heap.objs.size)) (EP X pins σ Q) X.xe { s3 with heap:=s3.heap.push { cls:=.type "slice", data:=.fields #[vl,vu,.none] } }
 exact tail_any (ops:=[.ref s3.heap.objs.size,v]) ht hT hg (by with_unfolding_all rfl)
noncomputable def pZ (xs:List V) (lo hi:Option Int):List V:=(xs.drop (HT.sIx xs.length 0 lo)).take (HT.sIx xs.length xs.length hi - HT.sIx xs.length 0 lo)
theorem mP (xs:List V) (lo hi:Option Int):(pZ xs lo hi).length<=xs.length:=by
 unfold pZ
 rw[List.length_take,List.length_drop]
 omega
noncomputable def Kt (K:PySem.W.Frag):V->Option Int->Option Int->Hp->VK->Prop:=fun x lo hi H Q=>∃a xs,x=.ref a/\SqT K H a xs ∧
 ¬ (HT.sIx xs.length 0 lo=0/\HT.sIx xs.length xs.length hi=xs.length)/\∀p,H p=none->Q (.ref p) (upd H p (.tup (pZ xs lo hi)))
theorem Hz:SlR X (Kt X.K):=by
 intro pins s σ H x v vl vu lo hi sl Q I rx hs pl pu h
 obtain⟨a,xs,rfl,hx,hw,q⟩:=h
 cases rx
 obtain⟨its,r,ht,hz⟩:=I.tuple hx
 have hlen:its.toArray.size=xs.length:=by rw[List.size_toArray];exact r.length.symm
 refine⟨"tuple", _,PyProof.Rows.slot_tuple_getitem.lookup,ht.typeIs,?_⟩
 refine HT.kZ ht hs pl pu (by rw[hlen];exact hw) ?_ (by rw[hlen];exact hz)
 rw[hlen]
 refine⟨.ref s.heap.objs.size,_,I.laid (t':=s.toks) (o:=.tup (pZ xs lo hi)) (fun b ob q=>Heap.get?_push_of_some _ q) (Nat.le_refl _) ?_,rfl,q _ (I.hok.fresh (Nat.le_refl _))⟩
 exact⟨Nat.le_trans (mP xs lo hi) hz,_,(r.drop (HT.sIx xs.length 0 lo)).take (HT.sIx xs.length xs.length hi - HT.sIx xs.length 0 lo),lQ.new _ _⟩
noncomputable def Fg (K:PySem.W.Frag):R2:=fun x y H Q=>∃a b xs ys,x=.ref a/\y=.ref b/\SqT K H a xs/\SqT K H b ys/\xs≠[]/\xs.length+ys.length<=sizeLine ∧
 (ys=[]->Q (.ref a) H)/\(ys≠[]->∀p,H p=none->Q (.ref p) (upd H p (.tup (xs++ys))))
theorem Vals.r6 {xs:List V} {us:List Value} (r:Vals xs us):us=[]↔xs=[]:=by
 cases r with
 | nil=>simp
 | cons _ _=>simp
theorem EI:OpR X (binaryOp .Add) (Fg X.K):=by
 intro pins s σ H x y v u Q I rx ry h
 obtain⟨a,b,xs,ys,rfl,rfl,ha,hb,hx,hz,q1,q2⟩:=h
 cases rx
 cases ry
 obtain⟨its,r1,p1,_⟩:=I.tuple ha
 obtain⟨its2,r2,p2,_⟩:=I.tuple hb
 refine HT.D4 p1 p2 (fun z=>hx (r1.r6.mp z)) (fun z=>⟨.ref a,H,I,rfl,q1 (r2.r6.mp z)⟩) (fun z=>?_) (by rw[<- r1.length,<- r2.length];exact hz)
 refine⟨.ref s.heap.objs.size,_,I.laid (t':=s.toks) (o:=.tup (xs++ys)) (fun b ob q=>Heap.get?_push_of_some _ q) (Nat.le_refl _) ?_,rfl,q2 (fun w=>z (r2.r6.mpr w)) _ (I.hok.fresh (Nat.le_refl _))⟩
 exact⟨by rw[List.length_append];exact hz,_,r1.append r2,lQ.new _ _⟩
end
noncomputable def ixN (n:Nat) (i:Int):Option Nat:=if 0<=i then (if i<n then some i.toNat else none) else if -(n:Int)<=i then some (i+n).toNat else none
noncomputable def atI {α:Type} (xs:List α) (i:Int):Option α:=(ixN xs.length i).bind fun j=>xs[j]?
theorem yq {n:Nat} {i:Int} {j:Nat} (h:ixN n i=some j):seqIndex? i n=some j/\j<n/\-(n:Int)<=i/\i<n:=by
 unfold ixN at h
 by_cases h0:0<=i
 ·rw[if_pos h0] at h
  by_cases h1:i<n
  ·rw[if_pos h1] at h
   have e:i.toNat=j:=Option.some.inj h
   exact⟨by rw[seqIndex_of h0 h1,e],by omega,by omega,h1⟩
  ·rw[if_neg h1] at h;cases h
 ·rw[if_neg h0] at h
  by_cases h1:-(n:Int)<=i
  ·rw[if_pos h1] at h
   have e:(i+n).toNat=j:=Option.some.inj h
   exact⟨by rw[seqIndex_neg (by omega) h1,e],by omega,h1,by omega⟩
  ·rw[if_neg h1] at h;cases h
theorem nU {α:Type} {xs:List α} {i:Int} {v:α} (h:atI xs i=some v):∃j,seqIndex? i xs.length=some j/\xs[j]?=some v/\j<xs.length/\-(xs.length:Int)<=i/\i<xs.length:=by
 unfold atI at h
 cases e:ixN xs.length i with
 | none=>rw[e] at h;cases h
 | some j=>
  rw[e] at h
  obtain⟨h1,h2,h3,h4⟩:=yq e
  exact⟨j,h1,h,h2,h3,h4⟩
theorem Ex {α:Type} {xs:List α} {j:Nat} {v:α} (h:xs[j]?=some v):atI xs (j:Int)=some v:=by
 have hj:j<xs.length:=(List.getElem?_eq_some_iff.mp h).1
 have e:ixN xs.length (j:Int)=some j:=by
  unfold ixN
  rw[if_pos (by omega),if_pos (by omega)];simp
 unfold atI;rw[e];exact h
noncomputable def yw (b:Expr):Prop:=∀o i,subscripted b false o i=operate [o,i] (getItem o i)
noncomputable def IxR (X:Cx) (r:R2):Prop:=
 ∀(value slice:Expr) (pins:List (Addr × Obj)) (s:Shared) (σ:St) (H:Hp) (x y:V) (v u:Value) (Q:VK),Inv X pins σ H s->RelV x v->RelV y u->r x y H Q →
  subscripted slice false v u=operate [v,u] (getItem v u)->wpAny (model X.prog X.w) X.A (subscriptTail value slice v u) (EP X pins σ Q) X.xe s
noncomputable def MtR (X:Cx) (id:String) (r:V->List V->Hp->VK->Prop):Prop:=
 ∀(pins:List (Addr × Obj)) (s:Shared) (σ:St) (H:Hp) (x:V) (xs:List V) (v:Value) (us:List Value) (Q:VK),Inv X pins σ H s->RelV x v->Vals xs us->r x xs H Q →
  wpAny (model X.prog X.w) X.A (call (.builtin id) (v::us)) (EP X pins σ Q) X.xe s
section
variable {X:Cx} {a b:Expr} {ta tb:TE} {pos:Pos}
theorem IxR.or {r r':R2} (h:IxR X r) (h':IxR X r'):IxR X (fun x y H Q=>r x y H Q\/r' x y H Q):=by
 intro value slice pins s σ H x y v u Q I rx ry q hs
 rcases q with q | q
 ·exact h value slice pins s σ H x y v u Q I rx ry q hs
 ·exact h' value slice pins s σ H x y v u Q I rx ry q hs
theorem IE {r:R2} (hr:IxR X r) (ha:PE X a ta) (hb:PE X b tb) (hs:yw b):PE X (.Subscript a b pos) (tOp r ta tb):=by
 intro pins s σ H Q I h
 exact Subscript_ (Gs ha hb I h fun v u s2 x y H2 I2 rx ry q=>hr a b pins s2 σ H2 x y v u Q I2 rx ry q (hs _ _))
noncomputable def GF (K:PySem.W.Frag):R2:=fun x y H Q=>∃p xs i v,x=.ref p/\y=.int i/\SqL K H p xs/\atI xs i=some v/\Q v H
noncomputable def HR (K:PySem.W.Frag):R2:=fun x y H Q=>∃p xs i v,x=.ref p/\y=.int i/\SqT K H p xs/\atI xs i=some v/\Q v H
noncomputable def Il:R2:=fun x y H Q=>∃z i c,x=.str z/\y=.int i/\z.length<=sizeLine/\atI z.cps.toList i=some c/\Q (.str ⟨#[c]⟩) H
theorem Es:IxR X (GF X.K):=by
 intro value slice pins s σ H x y v u Q I rx ry h hs
 obtain⟨p,xs,i,z,rfl,rfl,hq,he,q⟩:=h
 cases rx
 obtain⟨t,rfl⟩:=ry
 obtain⟨its,r,pl,hz⟩:=I.list hq
 obtain⟨j,h1,h2,h3,h4,h5⟩:=nU he
 obtain⟨w,ew,rw'⟩:=r.get h2
 have hl:=r.length
 have hn:=jj
 have fin:EP X pins σ Q w s:=⟨z,H,I,rw',q⟩
 by_cases h0:0<=i
 ·have hj:i.toNat=j:=by
   rw[seqIndex_of h0 h5] at h1
   exact Option.some.inj h1
  exact item_listR pl.isList h0 (by omega) (by rw[hj];simpa using ew) fin hs
 ·have hj:(i+(its.toArray.size:Int)).toNat=j:=by
   rw[seqIndex_neg (by omega) h4] at h1
   rw[List.size_toArray,<- hl]
   exact Option.some.inj h1
  exact subscriptTail_builtinR (x:=w) pl.isList.typeIs slot_list_getitem.lookup
   (wpAny_getItem_list_neg (Q:=fun r s'=>r=w/\EP X pins σ Q r s') pl.isList (by omega) (by rw[List.size_toArray]<;>omega) (by omega) (by rw[hj];simpa using ew) ⟨rfl,fin⟩) hs
theorem HB:IxR X (HR X.K):=by
 intro value slice pins s σ H x y v u Q I rx ry h hs
 obtain⟨p,xs,i,z,rfl,rfl,hq,he,q⟩:=h
 cases rx
 obtain⟨t,rfl⟩:=ry
 obtain⟨its,r,pl,hz⟩:=I.tuple hq
 obtain⟨j,h1,h2,h3,h4,h5⟩:=nU he
 obtain⟨w,ew,rw'⟩:=r.get h2
 have hl:=r.length
 have hn:=jj
 have fin:EP X pins σ Q w s:=⟨z,H,I,rw',q⟩
 exact subscriptTail_builtinR (x:=w) pl.typeIs slot_tuple_getitem.lookup
  (getItem_tuple (j:=j) (Q:=fun r s'=>r=w/\EP X pins σ Q r s') pl (by omega) (by omega) (by rw[List.size_toArray,<- hl];exact h1) (by simpa using ew) ⟨rfl,fin⟩) hs
theorem GD:IxR X Il:=by
 intro value slice pins s σ H x y v u Q I rx ry h hs
 obtain⟨z,i,c,rfl,rfl,hz,he,q⟩:=h
 obtain⟨t,rfl⟩:=rx
 obtain⟨t',rfl⟩:=ry
 obtain⟨j,h1,h2,h3,h4,h5⟩:=nU he
 have hl:z.cps.toList.length=z.length:=by simp[Str.length]
 rw[hl] at h1 h4 h5
 have hn:=jj
 exact tail_any (typeIs_str s z t) slot_str_getitem.lookup (getItem_str (c:=c) (by
  have e1:decide (i < -(2 ^ 63:Int))=false:=decide_eq_false (by omega)
  have e2:decide (i ≥ 2 ^ 63)=false:=decide_eq_false (by omega)
  rw[e1,e2,Bool.or_false]) (by rw[h1];simpa using h2) ⟨.str ⟨#[c]⟩,H,I.tok _,⟨_,rfl⟩,q⟩) hs
noncomputable def rIx (K:PySem.W.Frag):R2:=fun x y H Q=>GF K x y H Q\/HR K x y H Q\/Il x y H Q
theorem bN:IxR X (rIx X.K):=Es.or (HB.or GD)
theorem wm (its:List Value) (n j:Nat) (u:Value):Obj.mapSeq (·.setIfInBounds j u) { cls:=.type "list", data:=.seq its.toArray n }={ cls:=.type "list", data:=.seq (its.set j u).toArray n }:=by
 simp[Obj.mapSeq]
theorem Inv.lst {pins:List (Addr × Obj)} {σ:St} {H:Hp} {s:Shared} {p:Addr} {xs:List V} (I:Inv X pins σ H s) (h:H p=some (.lst xs)) :
  ∃(its:List Value) (n:Nat),Vals xs its/\s.heap.get? p=some { cls:=.type "list", data:=.seq its.toArray n }/\xs.length<=sizeLine:=by
 obtain⟨z,its,n,r,e⟩:=I.hok p _ h
 exact⟨its,n,r,e,z⟩
theorem Inv.Gp {pins:List (Addr × Obj)} {σ:St} {H:Hp} {s:Shared} {p:Addr} {xs ys:List V} {its its':List Value} {n n':Nat} {f:Obj->Obj} (I:Inv X pins σ H s) (h:H p=some (.lst xs))
  (ho:s.heap.get? p=some { cls:=.type "list", data:=.seq its.toArray n }) (hf:f { cls:=.type "list", data:=.seq its.toArray n }={ cls:=.type "list", data:=.seq its'.toArray n' }) (r:Vals ys its') (hz:ys.length<=sizeLine) (t:Nat) :
  Inv X pins σ (upd H p (.lst ys)) { s with heap:=s.heap.update p f,toks:=t }:=by
 have e:(s.heap.update p f).get? p=some { cls:=.type "list", data:=.seq its'.toArray n' }:=by
  rw[Heap.get?_update_self f ho (by rw[hf]<;>rfl),hf]
 refine I.write (x:=p) (e:=p) (by rw[h];trivial) (.inl rfl) (fun b u hb q=>(Heap.get?_update_other _ _ (Ne.symm hb)).trans q) ⟨_,e⟩ ?_
 exact⟨hz,its',n',r,e⟩
noncomputable def Fm:V->V->V->Hp->(Hp->Prop)->Prop:=fun o i v H Q=>∃p xs k j,o=.ref p/\i=.int k/\H p=some (.lst xs)/\ixN xs.length k=some j/\Q (upd H p (.lst (xs.set j v)))
theorem set_list:E3 X Fm:=by
 intro pins s σ H o i v ov iv u Q I ro ri rv h
 obtain⟨p,xs,k,j,rfl,rfl,hp,hj,q⟩:=h
 cases ro
 obtain⟨t,rfl⟩:=ri
 obtain⟨its,n,r,ho,hz⟩:=I.lst hp
 obtain⟨h1,h2,h3,h4⟩:=yq hj
 have hl:=r.length
 have hn:=jj
 have I':Inv X pins σ (upd H p (.lst (xs.set j v))) { s with heap:=s.heap.update p (Obj.mapSeq (·.setIfInBounds j u)) }:=
  I.Gp hp ho (wm its n j u) (r.set rv j) (by rw[List.length_set];exact hz) s.toks
 by_cases h0:0<=k
 ·have hk:k.toNat=j:=by
   rw[seqIndex_of h0 h4] at h1
   exact Option.some.inj h1
  exact PySem.W.ki_setAt ho h0 (by omega) (by rw[List.size_toArray,<- hl];exact h4) (by rw[hk];exact⟨_,I',q⟩)
 ·have hk:(k+(its.toArray.size:Int)).toNat=j:=by
   rw[seqIndex_neg (by omega) h3] at h1
   rw[List.size_toArray,<- hl]
   exact Option.some.inj h1
  exact PySem.W.ki_setBack ho (by omega) (by rw[List.size_toArray,<- hl];exact h3) (by omega) (by rw[hk];exact⟨_,I',q⟩)
theorem rZ (lo hi:Option Int) (n:Nat):(sliceBounds lo hi none n).1=((HT.sIx n 0 lo:Nat):Int)/\(sliceBounds lo hi none n).2.1=((HT.sIx n n hi:Nat):Int)/\(sliceBounds lo hi none n).2.2=1:=by
 refine⟨?_,?_,rfl⟩
 ·cases lo with
  | none=>simp[sliceBounds,HT.sIx]
  | some i=>
   simp only[sliceBounds,HT.sIx,Option.getD_none,show(1:Int) > 0 by decide,if_true]
   by_cases h:i<0
   ·simp only[h,if_true]<;>omega
   ·simp only[h,if_false]<;>omega
 ·cases hi with
  | none=>simp[sliceBounds,HT.sIx]
  | some i=>
   simp only[sliceBounds,HT.sIx,Option.getD_none,show(1:Int) > 0 by decide,if_true]
   by_cases h:i<0
   ·simp only[h,if_true]<;>omega
   ·simp only[h,if_false]<;>omega
theorem qp (its:List Value) (lo hi:Option Int):slicePick its.toArray lo hi none=((its.drop (HT.sIx its.length 0 lo)).take (HT.sIx its.length its.length hi - HT.sIx its.length 0 lo)).toArray:=by
 obtain⟨h1,h2,h3⟩:=rZ lo hi its.toArray.size
 unfold slicePick
 rw[h1,h2,h3]
 simp only[sliceRange_one,pick_run,List.size_toArray]<;>rfl
noncomputable def Kp (K:PySem.W.Frag):V->Option Int->Option Int->Hp->VK->Prop:=fun x lo hi H Q=>∃a xs,x=.ref a/\SqL K H a xs/\∀p,H p=none->Q (.ref p) (upd H p (.lst (pZ xs lo hi)))
theorem DF:SlR X (Kp X.K):=by
 intro pins s σ H x v vl vu lo hi sl Q I rx hs pl pu h
 obtain⟨a,xs,rfl,hx,q⟩:=h
 cases rx
 obtain⟨its,r,ht,hz⟩:=I.list hx
 have hlen:=r.length
 refine⟨"list", _,slot_list_getitem.lookup,ht.isList.typeIs,?_⟩
 refine wpAny_getItem_list_slice ht.isList hs pl pu .none (by simp) ?_ (by rw[List.size_toArray]<;>omega)
 rw[qp,<- hlen]
 refine⟨.ref s.heap.objs.size,_,I.laid (t':=s.toks) (o:=.lst (pZ xs lo hi)) (fun b ob q=>Heap.get?_push_of_some _ q) (Nat.le_refl _) ?_,rfl,q _ (I.hok.fresh (Nat.le_refl _))⟩
 exact⟨Nat.le_trans (mP xs lo hi) hz,_,0,(r.drop (HT.sIx xs.length 0 lo)).take (HT.sIx xs.length xs.length hi - HT.sIx xs.length 0 lo),Heap.get?_push_size _ rfl⟩
theorem t8:bY X (.builtin "len") (fun xs H Q=>∃p ys,xs=[.ref p]/\(SqL X.K H p ys\/SqT X.K H p ys)/\Q (.int ys.length) H):=by
 intro pins s σ H xs us Q I r h
 obtain⟨p,ys,rfl,hq,q⟩:=h
 obtain⟨u,rfl,rx⟩:=vals1 r
 cases rx
 have hn:=jj
 rcases hq with hq | hq
 ·obtain⟨its,r',pl,hz⟩:=I.list hq
  have hlen:=r'.length
  exact Calls.call_len_list pl.isList (by simp only[List.size_toArray]<;>omega) ⟨.int ys.length,H,I.tok _,⟨s.toks+1,by rw[List.size_toArray,hlen]⟩,q⟩
 ·obtain⟨its,r',pl,hz⟩:=I.tuple hq
  have hlen:=r'.length
  exact len_tuple pl (by simp only[List.size_toArray]<;>omega) ⟨.int ys.length,H,I.tok _,⟨s.toks+1,by rw[List.size_toArray,hlen]⟩,q⟩
theorem sW:bY X (.builtin "len") (fun xs H Q=>∃z,xs=[.str z]/\z.length<=sizeLine/\Q (.int z.length) H):=by
 intro pins s σ H xs us Q I r h
 obtain⟨z,rfl,hz,q⟩:=h
 obtain⟨u,rfl,t,rfl⟩:=vals1 r
 have hn:=jj
 exact len_str (by omega) ⟨.int z.length,H,I.tok _,⟨_,rfl⟩,q⟩
theorem bY.or {f:Value} {r r':List V->Hp->VK->Prop} (h:bY X f r) (h':bY X f r'):bY X f (fun xs H Q=>r xs H Q\/r' xs H Q):=by
 intro pins s σ H xs us Q I rs q
 rcases q with q | q
 ·exact h pins s σ H xs us Q I rs q
 ·exact h' pins s σ H xs us Q I rs q
theorem gL:bY X (.type "tuple") (fun xs H Q=>∃p ys,xs=[.ref p]/\((SqL X.K H p ys/\∀l,H l=none->Q (.ref l) (upd H l (.tup ys)))\/(SqT X.K H p ys/\Q (.ref p) H))):=by
 intro pins s σ H xs us Q I r h
 obtain⟨p,ys,rfl,h⟩:=h
 obtain⟨u,rfl,rx⟩:=vals1 r
 cases rx
 rcases h with⟨hq,q⟩ | ⟨hq,q⟩
 ·obtain⟨its,r',pl,hz⟩:=I.list hq
  have hlen:=r'.length
  refine call_tuple_list pl.isList (fun h' kp=>?_) (by simp only[List.size_toArray]<;>omega)
  have I1:Inv X pins σ H { s with heap:=h' }:=I.kept (t':=s.toks) kp
  have I2:Inv X pins σ (upd H h'.objs.size (.tup ys)) { s with heap:=h'.push { cls:=.type "tuple", data:=.seq its.toArray } }:=
   I1.laid (t':=s.toks) (fun b o e=>Heap.get?_push_of_some _ e) (Nat.le_refl _) (show cF X.prog X.w _ _ _ (.tup ys) from⟨hz,its,r',lQ.new _ _⟩)
  exact⟨.ref h'.objs.size,_,I2,rfl,q _ (I1.hok.fresh (Nat.le_refl _))⟩
 ·obtain⟨its,r',pl,hz⟩:=I.tuple hq
  exact call_tuple_same pl ⟨.ref p,H,I,rfl,q⟩
noncomputable def tyV (K:PySem.W.Frag) (T:String) (x:V) (H:Hp):Prop:=match x with
 | .str _=>T="str"
 | .int _=>T="int"
 | .ref p=>(T="list" /\ ∃xs,SqL K H p xs)\/(T="tuple" /\ ∃o,K.lookup p=some o/\o.cls=.type "tuple" /\ o.dict=none) ∨
   (T="dict" /\ ((∃kvs,H p=some (.dK kvs))\/∃kvs,H p=some (.dT kvs)))\/(T="set" /\ ∃S n,H p=some (.set S n))\/(T="tuple" /\ ∃xs,H p=some (.tup xs))
 | _=>False
theorem Gy {pins:List (Addr × Obj)} {σ:St} {H:Hp} {s:Shared} {T:String} {x:V} {v:Value} (I:Inv X pins σ H s) (r:RelV x v) (ty:tyV X.K T x H) :
  s.TypeIs v T/\∀a,v=.ref a->∃ob,s.heap.get? a=some ob/\ob.dict=none:=by
 cases x with
 | str z=>
  obtain⟨t,rfl⟩:=r
  cases (show T="str" from ty)
  exact⟨typeIs_str s z t,fun _ e=>nomatch e⟩
 | int i=>
  obtain⟨t,rfl⟩:=r
  cases (show T="int" from ty)
  exact⟨typeIs_int s i t,fun _ e=>nomatch e⟩
 | ref p=>
  cases r
  rcases ty with⟨rfl,xs,hq⟩ | ⟨rfl,o,hk,hc,hd⟩ | ⟨rfl,hk⟩ | ⟨rfl,S,n,hk⟩ | ⟨rfl,xs,hk⟩
  ·obtain⟨its,_,pl,_⟩:=I.list hq
   refine⟨pl.isList.typeIs,fun a e=>?_⟩
   cases e
   obtain⟨o,n,e,c,hd,_⟩:=pl
   exact⟨o,e,hd⟩
  ·refine⟨⟨o,I.kIn p o hk,hc⟩,fun a e=>?_⟩
   cases e
   exact⟨o,I.kIn _ o hk,hd⟩
  ·have z:∃o,s.heap.get? p=some o/\o.ExactDict:=by
    rcases hk with⟨kvs,hk⟩ | ⟨kvs,hk⟩
    ·obtain⟨_,_,_,_,o,_,_,e,ex,_⟩:=I.hok p _ hk
     exact⟨o,e,ex⟩
    ·obtain⟨_,_,_,_,o,_,_,e,ex,_⟩:=I.hok p _ hk
     exact⟨o,e,ex⟩
   obtain⟨o,e,ex⟩:=z
   refine⟨⟨o,e,ex.1⟩,fun a e2=>?_⟩
   cases e2
   exact⟨o,e,ex.2.1⟩
  ·obtain⟨o,_,_,_,e,ex,_⟩:=I.hok p _ hk
   refine⟨⟨o,e,ex.1⟩,fun a e2=>?_⟩
   cases e2
   exact⟨o,e,ex.2.1⟩
  ·obtain⟨_,_,_,o,e,⟨c,_⟩,hd⟩:=I.hok p _ hk
   refine⟨⟨o,e,c⟩,fun a e2=>?_⟩
   cases e2
   exact⟨o,e,hd⟩
 | _=>exact False.elim ty
noncomputable def tBM (K:PySem.W.Frag) (T:String) (r:V->List V->Hp->VK->Prop) (to:TE) (t:TA):TE:=fun σ H Q=>to σ H fun x H1=>tyV K T x H1/\t σ H1 fun xs H2=>r x xs H2 Q
variable {o e:Expr} {es:List Expr} {to:TE} {t:TA} {name:Str} {apos cpos:Pos} {T id:String} {r:V->List V->Hp->VK->Prop}
theorem H_ (pa:PlainAttrs T) (slot:Slot T name id) (hty:typeOf (.builtin id)=pure (.type "method_descriptor")) (hm:MtR X id r) (ho:PE X o to) (ha:PA X (e::es) t)
  (hbase:attributeBase o name X.env (eval o X.env)=eval o X.env:=by rfl)
  (hfew:((backTo cpos (starEach (e::es) X.env)).all (fun x=>!x.1)&&(backToKw cpos (keywordEach [] X.env)).all (fun x=>x.1.isSome)
   && decide ((e::es).length+([]:List Keyword).length+(if ([]:List Keyword).isEmpty then 0 else 1)<30))=true:=by rfl)
  (hline:(apos.endLine == cpos.line)=true:=by rfl) (hs:starEach (e::es) X.env=(false,eval e X.env)::starEach es X.env:=by rfl) (hplain:(backTo cpos (starEach es X.env)).any (·.1)=false:=by rfl) :
  PE X (.Call (.Attribute o name apos) (e::es) [] cpos) (tBM X.K T r to t):=by
 intro pins s σ H Q I h
 refine wpAny_Call_method_late hbase hfew hline rfl (thn (ho pins s σ H _ I h) fun v s1 ⟨x,H1,I1,r1,ty,q1⟩=>?_)
 obtain⟨h1,h2⟩:=Gy I1 r1 ty
 refine⟨T,id,pa,slot,hty,h1,h2,?_⟩
 have hA:=ha cpos pins s1 σ H1 _ I1 q1
 rw[hs] at hA ⊢
 refine Calls.callWith_builtin (by show(false || (backTo cpos (starEach es X.env)).any (·.1))=false;rw[hplain]<;>rfl) (Calls.evalArgs_plain ?_)
 exact thn hA fun us s2 ⟨vs,H2,I2,r2,q2⟩=>hm pins s2 σ H2 x vs v us Q I2 r1 r2 q2
/- xs.append(e),list.index on a module's tuple .. are MtR facts of 06m -/
end
noncomputable def MtM (X:Cx) (id:String) (r:V->List V->Hp->VK->Prop):Prop:=
 ∀(pins:List (Addr × Obj)) (s:Shared) (σ:St) (H:Hp) (x:V) (xs:List V) (v:Value) (us:List Value) (Q:VK),Inv X pins σ H s->RelV x v->Vals xs us->r x xs H Q →
  wpAny (model X.prog X.w) X.A (call (.builtin id) (v::us)) (EP X pins σ Q) X.xe s
theorem Vals.one:∀{x:V} {us:List Value},Vals [x] us->∃u,us=[u]/\RelV x u
 | _,_,.cons r .nil=>⟨_,rfl,r⟩
theorem Vals.rep {xs:List V} {us:List Value} (h:Vals xs us):∀k:Nat,Vals (List.replicate k xs).flatten (List.replicate k us).flatten
 | 0=>.nil
 | k+1=>by
  rw[List.replicate_succ,List.replicate_succ,List.flatten_cons,List.flatten_cons]
  exact Vals.append h (Vals.rep h k)
theorem foldl_rep (its:List Value):∀(k:Nat) (acc:List Value),
  List.foldl (fun x1 x2=>x1++x2) acc.toArray (List.replicate k its.toArray)=(acc++(List.replicate k its).flatten).toArray
 | 0,acc=>by simp
 | k+1,acc=>by
  have e:acc.toArray++its.toArray=(acc++its).toArray:=by simp
  have e2:(acc++its)++(List.replicate k its).flatten=acc++(List.replicate (k+1) its).flatten:=by
   rw[List.replicate_succ,List.flatten_cons,List.append_assoc]
  rw[<- e2,<- foldl_rep its k (acc++its),<- e,List.replicate_succ,List.foldl_cons]
section
variable {X:Cx} {pins:List (Addr × Obj)} {σ:St} {H:Hp} {s:Shared} {l b:Addr} {xs ys zs:List V}
theorem Inv.Lb {its its':List Value} {n:Nat} {f:Array Value->Array Value} {t':Nat} (I:Inv X pins σ H s) (hH:H l=some (.lst xs))
  (e:s.heap.get? l=some { cls:=.type "list", data:=.seq its.toArray n }) (hf:f its.toArray=its'.toArray) (hv:Vals ys its') (hz:ys.length<=sizeLine) :
  Inv X pins σ (upd H l (.lst ys)) { s with heap:=s.heap.update l (Obj.mapSeq f),toks:=t' }:=by
 have q:=PySem.IsL.update e f
 rw[hf] at q
 refine I.write (x:=l) (e:=l) (by rw[hH];exact trivial) (.inl rfl) (fun b' u hb hu=>(Heap.get?_update_other s.heap (Obj.mapSeq f) (Ne.symm hb)).trans hu) ⟨_,q⟩ ?_
 exact⟨hz,its',_,hv,q⟩
theorem Inv.D1 {its:List Value} {t':Nat} (I:Inv X pins σ H s) (hv:Vals ys its) (hz:ys.length<=sizeLine) :
  Inv X pins σ (upd H s.heap.objs.size (.lst ys)) { s with heap:=s.heap.push { cls:=.type "list", data:=.seq its.toArray },toks:=t' }:=
 I.laid (fun _ _ q=>Heap.get?_push_of_some _ q) (Nat.le_refl _) ⟨hz,its,0,hv,Heap.get?_push_size _ rfl⟩
theorem Inv.fresh (I:Inv X pins σ H s):H s.heap.objs.size=none:=I.hok.fresh (Nat.le_refl _)
theorem Inv.Le (I:Inv X pins σ H s) (hH:H l=some (.lst xs)):xs.length<=sizeLine/\∃(its:List Value) (n:Nat),Vals xs its/\xs.length=its.length/\s.heap.get? l=some { cls:=.type "list", data:=.seq its.toArray n }:=by
 obtain⟨z,its,n,r,e⟩:=I.hok l _ hH
 exact⟨z,its,n,r,r.length,e⟩
theorem AQ {n:Nat} (h:n<=sizeLine):Builtin.List.listTooLong n=false:=by
 unfold Builtin.List.listTooLong
 exact decide_eq_false (by omega)
end
section
variable {X:Cx}
noncomputable def xV:V->List V->Hp->VK->Prop:=fun x vs H Q=>∃l xs y,x=.ref l/\vs=[y]/\H l=some (.lst xs)/\xs.length<sizeLine/\Q .non (upd H l (.lst (xs++[y])))
theorem lZ:MtM X "list.append" xV:=by
 intro pins s σ H x vs v us Q I rx rv h
 obtain⟨l,xs,y,rfl,rfl,hH,hz,q⟩:=h
 cases rx
 obtain⟨u,rfl,ru⟩:=rv.one
 obtain⟨z,its,n,r,hl,e⟩:=I.Le hH
 refine call_meets F.slot_list_append ⟨_,e,rfl⟩ F.entry_list_append (F.args_list_append_2 _ _) (PySem.list_append l its.toArray n u (by rw[List.size_toArray];omega)) ⟨e,?_⟩
 refine⟨.non,_,I.Lb (its':=its++[u]) hH e (by simp) (r.append (.cons ru .nil)) ?_,rfl,q⟩
 rw[List.length_append,List.length_singleton]
 omega
theorem len_rep {α:Type} (xs:List α) (k:Nat):(List.replicate k xs).flatten.length=k*xs.length:=by
 induction k with
 | zero=>simp
 | succ k ih=>rw[List.replicate_succ,List.flatten_cons,List.length_append,ih,Nat.succ_mul,Nat.add_comm]
end
end L2
namespace Att
open PySem PySem.W PySem.Calls PyProof.Rows
theorem nL {P:Params} {h:Heap}:∀(ns:List Int) (vs:List Value),WellAll P h vs (ns.map WData.int)->IntsAre vs ns:=by
 intro ns
 induction ns with
 | nil=>
  intro vs w
  rw[List.map_nil] at w
  cases w
  exact .nil
 | cons n ns ih=>
  intro vs w
  rw[List.map_cons] at w
  cases w with
  | cons a b=>
   cases a
   exact .cons _ _ (ih _ b)
theorem zP {l:OpenLaw} {n:Nat} (hn:l.most=some n) {P:Params} {h:Heap} {args:List WData} {vals:List Value}
  (hpre:l.row.toRowW.claim.pre args=true) (hwl:WellAll P h vals args) :
  ∃a vs ns,vals=[Value.ref a]/\args=[WData.list (ns.map WData.int)]/\h.get? a=some { cls:=.type "list", data:=.seq vs.toArray }/\IntsAre vs ns/\ns.length<=n:=by
 have hsh:WShape.hasAll [] args [.list .int]=true:=(pre_splitW hpre).1
 have hc:l.pre.holds [] { args:=args }=true:=(pre_splitW hpre).2
 obtain⟨d,r,rfl,h1,h2⟩:=hasAllW_cons hsh
 obtain rfl:=hasAllW_nil h2
 obtain⟨xs,rfl,h3⟩:=hasW_list h1
 obtain⟨ns,rfl⟩:=items_int h3
 have hlen:ns.length<=n:=by
  unfold OpenLaw.pre at hc
  have h4:(WTm.not (.lt (.lit (.int (n:Int))) (.len (.arg 0)))).holds [] { args:=[.list (ns.map .int)] }=true:=by
   have h4:=(holds_andW hc).1
   rw[hn] at h4
   exact h4
  have h5:=condW_of h4 (w_not (w_lt w_lit (w_len_list (w_arg rfl))))
  rw[List.length_map] at h5
  refine Nat.le_of_not_lt fun q=>?_
  have q':(n:Int)<((ns.length:Nat):Int):=by omega
  first
   | (rw[decide_eq_true q'] at h5;exact absurd h5 (by decide))
   | (simp at h5;omega)
 cases hwl with
 | cons w1 w2=>
  cases w2
  cases w1 with
  | list ho hall=>exact⟨_,_,ns,rfl,rfl,ho,nL ns _ hall,hlen⟩
theorem zS (l:OpenLaw) (args:List WData):l.row.toRowW.claim.post args (.bool true) args=true:=
 postW_of (r:=l.row.toRowW) (X:=(true == true))
  (show WShape.has [] (.bool true) .bool=true by first | rfl | decide | simp[WShape.has,WShape.arms,WShape.armsAll])
  (show(WTm.eq .res (.lit (.bool true))).value [] { args:=args,res:=some (.bool true),after:=args }=some (.bool (true == true)) from w_eq_bool (w_res rfl) w_lit) rfl
theorem vj {l:OpenLaw} {n:Nat} {q:Program} {loose:List Str} {XP:(Str->Option Value)->Heap->Prop} {YP:World->Heap->Prop} {d:DefRec}
  (hn:l.most=some n) (hdf:d.params.defaults=[])
  (call:∀(w:World) (aK s₁:Shared) (mg mb:Str->Option Value) (fa:Addr) (o:Obj) (pm cd doc:Value) (a:Addr) (vs:List Value) (ns:List Int),
   Ground q loose [] XP w aK mg mb s₁.heap->YP w s₁.heap →
   s₁.heap.get? fa=some o->o.data=.func (docDef d.name d.params d.body d.scope pm cd doc)->s₁.heap.CodeRec cd d.name->mg d.name=some (.ref fa) →
   s₁.heap.get? a=some { cls:=.type "list", data:=.seq vs.toArray }->IntsAre vs ns->ns.length<=n->s₁.gens = #[] →
   codeAny (model l.prog w) callerA (.call (.ref fa) ⟨[.ref a],[]⟩) (fun r s'=>r=.ok (.ret (.bool true))/\OldK s₁.heap s'.heap/\s'.os=s₁.os/\AllBare s'.gens) s₁) :
  WalkO q loose XP YP l.row.toRowW d [] (fun f vs=>PySem.call f vs):=by
 intro w aK s₁ mg mb G Y fa o pm cd doc dV kV ho hd hcd hD hmg hg args vals as hpre hlay hrd hwl hlo
 obtain rfl:dV=.none:=Dflts.none hD hdf
 obtain rfl:kV=.none:=Dflts.noKw hD
 obtain⟨a,vs,ns,rfl,rfl,hobj,hints,hlen⟩:=zP hn hpre hwl
 refine enter_call (codeAny_mono (call w aK s₁ mg mb fa o pm cd doc a vs ns G Y ho (fd_plain hd) hcd hmg hobj hints hlen hg) fun r s' hq=>?_)
 obtain⟨rfl,h2,h3,h4⟩:=hq
 exact⟨.inl ⟨.bool true,.bool true,[],rfl,fun _=>rfl,.bool true,zS l _,fun _=>⟨List.Pairwise.nil,fun _ hm=>(nomatch hm)⟩⟩,h2,h3,h4⟩
end Att
namespace L2
open PySem PySem.Spec PyProof.Rows
theorem qW:∀{vs:List Value} {ns:List Int},IntsAre vs ns->Vals (ns.map V.int) vs
 | _,_,.nil=>.nil
 | _,_,.cons n t h=>.cons ⟨t,rfl⟩ (qW h)
noncomputable def Ds (H:Hp):Prop:=∀b,H b=none\/∃o xs,H b=some (.frz o (.lst xs))
theorem CS {P:Program} {w:World} {K:PySem.W.Frag} {mg mb:Str->Option Value} {CX:CXT} {k:Nat} {fa a:Addr} {fd:FuncData} {x:Str} {sp:Sp} {s₁:Shared} {vs:List Value} {ns:List Int}
  (KX:K.In s₁.heap) (hns:s₁.heap.Ns mainGlobals mg) (hb:s₁.heap.Ns builtinsNs mb) (hbb:∀x:Str,x≠"__name__" -> mb x=bootBuiltins x) (hlim:s₁.heap.NoLimit) (hg:s₁.gens = #[])
  (ha:s₁.heap.get? a=some { cls:=.type "list", data:=.seq vs.toArray }) (hi:IntsAre vs ns) (hl:ns.length<=sizeLine) (hr:gX k callerA)
  (F:∀base:Heap,K.In base->base.Ns mainGlobals mg->fL P w K mg base CX k fa fd [x] sp) (hbind:∀(s:Shared) (u:Value),BindsTo s fd ⟨[u],[]⟩ [(x,u)])
  (hsp:∀H:Hp,Ds H->SqL K H a (ns.map V.int)->sp [.ref a] H (fun v _=>v=.bl true) fun _ _ _=>False)
  (hCX:∀H e s',CX [] H s₁ (fun _ _ _=>False) e s'->False) :
  codeAny (model P w) callerA (.call (.ref fa) ⟨[.ref a],[]⟩) (fun r s'=>r=.ok (.ret (.bool true))/\OldK s₁.heap s'.heap/\s'.os=s₁.os/\AllBare s'.gens) s₁:=by
 have rv:=qW hi
 have lenV:=hi.length
 -- from an abstract heap in which nothing but the script may be tracked
 have core:∀H:Hp,Ds H->SqL K H a (ns.map V.int)->HOk P w H s₁.heap->(∀b,H b≠none->b=a)->(H a≠none->K.lookup a=none) →
   codeAny (model P w) callerA (.call (.ref fa) ⟨[.ref a],[]⟩) (fun r s'=>r=.ok (.ret (.bool true))/\OldK s₁.heap s'.heap/\s'.os=s₁.os/\AllBare s'.gens) s₁:=by
  intro H hO hS hok hA hK
  have base_of:∀{b:Addr} {o:Obj},s₁.heap.get? b=some o->H b=none->(tW s₁.heap H).get? b=some o:=fun e n=>AH e n
  have noA:∀{b:Addr} {o:Obj} {es:Array DictEntry} {ep:Nat},s₁.heap.get? b=some o->o.data=.dict es ep->H b=none:=fun{b o es ep} e d=>by
   cases q:H b with
   | none=>rfl
   | some u=>
    have e':b=a:=hA b (by rw[q];simp)
    subst e'
    rw[ha] at e;cases e
    have d':Data.seq vs.toArray _=Data.dict es ep:=d
    cases d'
  have nsK:∀{b:Addr} {m:Str->Option Value},s₁.heap.Ns b m->(tW s₁.heap H).Ns b m:=fun{b m} ⟨o,es,ep,e,d,r⟩=>⟨o,es,ep,base_of e (noA e d),d,r⟩
  have hKb:K.In (tW s₁.heap H):=fun b o e=>base_of (KX b o e) (by
   cases q:H b with
   | none=>rfl
   | some u=>
    have e':b=a:=hA b (by rw[q];simp)
    subst e'
    rw[hK (by rw[q];simp)] at e;cases e)
  have hM:Mod K mg (tW s₁.heap H):=⟨hKb,nsK hns,⟨mb,nsK hb,hbb⟩,let ⟨mc,h1,h2⟩:=hlim;⟨mc,nsK h1,h2⟩⟩
  have e0:Ea P w K mg (tW s₁.heap H) callerA [] s₁ H:=⟨rfl,hM,fun b o e=>DN e,Nat.le_of_eq (zi _ _),trivial,fun b hb=>absurd (show b∈([]:List Addr) from hb) (by simp),hok,.of_eq hg⟩
  refine codeAny_mono ((F _ hKb (nsK hns)).run callerA [] s₁ H ⟨[.ref a],[]⟩ [.ref a] [.ref a] _ _ hr e0 (hbind s₁ (.ref a)) (.cons rfl .nil) (hsp H hO hS)) fun r s' h=>?_
  cases r with
  | error e=>exact(hCX H e s' h).elim
  | ok fl=>
   cases fl with
   | next=>exact False.elim h
   | brk=>exact False.elim h
   | cont=>exact False.elim h
   | ret u=>
    obtain⟨v,H',os,bare,un,hok',r',q⟩:=h
    have q':v=.bl true:=q
    subst q'
    obtain rfl:u=Value.bool true:=r'
    refine⟨rfl,OldK.of_keep fun b o e=>?_,os,bare⟩
    cases q:H b with
    | none=>exact un.keep b o e q (by intro z;exact absurd (show b∈([]:List Addr) from z) (by simp)) (by simp)
    | some u=>
     rcases hO b with z | ⟨ob,xs,z⟩
     ·rw[q] at z;cases z
     ·have z2:=un.qh b ob _ z
      obtain⟨e1,_⟩:=hok b _ z
      obtain⟨e2,_⟩:=hok' b _ z2
      rw[e] at e1;cases e1
      exact e2
 cases hk:K.lookup a with
 | some o=>
  -- the script is one of the module's own objects
  have e:=KX a o hk
  rw[ha] at e
  cases e
  refine core (fun _=>none) (fun _=>.inl rfl) (.inr ⟨_,vs.toArray,_,hk,rfl,rfl,rfl,by rw[List.size_toArray,lenV];exact hl,by simpa using rv⟩) (fun b u z=>by have z':(none:Option HO)=some u:=z;cases z') (fun b z=>absurd rfl z) fun z=>absurd rfl z
 | none=>
  refine core (fun b=>if b=a then some (.frz { cls:=.type "list", data:=.seq vs.toArray } (.lst (ns.map V.int))) else none) (fun b=>?_) (.inl (.inr ⟨{ cls:=.type "list", data:=.seq vs.toArray },if_pos rfl⟩)) (fun b u z=>?_) (fun b z=>?_) fun _=>hk
  ·by_cases hb:b=a
   ·exact .inr ⟨_,_,if_pos hb⟩
   ·exact .inl (if_neg hb)
  ·by_cases hb:b=a
   ·have z':=(if_pos hb).symm.trans z
    cases z'
    subst hb
    exact⟨ha,by rw[List.length_map];exact hl,vs,_,rv,ha⟩
   ·have z':=(if_neg hb).symm.trans z
    cases z'
  ·by_cases hb:b=a
   ·exact hb
   ·exact absurd (if_neg hb) z
noncomputable abbrev KOf {K:PySem.W.Frag} {h:Heap} (_:K.In h):PySem.W.Frag:=K
theorem Eg {l:PySem.W.OpenLaw} {n k:Nat} {q:Program} {loose:List Str} {XP:(Str->Option Value)->Heap->Prop} {YP:World->Heap->Prop} {d:DefRec} {K:Params->PySem.W.Frag} {CX:World->CXT} {sp:World->Sp} {x:Str}
  (hn:l.most=some n) (hn2:n<=sizeLine) (hdf:d.params.defaults=[]) (hr:gX k callerA)
  (hY:∀(w:World) (h:Heap),YP w h->(K w.params).In h)
  (F:∀(w:World) (mg:Str->Option Value) (fa:Addr) (h:Heap),(K w.params).In h->h.Ns mainGlobals mg->mg d.name=some (.ref fa) →
   ∃fd:FuncData,(∀(s:Shared) (u:Value),BindsTo s fd ⟨[u],[]⟩ [(x,u)]) ∧
    ∀base:Heap,(K w.params).In base->base.Ns mainGlobals mg->fL l.prog w (K w.params) mg base (CX w) k fa fd [x] (sp w))
  (hsp:∀(w:World) (H:Hp) (a:Addr) (ns:List Int),ns.length<=n->Ds H->SqL (K w.params) H a (ns.map V.int)->sp w [.ref a] H (fun v _=>v=.bl true) fun _ _ _=>False)
  (hCX:∀(w:World) (H:Hp) (s:Shared) (e:Value) (s':Shared),CX w [] H s (fun _ _ _=>False) e s'->False) :
  PySem.W.WalkO q loose XP YP l.row.toRowW d [] (fun f vs=>PySem.call f vs):=by
 refine Att.vj hn hdf fun w aK s₁ mg mb fa o pm cd doc a vs ns G Y ho hd hcd hmg hobj hints hlen hg=>?_
 have KX:=hY w _ Y
 obtain⟨fd,hb,hF⟩:=F w mg fa _ KX G.T.g hmg
 exact CS KX G.T.g G.T.b G.T.builtins G.T.nolimit hg hobj hints (Nat.le_trans hlen hn2) hr hF hb (fun H hO hS=>hsp w H a ns hlen hO hS) fun H e s'=>hCX w H s₁ e s'
end L2
/- THE LAST THEOREM (shape;LID,My.* are yours):
  My.Adr: a structure of the addresses that your layer names (classes,functions);My.Txt K t: a structure (Prop) of the equations over K;
  My.txt_mk:{K} {implicit addresses ..} (e1:nsIn K mainGlobals "law" = some (some (.ref f))) (e2:K.lookup f=some ⟨oc,od,.func (fnOf "law" "law" params body scope dV kV doc pm an cdv ct),sl⟩) (e3:codeIn K cdv "law" = true) .. : ∃t,My.Txt K t
(the tactic k_is has no namespace: write k_is) -/
namespace L2
open PySem PySem.Spec PyProof.Rows
noncomputable def lK (s:Stmt):Arguments:=match s with
 | .FunctionDef _ a _ _ _ _ _ _ _ _=>a
 | _=>{ posonlyargs:=[],args:=[],vararg:=none,kwonlyargs:=[],kw_defaults:=[],kwarg:=none,defaults:=[] }
noncomputable def iF (s:Stmt):List Stmt:=match s with
 | .FunctionDef _ _ b _ _ _ _ _ _ _=>b
 | _=>[]
noncomputable def ay (s:Stmt):Scope:=match s with
 | .FunctionDef _ _ _ _ _ _ sc _ _ _=>sc
 | _=>{ kind:=.function,names:=[],isGenerator:=false,isCoroutine:=false }
noncomputable abbrev CX0:CXT:=fun _ _ _ _ _ _=>False
noncomputable abbrev E0:XK:=fun _ _ _=>False
theorem IK {X:Cx}:Passes CX0 X E0:=fun _ _ _ _ _ _ _ h=>h.elim
structure Fun (K:PySem.W.Frag) (x qual:Str) (st:Stmt) (f:Addr) (fd:FuncData):Prop where
 ex:∃(oc:Value) (od:Option Addr) (kV doc pm:Value) (an:Option Addr) (cdv ct:Value) (osl:Array (Option Value)),
  fd=PySem.W.fnOf x qual (lK st) (iF st) (ay st) .none kV doc pm an cdv ct/\K.lookup f=some ⟨oc,od,.func fd,osl⟩/\PySem.W.codeIn K cdv qual=true
 kp:PySem.W.keepIn K (.ref f)=true
section
variable {P:Program} {w:World} {K:PySem.W.Frag} {mg:Str->Option Value} {base:Heap}
theorem Fun.ok {x qual:Str} {st:Stmt} {f:Addr} {fd:FuncData} {N ps:List Str} {k:Nat} {sp:Sp} (F:Fun K x qual st f fd) (S:aQ N ps (ay st)) (len:∀vs H Q E,sp vs H Q E->vs.length=ps.length)
  (hbody:∀(cdv:Value) (A:Around) (outer:List Env) (s:Shared) (H:Hp) (vs:List V) (Q:VK) (E:XK),gX k (A.deeper (envOfC qual (ay st) s.heap.objs.size f cdv))->sp vs H Q E →
   ∃t,PSs (wq CX0 P w K mg base N qual (ay st) f cdv A outer s H E).nox (iF st) t/\t { nx:=fun _ H'=>Q .non H',rt:=Q } (start N vs) H):fL P w K mg base CX0 (k+1) f fd ps sp:=by
 obtain⟨oc,od,kV,doc,pm,an,cdv,ct,osl,rfl,lk,hcd⟩:=F.ex
 refine ID lk hcd S len fun A outer s H vs Q E hr hsp=>?_
 obtain⟨t,h,q⟩:=hbody cdv A outer s H vs Q E hr hsp
 exact⟨t,h.nox,q⟩
theorem Fun.binds {x qual:Str} {st:Stmt} {f:Addr} {fd:FuncData} {ps:List Str} (F:Fun K x qual st f fd)
  (h:∀(kV doc pm:Value) (an:Option Addr) (cdv ct:Value) (us:List Value),us.length=ps.length->bindArgs (PySem.W.fnOf x qual (lK st) (iF st) (ay st) .none kV doc pm an cdv ct) ⟨us,[]⟩=pure (ps.zip us)):Binds K fd ps []:=by
 obtain⟨oc,od,kV,doc,pm,an,cdv,ct,osl,rfl,lk,hcd⟩:=F.ex
 exact .all (h kV doc pm an cdv ct)
theorem FT {x qual:Str} {st:Stmt} {f:Addr} {oc:Value} {od an:Option Addr} {osl:Array (Option Value)} {kV doc pm cdv ct:Value} (l:K.lookup f=some ⟨oc,od,.func (PySem.W.fnOf x qual (lK st) (iF st) (ay st) .none kV doc pm an cdv ct),osl⟩)
  (c:PySem.W.codeIn K cdv qual=true) (k:PySem.W.keepIn K (.ref f)=true):Fun K x qual st f (PySem.W.fnOf x qual (lK st) (iF st) (ay st) .none kV doc pm an cdv ct):=⟨⟨oc,od,kV,doc,pm,an,cdv,ct,osl,rfl,l,c⟩,k⟩
end
noncomputable def PTs (X:Cx) (ifs:List Expr) (t:TT):Prop:=
 ∀(pins:List (Addr × Obj)) (s:Shared) (σ:St) (H:Hp) (Q:Bool->Hp->Prop),Inv X pins σ H s->t σ H Q →
  wpAny (model X.prog X.w) X.A (forIn ifs true fun c r=>if r=true then do let ok ← isTrue c X.env (eval c X.env);pure (ForInStep.yield ok) else pure (ForInStep.yield r)) (TP X pins σ Q) X.xe s
noncomputable def Ib:TT:=fun _ H Q=>Q true H
theorem Ew {X:Cx}:PTs X [] Ib:=fun _ _ _ H _ I h=>wpAny_tests_nil ⟨H,I,h⟩
theorem D8 {X:Cx} {c:Expr} {t:TT} (h:PT X c t):PTs X [c] t:=fun pins s σ H Q I q=>wpAny_tests_one (h pins s σ H Q I q)
theorem ui {prog:Program} {w:World} {A:Around} {R:Result->Shared->Prop} {s:Shared} {elt target iter:Expr} {ifs:List Expr} {scope:Scope} {pos:Pos} {it acc:Value} {env:Env} (I:Nat->Shared->Prop)
  (turn:∀n s,I n s->wpAny (model prog w) A (pyNext it) (fun r s₁=>match r with
   | none=>R (.ok .next) s₁
   | some v=>wpAny (model prog w) A (letOwnedTupleGo target it v) (fun _ s₁=>wpAny (model prog w) A (assign target env v) (fun _ s₂=>
     wpAny (model prog w) A (forIn ifs true fun c r=>if r=true then do let ok ← isTrue c env (eval c env);pure (ForInStep.yield ok) else pure (ForInStep.yield r)) (fun ok s₃=>
      if ok=true then wpAny (model prog w) A (eval elt env) (fun x s₄=>
       wpAny (model prog w) A (call (.builtin "list.append") [acc,x]) (fun _ s₅=>∃m,m<n/\I m s₅) (fun _ _=>False) s₄) (fun _ _=>False) s₃
      else ∃m,m<n/\I m s₃) (fun _ _=>False) s₂) (fun _ _=>False) s₁) (fun _ _=>False) s₁) (fun _ _=>False) s)
  (n:Nat) (h:I n s) :
  codeAny (model prog w) A (.compLoop (.ListComp elt [⟨target,iter,ifs,0⟩] scope pos) 0 it acc env) R s:=by
 refine codeAny_loop rfl I (fun n s hI=>?_) n h
 show wpAny _ A ((compTurn (.ListComp elt [⟨target,iter,ifs,0⟩] scope pos) 0 it acc env).onRaise (fun x=>do noteFrame x env;theTreesLotGoes x)) _ _ s
 refine wpAny_noted ?_
 rw[compTurn_list]
 refine wpAny_noRaise ?_
 refine wpAny_bind (wpAny_standAt (wpAny_bind (wpAny_mono (turn n s hI) (fun r s₁ h₁=>?_) fun _ _ h'=>h')))
 cases r with
 | none=>exact wpAny_pure h₁
 | some v=>
  refine wpAny_bind (wpAny_mono h₁ (fun _ s₁' h₁'=>?_) fun _ _ h'=>h')
  refine wpAny_bind (wpAny_mono h₁' (fun _ s₂ h₂=>wpAny_bind (wpAny_mono h₂ (fun ok s₃ h₃=>?_) fun _ _ h'=>h')) fun _ _ h'=>h')
  cases ok with
  | false=>exact wpAny_pure ⟨rfl,h₃⟩
  | true=>
   exact wpAny_bind (wpAny_bind (wpAny_mono h₃ (fun x s₄ h₄=>wpAny_bind (wpAny_mono h₄ (fun _ s₅ h₅=>wpAny_pure (wpAny_pure ⟨rfl,h₅⟩)) fun _ _ h'=>h')) fun _ _ h'=>h'))
noncomputable def aY (X:Cx) (scope:Scope) (cl:List (Str × Addr)) (C:Addr) (aK:Shared) (aN:Hp) (fp:List Addr) (N':List Str):Cx:=
 { X with N:=N',aK:=aK,aN:=aN,env:=compEnvC scope cl C X.env,outer:=X.stack,ex:=fp,fn:=fun _=>false,pn:=[] }
theorem km {env:Env}:∀(names:List (Str × NameKind)) (cs:List (Str × Addr)),(∀y∈names,y.2=.free->∃a,env.cells.lookup y.1=some a)->(∀x c,cs.lookup x=some c->env.cells.lookup x=some c) →
  ∃cl:List (Str × Addr),(forIn names cs fun(y:Str × NameKind) (r:List (Str × Addr))=>if (y.2 == NameKind.free)=true then do let a ← cellOf env y.1;pure (ForInStep.yield ((y.1,a)::r)) else pure (ForInStep.yield r):Sem (List (Str × Addr)))=pure cl ∧
   (∀x c,cl.lookup x=some c->env.cells.lookup x=some c)/\(∀x,((x,NameKind.free)∈names\/∃c,cs.lookup x=some c)->∃c,cl.lookup x=some c)
 | [],cs,_,h=>⟨cs,rfl,h,fun x hx=>by
   rcases hx with z | z
   ·cases z
   ·exact z⟩
 | (n,k)::r,cs,hf,h=>by
  by_cases hk:k=.free
  ·subst hk
   obtain⟨a,ha⟩:=hf (n,.free) (by simp) rfl
   obtain⟨cl,e,h1,h2⟩:=km r ((n,a)::cs) (fun y hy=>hf y (List.mem_cons_of_mem _ hy)) (fun x c q=>by
    rw[List.lookup_cons] at q
    cases hx:x == n with
    | true=>
     rw[hx] at q
     have:x=n:=by simpa using hx
     subst this
     cases q;exact ha
    | false=>rw[hx] at q;exact h x c q)
   refine⟨cl,?_,h1,fun x hx=>?_⟩
   ·rw[List.forIn_cons]
    have e0:cellOf env n=pure a:=by unfold cellOf;rw[ha]
    simp only[beq_self_eq_true,if_true,e0]
    exact e
   ·have hc:∀z c,cs.lookup z=some c->∃c,((n,a)::cs).lookup z=some c:=fun z c q=>by
     rw[List.lookup_cons]
     cases z == n with
     | true=>exact⟨a,rfl⟩
     | false=>exact⟨c,q⟩
    rcases hx with z | ⟨c,z⟩
    ·rcases List.mem_cons.mp z with q | q
     ·cases q
      exact h2 n (.inr ⟨a,by simp[List.lookup_cons]⟩)
     ·exact h2 x (.inl q)
    ·exact h2 x (.inr (hc x c z))
  ·obtain⟨cl,e,h1,h2⟩:=km r cs (fun y hy=>hf y (List.mem_cons_of_mem _ hy)) h
   have hb:(k == NameKind.free)=false:=by simpa using hk
   refine⟨cl,?_,h1,fun x hx=>?_⟩
   ·rw[List.forIn_cons]
    simp only[hb,Bool.false_eq_true,if_false]
    exact e
   ·rcases hx with z | z
    ·rcases List.mem_cons.mp z with q | q
     ·cases q;exact absurd rfl hk
     ·exact h2 x (.inl q)
    ·exact h2 x (.inr z)
theorem jN {env:Env} {scope:Scope} (h:∀y∈scope.names,y.2=.free->∃a,env.cells.lookup y.1=some a) :
  ∃cl:List (Str × Addr),closureFor scope env=pure cl/\(∀x c,cl.lookup x=some c->env.cells.lookup x=some c)/\(∀x,(x,NameKind.free)∈scope.names->∃c,cl.lookup x=some c):=by
 obtain⟨cl,e,h1,h2⟩:=km (env:=env) scope.names [] h (fun x c q=>by cases q)
 refine⟨cl,?_,h1,fun x hx=>h2 x (.inl hx)⟩
 exact Eq.trans (congrArg (fun t:Sem (List (Str × Addr))=>t >>= fun cs=>pure cs) e) rfl
theorem lookup_mem {x:Str} {k:NameKind}:∀{names:List (Str × NameKind)},names.lookup x=some k->(x,k)∈names
 | [],h=>by cases h
 | (n,j)::r,h=>by
  rw[List.lookup_cons] at h
  cases hx:x == n with
  | true=>
   rw[hx] at h
   have:x=n:=by simpa using hx
   subst this
   cases h;simp
  | false=>rw[hx] at h;exact List.mem_cons_of_mem _ (lookup_mem h)
theorem dm {env:Env} (hf:env.scope.kind=.function):∀{names:List (Str × NameKind)} {x:Str},names.lookup x=some .free->env.kindOf x=some .cell →
  (names.map fun(n,k)=>if (k == NameKind.free&&env.scope.kind == .function&&env.kindOf n == some .cell) then (n,NameKind.cell) else (n,k)).lookup x=some .cell
 | [],_,h,_=>by cases h
 | (n,k)::r,x,h,hc=>by
  have ih:=@dm env hf r x
  show List.lookup x ((if (k == NameKind.free&&env.scope.kind == .function&&env.kindOf n == some .cell)=true then (n,NameKind.cell) else (n,k))::_)=_
  cases hx:x == n with
  | true=>
   have:x=n:=by simpa using hx
   subst this
   simp only[List.lookup_cons,hx] at h
   cases h
   rw[if_pos (by simp[hf,hc])]
   simp[List.lookup_cons]
  | false=>
   simp only[List.lookup_cons,hx] at h
   by_cases hq:(k == NameKind.free&&env.scope.kind == .function&&env.kindOf n == some .cell)=true
   ·rw[if_pos hq];simp only[List.lookup_cons,hx];exact ih h hc
   ·rw[if_neg hq];simp only[List.lookup_cons,hx];exact ih h hc
theorem dZ {env:Env}:∀{names:List (Str × NameKind)} {x:Str} {k:NameKind},(names.map fun(n,k)=>if (k == NameKind.free&&env.scope.kind == .function&&env.kindOf n == some .cell) then (n,NameKind.cell) else (n,k)).lookup x=some k →
  names.lookup x=some k\/(names.lookup x=some .free/\k=.cell)
 | [],_,_,h=>by cases h
 | (n,j)::r,x,k,h=>by
  have ih:=@dZ env r x k
  have h':List.lookup x ((if (j == NameKind.free&&env.scope.kind == .function&&env.kindOf n == some .cell)=true then (n,NameKind.cell) else (n,j))::(r.map fun(n,k)=>if (k == NameKind.free&&env.scope.kind == .function&&env.kindOf n == some .cell) then (n,NameKind.cell) else (n,k)))=some k:=h
  by_cases hq:(j == NameKind.free&&env.scope.kind == .function&&env.kindOf n == some .cell)=true
  ·rw[if_pos hq] at h'
   have hj:j=.free:=by
    have:=Bool.and_eq_true_iff.mp (Bool.and_eq_true_iff.mp hq).1
    simpa using this.1
   simp only[List.lookup_cons] at h' ⊢
   cases hx:x == n with
   | true=>rw[hx] at h';cases h';exact .inr ⟨by rw[hj],rfl⟩
   | false=>rw[hx] at h';exact ih h'
  ·rw[if_neg hq] at h'
   simp only[List.lookup_cons] at h' ⊢
   cases hx:x == n with
   | true=>rw[hx] at h';cases h';exact .inl rfl
   | false=>rw[hx] at h';exact ih h'
noncomputable def oQ (ix:List Nat) (σ:St):St:=none::ix.map fun i=>(σ[i]?).join
noncomputable abbrev JE (J:It) (tt:TT) (te:TE) (σ':V->St) (acc:Addr) (H1:Hp) (Q:VK):Prop:=
 ∃W:Nat->Nat->List V->Hp->Prop,(∃m,W 0 m [] (upd H1 acc (.lst [])))/\∀i m ys H,W i m ys H →
  (J.stop i H/\Q (.ref acc) H)\/(J.go i H/\∀x H',J.yld i H x H'->tt (σ' x) H' fun b H2=>if b=true then te (σ' x) H2 fun y H3=>
    H3 acc=some (.lst ys)/\ys.length<sizeLine/\∃m',m'<m/\W (i+1) m' (ys++[y]) (upd H3 acc (.lst (ys++[y])))
   else ∃m',m'<m/\W (i+1) m' ys H2)
noncomputable def FD (wi:TI) (ix:List Nat) (tt:TT) (te:TE):TE:=fun σ H Q=>wi σ H fun J H1=>∀acc,H1 acc=none->JE J tt te (fun x=>(oQ ix σ).set 0 (some x)) acc H1 Q
theorem HOk.sameBut {P:Program} {w:World} {H:Hp} {h h':Heap} {C:Addr} (x:HOk P w H h) (hn:H C=none) (k:∀b u,b≠C->h.get? b=some u->h'.get? b=some u):HOk P w H h':=fun b u e=>by
 have nC:∀b u,H b=some u->b≠C:=fun b u e z=>by rw[z,hn] at e;cases e
 refine(x b u e).pN (fun c v hc q=>k c v ?_ q) (fun _ q=>q) fun _ _ q=>q
 rcases hc with z | z
 ·rw[z];exact nC b u e
 ·exact nC c _ z
section
variable {X:Cx}
theorem vg:bY X (.builtin "isinstance") (fun vs H Q=>∃x t n b,vs=[x,.ty n]/\ku X.K H x t/\PySem.W.kitOne X.K t (.type n)=some b/\Q (.bl b) H):=by
 intro pins s σ H xs us Q I r h
 obtain⟨x,t,n,b,rfl,ty,e,q⟩:=h
 obtain⟨u,w',rfl,r1,r2⟩:=vals2 r
 cases r2
 exact yT I r1 ty e fun tk=>⟨.bl b,H,I.tok tk,rfl,q⟩
theorem qv:bY X (.builtin "len") (fun vs H Q=>∃p S n,vs=[.ref p]/\H p=some (.set S n)/\Q (.int n) H):=by
 intro pins s σ H xs us Q I r h
 obtain⟨p,S,n,rfl,hH,q⟩:=h
 obtain⟨u,rfl,rx⟩:=vals1 r
 cases rx
 obtain⟨o,es,ep,tb,ho,hex,hd,hel,hmem,hsz,hfit,rfl⟩:=(show s.heap.SetOf (intKind X.prog X.w) p S n from I.hok p _ hH)
 have hb:(es.size:Int)<2 ^ 63:=by unfold scanBound at hsz;omega
 exact PySem.call_len_set ho hex hd hfit hb ⟨.int es.size,H,I.tok _,⟨_,rfl⟩,q⟩
theorem jM {prog:Program} {w:World} {A:Around} {E:Value->Shared->Prop} {s:Shared} {t sl:Addr} {items:Array Value} {vl vu:Value} {lo hi:Option Int} {Q:Value->Shared->Prop} (ht:IsTup s.heap t items) (hs:s.heap.IsSliceOf sl vl vu .none) (pl:IsPart vl lo) (pu:IsPart vu hi)
  (h1:HT.sIx items.size 0 lo=0) (h2:HT.sIx items.size items.size hi=items.size) (h:Q (.ref t) s):wpAny (model prog w) A (getItem (.ref t) (.ref sl)) Q E s:=by
 obtain⟨os,hos,hcs,hds⟩:=id hs
 have hTs:s.TypeIs (.ref sl) "slice" := ⟨os,hos,hcs⟩
 unfold getItem
 try with_reducible refine wpAny_holding ?_
 first | refine wpAny_bind (wpAny_pure ?_) | skip
 refine wpAny_bind (wpAny_sequenceKey ht.typeIs (by decide) ?_)
 refine wpAny_bind (wpAny_callSpecial?_slot (name:=Str.ofString "__getitem__") ht.typeIs PyProof.Rows.slot_tuple_getitem (wpAny_call_entry PyProof.Rows.slot_tuple_getitem ht.typeIs entry_tuple_getitem ?_ (args_tuple_getitem _ _)))
 show wpAny _ _ (Builtin.Tuple.tupleItemsOf (.ref t) >>= _) _ _ s
 refine wpAny_bind (tupleItemsOf_ ht (wpAny_bind (wpAny_typeOf hTs ?_)))
 rw[if_pos (by decide)]
 refine wpAny_bind (HT.gY hs pl pu ?_)
 rw[h1,h2]
 show wpAny _ _ (if (((0:Nat):Int) == 0&&(1:Int) == 1&&(items.size - 0) == items.size)=true then _ else _) _ _ s
 rw[if_pos (by simp)]
 show wpAny _ _ (Builtin.Tuple.tupleIsExact (.ref t) >>= _) _ _ s
 unfold Builtin.Tuple.tupleIsExact
 refine wpAny_bind (wpAny_bind (wpAny_typeOf ht.typeIs (wpAny_pure ?_)))
 show wpAny _ _ (if (Value.type "tuple" == Value.type "tuple")=true then _ else _) _ _ s
 rw[if_pos (by decide)]
 refine wpAny_bind (wpAny_rule ?_)
 first
  | exact wpAny_pure ⟨_,rfl,wpAny_pure h⟩
  | exact wpAny_bind (wpAny_pure (wpAny_pure ⟨_,rfl,wpAny_pure h⟩))
noncomputable def Je (K:PySem.W.Frag):V->Option Int->Option Int->Hp->VK->Prop:=fun x lo hi H Q=>∃a xs,x=.ref a/\SqT K H a xs/\HT.sIx xs.length 0 lo=0/\HT.sIx xs.length xs.length hi=xs.length/\Q (.ref a) H
theorem Ef:SlR X (Je X.K):=by
 intro pins s σ H x v vl vu lo hi sl Q I rx hs pl pu h
 obtain⟨a,xs,rfl,hx,h1,h2,q⟩:=h
 cases rx
 obtain⟨its,r,ht,hz⟩:=I.tuple hx
 have hlen:its.toArray.size=xs.length:=by rw[List.size_toArray];exact r.length.symm
 refine⟨"tuple", _,PyProof.Rows.slot_tuple_getitem.lookup,ht.typeIs,?_⟩
 exact jM ht hs pl pu (by rw[hlen];exact h1) (by rw[hlen];exact h2) ⟨.ref a,H,I,rfl,q⟩
noncomputable def BD (K:PySem.W.Frag):R2:=fun x y H Q=>∃a b ys,x=.ref a/\y=.ref b/\SqT K H a []/\SqT K H b ys/\Q (.ref b) H
theorem BZ:OpR X (binaryOp .Add) (BD X.K):=by
 intro pins s σ H x y v u Q I rx ry h
 obtain⟨a,b,ys,rfl,rfl,ha,hb,q⟩:=h
 cases rx
 cases ry
 obtain⟨its,r1,p1,_⟩:=I.tuple ha
 obtain⟨its2,r2,p2,_⟩:=I.tuple hb
 cases r1
 obtain⟨⟨cls,dd,data,sl⟩,ho,hc,n,hd⟩:=id p1
 obtain⟨⟨cls2,dd2,data2,sl2⟩,ho2,hc2,n2,hd2⟩:=id p2
 simp only at hc hd hc2 hd2
 subst hc hd hc2 hd2
 exact concat_meets ⟨_,ho,rfl⟩ ⟨_,ho2,rfl⟩ noFill_tuple_add seq_tuple_add PySem.F.slot_tuple_add PySem.F.entry_tuple_add (PySem.F.args_tuple_add_2 _ _)
  (tuple_addW0 a b _ _ n n2 dd dd2 sl sl2 (by simp)) ⟨ho,ho2,⟨.ref b,H,I,rfl,q⟩⟩
end
open AutoSeq1 (wpAny_loadPart')
noncomputable def DZ (lo st:Int) (n:Nat):List Int:=(List.range n).map fun(i:Nat)=>lo+(i:Int)*st
theorem u9 (lo st:Int) (n:Nat):(DZ lo st n).length=n:=by simp[DZ]
section
variable {X:Cx}
structure Cu (lo hi st:Int) (n:Nat):Prop where
 sm:Builtin.Range.small lo hi st=true
 sz:Builtin.Range.rangeSize lo hi st=n
 le:n<=2 ^ 20
end
section
variable {X:Cx}
theorem Vals.get' {xs:List V} {us:List Value} {i:Nat} {u:Value} (r:Vals xs us) (h:us[i]?=some u):∃x,xs[i]?=some x/\RelV x u:=by
 have hl:=r.length
 have hi:i<xs.length:=by rw[hl];exact(List.getElem?_eq_some_iff.mp h).1
 obtain⟨u',e1,e2⟩:=r.get (List.getElem?_eq_getElem hi)
 rw[h] at e1;cases e1
 exact⟨_,List.getElem?_eq_getElem hi,e2⟩
end
theorem Inv.F2 {X:Cx} {pins:List (Addr × Obj)} {σ:St} {H:Hp} {s:Shared} {C:Addr} {o:Obj} {h':Heap} (I:Inv X (pins++[(C,o)]) σ H s) (cC:∀x c,X.env.cells.lookup x=some c->c≠C) (hC:X.aK.heap.objs.size<=C) (pC:∀p∈X.pn++pins,p.1≠C) (hs:Heap.SameBut C s.heap h'):Inv X pins σ H { s with heap:=h' }:=by
 have kb:∀b u,b≠C->s.heap.get? b=some u->h'.get? b=some u:=fun b u hb z=>hs.extBut b u hb z
 obtain⟨q0,q1,q2,q3,q4⟩:=I.pin (C,o) (List.mem_append_right _ (List.mem_append_right _ (List.mem_singleton.mpr rfl)))
 have J:Inv X pins σ H s:=I.kL fun p hp=>I.pin p (List.mem_append_right _ (List.mem_append_left _ hp))
 refine J.ve (s':={ s with heap:=h' }) (ch:=[C]) rfl ⟨fun b u z n a c=>kb b u (fun e=>c (by rw[e];exact List.mem_singleton.mpr rfl)) z,fun b u z n a c=>⟨u.slots,kb b _ (fun e=>c (by rw[e];exact List.mem_singleton.mpr rfl)) z⟩,fun b u z n c=>n,fun b u z c=>⟨u,kb b u (fun e=>c (by rw[e];exact List.mem_singleton.mpr rfl)) z⟩,fun b xs z=>z,fun b ob u z=>z,fun b ps z=>⟨#[],by simpa using z⟩⟩ (J.hok.sameBut q1 kb) J.bare fun b hb=>?_
 have e:=List.mem_singleton.mp hb
 subst e
 exact⟨.inr hC,q2,fun x c z=>cC x c z,pC⟩
section
variable {prog:Program} {w:World} {A:Around} {E:Value->Shared->Prop} {s:Shared}
theorem ik {it t:Addr} {i:Nat} {its:Array Value} {x:Value} {Q:Value->Shared->Prop} (hi:s.heap.IsTupleIter it t i) (ht:s.heap.IsTuple t its) (hx:its[i]?=some x) (hQ:∀h',h'.IsTupleIter it t (i+1)->Heap.SameBut it s.heap h'->Q x { s with heap:=h' }) :
  wpAny (model prog w) A (Builtin.SmallTypes.nextOf (.ref it)) Q E s:=by
 obtain⟨oi,h1,h2,h3⟩:=id hi
 obtain⟨ot,k1,_,nt,k2⟩:=ht
 unfold Builtin.SmallTypes.nextOf
 refine wpAny_bind (wpAny_callSpecial?_slot (name:=Str.ofString "__next__") hi.typeIs F.slot_tuple_iterator_next (wpAny_call_entry F.slot_tuple_iterator_next hi.typeIs F.entry_tuple_iterator_next ?_ (F.args_tuple_iterator_next_1 _)))
 refine wpAny_bind (m:=field (.ref it) 0) (wpAny_field h1 h3 (x:=.ref t) rfl ?_)
 show wpAny _ _ (if (Value.ref t == Value.none)=true then _ else field (.ref it) 1 >>= _) _ _ s
 rw[if_neg (show ¬ ((Value.ref t == Value.none)=true) from Bool.false_ne_true)]
 refine wpAny_bind (wpAny_field h1 h3 (x:=.int i 0) rfl (wpAny_bind (m:=seqItems? (.ref t)) (wpAny_seqItems k1 k2 ?_)))
 simp only[Int.toNat_natCast,hx]
 exact wpAny_bind (wpAny_setField h1 h3 (by simp) (wpAny_pure ⟨x,rfl,wpAny_pure (hQ _ ⟨_,Heap.get?_update_self _ h1 (Obj.isFreed_of_fields (Obj.data_mapFields h3 _)),(Obj.cls_mapFields ..).trans h2,by rw[Obj.data_mapFields h3];simp[rawInt]⟩ (Heap.SameBut.update ..))⟩))
theorem jH {it t:Addr} {i:Nat} {its:Array Value} {Q:Value->Shared->Prop} (hh:A.handled=none) (hi:s.heap.IsTupleIter it t i) (ht:s.heap.IsTuple t its) (hx:its[i]?=none)
  (hE:∀h' e,Heap.ExtBut it s.heap h'->(∃o,h'.get? e=some o/\o.cls=.type "StopIteration")->E (.ref e) { s with heap:=h' }):wpAny (model prog w) A (Builtin.SmallTypes.nextOf (.ref it)) Q E s:=by
 obtain⟨oi,h1,h2,h3⟩:=id hi
 obtain⟨ot,k1,_,nt,k2⟩:=ht
 unfold Builtin.SmallTypes.nextOf
 refine wpAny_bind (wpAny_callSpecial?_slot (name:=Str.ofString "__next__") hi.typeIs F.slot_tuple_iterator_next (wpAny_call_entry F.slot_tuple_iterator_next hi.typeIs F.entry_tuple_iterator_next ?_ (F.args_tuple_iterator_next_1 _)))
 refine wpAny_bind (m:=field (.ref it) 0) (wpAny_field h1 h3 (x:=.ref t) rfl ?_)
 show wpAny _ _ (if (Value.ref t == Value.none)=true then _ else field (.ref it) 1 >>= _) _ _ s
 rw[if_neg (show ¬ ((Value.ref t == Value.none)=true) from Bool.false_ne_true)]
 refine wpAny_bind (wpAny_field h1 h3 (x:=.int i 0) rfl (wpAny_bind (m:=seqItems? (.ref t)) (wpAny_seqItems k1 k2 ?_)))
 simp only[Int.toNat_natCast,hx]
 refine wpAny_bind (wpAny_rule (wpAny_bind (wpAny_setField h1 h3 (by simp) (wpAny_bind (m:=newExc (.type "StopIteration") []) ?_))))
 simp only[newExc,newTuple]
 refine wpAny_bind (wpAny_newObj_type (wpAny_bind (m:=firstArgMember _ _) (wpAny_of_eq (a:=Value.none) (by first | rfl | (simp only[firstArgMember];rfl)) (wpAny_newObj_type ?_ (by size_fits)))) (by size_fits))
 simp only[raiseNew]
 refine wpAny_bind (wpAny_handled ?_)
 first | rw[show A.in1.handled=none from hh] | rw[hh]
 exact wpAny_bind (wpAny_pure (wpAny_throw (hE _ _ (((Heap.SameBut.update ..).extBut.push _).push _) ⟨_,Heap.get?_push_size _ rfl,rfl⟩)))
end
theorem Draws.tup {prog:Program} {w:World} {A:Around} (hh:A.handled=none) (it t:Addr) (hne:t≠it) (its:Array Value):Draws prog w A it [it,t] its.size (fun i v=>its[i]?=some v) (fun i h=>h.IsTupleIter it t i/\h.IsTuple t its) where
 live:=fun _ _ z=>let ⟨o,ho,_⟩:=z.1;⟨o,ho⟩
 frame:=fun _ _ _ z hk=>⟨z.1.at fun o e=>hk it (by simp) o e,z.2.at fun o e=>hk t (by simp) o e⟩
 item:=fun i s Q E hi z hQ=>ik z.1 z.2 (x:=its[i]) (by simp[hi]) fun h' a b=>hQ _ h' s.toks (by simp[hi]) ⟨a,z.2.extBut b.extBut hne⟩ b
 done:=fun s Q E z hE=>jH hh z.1 z.2 (by simp) hE
section
open AutoSeq1 (wpAny_loadPart')
theorem wI (t:Addr) (its:Array Value) (n:Nat) (dct:Option Addr) (sl:Array (Option Value)) :
  Meets (Builtin.«enumerate.__new__» ⟨[.type "enumerate", .ref t],[]⟩) (fun _ R s=>s.heap.get? t=some { cls:=.type "tuple", dict:=dct,data:=.seq its n,slots:=sl } ∧
   R (.ok (.ret (.ref (s.heap.push { cls:=.type "tuple_iterator", data:=.fields #[.ref t,.int 0 0] }).objs.size))) { s with heap:=(s.heap.push { cls:=.type "tuple_iterator", data:=.fields #[.ref t,.int 0 0] }).push { cls:=.type "enumerate", data:=.fields #[.none,.bool false,.ref s.heap.objs.size,rawInt 0,.none,.none] } }):=
 .of_wp fun prog w A R s z=>by
  obtain⟨hp,gs,dr,tk,os⟩:=s;obtain⟨ht,z⟩:=z
  have su:=sub_enumerate
  have hT:Heap.IsTuple (Shared.heap ⟨hp,gs,dr,tk,os⟩) t its:=⟨_,ht,rfl,n,rfl⟩
  wp_walk using wpAny_loadPart' ht
  refine wpAny_stack_any fun st=>wpAny_pure ?_
  split
  ·rename_i c _ _ _ _ _
   cases (c == Value.type "enumerate")<;>(wp_walk using wpAny_loadPart' ht,wpAny_pyIter_tuple hT;exact⟨_,rfl,z⟩)
  ·(wp_walk using wpAny_loadPart' ht,wpAny_pyIter_tuple hT);exact⟨_,rfl,z⟩
end
section
variable {prog:Program} {w:World} {A:Around} {E:Value->Shared->Prop} {s:Shared}
theorem HV {t:Addr} {its:Array Value} {Q:Value->Shared->Prop} (hT:s.heap.IsTuple t its)
  (q:∀h',IsEnum h' (s.heap.objs.size+1) s.heap.objs.size 0 .none->h'.IsTupleIter s.heap.objs.size t 0->h'.objs.size=s.heap.objs.size+2->(∀b o,s.heap.get? b=some o->h'.get? b=some o)->Q (.ref (s.heap.objs.size+1)) { s with heap:=h' }) :
  wpAny (model prog w) A (call (.type "enumerate") [.ref t]) Q E s:=by
 obtain⟨⟨c,dct,dt,sl⟩,ht,hc,n,hd⟩:=hT
 replace hc:c=.type "tuple" := hc
 replace hd:dt=.seq its n:=hd
 subst hc hd
 refine callType_new F.called_enumerate (by decide) (F.typeCall_enumerate_1 _) (F.newCall_enumerate_1 _) (fun obj=>F.args_object_init_2 obj _) F.entry_enumerate_new (wI t its n dct sl) ⟨ht,?_⟩
 have hz:(s.heap.push { cls:=.type "tuple_iterator", data:=.fields #[.ref t,.int 0 0] }).objs.size=s.heap.objs.size+1:=Heap.size_push ..
 show _/\_
 rw[hz]
 have he:IsEnum ((s.heap.push { cls:=.type "tuple_iterator", data:=.fields #[.ref t,.int 0 0] }).push { cls:=.type "enumerate", data:=.fields #[.none,.bool false,.ref s.heap.objs.size,rawInt 0,.none,.none] }) (s.heap.objs.size+1) s.heap.objs.size 0 .none:=by
  have y:=Heap.get?_push_size (s.heap.push { cls:=.type "tuple_iterator", data:=.fields #[.ref t,.int 0 0] }) (o:={ cls:=.type "enumerate", data:=.fields #[.none,.bool false,.ref s.heap.objs.size,rawInt 0,.none,.none] }) rfl
  rw[hz] at y;exact y
 exact⟨⟨_,he,rfl⟩,q _ he ⟨_,Heap.get?_push_of_some _ (Heap.get?_push_size _ rfl),rfl,rfl⟩ (by rw[Heap.size_push,hz]) fun b o x=>Heap.get?_push_of_some _ (Heap.get?_push_of_some _ x)⟩
end
theorem Inv.yielded {X:Cx} {pins:List (Addr × Obj)} {σ:St} {H:Hp} {s:Shared} {fp:List Addr} {T:Addr} {o:HO} {h':Heap} {t':Nat} (I:Inv X pins σ H s) (hf:∀b∈fp,mx X pins H b) (k:∀b u,b∉fp->s.heap.get? b=some u->h'.get? b=some u)
  (hT:s.heap.objs.size<=T) (new:cF X.prog X.w (upd H T o) h' T o):Inv X pins σ (upd H T o) { s with heap:=h',toks:=t' }:=by
 have nT:∀b u,s.heap.get? b=some u->b≠T:=fun b u e z=>absurd (Heap.lt_size e) (by rw[z];exact Nat.not_lt.mpr hT)
 have nH:∀b u,H b=some u->b≠T:=fun b u e z=>absurd (I.hok.lt e) (by rw[z];exact Nat.not_lt.mpr hT)
 have nf:∀b u,H b=some u->b∉fp:=fun b u e z=>by rw[(hf b z).1] at e;cases e
 refine I.ve (s':={ s with heap:=h',toks:=t' }) (ch:=fp) rfl ⟨fun b u e n _ c=>k b u c e,fun b u e n _ c=>⟨u.slots,k b u c e⟩,fun b u e n c=>by rw[aS (nT b u e)];exact n,fun b u e c=>⟨u,k b u c e⟩,fun b xs e=>by rw[aS (nH b _ e)];exact e,fun b ob u e=>by rw[aS (nH b _ e)];exact e,fun b ps e=>⟨#[],by rw[aS (nH b _ e),e];simp⟩⟩ (fun b u e=>?_) I.bare (fun b hb=>?_)
 ·by_cases hb:b=T
  ·subst hb
   rw[a9] at e
   cases e
   exact new
  ·rw[aS hb] at e
   refine(I.hok b u e).pN (fun c v hc q=>k c v ?_ q) (fun c q=>by rw[aS (nH c _ q)];exact q) fun c xs q=>by rw[aS (nH c _ q)];exact q
   rcases hc with z | z
   ·rw[z];exact nf b u e
   ·exact nf c _ z
 ·obtain⟨_,g1,_,g3,g4,g5⟩:=hf b hb
  exact⟨g3,g1,g4,g5⟩
theorem Inv.nX {X:Cx} {pins:List (Addr × Obj)} {σ:St} {H:Hp} {s:Shared} {fp:List Addr} {h':Heap} {t':Nat} (I:Inv X pins σ H s) (hf:∀b∈fp,mx X pins H b) (k:∀b u,b∉fp->s.heap.get? b=some u->h'.get? b=some u):Inv X pins σ H { s with heap:=h',toks:=t' }:=by
 have nf:∀b u,H b=some u->b∉fp:=fun b u e z=>by rw[(hf b z).1] at e;cases e
 refine I.ve (s':={ s with heap:=h',toks:=t' }) (ch:=fp) rfl ⟨fun b u e n _ c=>k b u c e,fun b u e n _ c=>⟨u.slots,k b u c e⟩,fun b u e n c=>n,fun b u e c=>⟨u,k b u c e⟩,fun b xs e=>e,fun b ob u e=>e,fun b ps e=>⟨#[],by rw[e];simp⟩⟩ (fun b u e=>?_) I.bare (fun b hb=>?_)
 ·refine(I.hok b u e).pN (fun c v hc q=>k c v ?_ q) (fun c q=>q) fun c xs q=>q
  rcases hc with z | z
  ·rw[z];exact nf b u e
  ·exact nf c _ z
 ·obtain⟨_,g1,_,g3,g4,g5⟩:=hf b hb
  exact⟨g3,g1,g4,g5⟩
noncomputable def Iel (K:PySem.W.Frag) (a:Addr):It:=
 ⟨fun i H=>∃xs x,SqL K H a xs/\xs[i]?=some x,fun i H x H'=>∃p v,x=.ref p/\H p=none/\(∀xs,SqL K H a xs->xs[i]?=some v)/\H'=upd H p (.tup [.int i,v]),fun i H=>∃xs,SqL K H a xs/\xs.length<=i⟩
noncomputable def Iet (K:PySem.W.Frag) (a:Addr):It:=
 ⟨fun i H=>∃xs x,SqT K H a xs/\xs[i]?=some x,fun i H x H'=>∃p v,x=.ref p/\H p=none/\(∀xs,SqT K H a xs->xs[i]?=some v)/\H'=upd H p (.tup [.int i,v]),fun i H=>∃xs,SqT K H a xs/\xs.length<=i⟩
theorem u0 {h:Heap} {e it:Addr} {i:Int} {old:Value} (z:IsEnum h e it i old):∃o,h.get? e=some o/\∀v,o.data≠.cell v:=⟨_,z,fun v q=>nomatch q⟩
theorem oK {prog:Program} {w:World} {A:Around} {it:Addr} {fp:List Addr} {n:Nat} {P:Nat->Value->Prop} {St:Nat->Heap->Prop} (D:Draws prog w A.in1 it fp n P St) (e:Addr) (hei:e≠it) (hef:e∉fp) (i:Nat) (s:Shared) (Q:Option Value->Shared->Prop) (E:Value->Shared->Prop) (hi:i<n)
  (hst:(∃old,IsEnum s.heap e it i old)/\St i s.heap)
  (hQ:∀T vals h' tk,(∃t x,P i x/\vals = #[.int i t,x])->s.heap.objs.size<=T->lQ h' T vals->((∃x,IsEnumOut h' e it ((i:Int)+1) x T)/\St (i+1) h'/\T≠e/\T≠it)->(∀b o,b∉[e,it]->s.heap.get? b=some o->h'.get? b=some o)->Q (some (.ref T)) { s with heap:=h',toks:=tk }) :
  wpAny (model prog w) A (pyNext (.ref e)) Q E s:=by
 obtain⟨⟨old,he⟩,hs⟩:=hst
 refine wpAny_pyNext_enum_itemD D he hs hi hei hef fun x h1 tk hP ho hs1 hT _ hk=>?_
 refine hQ s.heap.objs.size #[.int i tk,x] h1 (tk+1) ⟨tk,x,hP,rfl⟩ (Nat.le_refl _) ⟨_,hT,⟨rfl,_,rfl⟩,rfl⟩ ⟨⟨_,ho⟩,hs1,Nat.ne_of_gt (Heap.lt_size he),?_⟩ fun b o hb y=>hk b o (fun z=>hb (by simp[z])) (fun z=>hb (by simp[z])) y
 obtain⟨_,y⟩:=D.live _ _ hs
 exact Nat.ne_of_gt (Heap.lt_size y)
theorem wo {P:Program} {w:World} {K:PySem.W.Frag} {elts:List Expr} {k:Nat} {pos:Pos} {a it e:Addr} (hei:e≠it):Turn P w K (.Tuple elts k pos) (Iel K a) [e,it] e (fun i h=>(∃old,IsEnum h e it i old)/\h.IsListIter it a i) where
 mem:=by simp
 obj:=fun i h z b hb=>by
  obtain⟨⟨old,z1⟩,z2⟩:=z
  rcases List.mem_cons.mp hb with rfl | hb
  ·exact u0 z1
  ·rw[List.mem_singleton.mp hb]
   obtain⟨o,q,_,d⟩:=z2
   exact⟨o,q,fun v y=>by rw[d] at y;cases y⟩
 keep:=fun i h h' z kk=>⟨let ⟨old,z1⟩:=z.1;⟨old,kk e (by simp) _ z1⟩,z.2.at fun o q=>kk it (by simp) o q⟩
 item:=by
  intro X hP hw hK hc i pins s σ H E I hf st hg
  subst hP hw hK
  obtain⟨xs,x,hq,hx⟩:=hg
  obtain⟨its,rv,p,hz⟩:=I.list hq
  obtain⟨u,hu,ru⟩:=rv.get hx
  have hl:=rv.length
  have plt:a<s.heap.objs.size:=by obtain⟨o,q,_⟩:=p.isList;exact Heap.lt_size q
  have hai:a≠it/\a≠e:=by
   obtain⟨oa,qa,ca,_⟩:=p.isList
   obtain⟨⟨old,z1⟩,oi,qi,ci,_⟩:=st
   exact⟨(fun q=>by rw[q,qi] at qa;cases qa;rw[ci] at ca;injection ca with y;exact absurd y (by decide)),(fun q=>by rw[q,z1] at qa;cases qa;injection ca with y;exact absurd y (by decide))⟩
  have DD:=(Draws.list (prog:=X.prog) (w:=X.w) (A:=X.A.in1) (I.ok.hd hc) it a hai.1 its.toArray)
  have hef0:e∉[it,a]:=by simp;exact⟨hei,fun q=>hai.2 q.symm⟩
  have W:=WalksT.enumerateD (prog:=X.prog) (w:=X.w) (A:=X.A) DD e hei hef0 (by simp)
  refine oK DD e hei hef0 i s _ _ (by rw[List.size_toArray,<- hl];exact(List.getElem?_eq_some_iff.mp hx).1) ⟨st.1,st.2,p.isList⟩ fun T vals h1 tk hv hT ht hm k1=>?_
  obtain⟨t,v,hv1,hv2⟩:=hv
  have ev:v=u:=by
   have:its[i]?=some v:=by simpa using hv1
   rw[hu] at this;exact(Option.some.inj this).symm
  subst ev
  refine⟨.ref T,rfl,W.go elts k pos i T { s with heap:=h1,toks:=tk } _ _ hm fun h2 st2 k2=>?_⟩
  have kk:∀b o,b∉[e,it]->s.heap.get? b=some o->h2.get? b=some o:=fun b o hb q=>k2 b o hb (k1 b o hb q)
  have hT2:lQ h2 T vals:=by
   obtain⟨o,q,c⟩:=ht
   exact⟨o,k2 T o (fun z=>W.apart _ _ _ hm z) q,c⟩
  have hn:H T=none:=I.hok.fresh hT
  have nTf:∀b∈[e,it],b≠T:=fun b hb z=>by
   have hlt:b<s.heap.objs.size:=by
    rcases List.mem_cons.mp hb with rfl | hb
    ·obtain⟨old,z1⟩:=st.1;exact Heap.lt_size z1
    ·rw[List.mem_singleton.mp hb];obtain⟨o,q,_⟩:=st.2;exact Heap.lt_size q
   rw[z] at hlt;exact absurd hlt (Nat.not_lt.mpr hT)
  refine⟨.ref T,upd H T (.tup [.int i,x]),I.yielded (t':=tk) hf kk hT ⟨by show 2<=sizeLine;decide,[.int i t,v],.cons ⟨t,rfl⟩ (.cons ru .nil),?_⟩,rfl,⟨T,x,rfl,hn,fun ys hy=>by rw[I.jv hy hq];exact hx,rfl⟩,⟨st2.1,st2.2.1⟩,fun b hb=>by rw[aS (nTf b hb)];exact(hf b hb).1⟩
  rw[hv2] at hT2;exact hT2
 done:=by
  intro X hP hw hK hc i pins s σ H E I hf st hg
  subst hP hw hK
  obtain⟨xs,hq,hx⟩:=hg
  obtain⟨its,rv,p,hz⟩:=I.list hq
  obtain⟨⟨old,z1⟩,z2⟩:=st
  have hl:=rv.length
  exact wpAny_pyNext_enum_end (I.ok.hd hc) z1 z2 p.isList (Array.getElem?_eq_none (by rw[List.size_toArray];omega)) fun h' eb=>⟨rfl,I.nX (t':=s.toks) hf fun b u hb q=>eb b u (fun z=>hb (by simp[z])) q⟩
 self:=fun A i s Q E z q=>by
  obtain⟨⟨old,z1⟩,z2⟩:=z
  exact wpAny_pyIter_enum z1 q
theorem wx {P:Program} {w:World} {K:PySem.W.Frag} {elts:List Expr} {k:Nat} {pos:Pos} {a it e:Addr} (hei:e≠it):Turn P w K (.Tuple elts k pos) (Iet K a) [e,it] e (fun i h=>(∃old,IsEnum h e it i old)/\h.IsTupleIter it a i) where
 mem:=by simp
 obj:=fun i h z b hb=>by
  obtain⟨⟨old,z1⟩,z2⟩:=z
  rcases List.mem_cons.mp hb with rfl | hb
  ·exact u0 z1
  ·rw[List.mem_singleton.mp hb]
   obtain⟨o,q,_,d⟩:=z2
   exact⟨o,q,fun v y=>by rw[d] at y;cases y⟩
 keep:=fun i h h' z kk=>⟨let ⟨old,z1⟩:=z.1;⟨old,kk e (by simp) _ z1⟩,z.2.at fun o q=>kk it (by simp) o q⟩
 item:=by
  intro X hP hw hK hc i pins s σ H E I hf st hg
  subst hP hw hK
  obtain⟨xs,x,hq,hx⟩:=hg
  obtain⟨its,rv,p,hz⟩:=I.tuple hq
  obtain⟨u,hu,ru⟩:=rv.get hx
  have hl:=rv.length
  have plt:a<s.heap.objs.size:=by obtain⟨o,q,_⟩:=(show s.heap.IsTuple a its.toArray from p);exact Heap.lt_size q
  have hai:a≠it/\a≠e:=by
   obtain⟨oa,qa,ca,_⟩:=(show s.heap.IsTuple a its.toArray from p)
   obtain⟨⟨old,z1⟩,oi,qi,ci,_⟩:=st
   exact⟨(fun q=>by rw[q,qi] at qa;cases qa;rw[ci] at ca;injection ca with y;exact absurd y (by decide)),(fun q=>by rw[q,z1] at qa;cases qa;injection ca with y;exact absurd y (by decide))⟩
  have DD:=(Draws.tup (prog:=X.prog) (w:=X.w) (A:=X.A.in1) (I.ok.hd hc) it a hai.1 its.toArray)
  have hef0:e∉[it,a]:=by simp;exact⟨hei,fun q=>hai.2 q.symm⟩
  have W:=WalksT.enumerateD (prog:=X.prog) (w:=X.w) (A:=X.A) DD e hei hef0 (by simp)
  refine oK DD e hei hef0 i s _ _ (by rw[List.size_toArray,<- hl];exact(List.getElem?_eq_some_iff.mp hx).1) ⟨st.1,st.2,(show s.heap.IsTuple a its.toArray from p)⟩ fun T vals h1 tk hv hT ht hm k1=>?_
  obtain⟨t,v,hv1,hv2⟩:=hv
  have ev:v=u:=by
   have:its[i]?=some v:=by simpa using hv1
   rw[hu] at this;exact(Option.some.inj this).symm
  subst ev
  refine⟨.ref T,rfl,W.go elts k pos i T { s with heap:=h1,toks:=tk } _ _ hm fun h2 st2 k2=>?_⟩
  have kk:∀b o,b∉[e,it]->s.heap.get? b=some o->h2.get? b=some o:=fun b o hb q=>k2 b o hb (k1 b o hb q)
  have hT2:lQ h2 T vals:=by
   obtain⟨o,q,c⟩:=ht
   exact⟨o,k2 T o (fun z=>W.apart _ _ _ hm z) q,c⟩
  have hn:H T=none:=I.hok.fresh hT
  have nTf:∀b∈[e,it],b≠T:=fun b hb z=>by
   have hlt:b<s.heap.objs.size:=by
    rcases List.mem_cons.mp hb with rfl | hb
    ·obtain⟨old,z1⟩:=st.1;exact Heap.lt_size z1
    ·rw[List.mem_singleton.mp hb];obtain⟨o,q,_⟩:=st.2;exact Heap.lt_size q
   rw[z] at hlt;exact absurd hlt (Nat.not_lt.mpr hT)
  refine⟨.ref T,upd H T (.tup [.int i,x]),I.yielded (t':=tk) hf kk hT ⟨by show 2<=sizeLine;decide,[.int i t,v],.cons ⟨t,rfl⟩ (.cons ru .nil),?_⟩,rfl,⟨T,x,rfl,hn,fun ys hy=>by rw[I.gZ hy hq];exact hx,rfl⟩,⟨st2.1,st2.2.1⟩,fun b hb=>by rw[aS (nTf b hb)];exact(hf b hb).1⟩
  rw[hv2] at hT2;exact hT2
 done:=by
  intro X hP hw hK hc i pins s σ H E I hf st hg
  subst hP hw hK
  obtain⟨xs,hq,hx⟩:=hg
  obtain⟨its,rv,p,hz⟩:=I.tuple hq
  obtain⟨⟨old,z1⟩,z2⟩:=st
  have hl:=rv.length
  have pt:s.heap.IsTuple a its.toArray:=p
  have DD:Draws X.prog X.w X.A.in1 it [it,a] i (fun _ _=>True) (fun j h=>j=i/\h.IsTupleIter it a j/\h.IsTuple a its.toArray):={
   live:=fun _ _ z=>let ⟨o,ho,_⟩:=z.2.1;⟨o,ho⟩
   frame:=fun _ _ _ z hk=>⟨z.1,z.2.1.at fun o e=>hk it (by simp) o e,z.2.2.at fun o e=>hk a (by simp) o e⟩
   item:=fun j s Q E hj z hQ=>absurd z.1 (Nat.ne_of_lt hj)
   done:=fun s Q E z hE=>jH (I.ok.hd hc) z.2.1 z.2.2 (Array.getElem?_eq_none (by rw[List.size_toArray];omega)) hE }
  exact wpAny_pyNext_enum_endD DD z1 ⟨rfl,z2,pt⟩ fun h' eb=>⟨rfl,I.nX (t':=s.toks) hf fun b u hb q=>eb b u (fun z=>hb (by simp[z])) q⟩
 self:=fun A i s Q E z q=>by
  obtain⟨⟨old,z1⟩,z2⟩:=z
  exact wpAny_pyIter_enum z1 q
noncomputable def Iq (K:PySem.W.Frag) (tl:TE):TI:=fun σ H R=>tl σ H fun x H1=>∃a,x=.ref a/\(((∃xs,SqL K H1 a xs)/\R (Iel K a) H1)\/((∃xs,SqT K H1 a xs)/\R (Iet K a) H1))
theorem E6 {X:Cx} {elts:List Expr} {kt:Nat} {tp p pos:Pos} {l:Expr} {tl:TE} (hg:Gl X "enumerate") (hm:X.mg "enumerate" = none) (hl:PE X l tl) (hs:starEach [l] X.env=[(false,eval l X.env)]:=by rfl) :
  PI X (.Tuple elts kt tp) (.Call (.Name "enumerate" p) [l] [] pos) (Iq X.K tl):=by
 intro pins s σ H R I h
 have h':Fy tl IY σ H (fun vs H1=>match vs with
  | [x]=>∃a,x=.ref a/\(((∃xs,SqL X.K H1 a xs)/\R (Iel X.K a) H1)\/((∃xs,SqT X.K H1 a xs)/\R (Iet X.K a) H1))
  | _=>False):=h
 refine Call_ (jm I hg hm PyProof.Rows.boot_enumerate (PyProof.Rows.callWith_type1 (thn (lJ hl t6 hs pos pins s σ H _ I h') fun us s1 ⟨vs,H1,I1,r1,q1⟩=>?_) hs rfl))
 cases r1 with
 | nil=>exact q1.elim
 | cons r rr=>
  cases rr with
  | cons _ _=>exact q1.elim
  | nil=>
   obtain⟨a,rfl,q⟩:=q1
   cases r
   have fp:∀{h':Heap},∀b∈[s1.heap.objs.size+1,s1.heap.objs.size],mx X pins H1 b:=fun{h'} b hb=>by
    have hb':s1.heap.objs.size<=b:=by
     rcases List.mem_cons.mp hb with z | hb
     ·omega
     ·have:=List.mem_singleton.mp hb;omega
    exact I1.Ag hb' (I1.hok.fresh hb')
   rcases q with⟨⟨xs,hq⟩,q⟩ | ⟨⟨xs,hq⟩,q⟩
   ·obtain⟨its,rv,pl,hz⟩:=I1.list hq
    refine call_enumerate_list pl.isList fun h2 z1 z2 hsz kp=>wpAny_pyIter_enum (s:={ s1 with heap:=h2 }) z1 ?_
    exact⟨s1.heap.objs.size+1,[s1.heap.objs.size+1,s1.heap.objs.size],_,_,H1,rfl,I1.kept (t':=s1.toks) kp,wo (a:=a) (Nat.succ_ne_self _),⟨⟨_,z1⟩,z2⟩,fp (h':=h2),q⟩
   ·obtain⟨its,rv,pl,hz⟩:=I1.tuple hq
    refine HV (show s1.heap.IsTuple a its.toArray from pl) fun h2 z1 z2 hsz kp=>wpAny_pyIter_enum (s:={ s1 with heap:=h2 }) z1 ?_
    exact⟨s1.heap.objs.size+1,[s1.heap.objs.size+1,s1.heap.objs.size],_,_,H1,rfl,I1.kept (t':=s1.toks) kp,wx (a:=a) (Nat.succ_ne_self _),⟨⟨_,z1⟩,z2⟩,fp (h':=h2),q⟩
noncomputable def qg (nt:Nat) (ix:List Nat) (σ:St):St:=List.replicate nt none++ix.map fun i=>(σ[i]?).join
noncomputable def iX (nt:Nat) (ix:List Nat) (σ σ':St):Prop:=∃ts:St,ts.length=nt/\σ'=ts++ix.map fun i=>(σ[i]?).join
noncomputable abbrev Gg (J:It) (nt:Nat) (ix:List Nat) (σ:St) (tg:TG) (tt:TT) (te:TE) (acc:Addr) (H1:Hp) (Q:VK):Prop:=
 ∃W:Nat->Nat->List V->Hp->Prop,(∃m,W 0 m [] (upd H1 acc (.lst [])))/\∀i m ys H,W i m ys H →
  (J.stop i H/\Q (.ref acc) H)\/(J.go i H/\∀σ0 x H',iX nt ix σ σ0->J.yld i H x H'->tg x σ0 H' fun σ2 Hn=>iX nt ix σ σ2/\tt σ2 Hn fun b H2=>if b=true then te σ2 H2 fun y H3=>
    H3 acc=some (.lst ys)/\ys.length<sizeLine/\∃m',m'<m/\W (i+1) m' (ys++[y]) (upd H3 acc (.lst (ys++[y])))
   else ∃m',m'<m/\W (i+1) m' ys H2)
noncomputable def oF (wi:TI) (nt:Nat) (ix:List Nat) (tg:TG) (tt:TT) (te:TE):TE:=fun σ H Q=>wi σ H fun J H1=>∀acc,H1 acc=none->Gg J nt ix σ tg tt te acc H1 Q
theorem qT {X:Cx} {use:Option (Value->Sem Unit)} {Q2:Value->Shared->Prop} {pins:List (Addr × Obj)} {s:Shared} {σ:St} {H:Hp} {Q:VK} {elt iter tg:Expr} {tn':List Str} {tgr:TG} {ifs:List Expr} {scope osc:Scope} {pos:Pos} {wi:TI} {tt:TT} {te:TE} (ix:List Nat) (N':List Str)
  (hxe:X.xe=fun _ _=>False) (hc:X.calm=true) (ho:X.env.scope=osc) (hN:N'=tn'++ix.map fun i=>(X.N[i]?).getD ("" : Str)) (hnd:N'.Nodup)
  (hall:(∀y∈scope.names,y.2=.free->osc.names.lookup y.1=some .cell)/\(∀y∈scope.names,y.2≠.cell)/\scope.kind=.function/\(∀y∈scope.names,y.2=.local->scope.names.lookup y.1=some .local)/\(∀y∈N'.drop tn'.length,scope.names.lookup y=some .free))
  (hi:PI X tg iter wi) (hg:∀cl C aK aN fp,PG (aY X scope cl C aK aN fp N') tg tgr)
  (ht:∀cl C aK aN fp,PTs (aY X scope cl C aK aN fp N') ifs tt)
  (he:∀cl C aK aN fp,PE (aY X scope cl C aK aN fp N') elt te)
  (hs:∀x,foldedSetIterable iter X.env x=pure x) (I:Inv X pins σ H s) (h:oF wi tn'.length ix tgr tt te σ H Q)
  (hfin:∀(acc C:Addr) (H5:Hp) (s5:Shared) (o:Obj),Inv X (pins++[(C,o)]) σ H5 s5->(∀x c,X.env.cells.lookup x=some c->c≠C)->X.aK.heap.objs.size<=C->(∀p∈X.pn++pins,p.1≠C)->(∃m,∀h':Heap,h'.get? C=some o->h'.Ns C m)->Q (.ref acc) H5->compPost (model X.prog X.w) X.A X.xe use Q2 (.ref acc) C (.ok .next) s5) :
  wpAny (model X.prog X.w) X.A (comprehension (.ListComp elt [⟨tg,iter,ifs,0⟩] scope pos) scope X.env (firstIterPos [⟨tg,iter,ifs,0⟩] pos) (newList []) false (eval iter X.env) use) Q2 X.xe s:=by
 obtain⟨hfr,hcell,hkind,hnames,hcap⟩:=hall
 subst ho
 have outc:∀y∈scope.names,y.2=.free->X.env.kindOf y.1=some .cell:=fun y hy q=>hfr y hy q
 obtain⟨cl,hclos,hcl1,hcl2⟩:=jN (env:=X.env) (scope:=scope) fun y hy q=>I.ok.has y.1 (.inl (outc y hy q))
 refine wpAny_comprehension_free (use:=use) rfl hs hclos hkind hnames (thn (hi pins s σ H _ I h) fun v s1 h1=>thn h1 fun itv s2 h2=>?_)
 obtain⟨it,fp,tn,J,H2,e,I2,T,st2,f2,rest⟩:=h2
 subst e
 have hf2:H2 s2.heap.objs.size=none:=I2.hok.fresh (Nat.le_refl _)
 obtain⟨W,⟨m0,w0⟩,turn⟩:=rest s2.heap.objs.size hf2
 -- the list
 refine wpAny_newObj_type ?_
 have I3:Inv X pins σ (upd H2 s2.heap.objs.size (.lst [])) { s2 with heap:=s2.heap.push { cls:=.type "list", dict:=none,data:=.seq ([]:List Value).toArray } }:=I2.D1 (its:=[]) (t':=s2.toks) .nil (Nat.zero_le _)
 have keep3:∀b o,s2.heap.get? b=some o->(s2.heap.push { cls:=.type "list", dict:=none,data:=.seq ([]:List Value).toArray }).get? b=some o:=fun b o q=>Heap.get?_push_of_some _ q
 have fp3:∀b∈fp,∃o,s2.heap.get? b=some o/\∀v,o.data≠.cell v:=T.obj _ _ st2
 have st3:tn 0 (s2.heap.push { cls:=.type "list", dict:=none,data:=.seq ([]:List Value).toArray }):=T.keep _ _ _ st2 fun b _ o q=>keep3 b o q
 have fpn:∀b∈fp,(upd H2 s2.heap.objs.size (HO.lst [])) b=none:=fun b hb=>by
  obtain⟨o,q,_⟩:=fp3 b hb
  rw[aS (Nat.ne_of_lt (Heap.lt_size q))]
  exact(f2 b hb).1
 revert I3 keep3 st3 fpn w0
 generalize hS3:({ s2 with heap:=s2.heap.push { cls:=.type "list", dict:=none,data:=.seq ([]:List Value).toArray } }:Shared)=s3
 generalize hH3:upd H2 s2.heap.objs.size (HO.lst [])=H3
 intro w0 I3 keep3 st3 fpn
 have acc3:H3 s2.heap.objs.size=some (.lst []):=by rw[<- hH3];exact a9
 generalize s2.heap.objs.size=acc at *
 have e3:s2.heap.push { cls:=.type "list", dict:=none,data:=.seq ([]:List Value).toArray }=s3.heap:=by rw[<- hS3]
 have keep3':∀b o,s2.heap.get? b=some o->s3.heap.get? b=some o:=fun b o q=>by rw[<- e3];exact keep3 b o q
 have st3':tn 0 s3.heap:=by rw[<- e3];exact st3
 refine wpAny_newFunctionEnv hcell (by intro y hy;simp at hy) (fun h₁ hns₁ hsb₁=>?_) hkind
 have hC:s3.heap.objs.size=s3.heap.objs.size:=rfl
 have keep4:∀b o,s3.heap.get? b=some o->h₁.get? b=some o:=fun b o q=>hsb₁.extBut b o (Nat.ne_of_lt (Heap.lt_size q)) (Heap.get?_push_of_some _ q)
 have fpC:∀b∈fp,b≠s3.heap.objs.size:=fun b hb=>by
  obtain⟨o,q,_⟩:=fp3 b hb
  exact Nat.ne_of_lt (Heap.lt_size (keep3' b o q))
 -- the block's context
 generalize hX':aY X scope cl s3.heap.objs.size s3 H3 fp N'=X'
 have hXp:X'.prog=X.prog:=by rw[<- hX'];rfl
 have hXw:X'.w=X.w:=by rw[<- hX'];rfl
 have hXK:X'.K=X.K:=by rw[<- hX'];rfl
 have hXA:X'.A=X.A:=by rw[<- hX'];rfl
 have hXe:X'.env=compEnvC scope cl s3.heap.objs.size X.env:=by rw[<- hX'];rfl
 have hXc:X'.calm=true:=by rw[<- hX'];exact hc
 have hXx:X'.xe=fun _ _=>False:=by rw[<- hX'];exact hxe
 have hXf:X'.fs=frs X.stack:=by rw[<- hX'];rfl
 have hXex:X'.ex=fp:=by rw[<- hX'];rfl
 have hXN:X'.N=N':=by rw[<- hX'];rfl
 have hXs:X'.aK=s3:=by rw[<- hX'];rfl
 have hXH:X'.aN=H3:=by rw[<- hX'];rfl
 have hXpn:X'.pn=[]:=by rw[<- hX'];rfl
 have okX:X'.Ok:=by
  rw[<- hX']
  refine⟨I3.ok.mod,hkind,I3.ok.glob,I3.ok.blt,Nat.le_refl _,fun a b c p q=>I3.ok.inj a b c (hcl1 a c p) (hcl1 b c q),fun y hy=>?_,fun _ _ z=>(by cases z),I3.ok.hd,I3.ok.frames,.inl rfl,fun b hb=>⟨fpC b hb,fun y c p=>(f2 b hb).2.2.2.2.1 y c (hcl1 y c p)⟩,
   I3.bs,Nat.le_trans I3.ok.bsz I3.sz,fun b o p hb=>?_,fun b hb z=>?_,I3.stack,I3.rO⟩
  ·have hy':(relabel scope X.env).names.lookup y=some .cell\/(relabel scope X.env).names.lookup y=some .free:=hy
   have free:scope.names.lookup y=some .free->∃c,cl.lookup y=some c:=fun q=>hcl2 y (lookup_mem q)
   rcases hy' with q | q
   ·rcases dZ q with z | ⟨z,_⟩
    ·exact absurd rfl (hcell _ (lookup_mem z))
    ·exact free z
   ·rcases dZ q with z | ⟨_,z⟩
    ·exact free z
    ·cases z
  ·rcases(f2 b hb).2.2.2.1 with z | z
   ·exact I3.ok.Af b o p z
   ·exact absurd (Nat.lt_of_lt_of_le (Heap.lt_size p) (Nat.le_trans I3.ok.bsz z)) (Nat.lt_irrefl _)
  ·rcases List.mem_cons.mp (I3.lX b z) with q | q
   ·exact(f2 b hb).2.1 q
   ·exact(f2 b hb).2.2.1 q
 have I4:∀tk,Inv X' [] (qg tn'.length ix σ) H3 { s3 with heap:=h₁,toks:=tk }:=fun tk=>by
  have hloc:=I3.loc
  refine⟨okX,by rw[hXs],I3.bare,?_,⟨fun y=>([]:List (Str × Value)).reverse.lookup y,by rw[hXe];exact hns₁,fun i y v e1 e2 e3=>?_⟩,fun y c p=>?_,?_,fun y c p=>?_,fun p hp=>?_,?_,?_⟩
  ·rw[hXf,hXex,hXH,hXs];exact Un.kept keep4
  ·rw[hXN,hN] at e1
   by_cases hit':i<tn'.length
   ·exfalso
    unfold qg at e2
    rw[List.getElem?_append_left (by simpa using hit'),List.getElem?_replicate,if_pos hit'] at e2
    cases e2
   ·have e10:N'[i]?=some y:=by rw[hN];exact e1
    obtain⟨j,rfl⟩:∃j,i=tn'.length+j:=⟨i - tn'.length,by omega⟩
    have e1':(ix.map fun i=>(X.N[i]?).getD ("" : Str))[j]?=some y:=by
     rw[List.getElem?_append_right (by omega)] at e1
     rw[show tn'.length+j - tn'.length=j by omega] at e1
     exact e1
    have e2':(ix.map fun i=>(σ[i]?).join)[j]?=some (some v):=by
     unfold qg at e2
     rw[List.getElem?_append_right (by simp)] at e2
     simpa using e2
    rw[List.getElem?_map] at e1' e2'
    cases hj:ix[j]? with
    | none=>rw[hj] at e1';cases e1'
    | some i0=>
     rw[hj] at e1' e2'
     have e1'':(X.N[i0]?).getD ("" : Str)=y:=by simpa using e1'
     have e2'':(σ[i0]?).join=some v:=by simpa using e2'
     have hsv:σ[i0]?=some (some v):=by
      cases q:σ[i0]? with
      | none=>rw[q] at e2'';cases e2''
      | some z=>rw[q] at e2'';have:z=some v:=by simpa using e2''
                rw[this]
     have hlt:i0<X.N.length:=by
      have:=(List.getElem?_eq_some_iff.mp hsv).1
      rw[I3.len] at this;exact this
     have hNy:X.N[i0]?=some y:=by
      rw[List.getElem?_eq_getElem hlt] at e1'' ⊢
      simpa using e1''
     have hyt:y∈N'.drop tn'.length:=by
      refine List.mem_of_getElem? (i:=j) ?_
      rw[List.getElem?_drop];exact e10
     have hyf:=hcap y hyt
     have hyc:=outc (y,.free) (lookup_mem hyf) rfl
     obtain⟨m,hn,hl⟩:=hloc
     obtain⟨u,r,l⟩:=hl i0 y v hNy hsv (.inr (.inl hyc))
     refine⟨u,r,?_⟩
     rcases l with⟨k1,_⟩ | ⟨_,c,p,z⟩
     ·have hyc':X.env.kindOf y=some .cell:=hyc
      rw[k1] at hyc';cases hyc'
     ·obtain⟨c',p'⟩:=hcl2 y (lookup_mem hyf)
      have pc:c'=c:=by
       have:=hcl1 y c' p'
       rw[p] at this;cases this;rfl
      subst pc
      refine .inr ⟨.inl ?_,c',by rw[hXe];exact p',?_⟩
      ·rw[hXe];exact dm I3.ok.kind hyf hyc
      ·obtain⟨o,q1,q2⟩:=z
       exact⟨o,keep4 c' o q1,q2⟩
  ·rw[hXe] at p
   obtain⟨v,o,q1,q2⟩:=I3.cell y c (hcl1 y c p)
   exact⟨v,o,keep4 c o q1,q2⟩
  ·rw[hXe];exact I3.hok.fresh (Nat.le_refl _)
  ·rw[hXe] at p;exact I3.jo y c (hcl1 y c p)
  ·rw[hXpn] at hp;cases hp
  ·rw[hXp,hXw];exact I3.hok.kept keep4
  ·rw[hXN,hN];simp[qg]
 -- the loop
 have stat:∀{H':Hp},(∀b∈fp,H' b=none)->∀b∈fp,mx X' [] H' b:=fun hn b hb=>by
  refine⟨hn b hb,by rw[hXe];exact fpC b hb,?_,.inl (by rw[hXex];exact hb),fun y c p=>?_,fun p hp=>by rw[hXpn] at hp;cases hp⟩
  ·rw[hXf];intro z
   rcases List.mem_cons.mp (I3.lX b z) with q | q
   ·exact(f2 b hb).2.1 q
   ·exact(f2 b hb).2.2.1 q
  ·rw[hXe] at p;exact(f2 b hb).2.2.2.2.1 y c (hcl1 y c p)
 have fin:∀{H5:Hp} {s5:Shared} {σ5:St},Inv X' [] σ5 H5 s5->Q (.ref acc) H5->compPost (model X.prog X.w) X.A X.xe use Q2 (.ref acc) s3.heap.objs.size (.ok .next) s5:=fun{H5 s5 σ5} I5 q=>by
  obtain⟨m,hn,_⟩:=I5.loc
  rw[hXe] at hn
  have hn':s5.heap.Ns s3.heap.objs.size m:=hn
  obtain⟨oC,esC,epC,hC1,hC2,hC3⟩:=hn'
  have u5:=I5.base
  rw[hXf,hXex,hXH,hXs] at u5
  have fr:H5 s3.heap.objs.size=none:=by have:=I5.free;rw[hXe] at this;exact this
  have hok5:=I5.hok
  rw[hXp,hXw] at hok5
  have hos:s5.os=s3.os:=by have:=I5.os;rw[hXs] at this;exact this
  have IX:Inv X pins σ H5 s5:=I3.ve (s':=s5) (ch:=fp) hos u5 hok5 I5.bare (fun b hb=>by
   obtain⟨g0,g1,g2,g3,g4,g5⟩:=f2 b hb
   exact⟨g3,g1,g4,g5⟩)
  have cC:∀x c,X.env.cells.lookup x=some c->c≠s3.heap.objs.size:=fun x c z e=>by
   obtain⟨v,q⟩:=I3.cell x c z
   exact absurd q.lt (by rw[e];exact Nat.lt_irrefl _)
  have pC:∀p∈X.pn++pins,p.1≠s3.heap.objs.size:=fun p hp e=>by
   have:=Heap.lt_size (I3.pin p hp).1
   rw[e] at this
   exact Nat.lt_irrefl _ this
  refine hfin acc s3.heap.objs.size H5 s5 oC (IX.kL fun p hp=>?_) cC I3.sz pC ⟨m,fun h' z=>⟨oC,esC,epC,z,hC2,hC3⟩⟩ q
  rcases List.mem_append.mp hp with z | z
  ·exact IX.pin p (List.mem_append_right _ z)
  ·have e:=List.mem_singleton.mp z
   subst e
   refine⟨hC1,fr,Nat.ne_of_gt I3.lt,I3.Gw (Nat.le_refl _),fun v e=>?_⟩
   have e':oC.data=.cell v:=e
   rw[hC2] at e';cases e'
 have loop:∀tk,codeAny (model X.prog X.w) X.A (.compLoop (.ListComp elt [⟨tg,iter,ifs,0⟩] scope pos) 0 (.ref it) (.ref acc) (compEnvC scope cl s3.heap.objs.size X.env))
   (compPost (model X.prog X.w) X.A X.xe use Q2 (.ref acc) s3.heap.objs.size) { s3 with heap:=h₁,toks:=tk }:=fun tk=>by
  refine ui (fun n s'=>∃i ys σ' H',Inv X' [] σ' H' s'/\iX tn'.length ix σ σ'/\tn i s'.heap/\(∀b∈fp,H' b=none)/\W i n ys H') (fun n s5 h5=>?_) m0
   ⟨0,[],qg tn'.length ix σ,H3,I4 tk,⟨_,List.length_replicate,rfl⟩,T.keep _ _ _ st3' fun b _ o q=>keep4 b o q,fpn,w0⟩
  obtain⟨i,ys,σ5,H5,I5,hσ,st5,fr5,w5⟩:=h5
  rcases turn i n ys H5 w5 with⟨stop,q⟩ | ⟨go,step⟩
  ·have d:=T.done X' hXp hXw hXK hXc i [] s5 σ5 H5 (fun _ _=>False) I5 (stat fr5) st5 stop
   rw[hXA] at d
   refine thn d fun r s6 ⟨hr,I6⟩=>?_
   subst hr
   exact fin I6 q
  ·have d:=T.item X' hXp hXw hXK hXc i [] s5 σ5 H5 (fun _ _=>False) I5 (stat fr5) st5 go
   rw[hXA] at d
   refine thn d fun r s6 ⟨u,hr,h6⟩=>?_
   subst hr
   refine thn h6 fun _ s7 ⟨z,H7,I7,r7,y7,st7,fr7⟩=>?_
   have I7':=I7.pinned (stat fr7) (T.obj _ _ st7)
   have again:∀{H9:Hp} {s9:Shared} {ys9:List V} {σ9:St},Inv X' ([]++jF fp s7.heap) σ9 H9 s9->iX tn'.length ix σ σ9->(∃m',m'<n/\W (i+1) m' ys9 H9)->∃m',m'<n/\∃i ys σ' H',Inv X' [] σ' H' s9/\iX tn'.length ix σ σ'/\tn i s9.heap/\(∀b∈fp,H' b=none)/\W i m' ys H':=fun{H9 s9 ys9 σ9} I9 c9 ⟨m',hm,w9⟩=>by
    refine⟨m',hm,i+1,ys9,_,H9,I9.gT,c9,T.keep _ _ _ st7 fun b hb o e=>(I9.pin (b,o) (List.mem_append_right _ (List.mem_append_right _ (cR hb e)))).1,fun b hb=>?_,w9⟩
    obtain⟨o,e,_⟩:=T.obj _ _ st7 b hb
    exact(I9.pin (b,o) (List.mem_append_right _ (List.mem_append_right _ (cR hb e)))).2.1
   have ht':=ht cl s3.heap.objs.size s3 H3 fp
   have he':=he cl s3.heap.objs.size s3 H3 fp
   have hg':=hg cl s3.heap.objs.size s3 H3 fp
   rw[hX'] at ht' he' hg'
   rw[<- hXe]
   have a0:=hg' _ s7 σ5 H7 z u _ I7' r7 (step σ5 z H7 hσ y7)
   rw[hXp,hXw,hXA,hXx] at a0
   refine thn a0 fun _ s8 ⟨σ8,H8,I8,c8,q8⟩=>?_
   have a1:=ht' _ s8 _ H8 _ I8 q8
   rw[hXp,hXw,hXA,hXx] at a1
   refine thn a1 fun b s9 ⟨H9,I9,q9⟩=>?_
   cases b with
   | false=>exact again I9 c8 q9
   | true=>
    have a2:=he' _ s9 _ H9 _ I9 q9
    rw[hXp,hXw,hXA,hXx] at a2
    refine thn a2 fun yv s10 ⟨y,H10,I10,r10,q1,q2,q3⟩=>?_
    have a3:=lZ (X:=X') _ s10 _ H10 (.ref acc) [y] (.ref acc) [yv] (fun _ Hq=>∃m',m'<n/\W (i+1) m' (ys++[y]) Hq) I10 rfl (.cons r10 .nil) ⟨acc,ys,y,rfl,rfl,q1,q2,q3⟩
    rw[hXp,hXw,hXA,hXx] at a3
    exact thn a3 fun _ s11 ⟨_,H11,I11,_,q11⟩=>again I11 c8 q11
 refine codeAny_compStart_list (loop _) ?_
 exact T.self _ 0 _ _ _ (T.keep _ _ _ st3' fun b _ o q=>keep4 b o q) (loop _)
section
variable {X:Cx} {elt iter tg:Expr} {tn':List Str} {tgr:TG} {ifs:List Expr} {scope osc:Scope} {pos:Pos} {wi:TI} {tt:TT} {te:TE}
theorem uw (ix:List Nat) (tn' N':List Str)
  (hxe:X.xe=fun _ _=>False) (hc:X.calm=true) (ho:X.env.scope=osc) (hN:N'=tn'++ix.map fun i=>(X.N[i]?).getD ("" : Str)) (hnd:N'.Nodup)
  (hall:(∀y∈scope.names,y.2=.free->osc.names.lookup y.1=some .cell)/\(∀y∈scope.names,y.2≠.cell)/\scope.kind=.function/\(∀y∈scope.names,y.2=.local->scope.names.lookup y.1=some .local)/\(∀y∈N'.drop tn'.length,scope.names.lookup y=some .free))
  (hi:PI X tg iter wi) (hg:∀cl C aK aN fp,PG (aY X scope cl C aK aN fp N') tg tgr)
  (ht:∀cl C aK aN fp,PTs (aY X scope cl C aK aN fp N') ifs tt)
  (he:∀cl C aK aN fp,PE (aY X scope cl C aK aN fp N') elt te)
  (hs:∀x,foldedSetIterable iter X.env x=pure x:=by intro _;rfl) :
  PE X (.ListComp elt [⟨tg,iter,ifs,0⟩] scope pos) (oF wi tn'.length ix tgr tt te):=by
 intro pins s σ H Q I h
 have e:eval (.ListComp elt [⟨tg,iter,ifs,0⟩] scope pos) X.env=comprehension (.ListComp elt [⟨tg,iter,ifs,0⟩] scope pos) scope X.env (firstIterPos [⟨tg,iter,ifs,0⟩] pos) (newList []) false (eval iter X.env) none:=by
  rw[eval_ListComp];rfl
 rw[e]
 refine qT (use:=none) (Q2:=EP X pins σ Q) ix N' hxe hc ho hN hnd hall hi hg ht he hs I h fun acc C H5 s5 o I5 cC hC pC hm q=>?_
 obtain⟨m,hm⟩:=hm
 exact⟨m,hm _ (I5.pin (C,o) (List.mem_append_right _ (List.mem_append_right _ (List.mem_singleton.mpr rfl)))).1,fun h' hs'=>⟨.ref acc,H5,I5.F2 cC hC pC hs',rfl,q⟩⟩
theorem vf {y:Str} {py spos:Pos} {i:Nat} (ix:List Nat) (tn' N':List Str)
  (hxe:X.xe=fun _ _=>False) (hc:X.calm=true) (ho:X.env.scope=osc) (hN:N'=tn'++ix.map fun i=>(X.N[i]?).getD ("" : Str)) (hnd:N'.Nodup)
  (hall:(∀y∈scope.names,y.2=.free->osc.names.lookup y.1=some .cell)/\(∀y∈scope.names,y.2≠.cell)/\scope.kind=.function/\(∀y∈scope.names,y.2=.local->scope.names.lookup y.1=some .local)/\(∀y∈N'.drop tn'.length,scope.names.lookup y=some .free))
  (hi:PI X tg iter wi) (hg:∀cl C aK aN fp,PG (aY X scope cl C aK aN fp N') tg tgr)
  (ht:∀cl C aK aN fp,PTs (aY X scope cl C aK aN fp N') ifs tt)
  (he:∀cl C aK aN fp,PE (aY X scope cl C aK aN fp N') elt te)
  (hNN:X.N.Nodup) (hy:X.N[i]?=some y) (hl:X.env.scope.names.lookup y=some .local)
  (hsw:swapsWith (.ListComp elt [⟨tg,iter,ifs,0⟩] scope pos) (some (.Name y py)) spos.line X.env=pure true:=by rfl)
  (hs:∀x,foldedSetIterable iter X.env x=pure x:=by intro _;rfl) :
  PS X (.Assign [.Name y py] (.ListComp elt [⟨tg,iter,ifs,0⟩] scope pos) spos) (DA (oF wi tn'.length ix tgr tt te) (dE i)):=by
 intro pins s σ H D I h
 rw[exec_Assign_Name_used _ _ _ _ hsw]
 refine wpAny_bind (wpAny_standAt ?_)
 show wpAny _ _ (evalThenUse (.ListComp elt [⟨tg,iter,ifs,0⟩] scope pos) X.env (assign (.Name y py) X.env) >>= fun _=>pure Flow.next) _ _ _
 refine wpAny_bind ?_
 show wpAny _ _ (comprehension (.ListComp elt [⟨tg,iter,ifs,0⟩] scope pos) scope X.env (firstIterPos [⟨tg,iter,ifs,0⟩] pos) (newList []) false (eval iter X.env) (some (assign (.Name y py) X.env)) >>= fun _=>pure ()) _ _ _
 refine wpAny_bind (qT (use:=some (assign (.Name y py) X.env)) ix N' hxe hc ho hN hnd hall hi hg ht he hs I h fun acc C H5 s5 o I5 cC hC pC hm q=>?_)
 obtain⟨m,hm⟩:=hm
 refine wpAny_assign_Name (fY (i:=i) (v:=.ref acc) I5 hNN hy (.inl hl) rfl (fun s6 I6=>?_) (.inr hl))
 refine⟨m,hm _ (I6.pin (C,o) (List.mem_append_right _ (List.mem_append_right _ (List.mem_singleton.mpr rfl)))).1,fun h' hs'=>?_⟩
 exact wpAny_pure (wpAny_pure ⟨_,H5,I6.F2 cC hC pC hs',q⟩)
end
end L2
namespace L2.FE
open PySem PySem.Spec PyProof.Rows
inductive D where
 | non | bl (b:Bool) | int (i:Int) | str (x:Str) | tup (ds:List D) | frl (ds:List D) | ref (n:Nat) | fn (x:Str) | edic | scr (ds:List D) | exc (c:Str) (fs:List (Str × Int))
inductive O where
 | lst (ds:List D) | set (ns:List Int) | dic (kvs:List (Key × D)) | dit (kvs:List (List Key × D))
noncomputable abbrev Hh:=List O
noncomputable abbrev En:=List (Option D)
structure Xc where
 cls:Str
 fs:List (Str × Int)
inductive R (β:Type) where
 | ok (b:β) (h:Hh)
 | err (x:Xc) (h:Hh)
 | bad
noncomputable def R.bind {β γ:Type} (r:R β) (f:β->Hh->R γ):R γ:=match r with
 | .ok b h=>f b h
 | .err x h=>.err x h
 | .bad=>.bad
inductive Fl where
 | nx (e:En) | bk (e:En) | ct (e:En) | rt (d:D)
noncomputable abbrev ME:=En->Hh->R D
noncomputable abbrev MT:=En->Hh->R Bool
noncomputable abbrev MA:=En->Hh->R (List D)
noncomputable abbrev MS:=En->Hh->R Fl
noncomputable def Fro (K:PySem.W.Frag) (H:Hp) (p:Addr) (vs:List V):Prop:=
 (∃o,H p=some (.frz o (.lst vs)))\/∃(o:Obj) (its:Array Value) (n:Nat),K.lookup p=some o/\o.cls=.type "list" /\ o.dict=none/\o.data=.seq its n/\its.size<=sizeLine/\Vals vs its.toList
theorem Fro.sq {K:PySem.W.Frag} {H:Hp} {p:Addr} {vs:List V} (h:Fro K H p vs):SqL K H p vs:=by
 rcases h with⟨o,h⟩ | h
 ·exact .inl (.inr ⟨o,h⟩)
 ·exact .inr h
noncomputable def Fr1 (H:Hp) (p:Addr) (vs:List V):Prop:=∃o,H p=some (.frz o (.lst vs))
theorem Fr1.fro {K:PySem.W.Frag} {H:Hp} {p:Addr} {vs:List V} (h:Fr1 H p vs):Fro K H p vs:=.inl h
theorem Fr1.sq {K:PySem.W.Frag} {H:Hp} {p:Addr} {vs:List V} (h:Fr1 H p vs):SqL K H p vs:=let ⟨o,h⟩:=h;.inl (.inr ⟨o,h⟩)
theorem Fr1.rd {H:Hp} {p:Addr} {vs:List V} (h:Fr1 H p vs):Rd H p (.lst vs):=.inr h
noncomputable def AtO (p:Addr) (o:Obj):HO:=.frz o (.ext fun h=>h.get? p=some o)
noncomputable def XFs (H:Hp) (dc:Option Addr) (fs:List (Str × Int)):Prop:=(dc=none/\fs=[])\/∃dx od,dc=some dx/\H dx=some (.frz od (.xd (fs.map fun x=>(x.1,V.int x.2))))
mutual
inductive aP (K:PySem.W.Frag) (g:Str->Option Addr) (α:List Addr) (H:Hp):D->V->Prop where
 | non:aP K g α H .non .non
 | bl (b):aP K g α H (.bl b) (.bl b)
 | int (i):aP K g α H (.int i) (.int i)
 | str (x):aP K g α H (.str x) (.str x)
 | ref {n p}:α[n]?=some p->aP K g α H (.ref n) (.ref p)
 | tup {ds p vs}:H p=some (.tup vs)->aA K g α H ds vs->aP K g α H (.tup ds) (.ref p)
 | frl {ds p vs}:Fr1 H p vs->aA K g α H ds vs->aP K g α H (.frl ds) (.ref p)
 | scr {ds p vs}:Fro K H p vs->aA K g α H ds vs->aP K g α H (.scr ds) (.ref p)
 | fn {x f}:g x=some f->aP K g α H (.fn x) (.ref f)
 | edic {p o}:H p=some (.frz o (.dK []))->aP K g α H .edic (.ref p)
 | exc {c C p o fs}:g c=some C->H p=some (AtO p o)->o.cls=.ref C->(∃vs,o.data=.fields vs)->XFs H o.dict fs->aP K g α H (.exc c fs) (.ref p)
inductive aA (K:PySem.W.Frag) (g:Str->Option Addr) (α:List Addr) (H:Hp):List D->List V->Prop where
 | nil:aA K g α H [] []
 | cons {d v ds vs}:aP K g α H d v->aA K g α H ds vs->aA K g α H (d::ds) (v::vs)
end
structure Ex0 (K:PySem.W.Frag) (α:List Addr) (H:Hp) (α':List Addr) (H':Hp):Prop where
 pre:α <+: α'
 tup:∀(p:Addr) (xs:List V),H p=some (.tup xs)->H' p=some (.tup xs)
 frz:∀(p:Addr) (o:Obj) (u:HO),H p=some (.frz o u)->H' p=some (.frz o u)
theorem Ex0.fro {K:PySem.W.Frag} {α α':List Addr} {H H':Hp} (e:Ex0 K α H α' H') (p:Addr) (xs:List V) (h:Fro K H p xs):Fro K H' p xs:=by
 rcases h with⟨o,h⟩ | h
 ·exact .inl ⟨o,e.frz _ _ _ h⟩
 ·exact .inr h
theorem Ex0.fr1 {K:PySem.W.Frag} {α α':List Addr} {H H':Hp} (e:Ex0 K α H α' H') (p:Addr) (xs:List V) (h:Fr1 H p xs):Fr1 H' p xs:=let ⟨o,h⟩:=h;⟨o,e.frz _ _ _ h⟩
structure Ext (K:PySem.W.Frag) (α:List Addr) (H:Hp) (α':List Addr) (H':Hp):Prop extends Ex0 K α H α' H' where
 keep:∀p o,H p=some o->p∉α->H' p=some o
 new:∀p,p∈α'->p∉α->H p=none
section
variable {K:PySem.W.Frag} {g:Str->Option Addr} {α α' α'':List Addr} {H H' H'':Hp}
theorem Ex0.refl:Ex0 K α H α H:=⟨List.prefix_refl _,fun _ _ h=>h,fun _ _ _ h=>h⟩
theorem Ex0.trans (a:Ex0 K α H α' H') (b:Ex0 K α' H' α'' H''):Ex0 K α H α'' H'':=⟨a.pre.trans b.pre,fun p xs h=>b.tup p xs (a.tup p xs h),fun p o u h=>b.frz p o u (a.frz p o u h)⟩
theorem Ext.refl:Ext K α H α H:=⟨.refl,fun _ _ h _=>h,fun _ h n=>absurd h n⟩
theorem Ext.trans (a:Ext K α H α' H') (b:Ext K α' H' α'' H''):Ext K α H α'' H'':=⟨a.toEx0.trans b.toEx0,fun p o h n=>b.keep p o (a.keep p o h n) (fun z=>by rw[a.new p z n] at h;cases h),fun p z n=>by
  by_cases q:p∈α'
  ·exact a.new p q n
  ·have:=b.new p z q
   cases e:H p with
   | none=>rfl
   | some o=>rw[a.keep p o e n] at this;cases this⟩
theorem Ex0.get (e:Ex0 K α H α' H') {n:Nat} {p:Addr} (h:α[n]?=some p):α'[n]?=some p:=by
 obtain⟨t,rfl⟩:=e.pre
 have hl:n<α.length:=by
  by_cases hl:n<α.length
  ·exact hl
  ·rw[List.getElem?_eq_none (by omega)] at h;cases h
 rw[List.getElem?_append_left hl];exact h
mutual
theorem aP.ex0 (e:Ex0 K α H α' H'):∀{d:D} {v:V},aP K g α H d v->aP K g α' H' d v
 | _,_,.non=>.non
 | _,_,.bl b=>.bl b
 | _,_,.int i=>.int i
 | _,_,.str x=>.str x
 | _,_,.ref h=>.ref (e.get h)
 | _,_,.tup h r=>.tup (e.tup _ _ h) (aA.ex0 e r)
 | _,_,.frl h r=>.frl (e.fr1 _ _ h) (aA.ex0 e r)
 | _,_,.scr h r=>.scr (e.fro _ _ h) (aA.ex0 e r)
 | _,_,.fn h=>.fn h
 | _,_,.edic h=>.edic (e.frz _ _ _ h)
 | _,_,.exc hg h hc hd hf=>.exc hg (e.frz _ _ _ h) hc hd (hf.elim .inl fun⟨dx,od,a,b⟩=>.inr ⟨dx,od,a,e.frz _ _ _ b⟩)
theorem aA.ex0 (e:Ex0 K α H α' H'):∀{ds:List D} {vs:List V},aA K g α H ds vs->aA K g α' H' ds vs
 | _,_,.nil=>.nil
 | _,_,.cons r t=>.cons (aP.ex0 e r) (aA.ex0 e t)
end
theorem aP.ext (e:Ext K α H α' H') {d:D} {v:V} (r:aP K g α H d v):aP K g α' H' d v:=r.ex0 e.toEx0
theorem aA.ext (e:Ext K α H α' H') {d:List D} {v:List V} (r:aA K g α H d v):aA K g α' H' d v:=r.ex0 e.toEx0
theorem aA.length:∀{ds:List D} {vs:List V},aA K g α H ds vs->ds.length=vs.length
 | _,_,.nil=>rfl
 | _,_,.cons _ t=>by simp[aA.length t]
theorem aA.append:∀{ds es:List D} {vs us:List V},aA K g α H ds vs->aA K g α H es us->aA K g α H (ds++es) (vs++us)
 | _,_,_,_,.nil,s=>s
 | _,_,_,_,.cons r t,s=>.cons r (aA.append t s)
theorem aA.get:∀{ds:List D} {vs:List V} {i:Nat} {d:D},aA K g α H ds vs->ds[i]?=some d->∃v,vs[i]?=some v/\aP K g α H d v
 | _,_,_,_,.nil,e=>by simp at e
 | _,_,0,_,.cons r _,e=>by simp at e;subst e;exact⟨_,rfl,r⟩
 | _,_,i+1,d,.cons _ t,e=>by
  obtain⟨u,h1,h2⟩:=aA.get (i:=i) (d:=d) t (by simpa using e)
  exact⟨u,by simpa using h1,h2⟩
theorem aA.set {d:D} {v:V} (r:aP K g α H d v):∀{ds:List D} {vs:List V} (i:Nat),aA K g α H ds vs->aA K g α H (ds.set i d) (vs.set i v)
 | _,_,_,.nil=>.nil
 | _,_,0,.cons _ t=>.cons r t
 | _,_,i+1,.cons q t=>.cons q (aA.set r i t)
theorem aA.take:∀{ds:List D} {vs:List V} (n:Nat),aA K g α H ds vs->aA K g α H (ds.take n) (vs.take n)
 | _,_,0,_=>.nil
 | _,_,_+1,.nil=>.nil
 | _,_,n+1,.cons r t=>.cons r (aA.take n t)
theorem aA.drop:∀{ds:List D} {vs:List V} (n:Nat),aA K g α H ds vs->aA K g α H (ds.drop n) (vs.drop n)
 | _,_,0,r=>r
 | _,_,_+1,.nil=>.nil
 | _,_,n+1,.cons _ t=>aA.drop n t
theorem aA.ints (ns:List Int):aA K g α H (ns.map D.int) (ns.map V.int):=by
 induction ns with
 | nil=>exact .nil
 | cons n r ih=>exact .cons (.int n) ih
theorem aA.FA:∀{ns:List Int} {vs:List V},aA K g α H (ns.map D.int) vs->vs=ns.map V.int
 | [],_,.nil=>rfl
 | n::r,_,.cons (.int _) t=>by rw[aA.FA t];rfl
theorem aA.flat {ds:List D} {vs:List V} (r:aA K g α H ds vs):∀k,aA K g α H (List.replicate k ds).flatten (List.replicate k vs).flatten
 | 0=>.nil
 | k+1=>by rw[List.replicate_succ,List.replicate_succ,List.flatten_cons,List.flatten_cons];exact r.append (aA.flat r k)
end
noncomputable def OAt (K:PySem.W.Frag) (g:Str->Option Addr) (α:List Addr) (H:Hp) (p:Addr):O->Prop
 | .lst ds=>∃vs,H p=some (.lst vs)/\aA K g α H ds vs
 | .set ns=>H p=some (.set (fun k=>ns.any (· == k)) ns.length)
 | .dic kvs=>∃kws,H p=some (.dK kws)/\Paired (fun(a:Key × D) (b:Key × V)=>a.1=b.1/\aP K g α H a.2 b.2) kvs kws
 | .dit kvs=>∃kws,H p=some (.dT kws)/\Paired (fun(a:List Key × D) (b:List Key × V)=>a.1=b.1/\aP K g α H a.2 b.2) kvs kws
structure aZ (K:PySem.W.Frag) (g:Str->Option Addr) (α:List Addr) (H:Hp) (h:Hh):Prop where
 len:α.length=h.length
 inj:∀(n m:Nat) (p:Addr),α[n]?=some p->α[m]?=some p->n=m
 here:∀(n:Nat) (p:Addr) (o:O),α[n]?=some p->h[n]?=some o->OAt K g α H p o
section
variable {K:PySem.W.Frag} {g:Str->Option Addr} {α α':List Addr} {H H':Hp} {h:Hh}
theorem Paired.IB {kvs:List (Key × D)} {kws:List (Key × V)} (e:Ex0 K α H α' H') (r:Paired (fun(a:Key × D) (b:Key × V)=>a.1=b.1/\aP K g α H a.2 b.2) kvs kws) :
  Paired (fun(a:Key × D) (b:Key × V)=>a.1=b.1/\aP K g α' H' a.2 b.2) kvs kws:=L2.Paired.D0 r fun _ _ q=>⟨q.1,q.2.ex0 e⟩
theorem Paired.IV {kvs:List (List Key × D)} {kws:List (List Key × V)} (e:Ex0 K α H α' H') (r:Paired (fun(a:List Key × D) (b:List Key × V)=>a.1=b.1/\aP K g α H a.2 b.2) kvs kws) :
  Paired (fun(a:List Key × D) (b:List Key × V)=>a.1=b.1/\aP K g α' H' a.2 b.2) kvs kws:=L2.Paired.D0 r fun _ _ q=>⟨q.1,q.2.ex0 e⟩
theorem OAt.isS {p:Addr} {o:O} (h:OAt K g α H p o):∃u,H p=some u/\(∀ys,u≠.tup ys)/\∀w ys,u≠.frz w ys:=by
 cases o with
 | lst ds=>obtain⟨vs,e,_⟩:=h;exact⟨_,e,fun _ z=>(nomatch z),fun _ _ z=>nomatch z⟩
 | set n=>exact⟨_,h,fun _ z=>(nomatch z),fun _ _ z=>nomatch z⟩
 | dic kvs=>obtain⟨vs,e,_⟩:=h;exact⟨_,e,fun _ z=>(nomatch z),fun _ _ z=>nomatch z⟩
 | dit kvs=>obtain⟨vs,e,_⟩:=h;exact⟨_,e,fun _ z=>(nomatch z),fun _ _ z=>nomatch z⟩
theorem aZ.mem (r:aZ K g α H h) {p:Addr} (hp:p∈α):∃u,H p=some u/\(∀ys,u≠.tup ys)/\∀w ys,u≠.frz w ys:=by
 obtain⟨n,hn,e⟩:=List.getElem_of_mem hp
 have hn':n<h.length:=by rw[<- r.len];exact hn
 exact(r.here n p _ (by rw[List.getElem?_eq_getElem hn,e]) (List.getElem?_eq_getElem hn')).isS
theorem OAt.ex0 {p:Addr} {o:O} (e:Ex0 K α H α' H') (h:OAt K g α H p o) (k:∀u,H p=some u->H' p=some u):OAt K g α' H' p o:=by
 cases o with
 | lst ds=>obtain⟨vs,a,r⟩:=h;exact⟨vs,k _ a,r.ex0 e⟩
 | set n=>exact k _ h
 | dic kvs=>obtain⟨kws,a,r⟩:=h;exact⟨kws,k _ a,Paired.IB e r⟩
 | dit kvs=>obtain⟨kws,a,r⟩:=h;exact⟨kws,k _ a,Paired.IV e r⟩
noncomputable def A3 (H:Hp) (p:Addr):Prop:=H p=none\/∃u,H p=some u/\(∀ys,u≠.tup ys)/\∀w ys,u≠.frz w ys
theorem Ex0.upd {p:Addr} {o:HO} (n:A3 H p):Ex0 K α H α (upd H p o):=by
 have ne:∀q u,H q=some u->((∃ys,u=.tup ys)\/∃w ys,u=.frz w ys)->q≠p:=by
  rintro q u e z rfl
  rcases n with n | ⟨u',e',n1,n2⟩
  ·rw[e] at n;cases n
  ·rw[e] at e';cases e'
   rcases z with⟨ys,z⟩ | ⟨w,ys,z⟩
   ·exact n1 _ z
   ·exact n2 _ _ z
 refine⟨List.prefix_refl _,fun q xs h=>?_,fun q o u h=>?_⟩
 ·rw[aS (ne q _ h (.inl ⟨_,rfl⟩))];exact h
 ·rw[aS (ne q _ h (.inr ⟨_,_,rfl⟩))];exact h
theorem Ex0.more (e:Ex0 K α H α H') (l:List Addr):Ex0 K α H (α++l) H':=⟨List.prefix_append _ _,e.tup,e.frz⟩
theorem Ext.fresh {p:Addr} {o:HO} (n:H p=none):Ext K α H α (upd H p o):=⟨Ex0.upd (.inl n),fun q u h _=>by rw[aS (cc h n)];exact h,fun _ z m=>absurd z m⟩
theorem Ext.push {p:Addr} {o:HO} (n:H p=none):Ext K α H (α++[p]) (upd H p o):=⟨(Ex0.upd (.inl n)).more _,fun q u h _=>by rw[aS (cc h n)];exact h,fun q z m=>by
 rcases List.mem_append.mp z with z | z
 ·exact absurd z m
 ·rw[List.mem_singleton.mp z];exact n⟩
theorem aZ.off {p:Addr} {o:HO} (r:aZ K g α H h) (n:A3 H p) (m:p∉α):aZ K g α (upd H p o) h:=by
 refine⟨r.len,r.inj,fun k q u a b=>(r.here k q u a b).ex0 (Ex0.upd n) fun w e=>?_⟩
 rw[aS];exact e
 rintro rfl;exact m (List.mem_of_getElem? a)
theorem aZ.free (r:aZ K g α H h) {p:Addr} (n:H p=none):p∉α:=fun z=>by
 obtain⟨u,e,_⟩:=r.mem z
 rw[n] at e;cases e
theorem aZ.grow {p:Addr} {o:HO} (r:aZ K g α H h) (n:H p=none):aZ K g α (upd H p o) h:=r.off (.inl n) (r.free n)
theorem aZ.adopt {p:Addr} {u:O} (r:aZ K g α H h) (n:p∉α) (a:OAt K g (α++[p]) H p u):aZ K g (α++[p]) H (h++[u]):=by
 have old:∀{m:Nat} {q:Addr},(α++[p])[m]?=some q->(α[m]?=some q)\/(m=α.length/\q=p):=by
  intro m q h1
  by_cases hm:m<α.length
  ·rw[List.getElem?_append_left hm] at h1
   exact .inl h1
  ·have hl:m<(α++[p]).length:=by
    by_cases hl:m<(α++[p]).length
    ·exact hl
    ·rw[List.getElem?_eq_none (by omega)] at h1;cases h1
   have e:m=α.length:=by simp at hl;omega
   subst e
   rw[List.getElem?_append_right (Nat.le_refl _)] at h1
   simp at h1
   exact .inr ⟨rfl,h1.symm⟩
 refine⟨by simp[r.len],fun m k q h1 h2=>?_,fun m q w h1 h2=>?_⟩
 ·rcases old h1 with a1 | ⟨e1,e2⟩
  ·rcases old h2 with a2 | ⟨e3,e4⟩
   ·exact r.inj m k q a1 a2
   ·rw[e4] at a1;exact absurd (List.mem_of_getElem? a1) n
  ·rcases old h2 with a2 | ⟨e3,e4⟩
   ·rw[e2] at a2;exact absurd (List.mem_of_getElem? a2) n
   ·rw[e1,e3]
 ·rcases old h1 with a1 | ⟨e1,e2⟩
  ·have hm:m<α.length:=by
    by_cases hl:m<α.length
    ·exact hl
    ·rw[List.getElem?_eq_none (by omega)] at a1;cases a1
   rw[List.getElem?_append_left (by rw[<- r.len];exact hm)] at h2
   exact(r.here m q w a1 h2).ex0 (Ex0.refl.more _) fun _ z=>z
  ·subst e1 e2
   rw[r.len,List.getElem?_append_right (Nat.le_refl _)] at h2
   simp at h2
   subst h2
   exact a
theorem aZ.push {p:Addr} {o:HO} {u:O} (r:aZ K g α H h) (n:H p=none) (a:OAt K g (α++[p]) (upd H p o) p u):aZ K g (α++[p]) (upd H p o) (h++[u]):=(r.grow n).adopt (r.free n) a
theorem Ext.write {p:Addr} {o:HO} {k:Nat} (r:aZ K g α H h) (hk:α[k]?=some p):Ext K α H α (upd H p o):=
 ⟨Ex0.upd (.inr (r.mem (List.mem_of_getElem? hk))),fun q u h m=>by
  rw[aS];exact h
  rintro rfl;exact m (List.mem_of_getElem? hk),fun _ z m=>absurd z m⟩
theorem aZ.write {p:Addr} {o:HO} {u':O} {k:Nat} (r:aZ K g α H h) (hk:α[k]?=some p) (a:OAt K g α (upd H p o) p u'):aZ K g α (upd H p o) (h.set k u'):=by
 have x:Ext K α H α (upd H p o):=Ext.write r hk
 refine⟨by simp[r.len],r.inj,fun m q w h1 h2=>?_⟩
 rw[List.getElem?_set] at h2
 by_cases hm:k=m
 ·subst hm
  rw[if_pos rfl] at h2
  split at h2
  ·cases h2;rw[h1] at hk;cases hk;exact a
  ·cases h2
 ·rw[if_neg hm] at h2
  refine(r.here m q w h1 h2).ex0 x.toEx0 fun z e=>?_
  rw[aS];exact e
  rintro rfl;exact hm (r.inj _ _ _ hk h1)
end
noncomputable abbrev GG:=Str->Option Addr
noncomputable abbrev EE:=List Addr->Hp->Xc->Prop
structure je (K:PySem.W.Frag) (g:GG) (α:List Addr) (H:Hp) (env:En) (σ:St):Prop where
 len:env.length=σ.length
 vars:∀(i:Nat) (d:D),env[i]?=some (some d)->∃v,σ[i]?=some (some v)/\aP K g α H d v
structure dk (K:PySem.W.Frag) (g:GG) (α:List Addr) (H:Hp) (env:En) (σ:St) (h:Hh):Prop where
 heap:aZ K g α H h
 vs:je K g α H env σ
noncomputable def WQ (K:PySem.W.Frag) (g:GG) (ε:EE) (α:List Addr) (H:Hp) {β:Type} (r:R β) (k:β->Hh->Prop):Prop:=match r with
 | .ok b h=>k b h
 | .err x h=>∀α' H',Ext K α H α' H'->aZ K g α' H' h->ε α' H' x
 | .bad=>False
section
variable {K:PySem.W.Frag} {g:GG} {ε:EE} {α α':List Addr} {H H':Hp} {β γ:Type}
theorem WQ.bind {r:R β} {f:β->Hh->R γ} {k:γ->Hh->Prop} (w:WQ K g ε α H (r.bind f) k):WQ K g ε α H r fun b h=>WQ K g ε α H (f b h) k:=by
 cases r<;>exact w
theorem WQ.ext {r:R β} {k:β->Hh->Prop} (e:Ext K α H α' H') (w:WQ K g ε α H r k):WQ K g ε α' H' r k:=by
 cases r with
 | ok b h=>exact w
 | err x h=>exact fun a b c d=>w a b (e.trans c) d
 | bad=>exact w
theorem WQ.mono {r:R β} {k k':β->Hh->Prop} (w:WQ K g ε α H r k) (m:∀b h,r=.ok b h->k b h->k' b h):WQ K g ε α H r k':=by
 cases r with
 | ok b h=>exact m b h rfl w
 | err x h=>exact w
 | bad=>exact w
theorem je.ext {env:En} {σ:St} (v:je K g α H env σ) (e:Ext K α H α' H'):je K g α' H' env σ:=
 ⟨v.len,fun i d h=>let ⟨x,a,b⟩:=v.vars i d h;⟨x,a,b.ext e⟩⟩
theorem dk.ext {env:En} {σ:St} {h h':Hh} (v:dk K g α H env σ h) (e:Ext K α H α' H') (r:aZ K g α' H' h'):dk K g α' H' env σ h':=⟨r,v.vs.ext e⟩
theorem je.set {env:En} {σ:St} {i:Nat} {d:D} {x:V} (v:je K g α H env σ) (r:aP K g α H d x):je K g α H (env.set i (some d)) (σ.set i (some x)):=by
 refine⟨by simp[v.len],fun j e h=>?_⟩
 rw[List.getElem?_set] at h ⊢
 by_cases hj:i=j
 ·subst hj
  rw[if_pos rfl] at h ⊢
  have hl:=v.len
  split at h
  ·rw[if_pos (by omega)]
   cases h
   exact⟨x,rfl,r⟩
  ·cases h
 ·rw[if_neg hj] at h ⊢
  exact v.vars j e h
end
noncomputable def aX (K:PySem.W.Frag) (g:GG) (α:List Addr) (H:Hp) (Q:VK):D->Hh->Prop:=fun d h=>∀v H' α',Ext K α H α' H'->aZ K g α' H' h->aP K g α' H' d v->Q v H'
noncomputable def mU (K:PySem.W.Frag) (g:GG) (α:List Addr) (H:Hp) (Q:Bool->Hp->Prop):Bool->Hh->Prop:=fun b h=>∀H' α',Ext K α H α' H'->aZ K g α' H' h->Q b H'
noncomputable def Ig (K:PySem.W.Frag) (g:GG) (α:List Addr) (H:Hp) (Q:List V->Hp->Prop):List D->Hh->Prop:=fun ds h=>∀vs H' α',Ext K α H α' H'->aZ K g α' H' h->aA K g α' H' ds vs->Q vs H'
noncomputable def cq (K:PySem.W.Frag) (g:GG) (α:List Addr) (H:Hp) (E:Ends):Fl->Hh->Prop:=fun fl h=>∀H' α',Ext K α H α' H'->aZ K g α' H' h->match fl with
 | .nx e=>∀σ,je K g α' H' e σ->E.nx σ H'
 | .bk e=>∀σ,je K g α' H' e σ->E.bk σ H'
 | .ct e=>∀σ,je K g α' H' e σ->E.ct σ H'
 | .rt d=>∀v,aP K g α' H' d v->E.rt v H'
noncomputable def tM (K:PySem.W.Frag) (g:GG) (ε:EE) (m:ME):TE:=fun σ H Q=>∃α env h,dk K g α H env σ h/\WQ K g ε α H (m env h) (aX K g α H Q)
noncomputable def tMT (K:PySem.W.Frag) (g:GG) (ε:EE) (m:MT):TT:=fun σ H Q=>∃α env h,dk K g α H env σ h/\WQ K g ε α H (m env h) (mU K g α H Q)
noncomputable def tMA (K:PySem.W.Frag) (g:GG) (ε:EE) (m:MA):TA:=fun σ H Q=>∃α env h,dk K g α H env σ h/\WQ K g ε α H (m env h) (Ig K g α H Q)
noncomputable def tMS (K:PySem.W.Frag) (g:GG) (ε:EE) (m:MS):TS:=fun E σ H=>∃α env h,dk K g α H env σ h/\WQ K g ε α H (m env h) (cq K g α H E)
section
variable {K:PySem.W.Frag} {g:GG} {ε:EE} {α α':List Addr} {H H':Hp} {env:En} {σ:St} {h:Hh}
theorem aX.ext {Q:VK} {d:D} (e:Ext K α H α' H') (p:aX K g α H Q d h):aX K g α' H' Q d h:=fun v H2 α2 e2 r rd=>p v H2 α2 (e.trans e2) r rd
theorem mU.ext {Q:Bool->Hp->Prop} {d:Bool} (e:Ext K α H α' H') (p:mU K g α H Q d h):mU K g α' H' Q d h:=fun H2 α2 e2 r=>p H2 α2 (e.trans e2) r
theorem cq.ext {E:Ends} {d:Fl} (e:Ext K α H α' H') (p:cq K g α H E d h):cq K g α' H' E d h:=fun H2 α2 e2 r=>p H2 α2 (e.trans e2) r
theorem WQ.post {Q:VK} {r:R D} (e:Ext K α H α' H') (w:WQ K g ε α H r (aX K g α H Q)):WQ K g ε α' H' r (aX K g α' H' Q):=(w.ext e).mono fun _ _ _ p=>p.ext e
theorem WQ.Jj {Q:Bool->Hp->Prop} {r:R Bool} (e:Ext K α H α' H') (w:WQ K g ε α H r (mU K g α H Q)):WQ K g ε α' H' r (mU K g α' H' Q):=(w.ext e).mono fun _ _ _ p=>p.ext e
theorem WQ.ym {E:Ends} {r:R Fl} (e:Ext K α H α' H') (w:WQ K g ε α H r (cq K g α H E)):WQ K g ε α' H' r (cq K g α' H' E):=(w.ext e).mono fun _ _ _ p=>p.ext e
theorem tM.use {m:ME} {Q:VK} {k:D->Hh->Prop} (s:dk K g α H env σ h) (w:WQ K g ε α H (m env h) k)
  (q:∀d h' v H' α',Ext K α H α' H'->dk K g α' H' env σ h'->aP K g α' H' d v->k d h'->Q v H'):tM K g ε m σ H Q:=
 ⟨α,env,h,s,w.mono fun d h' _ kk v H' α' e r rd=>q d h' v H' α' e (s.ext e r) rd kk⟩
theorem tMT.use {m:MT} {Q:Bool->Hp->Prop} {k:Bool->Hh->Prop} (s:dk K g α H env σ h) (w:WQ K g ε α H (m env h) k)
  (q:∀d h' H' α',Ext K α H α' H'->dk K g α' H' env σ h'->k d h'->Q d H'):tMT K g ε m σ H Q:=
 ⟨α,env,h,s,w.mono fun d h' _ kk H' α' e r=>q d h' H' α' e (s.ext e r) kk⟩
theorem tMA.use {m:MA} {Q:List V->Hp->Prop} {k:List D->Hh->Prop} (s:dk K g α H env σ h) (w:WQ K g ε α H (m env h) k)
  (q:∀d h' v H' α',Ext K α H α' H'->dk K g α' H' env σ h'->aA K g α' H' d v->k d h'->Q v H'):tMA K g ε m σ H Q:=
 ⟨α,env,h,s,w.mono fun d h' _ kk v H' α' e r rd=>q d h' v H' α' e (s.ext e r) rd kk⟩
theorem aX.now {Q:VK} {d:D} {v:V} (p:aX K g α H Q d h) (r:aZ K g α H h) (rd:aP K g α H d v):Q v H:=p v H α Ext.refl r rd
end
theorem PE.imp {X:Cx} {e:Expr} {t t':TE} (h:PE X e t) (i:∀σ H Q,t' σ H Q->t σ H Q):PE X e t':=fun pins s σ H Q I w=>h pins s σ H Q I (i σ H Q w)
theorem PT.imp {X:Cx} {e:Expr} {t t':TT} (h:PT X e t) (i:∀σ H Q,t' σ H Q->t σ H Q):PT X e t':=fun pins s σ H Q I w=>h pins s σ H Q I (i σ H Q w)
theorem PW.imp {X:Cx} {e:Expr} {t t':TT} (h:PW X e t) (i:∀σ H Q,t' σ H Q->t σ H Q):PW X e t':=fun wh pins s σ H Q I w=>h wh pins s σ H Q I (i σ H Q w)
theorem PA.imp {X:Cx} {e:List Expr} {t t':TA} (h:PA X e t) (i:∀σ H Q,t' σ H Q->t σ H Q):PA X e t':=fun p pins s σ H Q I w=>h p pins s σ H Q I (i σ H Q w)
theorem PS.imp {X:Cx} {e:Stmt} {t t':TS} (h:PS X e t) (i:∀σ H Q,t' σ H Q->t σ H Q):PS X e t':=fun pins s σ H Q I w=>h pins s σ H Q I (i Q σ H w)
theorem PSs.imp {X:Cx} {e:List Stmt} {t t':TS} (h:PSs X e t) (i:∀σ H Q,t' σ H Q->t σ H Q):PSs X e t':=fun pins s σ H Q I w=>h pins s σ H Q I (i Q σ H w)
noncomputable def ag (i:Nat):ME:=fun env h=>match env[i]? with
 | some (some d)=>.ok d h
 | _=>.bad
noncomputable def cC (d:D):ME:=fun _ h=>.ok d h
noncomputable def ao (f:D->D->Hh->R D) (a b:ME):ME:=fun env h=>(a env h).bind fun x h1=>(b env h1).bind fun y h2=>f x y h2
noncomputable def cUn (f:D->Hh->R D) (a:ME):ME:=fun env h=>(a env h).bind fun x h1=>f x h1
noncomputable def ak:MA:=fun _ h=>.ok [] h
noncomputable def aa (a:ME) (r:MA):MA:=fun env h=>(a env h).bind fun x h1=>(r env h1).bind fun xs h2=>.ok (x::xs) h2
noncomputable def ai (f:List D->Hh->R D) (a:MA):ME:=fun env h=>(a env h).bind fun xs h1=>f xs h1
noncomputable def aT (f:D->Hh->R Bool) (a:ME):MT:=fun env h=>(a env h).bind fun x h1=>f x h1
noncomputable def mO (a:MT):MT:=fun env h=>(a env h).bind fun b h1=>.ok (!b) h1
noncomputable def Cw (a b:MT):MT:=fun env h=>(a env h).bind fun x h1=>if x=true then b env h1 else .ok false h1
noncomputable def nj (a b:MT):MT:=fun env h=>(a env h).bind fun x h1=>if x=true then .ok true h1 else b env h1
noncomputable def cIf (c:MT) (a b:ME):ME:=fun env h=>(c env h).bind fun x h1=>if x=true then a env h1 else b env h1
noncomputable def asB:D->Hh->R Bool
 | .bl b,h=>.ok b h
 | _,_=>.bad
noncomputable def xO (a b:ME):ME:=fun env h=>(a env h).bind fun x h1=>(asB x h1).bind fun k h2=>if k=true then b env h2 else .ok (.bl false) h2
noncomputable def BB (a:ME):ME:=fun env h=>(a env h).bind fun x h1=>(asB x h1).bind fun k h2=>.ok (.bl (!k)) h2
noncomputable def kF (f f':D->D->Hh->R D) (a b c:ME):ME:=fun env h=>(a env h).bind fun x h1=>(b env h1).bind fun y h2=>(f x y h2).bind fun z h3=>(asB z h3).bind fun k h4=>
 if k=true then (c env h4).bind fun w h5=>f' y w h5 else .ok (.bl false) h4
noncomputable def eh (K:PySem.W.Frag) (g:GG) (ε:EE) (f:D->D->Hh->R D) (r:R2):Prop:=
 ∀(α:List Addr) (H:Hp) (h:Hh) (a b:D) (x y:V) (Q:VK),aZ K g α H h->aP K g α H a x->aP K g α H b y->WQ K g ε α H (f a b h) (aX K g α H Q)->r x y H Q
noncomputable def IU (K:PySem.W.Frag) (g:GG) (ε:EE) (f:D->Hh->R D) (r:V->Hp->VK->Prop):Prop:=
 ∀(α:List Addr) (H:Hp) (h:Hh) (a:D) (x:V) (Q:VK),aZ K g α H h->aP K g α H a x->WQ K g ε α H (f a h) (aX K g α H Q)->r x H Q
noncomputable def Jr (K:PySem.W.Frag) (g:GG) (ε:EE) (f:D->Hh->R Bool) (r:V->Hp->(Bool->Hp->Prop)->Prop):Prop:=
 ∀(α:List Addr) (H:Hp) (h:Hh) (a:D) (x:V) (Q:Bool->Hp->Prop),aZ K g α H h->aP K g α H a x->WQ K g ε α H (f a h) (mU K g α H Q)->r x H Q
noncomputable def nu (K:PySem.W.Frag) (g:GG) (ε:EE) (f:List D->Hh->R D) (r:List V->Hp->VK->Prop):Prop:=
 ∀(α:List Addr) (H:Hp) (h:Hh) (a:List D) (x:List V) (Q:VK),aZ K g α H h->aA K g α H a x->WQ K g ε α H (f a h) (aX K g α H Q)->r x H Q
noncomputable def H0 (K:PySem.W.Frag) (g:GG) (ε:EE) (f:D->List D->Hh->R D) (r:V->List V->Hp->VK->Prop):Prop:=
 ∀(α:List Addr) (H:Hp) (h:Hh) (o:D) (a:List D) (y:V) (x:List V) (Q:VK),aZ K g α H h->aP K g α H o y->aA K g α H a x->WQ K g ε α H (f o a h) (aX K g α H Q)->r y x H Q
section
variable {X:Cx} {g:GG} {ε:EE} {a b c:Expr} {ma mb mc:ME} {pos:Pos}
theorem af (i:Nat) {x:Str} {pos:Pos} (hN:X.N[i]?=some x:=by rfl) (hv:Vis X.env.scope x:=by first | exact Or.inl rfl | exact Or.inr (Or.inl rfl) | exact Or.inr (Or.inr rfl)) (hd:(x == ("__debug__" : Str))=false:=by decide)
  (hcd:(x == ("__classdict__" : Str))=false:=by decide):PE X (.Name x pos) (tM X.K g ε (ag i)):=by
 refine PE.imp (Hs hN hv hd hcd) fun σ H Q ⟨α,env,h,s,w⟩=>?_
 unfold ag at w
 cases e:env[i]? with
 | none=>rw[e] at w;exact w.elim
 | some d=>
  cases d with
  | none=>rw[e] at w;exact w.elim
  | some d=>
   rw[e] at w
   obtain⟨v,hv,rd⟩:=s.vs.vars i d e
   exact⟨v,hv,aX.now w s.heap rd⟩
theorem A7 {v:V} {d:D} {Q:VK} {σ:St} {H:Hp} (rd:∀α,aP X.K g α H d v) (t:tM X.K g ε (cC d) σ H Q):tC v σ H Q:=by
 obtain⟨α,env,h,s,w⟩:=t
 exact aX.now w s.heap (rd α)
theorem aq {i j pos}:PE X (.Constant (.int i) j pos) (tM X.K g ε (cC (.int i))):=PE.imp F8 fun _ _ _ t=>A7 (fun _=>.int i) t
theorem mQ {i j pos}:PE X (.Constant (.bool i) j pos) (tM X.K g ε (cC (.bl i))):=PE.imp JJ fun _ _ _ t=>A7 (fun _=>.bl i) t
theorem cv {x:Str} {i:Int} {t:Tok} {pos:Pos} (hg:Gl X x) (hm:X.mg x=some (.int i t)) (hd:(x == ("__debug__" : Str))=false:=by decide):PE X (.Name x pos) (tM X.K g ε (cC (.int i))):=
 PE.imp (DX (v:=.int i) hg hm ⟨t,rfl⟩ hd) fun _ _ _ t=>A7 (fun _=>.int i) t
theorem t4 {f:D->D->Hh->R D} {r:R2} {K:PySem.W.Frag} (im:eh K g ε f r) {σ:St} {H:Hp} {Q:VK} (t:tM K g ε (ao f ma mb) σ H Q):tOp r (tM K g ε ma) (tM K g ε mb) σ H Q:=by
 obtain⟨α,env,h,s,w⟩:=t
 refine tM.use s w.bind fun d1 h1 v1 H1 α1 e1 s1 r1 w1=>?_
 refine tM.use s1 (w1.ext e1).bind fun d2 h2 v2 H2 α2 e2 s2 r2 w2=>?_
 exact im α2 H2 h2 d1 d2 v1 v2 Q s2.heap (r1.ext e2) r2 ((w2.ext e2).mono fun _ _ _ p=>p.ext (e1.trans e2))
theorem au {op:Operator} {r:R2} {f:D->D->Hh->R D} (ho:OpR X (binaryOp op) r) (im:eh X.K g ε f r) (ha:PE X a (tM X.K g ε ma)) (hb:PE X b (tM X.K g ε mb)):PE X (.BinOp a op b pos) (tM X.K g ε (ao f ma mb)):=
 PE.imp (JB ho ha hb) fun _ _ _ t=>t4 im t
theorem FZ {op:CmpOp} {r:R2} {f:D->D->Hh->R D} (ho:OpR X (compareOp op) r) (im:eh X.K g ε f r) (ha:PE X a (tM X.K g ε ma)) (hb:PE X b (tM X.K g ε mb)) (hm:behindInMarks op b=false):PE X (.Compare a [op] [b] pos) (tM X.K g ε (ao f ma mb)):=
 PE.imp (Eu ho ha hb hm) fun _ _ _ t=>t4 im t
theorem uV {K:PySem.W.Frag} {m:ME} {t:TE} (ht:∀σ H Q,tM K g ε m σ H Q->t σ H Q) {σ:St} {H:Hp} {Q:Bool->Hp->Prop} (w:tMT K g ε (aT asB m) σ H Q):C0 t σ H Q:=by
 obtain⟨α,env,h,s,w⟩:=w
 refine ht _ _ _ (tM.use s w.bind fun d1 h1 v1 H1 α1 e1 s1 r1 w1=>?_)
 unfold asB at w1
 cases r1 with
 | bl k=>exact⟨k,rfl,w1 H1 α1 e1 s1.heap⟩
 | _=>exact w1.elim
theorem cg {op:CmpOp} {r:R2} {f:D->D->Hh->R D} (ho:OpR X (compareOp op) r) (im:eh X.K g ε f r) (ha:PE X a (tM X.K g ε ma)) (hb:PE X b (tM X.K g ε mb)) (hm:behindInMarks op b=false):PT X (.Compare a [op] [b] pos) (tMT X.K g ε (aT asB (ao f ma mb))):=
 PT.imp (DW ho ha hb hm) fun _ _ _ t=>uV (fun _ _ _ u=>t4 im u) t
theorem qQ {f f':D->D->Hh->R D} {r r':R2} {K:PySem.W.Frag} (im:eh K g ε f r) (im':eh K g ε f' r') {σ:St} {H:Hp} {Q:VK} (t:tM K g ε (kF f f' ma mb mc) σ H Q):wY r r' (tM K g ε ma) (tM K g ε mb) (tM K g ε mc) σ H Q:=by
 obtain⟨α,env,h,s,w⟩:=t
 refine tM.use s w.bind fun d1 h1 v1 H1 α1 e1 s1 r1 w1=>?_
 refine tM.use s1 (w1.ext e1).bind fun d2 h2 v2 H2 α2 e2 s2 r2 w2=>?_
 refine im α2 H2 h2 d1 d2 v1 v2 _ s2.heap (r1.ext e2) r2 ((w2.ext e2).bind.mono fun z h3 _ w3 v3 H3 α3 e3 hr3 r3=>?_)
 have w4:=w3.bind
 unfold asB at w4
 cases r3 with
 | bl k=>
  refine⟨k,rfl,?_⟩
  have s3:=s2.ext e3 hr3
  cases k with
  | true=>
   have w5:WQ K g ε α2 H2 ((mc env h3).bind fun w h5=>f' d2 w h5) _:=w4
   rw[if_pos rfl]
   refine tM.use s3 (w5.ext e3).bind fun d4 h4 v4 H4 α4 e4 s4 r4 w6=>?_
   exact im' α4 H4 h4 d2 d4 v2 v4 Q s4.heap (r2.ext (e3.trans e4)) r4 ((w6.ext e4).mono fun _ _ _ p=>p.ext (e1.trans (e2.trans (e3.trans e4))))
  | false=>
   rw[if_neg Bool.false_ne_true]
   have w5:aX K g α H Q (.bl false) h3:=w4
   exact w5 _ H3 α3 (e1.trans (e2.trans e3)) s3.heap (.bl false)
 | _=>exact w4.elim
theorem C5 {op op':CmpOp} {r r':R2} {f f':D->D->Hh->R D} (ho:OpR X (compareOp op) r) (ho':OpR X (compareOp op') r') (im:eh X.K g ε f r) (im':eh X.K g ε f' r') (ha:PE X a (tM X.K g ε ma)) (hb:PE X b (tM X.K g ε mb)) (hc:PE X c (tM X.K g ε mc))
  (hm:lastMarks [op,op'] [b,c]=false:=by with_unfolding_all rfl):PE X (.Compare a [op,op'] [b,c] pos) (tM X.K g ε (kF f f' ma mb mc)):=PE.imp (AB ho ho' ha hb hc hm) fun _ _ _ t=>qQ im im' t
theorem vE {op op':CmpOp} {r r':R2} {f f':D->D->Hh->R D} (ho:OpR X (compareOp op) r) (ho':OpR X (compareOp op') r') (im:eh X.K g ε f r) (im':eh X.K g ε f' r') (ha:PE X a (tM X.K g ε ma)) (hb:PE X b (tM X.K g ε mb)) (hc:PE X c (tM X.K g ε mc))
  (hm:lastMarks [op,op'] [b,c]=false:=by with_unfolding_all rfl):PT X (.Compare a [op,op'] [b,c] pos) (tMT X.K g ε (aT asB (kF f f' ma mb mc))):=PT.imp (By ho ho' ha hb hc hm) fun _ _ _ t=>uV (fun _ _ _ u=>qQ im im' u) t
theorem xw {op:UnaryOp} {r:V->Hp->VK->Prop} {f:D->Hh->R D} (ho:UnR X (unaryOp op) r) (im:IU X.K g ε f r) (ha:PE X a (tM X.K g ε ma)):PE X (.UnaryOp op a pos) (tM X.K g ε (cUn f ma)):=
 PE.imp (Jv ho ha) fun σ H Q ⟨α,env,h,s,w⟩=>tM.use s w.bind fun d1 h1 v1 H1 α1 e1 s1 r1 w1=>im α1 H1 h1 d1 v1 Q s1.heap r1 (w1.post e1)
theorem cJ {r:R2} {f:D->D->Hh->R D} (hr:IxR X r) (im:eh X.K g ε f r) (ha:PE X a (tM X.K g ε ma)) (hb:PE X b (tM X.K g ε mb)) (hs:yw b):PE X (.Subscript a b pos) (tM X.K g ε (ao f ma mb)):=
 PE.imp (IE hr ha hb hs) fun _ _ _ t=>t4 im t
theorem i_ {f:D->Hh->R Bool} (im:Jr X.K g ε f (fun x H Q=>∃k,Ek X.K x H k/\Q k H)) (ha:PE X a (tM X.K g ε ma)) (he:∀whole,isTrue a X.env whole=(do let v ← whole;standAt a.pos;holding [v] (truthy v))):PT X a (tMT X.K g ε (aT f ma)):=
 PT.imp (Bf ha he) fun σ H Q ⟨α,env,h,s,w⟩=>tM.use s w.bind fun d1 h1 v1 H1 α1 e1 s1 r1 w1=>im α1 H1 h1 d1 v1 Q s1.heap r1 (w1.Jj e1)
theorem oJ {mt:MT} (ha:PT X a (tMT X.K g ε mt)):PT X (.UnaryOp .Not a pos) (tMT X.K g ε (mO mt)):=
 PT.imp (HJ ha) fun σ H Q ⟨α,env,h,s,w⟩=>tMT.use s w.bind fun d1 h1 H1 α1 e1 s1 w1=>w1 H1 α1 e1 s1.heap
end
section
variable {X:Cx} {g:GG} {ε:EE} {a b c e:Expr} {es:List Expr} {rest:List Expr} {ma mb mc me:ME} {mt mu:MT} {pos:Pos}
theorem DK (ha:PT X a (tMT X.K g ε mt)):PW X (.BoolOp .And [a] pos) (tMT X.K g ε mt):=pw_and1 ha
theorem sF (ha:PT X a (tMT X.K g ε mt)):PW X (.BoolOp .Or [a] pos) (tMT X.K g ε mt):=pw_or1 ha
theorem GZ (ha:PT X a (tMT X.K g ε mt)) (hb:PW X (.BoolOp .And (b::rest) pos) (tMT X.K g ε mu)):PW X (.BoolOp .And (a::b::rest) pos) (tMT X.K g ε (Cw mt mu)):=
 PW.imp (pw_and ha hb) fun σ H Q ⟨α,env,h,s,w⟩=>tMT.use s w.bind fun d1 h1 H1 α1 e1 s1 w1=>by
  cases d1 with
  | true=>rw[if_pos rfl] at w1 ⊢;exact tMT.use s1 (w1.ext e1) fun d2 h2 H2 α2 e2 s2 w2=>w2 H2 α2 (e1.trans e2) s2.heap
  | false=>rw[if_neg Bool.false_ne_true] at w1 ⊢;exact w1 H1 α1 e1 s1.heap
theorem vH (ha:PT X a (tMT X.K g ε mt)) (hb:PW X (.BoolOp .Or (b::rest) pos) (tMT X.K g ε mu)):PW X (.BoolOp .Or (a::b::rest) pos) (tMT X.K g ε (nj mt mu)):=
 PW.imp (pw_or ha hb) fun σ H Q ⟨α,env,h,s,w⟩=>tMT.use s w.bind fun d1 h1 H1 α1 e1 s1 w1=>by
  cases d1 with
  | true=>rw[if_pos rfl] at w1 ⊢;exact w1 H1 α1 e1 s1.heap
  | false=>rw[if_neg Bool.false_ne_true] at w1 ⊢;exact tMT.use s1 (w1.ext e1) fun d2 h2 H2 α2 e2 s2 w2=>w2 H2 α2 (e1.trans e2) s2.heap
theorem CY (hc:PT X c (tMT X.K g ε mt)) (ha:PE X a (tM X.K g ε ma)) (hb:PE X b (tM X.K g ε mb)):PE X (.IfExp c a b pos) (tM X.K g ε (cIf mt ma mb)):=
 PE.imp (Cr hc ha hb) fun σ H Q ⟨α,env,h,s,w⟩=>tMT.use s w.bind fun d1 h1 H1 α1 e1 s1 w1=>by
  cases d1 with
  | true=>rw[if_pos rfl] at w1 ⊢;exact tM.use s1 (w1.ext e1) fun d2 h2 v2 H2 α2 e2 s2 r2 w2=>w2 v2 H2 α2 (e1.trans e2) s2.heap r2
  | false=>rw[if_neg Bool.false_ne_true] at w1 ⊢;exact tM.use s1 (w1.ext e1) fun d2 h2 v2 H2 α2 e2 s2 r2 w2=>w2 v2 H2 α2 (e1.trans e2) s2.heap r2
theorem CJ {op} (h:PE X a (tM X.K g ε ma)):PE X (.BoolOp op [a] pos) (tM X.K g ε ma):=GJ h
theorem BO {K:PySem.W.Frag} {α:List Addr} {H H1:Hp} {α1:List Addr} {d:D} {v:V} {h:Hh} {β:Type} {f:Bool->Hh->R β} {k:β->Hh->Prop} (r:aP K g α1 H1 d v) (w:WQ K g ε α H ((asB d h).bind f) k):∃b,v=.bl b/\d=.bl b/\WQ K g ε α H (f b h) k:=by
 cases r with
 | bl b=>exact⟨b,rfl,rfl,w⟩
 | _=>exact w.elim
theorem C2 (ha:PE X a (tM X.K g ε ma)) (hb:PE X (.BoolOp .And (b::rest) pos) (tM X.K g ε mb)):PE X (.BoolOp .And (a::b::rest) pos) (tM X.K g ε (xO ma mb)):=
 PE.imp (Hu ha hb) fun σ H Q ⟨α,env,h,s,w⟩=>tM.use s w.bind fun d1 h1 v1 H1 α1 e1 s1 r1 w1=>by
  obtain⟨k,rfl,rfl,w2⟩:=BO r1 w1
  refine⟨k,rfl,?_⟩
  cases k with
  | true=>rw[if_pos rfl] at w2 ⊢;exact tM.use s1 (w2.ext e1) fun d2 h2 v2 H2 α2 e2 s2 r2 w2=>w2 v2 H2 α2 (e1.trans e2) s2.heap r2
  | false=>rw[if_neg Bool.false_ne_true] at w2 ⊢;exact w2 _ H1 α1 e1 s1.heap (.bl false)
theorem Hc (ha:PE X a (tM X.K g ε ma)):PE X (.UnaryOp .Not a pos) (tM X.K g ε (BB ma)):=
 PE.imp (FN ha) fun σ H Q ⟨α,env,h,s,w⟩=>tM.use s w.bind fun d1 h1 v1 H1 α1 e1 s1 r1 w1=>by
  obtain⟨k,rfl,rfl,w2⟩:=BO r1 w1
  exact⟨k,rfl,w2 _ H1 α1 e1 s1.heap (.bl _)⟩
variable {mr:MA}
theorem aj:PA X [] (tMA X.K g ε ak):=PA.imp t6 fun σ H Q ⟨α,env,h,s,w⟩=>w [] H α Ext.refl s.heap .nil
theorem ae (ha:PE X e (tM X.K g ε ma)) (hr:PA X es (tMA X.K g ε mr)) (hs:starEach (e::es) X.env=(false,eval e X.env)::starEach es X.env:=by rfl):PA X (e::es) (tMA X.K g ε (aa ma mr)):=
 PA.imp (lJ ha hr hs) fun σ H Q ⟨α,env,h,s,w⟩=>tM.use s w.bind fun d1 h1 v1 H1 α1 e1 s1 r1 w1=>tMA.use s1 (w1.ext e1).bind fun d2 h2 v2 H2 α2 e2 s2 r2 w2=>w2 _ H2 α2 (e1.trans e2) s2.heap (.cons (r1.ext e2) r2)
noncomputable def bU:List D->Hh->R D:=fun ds h=>if ds.length<=1000000 then .ok (.tup ds) h else .bad
theorem aX.tup {K:PySem.W.Frag} {α:List Addr} {H:Hp} {h:Hh} {ds:List D} {vs:List V} {Q:VK} {p:Addr} (w:aX K g α H Q (.tup ds) h) (r:aZ K g α H h) (rd:aA K g α H ds vs) (n:H p=none):Q (.ref p) (upd H p (.tup vs)):=
 w _ _ α (Ext.fresh n) (r.grow n) (.tup a9 (rd.ext (Ext.fresh n)))
theorem WQ.f6 {K:PySem.W.Frag} {α:List Addr} {H:Hp} {β:Type} {c:Prop} [Decidable c] {r:R β} {k:β->Hh->Prop} (w:WQ K g ε α H (if c then r else .bad) k):c/\WQ K g ε α H r k:=by
 by_cases h:c
 ·rw[if_pos h] at w;exact⟨h,w⟩
 ·rw[if_neg h] at w;exact w.elim
theorem ip {n:Nat} (h:n<=1000000):n<=sizeLine:=by rw[sizeLine_eq];omega
theorem dg {x1} (ha:PA X es (tMA X.K g ε mr)):PE X (.Tuple es x1 pos) (tM X.K g ε (ai bU mr)):=
 PE.imp (HK ha) fun σ H Q ⟨α,env,h,s,w⟩=>tMA.use s w.bind fun d1 h1 v1 H1 α1 e1 s1 r1 w1=>by
  obtain⟨hl,w2⟩:=WQ.f6 w1
  exact⟨ip (by rw[<- r1.length];exact hl),fun p hp=>aX.tup (aX.ext e1 w2) s1.heap r1 hp⟩
theorem wK {f:List D->Hh->R D} {r:List V->Hp->VK->Prop} {K:PySem.W.Frag} (im:nu K g ε f r) {σ:St} {H:Hp} {Q:VK} (t:tM K g ε (ai f mr) σ H Q):tCB r (tMA K g ε mr) σ H Q:=by
 obtain⟨α,env,h,s,w⟩:=t
 exact tMA.use s w.bind fun d1 h1 v1 H1 α1 e1 s1 r1 w1=>im α1 H1 h1 d1 v1 Q s1.heap r1 (w1.post e1)
theorem bu {id:String} {x:Str} {p:Pos} {f:List D->Hh->R D} {r:List V->Hp->VK->Prop} (hc:bY X (.builtin id) r) (im:nu X.K g ε f r) (hg:Gl X x) (hm:X.mg x=none) (hv:bootBuiltins x=some (.builtin id)) (ha:PA X (e::es) (tMA X.K g ε mr)) (hn:x≠"__name__" := by decide) (hdb:(x == ("__debug__" : Str))=false:=by decide)
  (he:starEach (e::es) X.env=(false,eval e X.env)::starEach es X.env:=by rfl) (hpl:(backTo pos (starEach es X.env)).any (·.1)=false:=by rfl):PE X (.Call (.Name x p) (e::es) [] pos) (tM X.K g ε (ai f mr)):=
 PE.imp (o6 hc hg hm hv ha hn hdb he hpl) fun _ _ _ t=>wK im t
theorem jG {id:String} {x:Str} {p:Pos} {f:List D->Hh->R D} {r:List V->Hp->VK->Prop} (hc:bY X (.type id) r) (im:nu X.K g ε f r) (hg:Gl X x) (hm:X.mg x=none) (hv:bootBuiltins x=some (.type id)) (ha:PA X (e::es) (tMA X.K g ε mr)) (hn:x≠"__name__" := by decide) (hdb:(x == ("__debug__" : Str))=false:=by decide)
  (he:starEach (e::es) X.env=(false,eval e X.env)::starEach es X.env:=by rfl) (hpl:(backTo pos (starEach es X.env)).any (·.1)=false:=by rfl):PE X (.Call (.Name x p) (e::es) [] pos) (tM X.K g ε (ai f mr)):=
 PE.imp (rA hc hg hm hv ha hn hdb he hpl) fun _ _ _ t=>wK im t
end
noncomputable def bC:MS:=fun env h=>.ok (.nx env) h
noncomputable def aI (a b:MS):MS:=fun env h=>(a env h).bind fun fl h1=>match fl with
 | .nx e=>b e h1
 | fl=>.ok fl h1
noncomputable def cw (a:ME):MS:=fun env h=>(a env h).bind fun _ h1=>.ok (.nx env) h1
noncomputable def bB (a:ME):MS:=fun env h=>(a env h).bind fun d h1=>.ok (.rt d) h1
noncomputable def cO (c:MT) (a b:MS):MS:=fun env h=>(c env h).bind fun x h1=>if x=true then a env h1 else b env h1
noncomputable def bh (i:Nat) (a:ME):MS:=fun env h=>(a env h).bind fun d h1=>.ok (.nx (env.set i (some d))) h1
noncomputable def jL (i j:Nat) (a:MA):MS:=fun env h=>(a env h).bind fun ds h1=>match ds with
 | [x,y]=>.ok (.nx ((env.set i (some x)).set j (some y))) h1
 | _=>.bad
noncomputable def uY (i:Nat) (f:D->D->Hh->R D) (a:ME):MS:=fun env h=>(ag i env h).bind fun x h0=>(a env h0).bind fun y h1=>(f x y h1).bind fun z h2=>.ok (.nx (env.set i (some z))) h2
noncomputable def sH (f:D->D->D->Hh->R Unit) (o i v:ME):MS:=fun env h=>(v env h).bind fun x h1=>(o env h1).bind fun y h2=>(i env h2).bind fun z h3=>(f y z x h3).bind fun _ h4=>.ok (.nx env) h4
noncomputable def wt:MS:=fun _ _=>.bad
section
variable {X:Cx} {g:GG} {ε:EE} {e:Expr} {me:ME} {ms mu:MS} {mt:MT} {st:Stmt} {rest:List Stmt} {pos:Pos}
theorem dk.nx {K:PySem.W.Frag} {α α':List Addr} {H H':Hp} {env:En} {σ:St} {h':Hh} {E:Ends} (s:dk K g α' H' env σ h') (e:Ext K α H α' H') (w:cq K g α H E (.nx env) h'):E.nx σ H':=w H' α' e s.heap σ s.vs
theorem cn:PSs X [] (tMS X.K g ε bC):=PSs.imp Dw fun E σ H ⟨α,env,h,s,w⟩=>s.nx Ext.refl w
theorem tMS.use {K:PySem.W.Frag} {α:List Addr} {H:Hp} {env:En} {σ:St} {h:Hh} {m:MS} {E:Ends} {k:Fl->Hh->Prop} (s:dk K g α H env σ h) (w:WQ K g ε α H (m env h) k)
  (q:∀fl h' H' α',Ext K α H α' H'->aZ K g α' H' h'->k fl h'->match fl with
   | .nx e=>∀σ',dk K g α' H' e σ' h'->E.nx σ' H'
   | .bk e=>∀σ',dk K g α' H' e σ' h'->E.bk σ' H'
   | .ct e=>∀σ',dk K g α' H' e σ' h'->E.ct σ' H'
   | .rt d=>∀v,aP K g α' H' d v->E.rt v H'):tMS K g ε m E σ H:=
 ⟨α,env,h,s,w.mono fun fl h' _ kk H' α' e r=>by
  have:=q fl h' H' α' e r kk
  cases fl with
  | nx e=>exact fun σ' v=>this σ' ⟨r,v⟩
  | bk e=>exact fun σ' v=>this σ' ⟨r,v⟩
  | ct e=>exact fun σ' v=>this σ' ⟨r,v⟩
  | rt d=>exact this⟩
theorem ar (h1:PS X st (tMS X.K g ε ms)) (h2:PSs X rest (tMS X.K g ε mu)):PSs X (st::rest) (tMS X.K g ε (aI ms mu)):=
 PSs.imp (BH h1 h2) fun E σ H ⟨α,env,h,s,w⟩=>tMS.use s w.bind fun fl h' H' α' e r kk=>by
  cases fl with
  | nx env'=>exact fun σ' s'=>⟨α',env',h',s',WQ.ym e kk⟩
  | bk env'=>exact fun σ' s'=>(show cq X.K g α H E (.bk env') h' from kk) H' α' e r σ' s'.vs
  | ct env'=>exact fun σ' s'=>(show cq X.K g α H E (.ct env') h' from kk) H' α' e r σ' s'.vs
  | rt d=>exact fun v rv=>(show cq X.K g α H E (.rt d) h' from kk) H' α' e r v rv
theorem aH (h1:PS X st (tMS X.K g ε ms)):PSs X [st] (tMS X.K g ε ms):=Du h1
theorem bW (he:PE X e (tM X.K g ε me)) (hs:swapsWith e none pos.line X.env=pure false:=by rfl):PS X (.Expr e pos) (tMS X.K g ε (cw me)):=
 PS.imp (Dv he hs) fun E σ H ⟨α,env,h,s,w⟩=>tM.use s w.bind fun d1 h1 v1 H1 α1 e1 s1 r1 w1=>s1.nx e1 w1
theorem br (he:PE X e (tM X.K g ε me)):PS X (.Return (some e) pos) (tMS X.K g ε (bB me)):=
 PS.imp (G0 he) fun E σ H ⟨α,env,h,s,w⟩=>tM.use s w.bind fun d1 h1 v1 H1 α1 e1 s1 r1 w1=>(show cq X.K g α H E (.rt d1) h1 from w1) H1 α1 e1 s1.heap v1 r1
theorem jK {c:Expr} {A B:List Stmt} (hc:PT X c (tMT X.K g ε mt)) (ha:PSs X A (tMS X.K g ε ms)) (hb:PSs X B (tMS X.K g ε mu)):PS X (.If c A B pos) (tMS X.K g ε (cO mt ms mu)):=
 PS.imp (Jy hc ha hb) fun E σ H ⟨α,env,h,s,w⟩=>tMT.use s w.bind fun d1 h1 H1 α1 e1 s1 w1=>by
  cases d1 with
  | true=>rw[if_pos rfl] at w1 ⊢;exact⟨α1,env,h1,s1,WQ.ym e1 w1⟩
  | false=>rw[if_neg Bool.false_ne_true] at w1 ⊢;exact⟨α1,env,h1,s1,WQ.ym e1 w1⟩
theorem bE {i:Nat} {x:Str} {pos':Pos} (hN:X.N.Nodup) (hi:X.N[i]?=some x) (hx:Loc X.env.scope x) (he:PE X e (tM X.K g ε me)) (hs:swapsWith e (some (.Name x pos')) pos.line X.env=pure false:=by rfl) (hf:X.fn x=true\/X.env.scope.names.lookup x=some .local:=by first | exact .inl rfl | exact .inr rfl | assumption) :
  PS X (.Assign [.Name x pos'] e pos) (tMS X.K g ε (bh i me)):=
 PS.imp (Hm hN hi hx he hs hf) fun E σ H ⟨α,env,h,s,w⟩=>tM.use s w.bind fun d1 h1 v1 H1 α1 e1 s1 r1 w1=>(show cq X.K g α H E (.nx (env.set i (some d1))) h1 from w1) H1 α1 e1 s1.heap _ (s1.vs.set r1)
theorem Jf {i j:Nat} {x y:Str} {a b:Expr} {ma:MA} {px py pt:Pos} {kt k2 pt2} (hc:X.calm=true) (hN:X.N.Nodup) (hi:X.N[i]?=some x) (hj:X.N[j]?=some y) (hij:i≠j)
  (hx:X.env.scope.names.lookup x=some .local) (hy:X.env.scope.names.lookup y=some .local) (ha:PA X [a,b] (tMA X.K g ε ma))
  (hw:swappedStores [.Tuple [.Name x px,.Name y py] kt pt] (.Tuple [a,b] k2 pt2) X.env=pure (some [x,y]))
  (hs:swapsWithSole [.Tuple [.Name x px,.Name y py] kt pt] (.Tuple [a,b] k2 pt2) pos.line X.env=pure false:=by rfl) :
  PS X (.Assign [.Tuple [.Name x px,.Name y py] kt pt] (.Tuple [a,b] k2 pt2) pos) (tMS X.K g ε (jL i j ma)):=
 PS.imp (GI hc hN hi hj hij hx hy ha hw hs) fun E σ H ⟨α,env,h,s,w⟩=>tMA.use s w.bind fun d1 h1 v1 H1 α1 e1 s1 r1 w1=>by
  cases r1 with
  | nil=>exact w1.elim
  | cons ra rr=>
   cases rr with
   | nil=>exact w1.elim
   | cons rb rr=>
    cases rr with
    | nil=>exact⟨_,_,rfl,(show cq X.K g α H E (.nx _) h1 from w1) H1 α1 e1 s1.heap _ ((s1.vs.set ra).set rb)⟩
    | cons _ _=>exact w1.elim
theorem C8 {i:Nat} {x:Str} {op:Operator} {ti:TIp} {f:D->D->Hh->R D} {pos':Pos} (hN:X.N.Nodup) (hi:X.N[i]?=some x) (hx:Loc X.env.scope x) (he:PE X e (tM X.K g ε me)) (ho:PIp X op ti) (im:eh X.K g ε f ti) (hf:X.fn x=true\/X.env.scope.names.lookup x=some .local:=by first | exact .inl rfl | exact .inr rfl | assumption) :
  PS X (.AugAssign (.Name x pos') op e pos) (tMS X.K g ε (uY i f me)):=
 PS.imp (FY hN hi hx he ho hf) fun E σ H ⟨α,env,h,s,w⟩=>by
  have w0:=w.bind
  unfold ag at w0
  cases ei:env[i]? with
  | none=>rw[ei] at w0;exact w0.elim
  | some d=>
   cases d with
   | none=>rw[ei] at w0;exact w0.elim
   | some d=>
    rw[ei] at w0
    have w1:WQ X.K g ε α H ((me env h).bind _) _:=w0
    obtain⟨v,hv,rd⟩:=s.vs.vars i d ei
    refine⟨v,hv,tM.use s w1.bind fun d1 h1 v1 H1 α1 e1 s1 r1 w2=>?_⟩
    refine im α1 H1 h1 d d1 v v1 _ s1.heap (rd.ext e1) r1 ((w2.ext e1).bind.mono fun z h2 _ w3 v3 H3 α3 e3 hr3 r3=>?_)
    exact(show cq X.K g α H E (.nx _) h2 from w3) H3 α3 (e1.trans e3) hr3 _ ((s1.vs.ext e3).set r3)
noncomputable def Ju (K:PySem.W.Frag) (g:GG) (ε:EE) (f:D->D->D->Hh->R Unit) (t:xi):Prop:=
 ∀(α:List Addr) (H:Hp) (h:Hh) (o i v:D) (x y z:V) (Q:Hp->Prop),aZ K g α H h->aP K g α H o x->aP K g α H i y->aP K g α H v z->WQ K g ε α H (f o i v h) (fun _ h'=>∀H' α',Ext K α H α' H'->aZ K g α' H' h'->Q H')->t x y z H Q
theorem xx {o i:Expr} {mo mi:ME} {t:xi} {f:D->D->D->Hh->R Unit} {p:Pos} (he:PE X e (tM X.K g ε me)) (ho:PE X o (tM X.K g ε mo)) (hi:PE X i (tM X.K g ε mi)) (hp:E3 X t) (im:Ju X.K g ε f t)
  (ha:∀v,assign (.Subscript o i p) X.env v=(do
   let ov ← holding [v] (eval o X.env)
   let iv ← holding [v,ov] (eval i X.env)
   standAt p
   holding [v,ov,iv] (setItem ov iv v)
   release [v,ov,iv] []):=by intro _;rfl)
  (hs:swapsWithSole [.Subscript o i p] e pos.line X.env=pure false:=by rfl) (hw:swappedStores [.Subscript o i p] e X.env=pure none:=by rfl)
  (h1:(assignEach [.Subscript o i p] X.env).map (·.2)=[assign (.Subscript o i p) X.env]:=by rfl):PS X (.Assign [.Subscript o i p] e pos) (tMS X.K g ε (sH f mo mi me)):=
 PS.imp (CT he (GO ho hi hp ha) hs hw h1) fun E σ H ⟨α,env,h,s,w⟩=>tM.use s w.bind fun d1 h1 v1 H1 α1 e1 s1 r1 w1=>tM.use s1 (w1.ext e1).bind fun d2 h2 v2 H2 α2 e2 s2 r2 w2=>tM.use s2 (w2.ext e2).bind fun d3 h3 v3 H3 α3 e3 s3 r3 w3=>by
  refine im α3 H3 h3 d2 d3 d1 v2 v3 v1 _ s3.heap (r2.ext e3) r3 ((r1.ext e2).ext e3) ((w3.ext e3).bind.mono fun _ h4 _ w4 H4 α4 e4 hr4=>?_)
  exact(show cq X.K g α H E (.nx env) h4 from w4) H4 α4 (e1.trans (e2.trans (e3.trans e4))) hr4 _ (s3.vs.ext e4)
end
theorem yN {X:Cx} {pins:List (Addr × Obj)} {σ:St} {H:Hp} {s:Shared} {p:Addr} {u:HO} (I:Inv X pins σ H s) (h:H p=some u) (mu:Mut (some u)):∃o,Inv X pins σ (upd H p (.frz o u)) s:=by
 obtain⟨o,ho⟩:∃o,s.heap.get? p=some o:=by
  have hl:=(I.hok p _ h).lt
  cases e:s.heap.get? p with
  | some o=>exact⟨o,rfl⟩
  | none=> 
   have q:=I.hok p _ h
   cases u with
   | lst xs=>obtain⟨_,_,_,_,e'⟩:=q;rw[e] at e';cases e'
   | dK kvs=>obtain⟨_,_,_,_,o,_,_,e',_⟩:=q;rw[e] at e';cases e'
   | dT kvs=>obtain⟨_,_,_,_,o,_,_,e',_⟩:=q;rw[e] at e';cases e'
   | set S n=>obtain⟨o,_,_,_,e',_⟩:=q;rw[e] at e';cases e'
   | ins C dx fs=>obtain⟨_,_,_,e',_⟩:=q;rw[e] at e';cases e'
   | ext φ=>obtain⟨_,⟨_,e'⟩,_⟩:=q;rw[e] at e';cases e'
   | _=>exact absurd mu (fun z=>z)
 have nt:∀b xs,H b=some (.tup xs)->b≠p:=fun b xs e z=>by subst z;rw[h] at e;cases e;exact mu
 have nf:∀b o u,H b=some (.frz o u)->b≠p:=fun b o u e z=>by subst z;rw[h] at e;cases e;exact mu
 have nb:∀b ps,H b=some (.tbl ps)->b≠p:=fun b ps e z=>by subst z;rw[h] at e;cases e;exact mu
 have no:∀b y,H b=some (.own y)->b≠p:=fun b ps e z=>by subst z;rw[h] at e;cases e;exact mu
 have hok:HOk X.prog X.w (upd H p (.frz o u)) s.heap:=fun b v q=>by
  by_cases hb:b=p
  ·subst hb
   rw[a9] at q;cases q
   exact⟨ho,(I.hok b _ h).pN (fun _ _ _ z=>z) (fun c z=>by rw[aS (no c _ z)];exact z) fun c xs z=>by rw[aS (nt c xs z)];exact z⟩
  ·rw[aS hb] at q
   exact(I.hok b v q).pN (fun _ _ _ z=>z) (fun c z=>by rw[aS (no c _ z)];exact z) fun c xs z=>by rw[aS (nt c xs z)];exact z
 refine⟨o,?_⟩
 have np:∀b,H b=none->b≠p:=fun b e z=>by subst z;rw[h] at e;cases e
 have:=I.un (H':=upd H p (.frz o u)) (h':=s.heap) (t':=s.toks) ⟨fun b o q _ _ _=>q,fun b o q _ _ _=>⟨o.slots,q⟩,fun b v q n _=>(by rw[aS (np b n)];exact n),fun b o q _=>⟨o,q⟩,fun b xs q=>(by rw[aS (nt b xs q)];exact q),fun b o v q=>(by rw[aS (nf b o v q)];exact q),fun b ps q=>⟨#[],by rw[aS (nb b ps q),q];simp⟩⟩ hok
 exact this
noncomputable def jc (Q:VK):VK:=fun v H=>Q v H\/∃p u,v=.ref p/\H p=some u/\Mut (some u)/\∀o,Q v (upd H p (.frz o u))
theorem EP.frz {X:Cx} {pins:List (Addr × Obj)} {σ:St} {Q:VK} {u:Value} {s':Shared} (h:EP X pins σ (jc Q) u s'):EP X pins σ Q u s':=by
 obtain⟨v,H',I,r,q | ⟨p,u,rfl,e,m,q⟩⟩:=h
 ·exact⟨v,H',I,r,q⟩
 ·obtain⟨o,I'⟩:=yN I e m
  exact⟨_,_,I',r,q o⟩
theorem PE.frz {X:Cx} {e:Expr} {t:TE} (h:PE X e t):PE X e fun σ H Q=>t σ H (jc Q):=fun pins s σ H Q I w=>thn (h pins s σ H _ I w) fun _ _ z=>EP.frz z
theorem OpR.frz {X:Cx} {f:Value->Value->Sem Value} {r:R2} (h:OpR X f r):OpR X f fun x y H Q=>r x y H (jc Q):=fun pins s σ H x y v u Q I rx ry q=>thn (h pins s σ H x y v u _ I rx ry q) fun _ _ z=>EP.frz z
theorem bY.frz {X:Cx} {f:Value} {r:List V->Hp->VK->Prop} (h:bY X f r):bY X f fun xs H Q=>r xs H (jc Q):=fun pins s σ H xs us Q I rx q=>thn (h pins s σ H xs us _ I rx q) fun _ _ z=>EP.frz z
noncomputable def IF (D:Ends):Ends:={ D with nx:=fun σ H=>D.nx σ H\/∃p u,H p=some u/\Mut (some u)/\∀o,D.nx σ (upd H p (.frz o u)) }
theorem PS.frz {X:Cx} {st:Stmt} {t:TS} (h:PS X st t):PS X st fun E σ H=>t (IF E) σ H:=fun pins s σ H E I w=>thn (h pins s σ H _ I w) fun fl s' z=>by
 cases fl with
 | next=>
  obtain⟨σ',H',I,q | ⟨p,u,e,m,q⟩⟩:=z
  ·exact⟨σ',H',I,q⟩
  ·obtain⟨o,I'⟩:=yN I e m
   exact⟨σ',_,I',q o⟩
 | brk=>exact z
 | cont=>exact z
 | ret u=>exact z
theorem E4 {E:Ends} {σ:St} {i:Nat} {v:V} {H1:Hp} (z:jc (fun v H1=>E.nx (σ.set i (some v)) H1) v H1):(IF E).nx (σ.set i (some v)) H1:=by
 rcases z with z | ⟨p,u,_,e,m,q⟩
 ·exact .inl z
 ·exact .inr ⟨p,u,e,m,q⟩
noncomputable abbrev NL:=List D->Hh->R D
noncomputable def zt:NL:=fun ys h2=>.ok (.ref h2.length) (h2++[O.lst ys])
noncomputable def aF:NL:=fun ys h2=>.ok (.frl ys) h2
class jJ (nl:NL):Prop where
 at':∀{K:PySem.W.Frag} {g:GG} {ε:EE} {α1 α2:List Addr} {H1 H2:Hp} {h:Hh} {as:List D} {ys:List V} {acc:Addr} {Q:D->Hh->Prop} {R:VK},WQ K g ε α1 H1 (nl as h) Q->(∀d h',Q d h'->aX K g α1 H1 R d h')->Ext K α1 H1 α2 H2->aZ K g α2 H2 h->aA K g α2 H2 as ys->H2 acc=some (.lst ys)->acc∉α2->H1 acc=none->jc R (.ref acc) H2
instance:jJ zt where
 at':=fun{K g ε α1 α2 H1 H2 h as ys acc Q R} w hq x2 hr2 ra ha hna hacc=>by
  have x3:Ext K α1 H1 (α2++[acc]) H2:=⟨x2.toEx0.trans (Ex0.refl.more _),x2.keep,fun p z n=>by
   rcases List.mem_append.mp z with z | z
   ·exact x2.new p z n
   ·rw[List.mem_singleton.mp z];exact hacc⟩
  refine .inl (hq _ _ w _ H2 (α2++[acc]) x3 (hr2.adopt hna ⟨ys,ha,ra.ex0 (Ex0.refl.more _)⟩) (.ref ?_))
  rw[<- hr2.len,List.getElem?_append_right (Nat.le_refl _)];simp
instance:jJ aF where
 at':=fun{K g ε α1 α2 H1 H2 h as ys acc Q R} w hq x2 hr2 ra ha hna hacc=>by
  refine .inr ⟨acc,_,rfl,ha,trivial,fun o=>?_⟩
  have soft:A3 H2 acc:=.inr ⟨_,ha,fun _ z=>(nomatch z),fun _ _ z=>nomatch z⟩
  have x6:Ex0 K α2 H2 α2 (upd H2 acc (.frz o (.lst ys))):=Ex0.upd soft
  refine hq _ _ w _ _ α2 ⟨x2.toEx0.trans x6,fun p u z n=>?_,x2.new⟩ (hr2.off soft hna) (.frl ⟨o,a9⟩ (ra.ex0 x6))
  rw[aS (cc z hacc)];exact x2.keep p u z n
theorem NL.post {nl:NL} [jJ nl] {K:PySem.W.Frag} {g:GG} {ε:EE} {α:List Addr} {H:Hp} {h:Hh} {ds:List D} {vs:List V} {Q:VK} {p:Addr} (w:WQ K g ε α H (nl ds h) (aX K g α H Q)) (r:aZ K g α H h) (rd:aA K g α H ds vs) (n:H p=none):jc Q (.ref p) (upd H p (.lst vs)):=
 jJ.at' w (fun _ _ z=>z) (Ext.fresh n) (r.grow n) (rd.ext (Ext.fresh n)) a9 (r.free n) n
noncomputable def iZ (nl:NL):List D->Hh->R D:=fun ds h=>if ds.length<=1000000 then nl ds h else .bad
theorem gJ {X:Cx} {g:GG} {ε:EE} {es:List Expr} {mr:MA} {pos:Pos} {nl:NL} [jJ nl] (ha:PA X es (tMA X.K g ε mr)):PE X (.List es pos) (tM X.K g ε (ai (iZ nl) mr)):=
 PE.imp (PE.frz (HC ha)) fun σ H Q ⟨α,env,h,s,w⟩=>tMA.use s w.bind fun d1 h1 v1 H1 α1 e1 s1 r1 w1=>by
  obtain⟨hl,w2⟩:=WQ.f6 w1
  exact⟨ip (by rw[<- r1.length];exact hl),fun p hp=>NL.post (w2.post e1) s1.heap r1 hp⟩
noncomputable def aM (h:Hh) (n:Nat):Option (List D):=match h[n]? with
 | some (.lst ds)=>some ds
 | _=>none
inductive Src where
 | snap (ds:List D)
 | live (n:Nat)
 | liveE (n:Nat)
noncomputable abbrev MI:=En->Hh->R Src
noncomputable abbrev Rdr:=Hh->Nat->Option (Option D)
noncomputable def Src.rdr:Src->Rdr
 | .snap ds=>fun _ i=>some ds[i]?
 | .live n=>fun h i=>(aM h n).map fun ds=>ds[i]?
 | .liveE n=>fun h i=>(aM h n).map fun ds=>(ds[i]?).map fun d=>D.tup [.int i,d]
noncomputable def Src.fuel (s:Src) (h:Hh):Nat:=match s with
 | .snap ds=>ds.length
 | .live n=>((aM h n).getD []).length
 | .liveE n=>((aM h n).getD []).length
noncomputable def Reads (K:PySem.W.Frag) (g:GG) (J:It) (rd:Rdr) (α₀:List Addr) (aN:Hp):Prop:=
 ∀(α:List Addr) (H:Hp) (h:Hh),Ext K α₀ aN α H->aZ K g α H h->∀i,match rd h i with
  | none=>True
  | some none=>J.stop i H
  | some (some d)=>J.go i H/\∀x H',J.yld i H x H'->∃α',Ext K α H α' H'/\aZ K g α' H' h/\aP K g α' H' d x
noncomputable def tMI (K:PySem.W.Frag) (g:GG) (ε:EE) (m:MI):TI:=fun σ H T=>∃α env h,dk K g α H env σ h/\WQ K g ε α H (m env h) fun sr h'=>∀J H' α',Ext K α H α' H'->aZ K g α' H' h'->Reads K g J sr.rdr α' H'->T J H'
theorem PI.imp {X:Cx} {tg e:Expr} {t t':TI} (h:PI X tg e t) (i:∀σ H Q,t' σ H Q->t σ H Q):PI X tg e t':=fun pins s σ H Q I w=>h pins s σ H Q I (i σ H Q w)
noncomputable def jB (rd:Rdr) (tg:D->En->Hh->R En) (body:MS):Nat->Nat->En->Hh->R Fl
 | k,i,env,h=>match rd h i with
  | none=>.bad
  | some none=>.ok (.nx env) h
  | some (some d)=>match k with
   | 0=>.bad
   | k+1=>(tg d env h).bind fun e1 h1=>(body e1 h1).bind fun fl h2=>match fl with
    | .nx e=>jB rd tg body k (i+1) e h2
    | .ct e=>jB rd tg body k (i+1) e h2
    | .bk e=>.ok (.nx e) h2
    | .rt d=>.ok (.rt d) h2
noncomputable def dR (tg:D->En->Hh->R En) (body:MS):List D->En->Hh->R Fl
 | [],env,h=>.ok (.nx env) h
 | d::ds,env,h=>(tg d env h).bind fun e1 h1=>(body e1 h1).bind fun fl h2=>match fl with
  | .nx e=>dR tg body ds e h2
  | .ct e=>dR tg body ds e h2
  | .bk e=>.ok (.nx e) h2
  | .rt d=>.ok (.rt d) h2
theorem Dt (tg:D->En->Hh->R En) (body:MS) (all:List D):∀(ds:List D) (i:Nat) (env:En) (h:Hh),all.drop i=ds->jB (Src.snap all).rdr tg body ds.length i env h=dR tg body ds env h:=by
 intro ds
 induction ds with
 | nil=>
  intro i env h e
  have:all[i]?=none:=by
   have:=congrArg List.length e
   simp at this
   exact List.getElem?_eq_none (by omega)
  unfold jB dR Src.rdr
  simp[this]
 | cons d ds ih=>
  intro i env h e
  have h0:all[i]?=some d:=by
   have:=congrArg (fun l=>l[0]?) e
   simpa using this
  have h1:all.drop (i+1)=ds:=by
   have:=congrArg List.tail e
   simpa using this
  unfold jB dR
  have:(Src.snap all).rdr h i=some (some d):=by unfold Src.rdr;simp[h0]
  rw[this]
  show((tg d env h).bind _)=_
  congr 1
  funext e1 h2
  congr 1
  funext fl h3
  cases fl with
  | nx e=>exact ih (i+1) e h3 h1
  | ct e=>exact ih (i+1) e h3 h1
  | bk e=>rfl
  | rt d=>rfl
noncomputable def dU (mi:MI) (tg:D->En->Hh->R En) (body:MS):MS:=fun env h=>(mi env h).bind fun sr h1=>match sr with
 | .snap ds=>dR tg body ds env h1
 | .live n=>jB (Src.live n).rdr tg body ((aM h1 n).getD []).length 0 env h1
 | .liveE n=>jB (Src.liveE n).rdr tg body ((aM h1 n).getD []).length 0 env h1
theorem DV {mi:MI} {tg:D->En->Hh->R En} {body:MS} {env:En} {h:Hh}:dU mi tg body env h=(mi env h).bind fun sr h1=>jB sr.rdr tg body (sr.fuel h1) 0 env h1:=by
 unfold dU
 congr 1
 funext sr h1
 cases sr with
 | snap ds=>exact(Dt tg body ds ds 0 env h1 rfl).symm
 | live n=>rfl
 | liveE n=>rfl
noncomputable def gN (i:Nat):D->En->Hh->R En:=fun d env h=>.ok (env.set i (some d)) h
noncomputable def gT2 (i j:Nat):D->En->Hh->R En:=fun d env h=>match d with
 | .tup [x,y]=>.ok ((env.set i (some x)).set j (some y)) h
 | _=>.bad
noncomputable def GA (K:PySem.W.Frag) (g:GG) (ε:EE) (tg:D->En->Hh->R En) (t:TG):Prop:=
 ∀(α:List Addr) (H:Hp) (h:Hh) (env:En) (σ:St) (d:D) (x:V) (Q:St->Hp->Prop),dk K g α H env σ h->aP K g α H d x →
  WQ K g ε α H (tg d env h) (fun e1 h1=>∀σ' H' α',Ext K α H α' H'->dk K g α' H' e1 σ' h1->Q σ' H')->t x σ H Q
theorem cZ {K:PySem.W.Frag} {g:GG} {ε:EE} {i:Nat}:GA K g ε (gN i) (dE i):=fun α H h env σ d x Q s r w=>w _ H α Ext.refl ⟨s.heap,s.vs.set r⟩
theorem xt {K:PySem.W.Frag} {g:GG} {ε:EE} {i j:Nat}:GA K g ε (gT2 i j) (AJ K 2 (kJ (dE i) (kJ (dE j) B5))):=fun α H h env σ d x Q s r w=>by
 unfold gT2 at w
 cases r with
 | tup hq rs=>
  cases rs with
  | nil=>exact w.elim
  | cons ra rr=>
   cases rr with
   | nil=>exact w.elim
   | cons rb rr=>
    cases rr with
    | nil=>exact⟨_,_,rfl,SqT.of hq,rfl,_,_,rfl,_,_,rfl,rfl,w _ H α Ext.refl ⟨s.heap,(s.vs.set ra).set rb⟩⟩
    | cons _ _=>exact w.elim
 | _=>exact w.elim
section
variable {X:Cx} {g:GG} {ε:EE}
theorem fQ {tg iter:Expr} {body:List Stmt} {mi:MI} {t:TG} {fg:D->En->Hh->R En} {mb:MS} {pos:Pos} (hp:PassesOwn (model X.prog X.w) X.A X.env X.xe) (hc:X.calm=true) (hi:PI X tg iter (tMI X.K g ε mi)) (hg:PG X tg t) (ig:GA X.K g ε fg t) (hb:PSs X body (tMS X.K g ε mb))
  (hs:∀x,foldedSetIterable iter X.env x=pure x:=by intro _;rfl):PS X (.For tg iter body [] pos) (tMS X.K g ε (dU mi fg mb)):=by
 refine PS.imp (Hw hp hc hi hg hb hs) fun E σ H ⟨α,env,h,s,w⟩=>?_
 rw[DV] at w
 refine⟨α,env,h,s,w.bind.mono fun sr h1 _ w1 J H1 α1 e1 hr1 rd=>?_⟩
 refine⟨fun i m σ H=>∃α env h,Ext X.K α1 H1 α H/\dk X.K g α H env σ h/\WQ X.K g ε α H (jB sr.rdr fg mb m i env h) (cq X.K g α H E),⟨sr.fuel h1,α1,env,h1,Ext.refl,s.ext e1 hr1,w1.ym e1⟩,?_⟩
 rintro i m σ2 H2 ⟨α2,env2,h2,x2,s2,w2⟩
 have q:=rd α2 H2 h2 x2 s2.heap i
 unfold jB at w2
 cases e:sr.rdr h2 i with
 | none=>rw[e] at w2;exact w2.elim
 | some od=>
  rw[e] at w2 q
  cases od with
  | none=>exact .inl ⟨q,s2.nx Ext.refl w2⟩
  | some d=>
   cases m with
   | zero=>exact w2.elim
   | succ m=>
    have w3:=WQ.bind (show WQ X.K g ε α2 H2 ((fg d env2 h2).bind _) _ from w2)
    refine .inr ⟨q.1,fun σ' H'=>∃α env h,Ext X.K α1 H1 α H'/\dk X.K g α H' env σ' h/\WQ X.K g ε α H' (jB sr.rdr fg mb m (i+1) env h) (cq X.K g α H' E),fun σ' H' z=>⟨m,Nat.lt_succ_self _,z⟩,fun x H3 y=>?_⟩
    obtain⟨α3,x3,hr3,rx⟩:=q.2 x H3 y
    refine ig α3 H3 h2 env2 σ2 d x _ (s2.ext x3 hr3) rx ((w3.ext x3).mono fun e4 h4 _ w4 σ4 H4 α4 x4 s4=>?_)
    refine tMS.use s4 ((w4.ext x3).ext x4).bind fun fl h5 H5 α5 x5 hr5 w5=>?_
    have tr:Ext X.K α2 H2 α5 H5:=x3.trans (x4.trans x5)
    cases fl with
    | nx e=>exact fun σ' s'=>⟨α5,e,h5,x2.trans tr,s',((w5.ext x5)).mono fun _ _ _ p=>p.ext tr⟩
    | ct e=>exact fun σ' s'=>⟨α5,e,h5,x2.trans tr,s',((w5.ext x5)).mono fun _ _ _ p=>p.ext tr⟩
    | bk e=>exact fun σ' s'=>(show cq X.K g α2 H2 E (.nx e) h5 from w5) H5 α5 tr hr5 σ' s'.vs
    | rt d=>exact fun v rv=>(show cq X.K g α2 H2 E (.rt d) h5 from w5) H5 α5 tr hr5 v rv
theorem aZ.lst {K:PySem.W.Frag} {α:List Addr} {H:Hp} {h:Hh} {n:Nat} {ds:List D} (r:aZ K g α H h) (e:aM h n=some ds) {p:Addr} (hp:α[n]?=some p):∃vs,H p=some (.lst vs)/\aA K g α H ds vs:=by
 unfold aM at e
 cases o:h[n]? with
 | none=>rw[o] at e;cases e
 | some o'=>
  rw[o] at e
  have q:=r.here n p o' hp o
  cases o' with
  | lst ds'=>cases e;obtain⟨vs,a,b⟩:=q;exact⟨vs,a,b⟩
  | set n=>cases e
  | dic k=>cases e
  | dit k=>cases e
noncomputable def BL:D->Hh->R Src
 | .tup ds,h=>.ok (.snap ds) h
 | .frl ds,h=>.ok (.snap ds) h
 | .scr ds,h=>.ok (.snap ds) h
 | .ref n,h=>match aM h n with
  | some _=>.ok (.live n) h
  | none=>.bad
 | _,_=>.bad
noncomputable def f_ (a:ME):MI:=fun env h=>(a env h).bind BL
noncomputable def K8 (K:PySem.W.Frag) (tl:TE):TI:=fun σ H R=>tl σ H fun x H1=>∃a,x=.ref a/\(((∃xs,SqL K H1 a xs)/\R (Itl K a) H1)\/((∃xs,SqT K H1 a xs)/\R (Itt K a) H1))
theorem FO {tg l:Expr} {tl:TE} (hl:PE X l tl):PI X tg l (K8 X.K tl):=by
 intro pins s σ H R I h
 refine thn (hl pins s σ H _ I h) fun v s1 ⟨x,H1,I1,r1,q1⟩=>?_
 obtain⟨a,e,q⟩:=q1
 subst e
 cases r1
 rcases q with⟨⟨xs,hq⟩,q⟩ | ⟨⟨xs,hq⟩,q⟩
 ·obtain⟨its,rv,p,hz⟩:=I1.list hq
  refine wpAny_pyIter_list p.isList ?_
  refine⟨s1.heap.objs.size,[s1.heap.objs.size],_,_,H1,rfl,I1.kept (t':=s1.toks) fun b o e=>Heap.get?_push_of_some _ e,zd a _,⟨_,Heap.get?_push_size _ rfl,rfl,rfl⟩,fun b hb=>?_,q⟩
  have e:b=s1.heap.objs.size:=by simpa using hb
  subst e
  exact I1.Ag (Nat.le_refl _) (I1.hok.fresh (Nat.le_refl _))
 ·obtain⟨its,rv,p,hz⟩:=I1.tuple hq
  refine wpAny_pyIter_tuple (show s1.heap.IsTuple a its.toArray from p) ?_
  refine⟨s1.heap.objs.size,[s1.heap.objs.size],_,_,H1,rfl,I1.kept (t':=s1.toks) fun b o e=>Heap.get?_push_of_some _ e,wD a _,⟨_,Heap.get?_push_size _ rfl,rfl,rfl⟩,fun b hb=>?_,q⟩
  have e:b=s1.heap.objs.size:=by simpa using hb
  subst e
  exact I1.Ag (Nat.le_refl _) (I1.hok.fresh (Nat.le_refl _))
theorem zD {K:PySem.W.Frag} {α:List Addr} {H:Hp} {a:Addr} {ds:List D} {vs:List V} (hq':H a=some (.tup vs)) (rs:aA K g α H ds vs):Reads K g (Itt K a) (Src.snap ds).rdr α H:=by
 intro α2 H2 h2 x2 hr i
 have hq2:SqT K H2 a vs:=SqT.of (x2.tup _ _ hq')
 have rs2:=rs.ext x2
 show match some ds[i]? with | none=>True | some none=>_ | some (some d)=>_
 cases e:ds[i]? with
 | none=>
  have:ds.length<=i:=List.getElem?_eq_none_iff.mp e
  exact⟨vs,hq2,by rw[<- rs.length];exact this⟩
 | some d=>
  obtain⟨v,ev,rv⟩:=rs2.get e
  refine⟨⟨vs,v,hq2,ev⟩,fun x H' y=>?_⟩
  obtain⟨e1,e2⟩:=y
  subst e1
  have:=e2 vs hq2
  rw[ev] at this
  cases this
  exact⟨α2,Ext.refl,hr,rv⟩
theorem qU {K:PySem.W.Frag} {α:List Addr} {H:Hp} {a:Addr} {ds:List D} {vs:List V} (hq:Fro K H a vs) (rs:aA K g α H ds vs):Reads K g (Itl K a) (Src.snap ds).rdr α H:=by
 intro α2 H2 h2 x2 hr i
 have hq2:=x2.fro _ _ hq
 have rs2:=rs.ext x2
 show match some ds[i]? with | none=>True | some none=>_ | some (some d)=>_
 cases e:ds[i]? with
 | none=>
  have:ds.length<=i:=List.getElem?_eq_none_iff.mp e
  exact⟨vs,hq2.sq,by rw[<- rs.length];exact this⟩
 | some d=>
  obtain⟨v,ev,rv⟩:=rs2.get e
  refine⟨⟨vs,v,hq2.sq,ev⟩,fun x H' y=>?_⟩
  obtain⟨e1,e2⟩:=y
  subst e1
  have:=e2 vs hq2.sq
  rw[ev] at this
  cases this
  exact⟨α2,Ext.refl,hr,rv⟩
theorem zE {K:PySem.W.Frag} {α:List Addr} {H:Hp} {a:Addr} {n:Nat} (ha:α[n]?=some a):Reads K g (Itl K a) (Src.live n).rdr α H:=by
 intro α2 H2 h2 x2 hr i
 show match (aM h2 n).map fun ds=>ds[i]? with | none=>True | some none=>_ | some (some d)=>_
 cases e:aM h2 n with
 | none=>trivial
 | some ds=>
  obtain⟨vs,hq',rs⟩:=hr.lst e (x2.get ha)
  have hq:SqL K H2 a vs:=SqL.of hq'
  show match some ds[i]? with | none=>True | some none=>_ | some (some d)=>_
  cases ei:ds[i]? with
  | none=>
   have:ds.length<=i:=List.getElem?_eq_none_iff.mp ei
   exact⟨vs,hq,by rw[<- rs.length];exact this⟩
  | some d=>
   obtain⟨v,ev,rv⟩:=rs.get ei
   refine⟨⟨vs,v,hq,ev⟩,fun x H' y=>?_⟩
   obtain⟨e1,e2⟩:=y
   subst e1
   have:=e2 vs hq
   rw[ev] at this
   cases this
   exact⟨α2,Ext.refl,hr,rv⟩
theorem l_ {tg e:Expr} {me:ME} (he:PE X e (tM X.K g ε me)):PI X tg e (tMI X.K g ε (f_ me)):=
 PI.imp (FO he) fun σ H T ⟨α,env,h,s,w⟩=>tM.use s w.bind fun d1 h1 v1 H1 α1 e1 s1 r1 w1=>by
  unfold BL at w1
  cases r1 with
  | tup hq rs=>exact⟨_,rfl,.inr ⟨⟨_,SqT.of hq⟩,w1 _ H1 α1 e1 s1.heap (zD hq rs)⟩⟩
  | frl hq rs=>exact⟨_,rfl,.inl ⟨⟨_,hq.sq⟩,w1 _ H1 α1 e1 s1.heap (qU hq.fro rs)⟩⟩
  | scr hq rs=>exact⟨_,rfl,.inl ⟨⟨_,hq.sq⟩,w1 _ H1 α1 e1 s1.heap (qU hq rs)⟩⟩
  | @ref n p hp=>
   cases el:aM h1 n with
   | none=>simp only[el] at w1;exact w1.elim
   | some ds=>
    simp only[el] at w1
    obtain⟨vs,hq,_⟩:=s1.heap.lst el hp
    exact⟨p,rfl,.inl ⟨⟨_,SqL.of hq⟩,w1 _ H1 α1 e1 s1.heap (zE hp)⟩⟩
  | _=>exact w1.elim
noncomputable def gc (ds:List D):List D:=(List.range ds.length).map fun(i:Nat)=>D.tup [.int i,ds.getD i .non]
noncomputable def rB:D->Hh->R Src
 | .tup ds,h=>.ok (.snap (gc ds)) h
 | .frl ds,h=>.ok (.snap (gc ds)) h
 | .ref n,h=>match aM h n with
  | some _=>.ok (.liveE n) h
  | none=>.bad
 | _,_=>.bad
noncomputable def lR (a:ME):MI:=fun env h=>(a env h).bind rB
theorem q_ {ds:List D} {i:Nat}:(gc ds)[i]?=(ds[i]?).map fun d=>D.tup [.int i,d]:=by
 unfold gc
 rw[List.getElem?_map]
 by_cases hi:i<ds.length
 ·have e:ds.getD i .non=ds[i]:=by rw[List.getD_eq_getElem?_getD,List.getElem?_eq_getElem hi];rfl
  rw[List.getElem?_range hi,List.getElem?_eq_getElem hi,Option.map_some,Option.map_some,e]
 ·rw[List.getElem?_eq_none (by simpa using hi),List.getElem?_eq_none (by omega)];rfl
theorem oB {K:PySem.W.Frag} {α:List Addr} {H:Hp} {h:Hh} {i:Nat} {d:D} {v:V} {p:Addr} (hr:aZ K g α H h) (rv:aP K g α H d v) (hp:H p=none) :
  ∃α',Ext K α H α' (upd H p (.tup [.int i,v]))/\aZ K g α' (upd H p (.tup [.int i,v])) h/\aP K g α' (upd H p (.tup [.int i,v])) (.tup [.int i,d]) (.ref p):=
 ⟨α,Ext.fresh hp,hr.grow hp,.tup a9 (.cons (.int _) (.cons (rv.ext (Ext.fresh hp)) .nil))⟩
theorem uC {K:PySem.W.Frag} {α:List Addr} {H:Hp} {a:Addr} {ds:List D} {vs:List V} (hq':H a=some (.tup vs)) (rs:aA K g α H ds vs):Reads K g (Iet K a) (Src.snap (gc ds)).rdr α H:=by
 intro α2 H2 h2 x2 hr i
 have hq2:SqT K H2 a vs:=SqT.of (x2.tup _ _ hq')
 have rs2:=rs.ext x2
 show match some (gc ds)[i]? with | none=>True | some none=>_ | some (some d)=>_
 rw[q_]
 cases e:ds[i]? with
 | none=>
  have:ds.length<=i:=List.getElem?_eq_none_iff.mp e
  exact⟨vs,hq2,by rw[<- rs.length];exact this⟩
 | some d=>
  obtain⟨v,ev,rv⟩:=rs2.get e
  refine⟨⟨vs,v,hq2,ev⟩,fun x H' y=>?_⟩
  obtain⟨p,v',e1,hp,e2,e3⟩:=y
  subst e1 e3
  have:=e2 vs hq2
  rw[ev] at this
  cases this
  exact oB hr rv hp
theorem vi {K:PySem.W.Frag} {α:List Addr} {H:Hp} {a:Addr} {ds:List D} {vs:List V} (hq:Fro K H a vs) (rs:aA K g α H ds vs):Reads K g (Iel K a) (Src.snap (gc ds)).rdr α H:=by
 intro α2 H2 h2 x2 hr i
 have hq2:SqL K H2 a vs:=(x2.fro _ _ hq).sq
 have rs2:=rs.ext x2
 show match some (gc ds)[i]? with | none=>True | some none=>_ | some (some d)=>_
 rw[q_]
 cases e:ds[i]? with
 | none=>
  have:ds.length<=i:=List.getElem?_eq_none_iff.mp e
  exact⟨vs,hq2,by rw[<- rs.length];exact this⟩
 | some d=>
  obtain⟨v,ev,rv⟩:=rs2.get e
  refine⟨⟨vs,v,hq2,ev⟩,fun x H' y=>?_⟩
  obtain⟨p,v',e1,hp,e2,e3⟩:=y
  subst e1 e3
  have:=e2 vs hq2
  rw[ev] at this
  cases this
  exact oB hr rv hp
theorem vt {K:PySem.W.Frag} {α:List Addr} {H:Hp} {a:Addr} {n:Nat} (ha:α[n]?=some a):Reads K g (Iel K a) (Src.liveE n).rdr α H:=by
 intro α2 H2 h2 x2 hr i
 show match (aM h2 n).map fun ds=>(ds[i]?).map fun d=>D.tup [.int i,d] with | none=>True | some none=>_ | some (some d)=>_
 cases e:aM h2 n with
 | none=>trivial
 | some ds=>
  obtain⟨vs,hq',rs⟩:=hr.lst e (x2.get ha)
  have hq:SqL K H2 a vs:=SqL.of hq'
  show match some ((ds[i]?).map fun d=>D.tup [.int i,d]) with | none=>True | some none=>_ | some (some d)=>_
  cases ei:ds[i]? with
  | none=>
   have:ds.length<=i:=List.getElem?_eq_none_iff.mp ei
   exact⟨vs,hq,by rw[<- rs.length];exact this⟩
  | some d=>
   obtain⟨v,ev,rv⟩:=rs.get ei
   refine⟨⟨vs,v,hq,ev⟩,fun x H' y=>?_⟩
   obtain⟨p,v',e1,hp,e2,e3⟩:=y
   subst e1 e3
   have:=e2 vs hq
   rw[ev] at this
   cases this
   exact oB hr rv hp
theorem yH {elts:List Expr} {kt:Nat} {tp p pos:Pos} {e:Expr} {me:ME} (hg:Gl X "enumerate") (hm:X.mg "enumerate" = none) (he:PE X e (tM X.K g ε me)) (hs:starEach [e] X.env=[(false,eval e X.env)]:=by rfl):PI X (.Tuple elts kt tp) (.Call (.Name "enumerate" p) [e] [] pos) (tMI X.K g ε (lR me)):=
 PI.imp (E6 hg hm he hs) fun σ H T ⟨α,env,h,s,w⟩=>tM.use s w.bind fun d1 h1 v1 H1 α1 e1 s1 r1 w1=>by
  unfold rB at w1
  cases r1 with
  | tup hq rs=>exact⟨_,rfl,.inr ⟨⟨_,SqT.of hq⟩,w1 _ H1 α1 e1 s1.heap (uC hq rs)⟩⟩
  | frl hq rs=>exact⟨_,rfl,.inl ⟨⟨_,hq.sq⟩,w1 _ H1 α1 e1 s1.heap (vi hq.fro rs)⟩⟩
  | @ref n p hp=>
   cases el:aM h1 n with
   | none=>simp only[el] at w1;exact w1.elim
   | some ds=>
    simp only[el] at w1
    obtain⟨vs,hq,_⟩:=s1.heap.lst el hp
    exact⟨p,rfl,.inl ⟨⟨_,SqL.of hq⟩,w1 _ H1 α1 e1 s1.heap (vt hp)⟩⟩
  | _=>exact w1.elim
noncomputable def eT (lo:Int) (n:Nat):List D:=(List.range n).map fun(i:Nat)=>D.int (lo+i)
noncomputable def fU:List D->Hh->R Src
 | [.int j],h=>if j.natAbs<=1000000 then .ok (.snap (eT 0 j.toNat)) h else .bad
 | _,_=>.bad
noncomputable def Hg:List D->Hh->R Src
 | [.int i,.int j],h=>if i.natAbs<=1000000/\j.natAbs<=1000000 then .ok (.snap (eT i (j - i).toNat)) h else .bad
 | _,_=>.bad
noncomputable def fC (f:List D->Hh->R Src) (a:MA):MI:=fun env h=>(a env h).bind f
theorem rq {K:PySem.W.Frag} {α:List Addr} {H:Hp} {lo:Int} {n:Nat}:Reads K g (Itr lo n) (Src.snap (eT lo n)).rdr α H:=by
 intro α2 H2 h2 x2 hr i
 show match some (eT lo n)[i]? with | none=>True | some none=>_ | some (some d)=>_
 unfold eT
 rw[List.getElem?_map]
 by_cases hi:i<n
 ·rw[List.getElem?_range hi]
  refine⟨hi,fun x H' y=>?_⟩
  obtain⟨e1,e2⟩:=y
  subst e1 e2
  exact⟨α2,Ext.refl,hr,.int _⟩
 ·rw[List.getElem?_eq_none (by simpa using hi)]
  exact Nat.le_of_not_lt hi
theorem dA {tg a:Expr} {ma:MA} {p pos:Pos} (hg:Gl X "range") (hm:X.mg "range" = none) (ha:PA X [a] (tMA X.K g ε ma)) (hs:starEach [a] X.env=[(false,eval a X.env)]:=by rfl):PI X tg (.Call (.Name "range" p) [a] [] pos) (tMI X.K g ε (fC fU ma)):=
 PI.imp (zU hg hm ha hs) fun σ H T ⟨α,env,h,s,w⟩=>tMA.use s w.bind fun d1 h1 v1 H1 α1 e1 s1 r1 w1=>by
  unfold fU at w1
  cases r1 with
  | nil=>exact w1.elim
  | cons ra rr=>
   cases rr with
   | cons _ _=>cases ra<;>exact w1.elim
   | nil=>
    cases ra with
    | int j=>
     obtain⟨hj,w2⟩:=WQ.f6 w1
     exact⟨j,rfl,by omega,by omega,w2 _ H1 α1 e1 s1.heap rq⟩
    | _=>exact w1.elim
theorem EG {tg a b:Expr} {ma:MA} {p pos:Pos} (hg:Gl X "range") (hm:X.mg "range" = none) (ha:PA X [a,b] (tMA X.K g ε ma)) (hs:starEach [a,b] X.env=[(false,eval a X.env),(false,eval b X.env)]:=by rfl) (hs2:starEach [b] X.env=[(false,eval b X.env)]:=by rfl):PI X tg (.Call (.Name "range" p) [a,b] [] pos) (tMI X.K g ε (fC Hg ma)):=
 PI.imp (yY hg hm ha hs hs2) fun σ H T ⟨α,env,h,s,w⟩=>tMA.use s w.bind fun d1 h1 v1 H1 α1 e1 s1 r1 w1=>by
  unfold Hg at w1
  split at w1
  ·cases r1 with
   | cons ra rr=>
    cases ra
    cases rr with
    | cons rb rr=>
     cases rb
     cases rr
     obtain⟨hj,w2⟩:=WQ.f6 w1
     exact⟨_,_,rfl,⟨by omega,by omega,by omega,by omega⟩,w2 _ H1 α1 e1 s1.heap rq⟩
  ·exact w1.elim
noncomputable def dh (c:MT) (b:MS):Nat->En->Hh->R Fl
 | 0,_,_=>.bad
 | k+1,env,h=>(c env h).bind fun x h1=>if x=true then (b env h1).bind fun fl h2=>match fl with
   | .nx e=>dh c b k e h2
   | .ct e=>dh c b k e h2
   | .bk e=>.ok (.nx e) h2
   | .rt d=>.ok (.rt d) h2
  else .ok (.nx env) h1
noncomputable def pU (fuel:Nat) (c:MT) (b:MS):MS:=fun env h=>dh c b fuel env h
theorem tB {c:Expr} {body:List Stmt} {mc:MT} {mb:MS} {pos:Pos} (fuel:Nat) (hp:PassesOwn (model X.prog X.w) X.A X.env X.xe) (hc:PT X c (tMT X.K g ε mc)) (hb:PSs X body (tMS X.K g ε mb)):PS X (.While c body [] pos) (tMS X.K g ε (pU fuel mc mb)):=by
 refine PS.imp (Bp hp hc hb) fun E σ H ⟨α,env,h,s,w⟩=>?_
 refine⟨fun m σ H=>∃α env h,dk X.K g α H env σ h/\WQ X.K g ε α H (dh mc mb m env h) (cq X.K g α H E),⟨fuel,α,env,h,s,w⟩,?_⟩
 rintro m σ2 H2 ⟨α2,env2,h2,s2,w2⟩
 cases m with
 | zero=>exact w2.elim
 | succ m=>
  refine tMT.use s2 (WQ.bind (show WQ X.K g ε α2 H2 ((mc env2 h2).bind _) _ from w2)) fun b h3 H3 α3 x3 s3 w3=>?_
  cases b with
  | false=>rw[if_neg Bool.false_ne_true] at w3 ⊢;exact s3.nx x3 w3
  | true=>
   rw[if_pos rfl] at w3 ⊢
   refine⟨fun σ' H'=>∃α env h,dk X.K g α H' env σ' h/\WQ X.K g ε α H' (dh mc mb m env h) (cq X.K g α H' E),fun σ' H' z=>⟨m,Nat.lt_succ_self _,z⟩,?_⟩
   refine tMS.use s3 (w3.ext x3).bind fun fl h5 H5 α5 x5 hr5 w5=>?_
   have tr:Ext X.K α2 H2 α5 H5:=x3.trans x5
   cases fl with
   | nx e=>exact fun σ' s'=>⟨α5,e,h5,s',(w5.ext x5).mono fun _ _ _ p=>p.ext tr⟩
   | ct e=>exact fun σ' s'=>⟨α5,e,h5,s',(w5.ext x5).mono fun _ _ _ p=>p.ext tr⟩
   | bk e=>exact fun σ' s'=>(show cq X.K g α2 H2 E (.nx e) h5 from w5) H5 α5 tr hr5 σ' s'.vs
   | rt d=>exact fun v rv=>(show cq X.K g α2 H2 E (.rt d) h5 from w5) H5 α5 tr hr5 v rv
end
noncomputable abbrev E00:EE:=fun _ _ _=>False
noncomputable abbrev MF:=List D->Hh->R D
noncomputable def cB (n:Nat) (m:MS):MF:=fun ds h=>(m (ds.map some++List.replicate (n - ds.length) none) h).bind fun fl h1=>match fl with
 | .rt d=>.ok d h1
 | .nx _=>.ok .non h1
 | _=>.bad
noncomputable def spG (K:PySem.W.Frag) (g:GG) (ε:XK->EE) (np:Nat) (m:MF):Sp:=fun vs H Q E=>vs.length=np/\∃α ds h,aA K g α H ds vs/\aZ K g α H h/\WQ K g (ε E) α H (m ds h) (aX K g α H Q)
noncomputable abbrev spM (K:PySem.W.Frag) (g:GG) (np:Nat) (m:MF):Sp:=spG K g (fun _=>E00) np m
theorem zF {K:PySem.W.Frag} {g:GG} {α:List Addr} {H:Hp} {N:List Str} {ds:List D} {vs:List V} (r:aA K g α H ds vs):je K g α H (ds.map some++List.replicate (N.length - ds.length) none) (start N vs):=by
 have hl:=r.length
 refine⟨by simp[start,hl],fun i d h=>?_⟩
 by_cases hi:i<ds.length
 ·rw[List.getElem?_append_left (by simpa using hi),List.getElem?_map] at h
  cases e:ds[i]? with
  | none=>rw[e] at h;cases h
  | some d'=>
   rw[e] at h
   cases h
   obtain⟨v,ev,rv⟩:=r.get e
   refine⟨v,?_,rv⟩
   unfold start
   rw[List.getElem?_append_left (by simp;omega),List.getElem?_map,ev]
   rfl
 ·rw[List.getElem?_append_right (by simpa using hi),List.getElem?_replicate] at h
  split at h<;>cases h
section
variable {P:Program} {w:World} {K:PySem.W.Frag} {mg:Str->Option Value} {base:Heap} {g:GG}
theorem cY {x qual:Str} {st:Stmt} {f:Addr} {fd:FuncData} {N ps:List Str} {k:Nat} {mb:MS} (F:Fun K x qual st f fd) (S:aQ N ps (ay st))
  (hb:∀(cdv:Value) (A:Around) (outer:List Env) (s:Shared) (H:Hp) (E:XK),gX k (A.deeper (envOfC qual (ay st) s.heap.objs.size f cdv)) →
   PSs (wq CX0 P w K mg base N qual (ay st) f cdv A outer s H E).nox (iF st) (tMS K g E00 mb)):fL P w K mg base CX0 (k+1) f fd ps (spM K g ps.length (cB N.length mb)):=by
 refine F.ok S (fun vs H Q E h=>h.1) fun cdv A outer s H vs Q E hr h=>⟨_,hb cdv A outer s H E hr,?_⟩
 obtain⟨hl,α,ds,h,rs,hh,w⟩:=h
 refine tMS.use ⟨hh,zF rs⟩ w.bind fun fl h' H' α' e r kk=>?_
 cases fl with
 | nx e'=>exact fun σ' s'=>(show aX K g α H Q .non h' from kk) _ H' α' e r .non
 | bk e'=>exact kk.elim
 | ct e'=>exact kk.elim
 | rt d=>exact fun v rv=>(show aX K g α H Q d h' from kk) _ H' α' e r rv
end
section
variable {X:Cx} {g:GG}
theorem av {k:Nat} {f:Addr} {fd:FuncData} {ps:List Str} {m:MF} {np:Nat} {x:Str} {p pos:Pos} {e:Expr} {es:List Expr} {mr:MA} (F:fL X.prog X.w X.K X.mg X.base CX0 k f fd ps (spM X.K g np m)) (hr:gX k X.A) (hg:Gl X x) (hm:X.mg x=some (.ref f)) (hk:PySem.W.keepIn X.K (.ref f)=true) (hb:Binds X.K fd ps [])
  (ha:PA X (e::es) (tMA X.K g E00 mr)) (hlen:∀env h ds h',mr env h=.ok ds h'->ds.length=np) (hdb:(x == ("__debug__" : Str))=false:=by decide) (he:starEach (e::es) X.env=(false,eval e X.env)::starEach es X.env:=by rfl) (hpl:(backTo pos (starEach es X.env)).any (·.1)=false:=by rfl) :
  PE X (.Call (.Name x p) (e::es) [] pos) (tM X.K g E00 (ai m mr)):=
 PE.imp (EN F hr hg hm hk hb .nil IK ha hdb he hpl) fun σ H Q ⟨α,env,h,s,w⟩=>⟨α,env,h,s,w.bind.mono fun d1 h1 eq w1 v1 H1 α1 e1 hr1 r1=>by
  show spM X.K g np m (v1++[]) H1 Q E0
  rw[List.append_nil]
  refine⟨?_,α1,d1,h1,r1,hr1,w1.post e1⟩
  rw[<- r1.length]
  exact hlen env h d1 h1 eq⟩
theorem aw:∀env h ds h',ak env h=.ok ds h'->ds.length=0:=fun env h ds h' e=>by cases e;rfl
theorem ah {a:ME} {r:MA} {n:Nat} (q:∀env h ds h',r env h=.ok ds h'->ds.length=n):∀env h ds h',aa a r env h=.ok ds h'->ds.length=n+1:=fun env h ds h' e=>by
 unfold aa at e
 cases e1:a env h with
 | ok d h1=>
  rw[e1] at e
  cases e2:r env h1 with
  | ok ds2 h2=>
   have e3:(R.ok (d::ds2) h2:R (List D))=.ok ds h':=by simpa [R.bind,e2] using e
   cases e3
   simp[q env h1 ds2 h' e2]
  | err x h2=>simp[R.bind,e2] at e
  | bad=>simp[R.bind,e2] at e
 | err x h2=>rw[e1] at e;cases e
 | bad=>rw[e1] at e;cases e
end
noncomputable def jx (ix:List Nat) (env:En) (d:D):En:=some d::ix.map fun i=>(env[i]?).join
noncomputable def tt1:MT:=fun _ h=>.ok true h
noncomputable def gj (rd:Rdr) (tt:MT) (te:ME) (ee:D->En):Nat->Nat->List D->Hh->R (List D)
 | k,i,acc,h=>match rd h i with
  | none=>.bad
  | some none=>.ok acc h
  | some (some d)=>match k with
   | 0=>.bad
   | k+1=>(tt (ee d) h).bind fun b h1=>if b=true then (te (ee d) h1).bind fun y h2=>gj rd tt te ee k (i+1) (acc++[y]) h2 else gj rd tt te ee k (i+1) acc h1
noncomputable def eB (tt:MT) (te:ME) (ee:D->En):List D->Hh->R (List D)
 | [],h=>.ok [] h
 | d::ds,h=>(tt (ee d) h).bind fun b h1=>if b=true then (te (ee d) h1).bind fun y h2=>(eB tt te ee ds h2).bind fun ys h3=>.ok (y::ys) h3 else eB tt te ee ds h1
theorem bw {β γ δ:Type} (r:R β) (f:β->Hh->R γ) (k:γ->Hh->R δ):(r.bind f).bind k=r.bind fun b h=>(f b h).bind k:=by cases r<;>rfl
theorem Be (tt:MT) (te:ME) (ee:D->En) (all:List D):∀(ds:List D) (i:Nat) (acc:List D) (h:Hh),all.drop i=ds->gj (Src.snap all).rdr tt te ee ds.length i acc h=(eB tt te ee ds h).bind fun ys h'=>.ok (acc++ys) h':=by
 intro ds
 induction ds with
 | nil=>
  intro i acc h e
  have:all[i]?=none:=by
   have:=congrArg List.length e
   simp at this
   exact List.getElem?_eq_none (by omega)
  unfold gj eB Src.rdr
  simp[this,R.bind]
 | cons d ds ih=>
  intro i acc h e
  have h0:all[i]?=some d:=by
   have:=congrArg (fun l=>l[0]?) e
   simpa using this
  have h1:all.drop (i+1)=ds:=by
   have:=congrArg List.tail e
   simpa using this
  unfold gj eB
  have:(Src.snap all).rdr h i=some (some d):=by unfold Src.rdr;simp[h0]
  rw[this]
  show((tt (ee d) h).bind _)=_
  rw[bw]
  congr 1
  funext b h2
  cases b with
  | false=>rw[if_neg Bool.false_ne_true,if_neg Bool.false_ne_true];exact ih (i+1) acc h2 h1
  | true=>
   rw[if_pos rfl,if_pos rfl,bw]
   congr 1
   funext y h3
   rw[bw]
   have:=ih (i+1) (acc++[y]) h3 h1
   rw[this]
   congr 1
   funext ys h4
   show R.ok (acc++[y]++ys) h4=R.ok (acc++(y::ys)) h4
   simp
noncomputable def dX (nl:NL) (mi:MI) (ix:List Nat) (tt:MT) (te:ME):ME:=fun env h=>(mi env h).bind fun sr h1=>if sr.fuel h1<=1000000 then
 (match sr with
  | .snap ds=>eB tt te (jx ix env) ds h1
  | .live n=>gj (Src.live n).rdr tt te (jx ix env) ((aM h1 n).getD []).length 0 [] h1
  | .liveE n=>gj (Src.liveE n).rdr tt te (jx ix env) ((aM h1 n).getD []).length 0 [] h1).bind nl else .bad
theorem vK {nl:NL} {mi:MI} {ix:List Nat} {tt:MT} {te:ME} {env:En} {h:Hh}:dX nl mi ix tt te env h=(mi env h).bind fun sr h1=>if sr.fuel h1<=1000000 then (gj sr.rdr tt te (jx ix env) (sr.fuel h1) 0 [] h1).bind nl else .bad:=by
 unfold dX
 congr 1
 funext sr h1
 cases sr with
 | snap ds=>
  have:=Be tt te (jx ix env) ds ds 0 [] h1 rfl
  simp only[List.nil_append] at this
  have e:(Src.snap ds).fuel h1=ds.length:=rfl
  rw[e,this,bw]
  rfl
 | live n=>rfl
 | liveE n=>rfl
theorem yP {K:PySem.W.Frag} {g:GG} {α:List Addr} {H:Hp} {env:En} {σ:St} {ix:List Nat} {d:D} {v:V} (s:je K g α H env σ) (r:aP K g α H d v):je K g α H (jx ix env d) ((oQ ix σ).set 0 (some v)):=by
 refine⟨by simp[jx,oQ],fun i e h=>?_⟩
 cases i with
 | zero=>
  have:d=e:=by simpa [jx] using h
  subst this
  exact⟨v,by simp[oQ],r⟩
 | succ i=>
  have h':(ix.map fun i=>(env[i]?).join)[i]?=some (some e):=by simpa [jx] using h
  rw[List.getElem?_map] at h'
  cases ei:ix[i]? with
  | none=>rw[ei] at h';cases h'
  | some j=>
   rw[ei] at h'
   have h2:(env[j]?).join=some e:=by simpa using h'
   cases ej:env[j]? with
   | none=>rw[ej] at h2;cases h2
   | some oe=>
    rw[ej] at h2
    have h3:oe=some e:=by simpa using h2
    subst h3
    obtain⟨u,eu,ru⟩:=s.vars j e ej
    refine⟨u,?_,ru⟩
    simp only[oQ,List.set_cons_zero,List.getElem?_cons_succ,List.getElem?_map,ei,Option.map_some,eu]
    rfl
section
variable {X:Cx} {g:GG}
theorem sZ:PTs X [] (tMT X.K g E00 tt1):=fun pins s σ H Q I ⟨α,env,h,s',w⟩=>Ew pins s σ H Q I (w H α Ext.refl s'.heap)
theorem Cg {c:Expr} {mt:MT} (h:PT X c (tMT X.K g E00 mt)):PTs X [c] (tMT X.K g E00 mt):=D8 h
theorem vd {K:PySem.W.Frag} {nl:NL} [jJ nl] {mi:MI} {tt:MT} {te:ME} {ix:List Nat} {σ:St} {H:Hp} {Q R:VK} (hR:∀v H,jc Q v H->R v H) (t:tM K g E00 (dX nl mi ix tt te) σ H Q):FD (tMI K g E00 mi) ix (tMT K g E00 tt) (tM K g E00 te) σ H R:=by
 obtain⟨α,env,h,s,w⟩:=t
 rw[vK] at w
 refine⟨α,env,h,s,w.bind.mono fun sr h1 _ w1 J H1 α1 e1 hr1 rd=>fun acc hacc=>?_⟩
 obtain⟨hf,w1⟩:=WQ.f6 w1
 have s1:=s.ext e1 hr1
 refine⟨fun i m ys H=>∃α h as,Ext K α1 H1 α H/\aZ K g α H h/\aA K g α H as ys/\H acc=some (.lst ys)/\acc∉α/\as.length+m<=1000000 ∧
  WQ K g E00 α1 H1 ((gj sr.rdr tt te (jx ix env) m i as h).bind nl) (aX K g α1 H1 Q),
  ⟨sr.fuel h1,α1,h1,[],Ext.fresh hacc,hr1.grow hacc,.nil,a9,hr1.free hacc,by simpa using hf,w1.post e1⟩,?_⟩
 rintro i m ys H2 ⟨α2,h2,as,x2,hr2,ra,ha,hna,hm,w2⟩
 have q:=rd α2 H2 h2 x2 hr2 i
 unfold gj at w2
 cases e:sr.rdr h2 i with
 | none=>rw[e] at w2;exact w2.elim
 | some od=>
  rw[e] at w2 q
  cases od with
  | none=>
   refine .inl ⟨q,?_⟩
   exact hR _ _ <| jJ.at' (show WQ K g E00 α1 H1 (nl as h2) _ from w2) (fun _ _ z=>z) x2 hr2 ra ha hna hacc
  | some d=>
   cases m with
   | zero=>exact w2.elim
   | succ m=>
    rw[bw] at w2
    have w3:=WQ.bind (show WQ K g E00 α1 H1 ((tt (jx ix env d) h2).bind _) _ from w2)
    refine .inr ⟨q.1,fun x H3 y=>?_⟩
    obtain⟨α3,x3,hr3,rx⟩:=q.2 x H3 y
    have ha3:=x3.keep _ _ ha hna
    have hna3:acc∉α3:=fun z=>by have:=x3.new _ z hna;rw[ha] at this;cases this
    have s3:dk K g α3 H3 (jx ix env d) ((oQ ix σ).set 0 (some x)) h2:=⟨hr3,yP (s1.vs.ext (x2.trans x3)) rx⟩
    refine tMT.use s3 ((w3.ext x2).ext x3) fun b h4 H4 α4 x4 s4 w4=>?_
    have ha4:=x4.keep _ _ ha3 hna3
    have hna4:acc∉α4:=fun z=>by have:=x4.new _ z hna3;rw[ha3] at this;cases this
    cases b with
    | false=>
     rw[if_neg Bool.false_ne_true] at w4 ⊢
     exact⟨m,Nat.lt_succ_self _,α4,h4,as,x2.trans (x3.trans x4),s4.heap,ra.ext (x3.trans x4),ha4,hna4,by omega,w4⟩
    | true=>
     rw[if_pos rfl] at w4 ⊢
     rw[bw] at w4
     refine tM.use s4 (((WQ.bind w4).ext x2).ext (x3.trans x4)) fun y h5 v5 H5 α5 x5 s5 r5 w5=>?_
     have ha5:=x5.keep _ _ ha4 hna4
     have hna5:acc∉α5:=fun z=>by have:=x5.new _ z hna4;rw[ha4] at this;cases this
     have soft:A3 H5 acc:=.inr ⟨_,ha5,fun _ z=>(nomatch z),fun _ _ z=>nomatch z⟩
     have x6:Ex0 K α5 H5 α5 (upd H5 acc (.lst (ys++[v5]))):=Ex0.upd soft
     have tr:=x2.trans (x3.trans (x4.trans x5))
     refine⟨ha5,?_,m,Nat.lt_succ_self _,α5,h5,as++[y],⟨tr.toEx0.trans x6,fun p o z n=>?_,tr.new⟩,s5.heap.off soft hna5,((ra.ext (x3.trans (x4.trans x5))).append (.cons r5 .nil)).ex0 x6,a9,hna5,by rw[List.length_append];simp;omega,w5⟩
     ·rw[<- ra.length,sizeLine_eq];omega
     ·rw[aS (cc z hacc)];exact tr.keep p o z n
noncomputable def unp {β:Type} (m:En->Hh->R β):En->Hh->R β:=fun env h=>match env with
 | some (.tup [x,y])::r=>m (some x::some y::r) h
 | _=>.bad
theorem GY {K:PySem.W.Frag} {g:GG} {ε:EE} {α α':List Addr} {H H':Hp} {β:Type} {m:En->Hh->R β} {d:D} {x:V} {r:En} {h:Hh} {k:β->Hh->Prop} (rx:aP K g α H d x) (w:WQ K g ε α' H' (unp m (some d::r) h) k) :
  ∃a b p va vb,d=.tup [a,b]/\x=.ref p/\H p=some (.tup [va,vb])/\aP K g α H a va/\aP K g α H b vb/\WQ K g ε α' H' (m (some a::some b::r) h) k:=by
 cases rx with
 | tup hp rs=>
  cases rs with
  | nil=>exact w.elim
  | cons ra rr=>
   cases rr with
   | nil=>exact w.elim
   | cons rb rr=>
    cases rr with
    | nil=>exact⟨_,_,_,_,_,rfl,rfl,hp,ra,rb,w⟩
    | cons _ _=>exact w.elim
 | _=>exact w.elim
theorem Cy {K:PySem.W.Frag} {g:GG} {α:List Addr} {H:Hp} {env:En} {σ:St} {ix:List Nat} {d e:D} {v u:V} (s:je K g α H env σ) (r:aP K g α H d v) (q:aP K g α H e u):je K g α H (some d::some e::ix.map fun i=>(env[i]?).join) (some v::some u::ix.map fun i=>(σ[i]?).join):=by
 have z:=yP (ix:=ix) s q
 have e1:(oQ ix σ).set 0 (some u)=some u::ix.map fun i=>(σ[i]?).join:=rfl
 rw[e1] at z
 refine⟨by simp,fun i x h=>?_⟩
 cases i with
 | zero=>have:d=x:=by simpa using h
         subst this;exact⟨v,rfl,r⟩
 | succ i=>
  obtain⟨y,ey,ry⟩:=z.vars i x (by simpa [jx] using h)
  exact⟨y,by simpa using ey,ry⟩
theorem Ak {K:PySem.W.Frag} {nl:NL} [jJ nl] {mi:MI} {tt:MT} {te:ME} {ix:List Nat} {σ:St} {H:Hp} {Q R:VK} (hR:∀v H,jc Q v H->R v H) (t:tM K g E00 (dX nl mi ix (unp tt) (unp te)) σ H Q):oF (tMI K g E00 mi) 2 ix (AJ K 2 (kJ (dE 0) (kJ (dE 1) B5))) (tMT K g E00 tt) (tM K g E00 te) σ H R:=by
 obtain⟨α,env,h,s,w⟩:=t
 rw[vK] at w
 refine⟨α,env,h,s,w.bind.mono fun sr h1 _ w1 J H1 α1 e1 hr1 rd=>fun acc hacc=>?_⟩
 obtain⟨hf,w1⟩:=WQ.f6 w1
 have s1:=s.ext e1 hr1
 refine⟨fun i m ys H=>∃α h as,Ext K α1 H1 α H/\aZ K g α H h/\aA K g α H as ys/\H acc=some (.lst ys)/\acc∉α/\as.length+m<=1000000 ∧
  WQ K g E00 α1 H1 ((gj sr.rdr (unp tt) (unp te) (jx ix env) m i as h).bind nl) (aX K g α1 H1 Q),
  ⟨sr.fuel h1,α1,h1,[],Ext.fresh hacc,hr1.grow hacc,.nil,a9,hr1.free hacc,by simpa using hf,w1.post e1⟩,?_⟩
 rintro i m ys H2 ⟨α2,h2,as,x2,hr2,ra,ha,hna,hm,w2⟩
 have q:=rd α2 H2 h2 x2 hr2 i
 unfold gj at w2
 cases e:sr.rdr h2 i with
 | none=>rw[e] at w2;exact w2.elim
 | some od=>
  rw[e] at w2 q
  cases od with
  | none=>
   refine .inl ⟨q,?_⟩
   exact hR _ _ <| jJ.at' (show WQ K g E00 α1 H1 (nl as h2) _ from w2) (fun _ _ z=>z) x2 hr2 ra ha hna hacc
  | some d=>
   cases m with
   | zero=>exact w2.elim
   | succ m=>
    rw[bw] at w2
    have w3:=WQ.bind (show WQ K g E00 α1 H1 ((unp tt (jx ix env d) h2).bind _) _ from w2)
    refine .inr ⟨q.1,fun σ0 x H3 ⟨ts,tl,e0⟩ y=>?_⟩
    obtain⟨α3,x3,hr3,rx⟩:=q.2 x H3 y
    have ha3:=x3.keep _ _ ha hna
    have hna3:acc∉α3:=fun z=>by have:=x3.new _ z hna;rw[ha] at this;cases this
    obtain⟨da,db,pp,va,vb,rfl,rfl,hq,rda,rdb,w3'⟩:=GY rx ((w3.ext x2).ext x3)
    obtain⟨t0,t1,rfl⟩:∃t0 t1,ts=[t0,t1]:=by
     match ts,tl with
     | [t0,t1],_=>exact⟨t0,t1,rfl⟩
    subst e0
    refine⟨_,_,rfl,SqT.of hq,rfl,_,_,rfl,_,_,rfl,rfl,⟨[some va,some vb],rfl,rfl⟩,?_⟩
    have s3:dk K g α3 H3 (some da::some db::ix.map fun i=>(env[i]?).join) (some va::some vb::ix.map fun i=>(σ[i]?).join) h2:=⟨hr3,Cy (s1.vs.ext (x2.trans x3)) rda rdb⟩
    refine tMT.use s3 w3' fun b h4 H4 α4 x4 s4 w4=>?_
    have ha4:=x4.keep _ _ ha3 hna3
    have hna4:acc∉α4:=fun z=>by have:=x4.new _ z hna3;rw[ha3] at this;cases this
    cases b with
    | false=>
     rw[if_neg Bool.false_ne_true] at w4 ⊢
     exact⟨m,Nat.lt_succ_self _,α4,h4,as,x2.trans (x3.trans x4),s4.heap,ra.ext (x3.trans x4),ha4,hna4,by omega,w4⟩
    | true=>
     rw[if_pos rfl] at w4 ⊢
     rw[bw] at w4
     refine tM.use s4 (((WQ.bind w4).ext x2).ext (x3.trans x4)) fun y h5 v5 H5 α5 x5 s5 r5 w5=>?_
     have ha5:=x5.keep _ _ ha4 hna4
     have hna5:acc∉α5:=fun z=>by have:=x5.new _ z hna4;rw[ha4] at this;cases this
     have soft:A3 H5 acc:=.inr ⟨_,ha5,fun _ z=>(nomatch z),fun _ _ z=>nomatch z⟩
     have x6:Ex0 K α5 H5 α5 (upd H5 acc (.lst (ys++[v5]))):=Ex0.upd soft
     have tr:=x2.trans (x3.trans (x4.trans x5))
     refine⟨ha5,?_,m,Nat.lt_succ_self _,α5,h5,as++[y],⟨tr.toEx0.trans x6,fun p o z n=>?_,tr.new⟩,s5.heap.off soft hna5,((ra.ext (x3.trans (x4.trans x5))).append (.cons r5 .nil)).ex0 x6,a9,hna5,by rw[List.length_append];simp;omega,w5⟩
     ·rw[<- ra.length,sizeLine_eq];omega
     ·rw[aS (cc z hacc)];exact tr.keep p o z n
theorem pg2 {X:Cx} {x y:Str} {px py pt:Pos} {kt:Nat} (hc:X.calm=true) (hn:X.N.Nodup) (h0:X.N[0]?=some x) (h1:X.N[1]?=some y) (hx:Loc X.env.scope x/\X.env.scope.names.lookup x=some .local) (hy:Loc X.env.scope y/\X.env.scope.names.lookup y=some .local) :
  PG X (.Tuple [.Name x px,.Name y py] kt pt) (AJ X.K 2 (kJ (dE 0) (kJ (dE 1) B5))):=t_ hc (eV (bb hn h0 hx.1 (.inr hx.2)) (eV (bb hn h1 hy.1 (.inr hy.2)) n6))
theorem Cq {nl:NL} [jJ nl] {elt iter:Expr} {x y:Str} {px py pt:Pos} {kt:Nat} {ifs:List Expr} {scope osc:Scope} {pos:Pos} {mi:MI} {tt:MT} {te:ME} (ix:List Nat) (N':List Str)
  (hxe:X.xe=fun _ _=>False) (hc:X.calm=true) (ho:X.env.scope=osc) (hN:N'=[x,y]++ix.map fun i=>(X.N[i]?).getD ("" : Str)) (hnd:N'.Nodup)
  (hall:(∀y∈scope.names,y.2=.free->osc.names.lookup y.1=some .cell)/\(∀y∈scope.names,y.2≠.cell)/\scope.kind=.function/\(∀y∈scope.names,y.2=.local->scope.names.lookup y.1=some .local)/\(∀z∈N'.drop [x,y].length,scope.names.lookup z=some .free))
  (hi:PI X (.Tuple [.Name x px,.Name y py] kt pt) iter (tMI X.K g E00 mi))
  (hx:∀cl C aK aN fp,Loc (aY X scope cl C aK aN fp N').env.scope x/\(aY X scope cl C aK aN fp N').env.scope.names.lookup x=some .local) (hy:∀cl C aK aN fp,Loc (aY X scope cl C aK aN fp N').env.scope y/\(aY X scope cl C aK aN fp N').env.scope.names.lookup y=some .local)
  (ht:∀cl C aK aN fp,PTs (aY X scope cl C aK aN fp N') ifs (tMT X.K g E00 tt))
  (he:∀cl C aK aN fp,PE (aY X scope cl C aK aN fp N') elt (tM X.K g E00 te))
  (hs:∀x,foldedSetIterable iter X.env x=pure x:=by intro _;rfl) :
  PE X (.ListComp elt [⟨.Tuple [.Name x px,.Name y py] kt pt,iter,ifs,0⟩] scope pos) (tM X.K g E00 (dX nl mi ix (unp tt) (unp te))):=by
 refine PE.imp (PE.frz (uw (tgr:=AJ X.K 2 (kJ (dE 0) (kJ (dE 1) B5))) ix [x,y] N' hxe hc ho hN hnd hall hi (fun cl C aK aN fp=>pg2 (X:=aY X scope cl C aK aN fp N') hc hnd (show N'[0]?=some x by rw[hN];rfl) (show N'[1]?=some y by rw[hN];rfl) (hx cl C aK aN fp) (hy cl C aK aN fp)) ht he hs)) fun σ H Q t=>?_
 exact Ak (fun _ _ z=>z) t
end
noncomputable def sml (i:Int):Bool:=decide (i.natAbs<2 ^ 1900)
theorem i7 {i:Int} (h:sml i=true):Builtin.Int.intBits i<=1900:=by
 have h':i.natAbs<2 ^ 1900:=of_decide_eq_true h
 unfold Builtin.Int.intBits
 split
 ·omega
 ·rename_i z
  have z':i.natAbs≠0:=by
   intro q
   apply z
   have:i=0:=Int.natAbs_eq_zero.mp q
   rw[this];rfl
  have:=(Nat.log2_lt z').mpr h'
  omega
theorem D3 {i:Int} (h:sml i=true):i.natAbs.log2<1900:=by
 have h':i.natAbs<2 ^ 1900:=of_decide_eq_true h
 by_cases z:i.natAbs=0
 ·rw[z];decide
 ·exact(Nat.log2_lt z).mpr h'
theorem kl {i:Int} (h:i.natAbs<=10 ^ 560):sml i=true:=by
 refine decide_eq_true (Nat.lt_of_le_of_lt h (by decide +kernel))
section
variable {X:Cx} {K:PySem.W.Frag} {g:GG} {ε:EE}
theorem OpR.or {f:Value->Value->Sem Value} {r r':R2} (h:OpR X f r) (h':OpR X f r'):OpR X f (fun x y H Q=>r x y H Q\/r' x y H Q):=fun pins s σ H x y v u Q I rx ry q=>q.elim (h pins s σ H x y v u Q I rx ry) (h' pins s σ H x y v u Q I rx ry)
noncomputable def iO (d:D) (h:Hh):Option (List D):=match d with
 | .frl ds=>some ds
 | .ref n=>aM h n
 | _=>none
theorem wg {α:List Addr} {H:Hp} {h:Hh} {d:D} {x:V} {ds:List D} (r:aZ K g α H h) (rd:aP K g α H d x) (e:iO d h=some ds):∃p vs,x=.ref p/\Rd H p (.lst vs)/\aA K g α H ds vs:=by
 unfold iO at e
 cases rd with
 | frl hq rs=>cases e;exact⟨_,_,rfl,hq.rd,rs⟩
 | ref hp=>obtain⟨vs,hv,rs⟩:=r.lst e hp;exact⟨_,vs,rfl,.inl hv,rs⟩
 | _=>cases e
noncomputable def Fw:R2:=fun x y H Q=>∃l b xs zs,x=.ref l/\y=.ref b/\Rd H l (.lst xs)/\Rd H b (.lst zs)/\xs.length+zs.length<=sizeLine/\∀p,H p=none->Q (.ref p) (upd H p (.lst (xs++zs)))
theorem GU {X:Cx} {pins:List (Addr × Obj)} {σ:St} {H:Hp} {s:Shared} {l:Addr} {xs:List V} (I:Inv X pins σ H s) (h:Rd H l (.lst xs)):∃(its:List Value) (n:Nat),xs.length<=sizeLine/\Vals xs its/\xs.length=its.length/\s.heap.get? l=some { cls:=.type "list", data:=.seq its.toArray n }:=by
 obtain⟨z,its,n,r,e⟩:=h.ok I.hok
 exact⟨its,n,z,r,r.length,e⟩
theorem EC:OpR X (binaryOp .Add) Fw:=by
 intro pins s σ H x y v u Q I rx ry h
 obtain⟨l,b,xs,zs,rfl,rfl,hH,hB,hz,q⟩:=h
 cases rx
 cases ry
 obtain⟨its,n,z,r,hl,e⟩:=GU I hH
 obtain⟨its2,n2,z2,r2,hl2,e2⟩:=GU I hB
 refine PySem.P.add_list e e2 ?_ (by rw[List.size_toArray,List.size_toArray];omega)
 have ea:its.toArray++its2.toArray=(its++its2).toArray:=by simp
 rw[ea]
 exact⟨.ref _,_,I.D1 (t':=s.toks) (r.append r2) (by rw[List.length_append];omega),rfl,q _ I.fresh⟩
noncomputable def bj (nl:NL):D->D->Hh->R D:=fun x y h=>match x,y with
 | .int i,.int j=>.ok (.int (i+j)) h
 | .tup a,.tup b=>if a.length+b.length<=1000000 then .ok (.tup (a++b)) h else .bad
 | .str a,.str b=>if a.length+b.length<=1000000 then .ok (.str (a++b)) h else .bad
 | x,y=>match iO x h,iO y h with
  | some a,some b=>if a.length+b.length<=1000000 then nl (a++b) h else .bad
  | _,_=>.bad
noncomputable abbrev AI (K:PySem.W.Frag):R2:=fun x y H Q=>(rI0 fun i j=>.int (i+j)) x y H Q\/(Fg K x y H Q\/BD K x y H Q)\/Fw x y H Q\/∃i j,x=.str i/\y=.str j/\i.length+j.length<=sizeLine/\Q (.str (i++j)) H
theorem bf:OpR X (binaryOp .Add) (fun x y H Q=>AI X.K x y H (jc Q)):=OpR.frz (OpR.or Ge (OpR.or (OpR.or EI BZ) (OpR.or EC vT)))
theorem aX.ze {α:List Addr} {H:Hp} {h:Hh} {Q:VK} {d:D} {v:V} (p:aX K g α H Q d h) (r:aZ K g α H h) (rd:aP K g α H d v):jc Q v H:=.inl (p.now r rd)
theorem bg {nl:NL} [jJ nl]:eh K g ε (bj nl) (fun x y H Q=>AI K x y H (jc Q)):=by
 intro α H h a b x y Q r ra rb w
 have gen:∀{a b:D} {x y:V},aP K g α H a x->aP K g α H b y->WQ K g ε α H (match iO a h,iO b h with
  | some a,some b=>if a.length+b.length<=1000000 then nl (a++b) h else .bad
  | _,_=>.bad) (aX K g α H Q)->AI K x y H (jc Q):=by
  intro a b x y ra rb w
  cases e1:iO a h with
  | none=>simp only[e1] at w;exact w.elim
  | some da=>
   cases e2:iO b h with
   | none=>simp only[e1,e2] at w;exact w.elim
   | some db=>
    simp only[e1,e2] at w
    obtain⟨p,va,rfl,hva,rsa⟩:=wg r ra e1
    obtain⟨q,vb,rfl,hvb,rsb⟩:=wg r rb e2
    obtain⟨hl,w⟩:=WQ.f6 w
    refine .inr (.inr (.inl ⟨p,q,va,vb,rfl,rfl,hva,hvb,ip (by rw[<- rsa.length,<- rsb.length];exact hl),fun l hl'=>?_⟩))
    exact NL.post w r (rsa.append rsb) hl'
 unfold bj at w
 split at w
 ·cases ra
  cases rb
  exact .inl ⟨_,_,rfl,rfl,aX.ze w r (.int _)⟩
 ·cases ra with
  | @tup da pa va ha rsa=>
   cases rb with
   | @tup db pb vb hb rsb=>
    obtain⟨hl,w⟩:=WQ.f6 w
    refine .inr (.inl ?_)
    cases va with
    | nil=>
     cases rsa
     exact .inr ⟨_,_,_,rfl,rfl,SqT.of ha,SqT.of hb,aX.ze w r (.tup hb rsb)⟩
    | cons z zs=>
     refine .inl ⟨_,_,_,_,rfl,rfl,SqT.of ha,SqT.of hb,by simp,ip (by rw[<- rsa.length,<- rsb.length];exact hl),fun e=>?_,fun _ p hp=>.inl (aX.tup w r (rsa.append rsb) hp)⟩
     subst e
     cases rsb
     refine aX.ze w r (.tup ha ?_)
     rw[List.append_nil];exact rsa
 ·cases ra
  cases rb
  obtain⟨hl,w⟩:=WQ.f6 w
  exact .inr (.inr (.inr ⟨_,_,rfl,rfl,ip hl,aX.ze w r (.str _)⟩))
 ·exact gen ra rb w
noncomputable def eR:D->D->Hh->R D
 | .int i,.int j,h=>.ok (.int (i - j)) h
 | _,_,_=>.bad
theorem dJ:eh K g ε eR (rI0 fun i j=>.int (i - j)):=by
 intro α H h a b x y Q r ra rb w
 unfold eR at w
 cases ra with
 | int i=>
  cases rb with
  | int j=>exact⟨i,j,rfl,rfl,aX.now w r (.int _)⟩
  | _=>exact w.elim
 | _=>exact w.elim
noncomputable def FH:R2:=fun x y H Q=>∃l k xs,x=.ref l/\y=.int k/\Rd H l (.lst xs)/\-(2 ^ 63)<=k/\k<2 ^ 63/\xs.length*k.toNat<=sizeLine ∧
 ∀p,H p=none->Q (.ref p) (upd H p (.lst (List.replicate k.toNat xs).flatten))
theorem DM:OpR X (binaryOp .Mult) FH:=by
 intro pins s σ H x y v u Q I rx ry h
 obtain⟨l,k,xs,rfl,rfl,hH,h1,h2,hz,q⟩:=h
 cases rx
 obtain⟨t,rfl⟩:=ry
 obtain⟨its,n,z,r,hl,e⟩:=GU I hH
 have hlen:its.toArray.size*k.toNat<=sizeLine:=by rw[List.size_toArray,<- hl];exact hz
 have hcap:¬ its.toArray.size*k.toNat > (2 ^ 63 - 1) / 8:=by
  have:(sizeLine:Nat)<=(2 ^ 63 - 1) / 8:=by decide
  omega
 have hfit:¬ (!Builtin.List.listFitsIndex k)=true:=by
  rw[fitsIndex_both h1 h2]
  exact Bool.false_ne_true
 have hlong:¬ Builtin.List.listTooLong (its.toArray.size*k.toNat)=true:=by
  rw[AQ hlen]
  exact Bool.false_ne_true
 have hnew:List.foldl (fun x1 x2=>x1++x2) #[] (List.replicate (if its.toArray.isEmpty=true then 0 else k.toNat) its.toArray)=(List.replicate k.toNat its).flatten.toArray:=by
  have f0:∀m:Nat,List.foldl (fun x1 x2=>x1++x2) #[] (List.replicate m its.toArray)=(List.replicate m its).flatten.toArray:=fun m=>by
   have:=foldl_rep its m []
   rw[List.nil_append] at this
   exact this
  rw[f0]
  cases its with
  | nil=>simp
  | cons a r'=>rw[if_neg (by simp)]
 refine wpAny_binaryOp_repeat_ref (T:="list") (U:="int") (by decide) ⟨_,e,rfl⟩ (fun s'=>typeIs_int s' k t) noFill_list_mul F.fills_int_mul F.slot_int_rmul repeat_list F.slot_int_index.lookup
  (call_meets F.slot_int_rmul (typeIs_int s k t) F.entry_int_rmul (F.args_int_rmul_2 _ _) (int___rmul___int_list k t l its.toArray n)
   ⟨e,rfl,⟨_,e,rfl⟩,call_meets F.slot_list_mul ⟨_,e,rfl⟩ F.entry_list_mul (F.args_list_mul_2 _ _) (AutoListH.list___mul___list_int_3 l its.toArray n k t hfit hcap hlong) ⟨e,?_⟩⟩)
 rw[hnew]
 exact⟨.ref _,_,I.D1 (t':=s.toks) (r.rep k.toNat) (by rw[len_rep,Nat.mul_comm];exact hz),rfl,q _ I.fresh⟩
noncomputable def bJ (nl:NL):D->D->Hh->R D:=fun x y h=>match x,y with
 | .int i,.int j=>if sml i=true/\sml j=true then .ok (.int (i*j)) h else .bad
 | x,.int k=>match iO x h with
  | some ds=>if k.natAbs<=1000000/\ds.length*k.toNat<=1000000 then nl (List.replicate k.toNat ds).flatten h else .bad
  | none=>.bad
 | _,_=>.bad
theorem EM:OpR X (binaryOp .Mult) (rI (fun i j=>sml i=true/\sml j=true) fun i j=>.int (i*j)):=opI fun _ _ _ _ _ _ _ hc q=>mul_int q (IntMulOk.of_bits (Nat.le_trans (i7 hc.1) (by decide)) (Nat.le_trans (i7 hc.2) (by decide)))
noncomputable abbrev Aw:R2:=fun x y H Q=>(rI (fun i j=>sml i=true/\sml j=true) fun i j=>.int (i*j)) x y H Q\/FH x y H Q
theorem bL:OpR X (binaryOp .Mult) (fun x y H Q=>Aw x y H (jc Q)):=OpR.frz (OpR.or EM DM)
theorem bK {nl:NL} [jJ nl]:eh K g ε (bJ nl) (fun x y H Q=>Aw x y H (jc Q)):=by
 intro α H h a b x y Q r ra rb w
 have gen:∀{a:D} {k:Int} {x:V},aP K g α H a x->WQ K g ε α H (match iO a h with
  | some ds=>if k.natAbs<=1000000/\ds.length*k.toNat<=1000000 then nl (List.replicate k.toNat ds).flatten h else .bad
  | none=>.bad) (aX K g α H Q)->Aw x (.int k) H (jc Q):=by
  intro a k x ra w
  cases e1:iO a h with
  | none=>simp only[e1] at w;exact w.elim
  | some ds=>
   simp only[e1] at w
   obtain⟨hl,w⟩:=WQ.f6 w
   obtain⟨p,vs,rfl,hv,rs⟩:=wg r ra e1
   refine .inr ⟨p,k,vs,rfl,rfl,hv,by omega,by omega,ip (by rw[<- rs.length];exact hl.2),fun l hl'=>?_⟩
   exact NL.post w r (rs.flat k.toNat) hl'
 unfold bJ at w
 split at w
 ·cases ra
  cases rb
  obtain⟨hc,w⟩:=WQ.f6 w
  exact .inl ⟨_,_,rfl,rfl,hc,aX.ze w r (.int _)⟩
 ·cases rb
  exact gen ra w
 ·exact w.elim
noncomputable def lL:D->D->Hh->R D
 | .int i,.int j,h=>if 0<j/\sml j=true then .ok (.int (i / j)) h else .bad
 | _,_,_=>.bad
theorem ec:OpR X (binaryOp .FloorDiv) (rI (fun i j=>0<j/\sml j=true) fun i j=>.int (i / j)):=opI fun i j _ _ _ _ _ hc q=>by
 have e:i.fdiv j=i / j:=Int.fdiv_eq_ediv_of_nonneg _ (by omega)
 refine floordiv_int (by omega) ?_ (.inl (PyProof.noPylong_of_log2 (Nat.lt_trans (D3 hc.2) (by decide))))
 rw[e];exact q
theorem iQ:eh K g ε lL (rI (fun i j=>0<j/\sml j=true) fun i j=>.int (i / j)):=by
 intro α H h a b x y Q r ra rb w
 unfold lL at w
 cases ra with
 | int i=>
  cases rb with
  | int j=>
   obtain⟨hc,w⟩:=WQ.f6 w
   exact⟨i,j,rfl,rfl,hc,aX.now w r (.int _)⟩
  | _=>exact w.elim
 | _=>exact w.elim
noncomputable def h_:D->D->Hh->R D
 | .int i,.int j,h=>if 0<j then .ok (.int (i % j)) h else .bad
 | _,_,_=>.bad
theorem gG:eh K g ε h_ (rI (fun _ j=>0<j) fun i j=>.int (i % j)):=by
 intro α H h a b x y Q r ra rb w
 unfold h_ at w
 cases ra with
 | int i=>
  cases rb with
  | int j=>
   obtain⟨hc,w⟩:=WQ.f6 w
   exact⟨i,j,rfl,rfl,hc,aX.now w r (.int _)⟩
  | _=>exact w.elim
 | _=>exact w.elim
noncomputable def E9:D->D->Hh->R D
 | .int i,.int j,h=>if 0<=j/\j.natAbs<=1000/\sml i=true then .ok (.int (i ^ j.toNat)) h else .bad
 | _,_,_=>.bad
theorem Ey:OpR X (binaryOp .Pow) (rI (fun i j=>0<=j/\j.natAbs<=1000/\sml i=true) fun i j=>.int (i ^ j.toNat)):=opI fun i j _ _ _ _ _ hc q=>pow_int hc.1 (by
 have:=i7 hc.2.2
 have h1:((Builtin.Int.intBits i:Nat):Int)<=1900:=by exact_mod_cast this
 calc ((Builtin.Int.intBits i:Nat):Int)*j<=1900*j:=Int.mul_le_mul_of_nonneg_right h1 hc.1
  _<=1900*1000:=Int.mul_le_mul_of_nonneg_left (show j<=1000 by have:=hc.2.1;omega) (by decide)
  _<=2 ^ 27:=by decide) q
theorem F1:eh K g ε E9 (rI (fun i j=>0<=j/\j.natAbs<=1000/\sml i=true) fun i j=>.int (i ^ j.toNat)):=by
 intro α H h a b x y Q r ra rb w
 unfold E9 at w
 cases ra with
 | int i=>
  cases rb with
  | int j=>
   obtain⟨hc,w⟩:=WQ.f6 w
   exact⟨i,j,rfl,rfl,hc,aX.now w r (.int _)⟩
  | _=>exact w.elim
 | _=>exact w.elim
noncomputable def vN:D->Hh->R D
 | .int i,h=>.ok (.int (-i)) h
 | _,_=>.bad
theorem sG:IU K g ε vN (rU fun i=>.int (-i)):=by
 intro α H h a x Q r ra w
 unfold vN at w
 cases ra with
 | int i=>exact⟨i,rfl,aX.now w r (.int _)⟩
 | _=>exact w.elim
noncomputable def zY (p:Int->Int->Bool):D->D->Hh->R D
 | .int i,.int j,h=>.ok (.bl (p i j)) h
 | _,_,_=>.bad
noncomputable def ltI:Int->Int->Bool
 | .ofNat a,.ofNat b=>Nat.blt a b
 | .ofNat _,.negSucc _=>false
 | .negSucc _,.ofNat _=>true
 | .negSucc a,.negSucc b=>Nat.blt b a
theorem pe:ltI=fun i j=>decide (i<j):=by
 funext i j
 cases i with
 | ofNat a=>
  cases j with
  | ofNat b=>
   show Nat.blt a b=_
   rw[Bool.eq_iff_iff,Nat.blt_eq,decide_eq_true_iff]
   exact Int.ofNat_lt.symm
  | negSucc b=>exact(decide_eq_false (by have:Int.ofNat a=(a:Int):=rfl;omega)).symm
 | negSucc a=>
  cases j with
  | ofNat b=>exact(decide_eq_true (by have:Int.ofNat b=(b:Int):=rfl;omega)).symm
  | negSucc b=>
   show Nat.blt b a=_
   rw[Bool.eq_iff_iff,Nat.blt_eq,decide_eq_true_iff]
   omega
noncomputable def leI (i j:Int):Bool:=!ltI j i
theorem rM:leI=fun i j=>decide (i<=j):=by
 funext i j
 unfold leI
 rw[pe,Bool.eq_iff_iff]
 simp
noncomputable def dLt:D->D->Hh->R D:=zY ltI
noncomputable def dLe:D->D->Hh->R D:=zY leI
noncomputable def dGt:D->D->Hh->R D:=zY fun i j=>ltI j i
noncomputable def dGe:D->D->Hh->R D:=zY fun i j=>leI j i
theorem se {p:Int->Int->Bool}:eh K g ε (zY p) (rI0 fun i j=>.bl (p i j)):=by
 intro α H h a b x y Q r ra rb w
 unfold zY at w
 cases ra with
 | int i=>
  cases rb with
  | int j=>exact⟨i,j,rfl,rfl,aX.now w r (.bl _)⟩
  | _=>exact w.elim
 | _=>exact w.elim
theorem FG:eh K g ε dLt (rI0 fun i j=>.bl (decide (i<j))):=by
 unfold dLt;rw[pe];exact se
theorem rl:eh K g ε dLe (rI0 fun i j=>.bl (decide (i<=j))):=by
 unfold dLe;rw[rM];exact se
theorem x9:eh K g ε dGt (rI0 fun i j=>.bl (decide (j<i))):=by
 unfold dGt;rw[pe];exact se
theorem Jn:eh K g ε dGe (rI0 fun i j=>.bl (decide (j<=i))):=by
 unfold dGe;rw[rM];exact se
noncomputable def jT (d:D) (h:Hh):Option (List D):=match d with
 | .tup ds=>some ds
 | .frl ds=>some ds
 | .scr ds=>some ds
 | .ref n=>aM h n
 | _=>none
theorem yJ {α:List Addr} {H:Hp} {h:Hh} {d:D} {x:V} {ds:List D} (r:aZ K g α H h) (rd:aP K g α H d x) (e:jT d h=some ds):∃p vs,x=.ref p/\(SqL K H p vs\/SqT K H p vs)/\aA K g α H ds vs:=by
 unfold jT at e
 cases rd with
 | tup hq rs=>cases e;exact⟨_,_,rfl,.inr (SqT.of hq),rs⟩
 | frl hq rs=>cases e;exact⟨_,_,rfl,.inl hq.sq,rs⟩
 | scr hq rs=>cases e;exact⟨_,_,rfl,.inl hq.sq,rs⟩
 | ref hp=>obtain⟨vs,hv,rs⟩:=r.lst e hp;exact⟨_,vs,rfl,.inl (SqL.of hv),rs⟩
 | _=>cases e
noncomputable def dIx:D->D->Hh->R D:=fun a b h=>match jT a h,b with
 | some ds,.int i=>match atI ds i with
  | some d=>.ok d h
  | none=>.bad
 | _,_=>.bad
theorem yt {α:List Addr} {H:Hp} {ds:List D} {vs:List V} {i:Int} {d:D} (rs:aA K g α H ds vs) (e:atI ds i=some d):∃v,atI vs i=some v/\aP K g α H d v:=by
 unfold atI at e ⊢
 rw[<- rs.length]
 cases e1:ixN ds.length i with
 | none=>rw[e1] at e;cases e
 | some j=>
  rw[e1] at e
  exact rs.get e
theorem cK:eh K g ε dIx (rIx K):=by
 intro α H h a b x y Q r ra rb w
 unfold dIx at w
 cases e1:jT a h with
 | none=>simp only[e1] at w;exact w.elim
 | some ds=>
  simp only[e1] at w
  obtain⟨p,vs,rfl,hq,rs⟩:=yJ r ra e1
  cases rb with
  | int i=>
   cases e2:atI ds i with
   | none=>simp only[e2] at w;exact w.elim
   | some d=>
    simp only[e2] at w
    obtain⟨v,ev,rv⟩:=yt rs e2
    rcases hq with hq | hq
    ·exact .inl ⟨p,vs,i,v,rfl,rfl,hq,ev,aX.now w r rv⟩
    ·exact .inr (.inl ⟨p,vs,i,v,rfl,rfl,hq,ev,aX.now w r rv⟩)
  | _=>exact w.elim
noncomputable def iz:D->D->D->Hh->R Unit:=fun o i v h=>match o,i with
 | .ref n,.int k=>match aM h n with
  | some ds=>match ixN ds.length k with
   | some j=>.ok () (h.set n (.lst (ds.set j v)))
   | none=>.bad
  | none=>.bad
 | _,_=>.bad
theorem o_:Ju K g ε iz Fm:=by
 intro α H h o i v x y z Q r ro ri rv w
 unfold iz at w
 cases ro with
 | @ref n p hp=>
  cases ri with
  | int k=>
   cases e1:aM h n with
   | none=>simp only[e1] at w;exact w.elim
   | some ds=>
    simp only[e1] at w
    cases e2:ixN ds.length k with
    | none=>simp only[e2] at w;exact w.elim
    | some j=>
     simp only[e2] at w
     obtain⟨vs,hv,rs⟩:=r.lst e1 hp
     refine⟨p,vs,k,j,rfl,rfl,hv,by rw[<- rs.length];exact e2,?_⟩
     have x:=Ext.write (o:=.lst (vs.set j z)) r hp
     exact w _ α x (r.write hp ⟨_,a9,(rs.set rv j).ext x⟩)
  | _=>exact w.elim
 | _=>exact w.elim
noncomputable def cutD (xs:List D) (lo hi:Option Int):List D:=(xs.drop (HT.sIx xs.length 0 lo)).take (HT.sIx xs.length xs.length hi - HT.sIx xs.length 0 lo)
theorem lC {α:List Addr} {H:Hp} {ds:List D} {vs:List V} (rs:aA K g α H ds vs) (lo hi:Option Int):aA K g α H (cutD ds lo hi) (pZ vs lo hi):=by
 unfold cutD pZ
 rw[<- rs.length]
 exact(rs.drop _).take _
noncomputable abbrev MO:=En->Hh->R (Option Int)
noncomputable def r8:MO:=fun _ h=>.ok none h
noncomputable def gW (a:ME):MO:=fun env h=>(a env h).bind fun d h1=>match d with
 | .int i=>.ok (some i) h1
 | _=>.bad
noncomputable def tMO (K:PySem.W.Frag) (g:GG) (ε:EE) (m:MO):TO:=fun σ H Q=>∃α env h,dk K g α H env σ h/\WQ K g ε α H (m env h) fun o h'=>∀H' α',Ext K α H α' H'->aZ K g α' H' h'->Q o H'
theorem PO.imp {e:Option Expr} {t t':TO} (h:PO X e t) (i:∀σ H Q,t' σ H Q->t σ H Q):PO X e t':=fun pins s σ H Q I w=>h pins s σ H Q I (i σ H Q w)
theorem DB:PO X none (tMO X.K g ε r8):=PO.imp EO fun σ H Q ⟨α,env,h,s,w⟩=>w H α Ext.refl s.heap
theorem iB {e:Expr} {me:ME} (he:PE X e (tM X.K g ε me)):PO X (some e) (tMO X.K g ε (gW me)):=PO.imp (EL he) fun σ H Q ⟨α,env,h,s,w⟩=>tM.use s w.bind fun d1 h1 v1 H1 α1 e1 s1 r1 w1=>by
 cases r1 with
 | int i=>exact⟨i,rfl,w1 H1 α1 e1 s1.heap⟩
 | _=>exact w1.elim
noncomputable def uW (nl:NL):D->Option Int->Option Int->Hh->R D:=fun d lo hi h=>match d with
 | .tup ds=>.ok (.tup (cutD ds lo hi)) h
 | .frl ds=>nl (cutD ds lo hi) h
 | .scr ds=>nl (cutD ds lo hi) h
 | .ref n=>match aM h n with
  | some ds=>nl (cutD ds lo hi) h
  | none=>.bad
 | _=>.bad
noncomputable def i4 (nl:NL) (a:ME) (l u:MO):ME:=fun env h=>(a env h).bind fun x h1=>(l env h1).bind fun lo h2=>(u env h2).bind fun hi h3=>uW nl x lo hi h3
theorem tMO.use {α:List Addr} {H:Hp} {env:En} {σ:St} {h:Hh} {m:MO} {Q:Option Int->Hp->Prop} {k:Option Int->Hh->Prop} (s:dk K g α H env σ h) (w:WQ K g ε α H (m env h) k)
  (q:∀d h' H' α',Ext K α H α' H'->dk K g α' H' env σ h'->k d h'->Q d H'):tMO K g ε m σ H Q:=
 ⟨α,env,h,s,w.mono fun d h' _ kk H' α' e r=>q d h' H' α' e (s.ext e r) kk⟩
theorem kW {nl:NL} [jJ nl] {e:Expr} {me:ME} {lo hi:Option Expr} {ml mh:MO} {p2 pos:Pos} (he:PE X e (tM X.K g ε me)) (hl:PO X lo (tMO X.K g ε ml)) (hu:PO X hi (tMO X.K g ε mh)):PE X (.Subscript e (.Slice lo hi none p2) pos) (tM X.K g ε (i4 nl me ml mh)):=
 PE.imp (PE.frz (AX (SlR.or DF (SlR.or Hz Ef)) he hl hu)) fun σ H Q ⟨α,env,h,s,w⟩=>tM.use s w.bind fun d1 h1 v1 H1 α1 e1 s1 r1 w1=>tMO.use s1 (w1.ext e1).bind fun o2 h2 H2 α2 e2 s2 w2=>tMO.use s2 (w2.ext e2).bind fun o3 h3 H3 α3 e3 s3 w3=>by
  have tr:=e1.trans (e2.trans e3)
  have r3:=r1.ext (e2.trans e3)
  have w4:=(w3.ext e3).mono fun _ _ _ p=>aX.ext tr p
  unfold uW at w4
  cases r3 with
  | @frl ds p vs hq rs=>exact .inl ⟨_,_,rfl,hq.sq,fun l hl=>NL.post w4 s3.heap (lC rs _ _) hl⟩
  | @scr ds p vs hq rs=>exact .inl ⟨_,_,rfl,hq.sq,fun l hl=>NL.post w4 s3.heap (lC rs _ _) hl⟩
  | @ref n p hp=>
   cases e1:aM h3 n with
   | none=>simp only[e1] at w4;exact w4.elim
   | some ds=>
    simp only[e1] at w4
    obtain⟨vs,hv,rs⟩:=s3.heap.lst e1 hp
    exact .inl ⟨_,_,rfl,SqL.of hv,fun l hl=>NL.post w4 s3.heap (lC rs _ _) hl⟩
  | @tup ds p vs hq rs=>
   refine .inr ?_
   by_cases hw:HT.sIx vs.length 0 o2=0/\HT.sIx vs.length vs.length o3=vs.length
   ·refine .inr ⟨_,_,rfl,SqT.of hq,hw.1,hw.2,?_⟩
    refine aX.ze w4 s3.heap (.tup hq ?_)
    have:pZ vs o2 o3=vs:=by unfold pZ;rw[hw.1,hw.2];simp
    have q:=lC rs o2 o3
    rw[this] at q
    exact q
   ·exact .inl ⟨_,_,rfl,SqT.of hq,hw,fun l hl=>.inl (aX.tup w4 s3.heap (lC rs _ _) hl)⟩
  | _=>exact w4.elim
end
noncomputable def uR:D->Bool
 | .non=>true | .bl _=>true | .int _=>true | .str _=>true
 | _=>false
noncomputable def eqF:D->D->Bool
 | .non,.non=>true
 | .bl a,.bl b=>a == b
 | .bl a,.int b=>(if a then 1 else 0) == b
 | .int a,.bl b=>a == (if b then 1 else 0)
 | .int a,.int b=>a == b
 | .str a,.str b=>a == b
 | _,_=>false
noncomputable def eqL (f:D->D->Option Bool):List D->List D->Option Bool
 | x::xs,y::ys=>match f x y,eqL f xs ys with
  | some b,some c=>some (b&&c)
  | _,_=>none
 | [],[]=>some true
 | _,_=>some false
inductive Vw where
 | fl | tp (ds:List D) | ls (ds:List D) | no
noncomputable def vw (d:D) (h:Hh):Vw:=match d with
 | .non=>.fl | .bl _=>.fl | .int _=>.fl | .str _=>.fl
 | .tup ds=>.tp ds
 | .frl ds=>.ls ds
 | .scr ds=>.ls ds
 | .ref n=>match aM h n with
  | some ds=>.ls ds
  | none=>.no
 | _=>.no
noncomputable def eqD:Nat->Hh->D->D->Option Bool
 | 0,_,_,_=>none
 | k+1,h,a,b=>match vw a h,vw b h with
  | .fl,.fl=>some (eqF a b)
  | .tp xs,.tp ys=>eqL (eqD k h) xs ys
  | .ls xs,.ls ys=>if xs.length=ys.length then eqL (eqD k h) xs ys else some false
  | .fl,.tp _=>some false
  | .fl,.ls _=>some false
  | .tp _,.fl=>some false
  | .tp _,.ls _=>some false
  | .ls _,.fl=>some false
  | .ls _,.tp _=>some false
  | _,_=>none
section
variable {K:PySem.W.Frag} {g:GG} {α:List Addr} {H:Hp} {h:Hh}
theorem pH {f:D->D->Option Bool} (hf:∀a b x c,aP K g α H a x->aP K g α H b x->f a b=some c->c=true):∀{xs ys:List D} {vs:List V} {c:Bool},aA K g α H xs vs->aA K g α H ys vs->eqL f xs ys=some c->c=true
 | _,_,_,_,.nil,.nil,e=>by simp[eqL] at e;exact e
 | _,_,_,c,.cons r t,.cons r' t',e=>by
  unfold eqL at e
  split at e
  ·rename_i b c' h1 h2
   have e1:=hf _ _ _ _ r r' h1
   have e2:=pH hf t t' h2
   subst e1 e2
   exact(Option.some.inj e).symm
  ·cases e
theorem mG {d:D} {x:V} (rd:aP K g α H d x) (e:vw d h=.fl):uR d=true:=by
 cases rd with
 | ref hp=>unfold vw at e;simp only at e;split at e<;>cases e
 | _=>first | rfl | cases e
theorem mM {d:D} {x:V} {ds:List D} (rd:aP K g α H d x) (e:vw d h=.tp ds):∃p vs,x=.ref p/\SqT K H p vs/\aA K g α H ds vs:=by
 cases rd with
 | tup hp rs=>cases e;exact⟨_,_,rfl,SqT.of hp,rs⟩
 | ref hp=>unfold vw at e;simp only at e;split at e<;>cases e
 | _=>cases e
theorem mW {d:D} {x:V} {ds:List D} (r:aZ K g α H h) (rd:aP K g α H d x) (e:vw d h=.ls ds):∃p vs,x=.ref p/\SqL K H p vs/\aA K g α H ds vs:=by
 cases rd with
 | frl hp rs=>cases e;exact⟨_,_,rfl,hp.sq,rs⟩
 | scr hp rs=>cases e;exact⟨_,_,rfl,hp.sq,rs⟩
 | @ref n p hp=>
  unfold vw at e
  simp only at e
  cases el:aM h n with
  | none=>rw[el] at e;cases e
  | some ds'=>
   rw[el] at e;cases e
   obtain⟨vs,hv,rs⟩:=r.lst el hp
   exact⟨_,_,rfl,SqL.of hv,rs⟩
 | _=>cases e
theorem xD {f:D->D->Option Bool}:∀{xs ys:List D} {c:Bool},eqL f xs ys=some c →
  (∀(j:Nat) (x y:D),xs[j]?=some x->ys[j]?=some y->∃b,f x y=some b)/\c=((List.range (min xs.length ys.length)).all (fun j=>((f (xs.getD j .non) (ys.getD j .non)).getD false))&&xs.length == ys.length)
 | [],[],c,e=>by
  simp[eqL] at e
  refine⟨fun j x y h=>by simp at h,?_⟩
  simp[<- e]
 | [],_::_,c,e=>by
  simp[eqL] at e
  exact⟨fun j x y h=>by simp at h,by simp[<- e]⟩
 | _::_,[],c,e=>by
  simp[eqL] at e
  exact⟨fun j x y _ h=>by simp at h,by simp[<- e]⟩
 | x::xs,y::ys,c,e=>by
  unfold eqL at e
  split at e
  ·rename_i b c' h1 h2
   obtain⟨q1,q2⟩:=xD h2
   refine⟨fun j x' y' hx hy=>?_,?_⟩
   ·cases j with
    | zero=>simp at hx hy;subst hx hy;exact⟨b,h1⟩
    | succ j=>exact q1 j x' y' (by simpa using hx) (by simpa using hy)
   ·have e':=(Option.some.inj e).symm
    rw[e',q2]
    have hm:min (x::xs).length (y::ys).length=min xs.length ys.length+1:=by simp[Nat.succ_min_succ]
    rw[hm,List.range_succ_eq_map,List.all_cons,List.all_map]
    have h0:(f ((x::xs).getD 0 .non) ((y::ys).getD 0 .non)).getD false=b:=by
     show(f x y).getD false=b
     rw[h1];rfl
    rw[h0]
    have hlen:((x::xs).length == (y::ys).length)=(xs.length == ys.length):=by simp
    rw[hlen,Bool.and_assoc]
    rfl
  ·cases e
end
section
variable {X:Cx} {g:GG} {pins:List (Addr × Obj)} {σ:St} {H:Hp} {s:Shared} {α:List Addr} {h:Hh}
open PySem.SeqAt
theorem Ee {A:Around} {a b:D} {x y:V} {u v:Value} {K:PySem.W.Frag} (ra:aP K g α H a x) (rb:aP K g α H b y) (ru:RelV x u) (rv:RelV y v) (fa:uR a=true) (fb:uR b=true) :
  EqAt A s u v (eqF a b)/\RcAt A s u v (eqF a b)/\RcNeAt A s u v (!eqF a b):=by
 cases ra with
 | non=>
  cases ru
  cases rb with
  | non=>cases rv;exact⟨.same _,.none_none,.none_none⟩
  | bl z=>cases rv;exact⟨.none_bool z,.none_bool z,.none_bool z⟩
  | int z=>obtain⟨t,rfl⟩:=rv;exact⟨.none_int z t,.none_int z t,.none_int z t⟩
  | str z=>obtain⟨t,rfl⟩:=rv;exact⟨.none_str z t,.none_str z t,.none_str z t⟩
  | _=>cases fb
 | bl q=>
  cases ru
  cases rb with
  | non=>cases rv;exact⟨.bool_none q,.bool_none q,.bool_none q⟩
  | bl z=>cases rv;exact⟨.bool_bool q z,.bool_bool q z,.bool_bool q z⟩
  | int z=>obtain⟨t,rfl⟩:=rv;exact⟨.bool_int q z t,.bool_int q z t,.bool_int q z t⟩
  | str z=>obtain⟨t,rfl⟩:=rv;exact⟨.bool_str q z t,.bool_str q z t,.bool_str q z t⟩
  | _=>cases fb
 | int q=>
  obtain⟨t',rfl⟩:=ru
  cases rb with
  | non=>cases rv;exact⟨.int_none q t',.int_none q t',.int_none q t'⟩
  | bl z=>cases rv;exact⟨.int_bool q t' z,.int_bool q t' z,.int_bool q t' z⟩
  | int z=>obtain⟨t,rfl⟩:=rv;exact⟨.int_int q t' z t,.int_int q t' z t,.int_int q t' z t⟩
  | str z=>obtain⟨t,rfl⟩:=rv;exact⟨.int_str q t' z t,.int_str q t' z t,.int_str q t' z t⟩
  | _=>cases fb
 | str q=>
  obtain⟨t',rfl⟩:=ru
  cases rb with
  | non=>cases rv;exact⟨.str_none q t',.str_none q t',.str_none q t'⟩
  | bl z=>cases rv;exact⟨.str_bool q t' z,.str_bool q t' z,.str_bool q t' z⟩
  | int z=>obtain⟨t,rfl⟩:=rv;exact⟨.str_int q t' z t,.str_int q t' z t,.str_int q t' z t⟩
  | str z=>obtain⟨t,rfl⟩:=rv;exact⟨.str_str q t' z t,.str_str q t' z t,.str_str q t' z t⟩
  | _=>cases fb
 | _=>cases fa
theorem vx {A:Around} {b:D} {y:V} {v:Value} {p:Addr} {its:Array Value} {K:PySem.W.Frag} (ht:s.heap.IsTuple p its) (hu:A.units<cLine) (rb:aP K g α H b y) (rv:RelV y v) (fb:uR b=true) :
  (EqAt A s (.ref p) v false/\RcAt A s (.ref p) v false/\RcNeAt A s (.ref p) v true)/\(EqAt A s v (.ref p) false/\RcAt A s v (.ref p) false/\RcNeAt A s v (.ref p) true):=by
 cases rb with
 | non=>cases rv;exact⟨⟨.tuple_none ht hu,.tuple_none ht hu,.tuple_none ht hu⟩,.none_tuple ht hu,.none_tuple ht hu,.none_tuple ht hu⟩
 | bl z=>cases rv;exact⟨⟨.tuple_bool z ht hu,.tuple_bool z ht hu,.tuple_bool z ht hu⟩,.bool_tuple z ht hu,.bool_tuple z ht hu,.bool_tuple z ht hu⟩
 | int z=>obtain⟨t,rfl⟩:=rv;exact⟨⟨.tuple_int z t ht hu,.tuple_int z t ht hu,.tuple_int z t ht hu⟩,.int_tuple z t ht hu,.int_tuple z t ht hu,.int_tuple z t ht hu⟩
 | str z=>obtain⟨t,rfl⟩:=rv;exact⟨⟨.tuple_str z t ht hu,.tuple_str z t ht hu,.tuple_str z t ht hu⟩,.str_tuple z t ht hu,.str_tuple z t ht hu,.str_tuple z t ht hu⟩
 | _=>cases fb
theorem uF {A:Around} {b:D} {y:V} {v:Value} {p:Addr} {its:Array Value} {K:PySem.W.Frag} (ht:s.heap.IsList p its) (hu:A.units<cLine) (rb:aP K g α H b y) (rv:RelV y v) (fb:uR b=true) :
  (EqAt A s (.ref p) v false/\RcAt A s (.ref p) v false/\RcNeAt A s (.ref p) v true)/\(EqAt A s v (.ref p) false/\RcAt A s v (.ref p) false/\RcNeAt A s v (.ref p) true):=by
 cases rb with
 | non=>cases rv;exact⟨⟨.list_none ht hu,.list_none ht hu,.list_none ht hu⟩,.none_list ht hu,.none_list ht hu,.none_list ht hu⟩
 | bl z=>cases rv;exact⟨⟨.list_bool z ht hu,.list_bool z ht hu,.list_bool z ht hu⟩,.bool_list z ht hu,.bool_list z ht hu,.bool_list z ht hu⟩
 | int z=>obtain⟨t,rfl⟩:=rv;exact⟨⟨.list_int z t ht hu,.list_int z t ht hu,.list_int z t ht hu⟩,.int_list z t ht hu,.int_list z t ht hu,.int_list z t ht hu⟩
 | str z=>obtain⟨t,rfl⟩:=rv;exact⟨⟨.list_str z t ht hu,.list_str z t ht hu,.list_str z t ht hu⟩,.str_list z t ht hu,.str_list z t ht hu,.str_list z t ht hu⟩
 | _=>cases fb
theorem uU {A:Around} {k:Nat} {ds es:List D} {vs us:List V} {its jts:List Value} {c:Bool} (r:aZ X.K g α H h)
  (ih:∀(a b:D) (x y:V) (u v:Value) (c:Bool),aP X.K g α H a x->aP X.K g α H b y->RelV x u->RelV y v->eqD k h a b=some c->EqAt A.in1 s u v c)
  (rs:aA X.K g α H ds vs) (rt:aA X.K g α H es us) (rv:Vals vs its) (ru:Vals us jts) (e:eqL (eqD k h) ds es=some c) :
  (∀j (h1:j<its.toArray.size) (h2:j<jts.toArray.size),EqAt A.in1 s its.toArray[j] jts.toArray[j] ((fun(j:Nat)=>(eqD k h (ds.getD j .non) (es.getD j .non)).getD false) j)) ∧
  c=((List.range (min its.toArray.size jts.toArray.size)).all (fun(j:Nat)=>(eqD k h (ds.getD j .non) (es.getD j .non)).getD false)&&its.toArray.size == jts.toArray.size):=by
 obtain⟨q1,q2⟩:=xD e
 have l1:its.toArray.size=ds.length:=by rw[List.size_toArray,<- rv.length,rs.length]
 have l2:jts.toArray.size=es.length:=by rw[List.size_toArray,<- ru.length,rt.length]
 refine⟨fun j h1 h2=>?_,by rw[l1,l2];exact q2⟩
 have hd:ds[j]?=some (ds.getD j .non):=by rw[List.getD_eq_getElem?_getD,List.getElem?_eq_getElem (by omega)];rfl
 have he:es[j]?=some (es.getD j .non):=by rw[List.getD_eq_getElem?_getD,List.getElem?_eq_getElem (by omega)];rfl
 obtain⟨b,hb⟩:=q1 j _ _ hd he
 obtain⟨x,hx,rx⟩:=rs.get hd
 obtain⟨y,hy,ry⟩:=rt.get he
 obtain⟨u,hu,rxu⟩:=rv.get hx
 obtain⟨v,hv,ryv⟩:=ru.get hy
 have eu:its.toArray[j]=u:=by
  have:=List.getElem?_eq_getElem (l:=its) (i:=j) (by simpa using h1)
  rw[hu] at this
  simpa using(Option.some.inj this).symm
 have ev:jts.toArray[j]=v:=by
  have:=List.getElem?_eq_getElem (l:=jts) (i:=j) (by simpa using h2)
  rw[hv] at this
  simpa using(Option.some.inj this).symm
 rw[eu,ev]
 show EqAt A.in1 s u v ((eqD k h (ds.getD j .non) (es.getD j .non)).getD false)
 rw[hb]
 exact ih _ _ _ _ _ _ _ rx ry rxu ryv hb
theorem yA (I:Inv X pins σ H s) {p:Addr} {vs us:List V} (a:SqT X.K H p vs) (b:SqL X.K H p us):False:=by
 obtain⟨its,r1,⟨o,e,c,_⟩,_⟩:=I.tuple a
 obtain⟨jts,r2,⟨o',n',e',c',_⟩,_⟩:=I.list b
 rw[e] at e';cases e';rw[c] at c';injection c' with z;exact absurd z (by decide)
theorem oz (I:Inv X pins σ H s) (r:aZ X.K g α H h):∀(k:Nat) (a b:D) (x:V) (c:Bool),aP X.K g α H a x->aP X.K g α H b x->eqD k h a b=some c->c=true
 | 0,_,_,_,_,_,_,e=>by cases e
 | k+1,a,b,x,c,ra,rb,e=>by
  unfold eqD at e
  cases ea:vw a h with
  | no=>simp[ea] at e
  | fl=>
   have fa:=mG ra ea
   cases eb:vw b h with
   | no=>simp[ea,eb] at e
   | fl=>
    simp only[ea,eb] at e
    cases e
    have fb:=mG rb eb
    cases ra with
    | non=>cases rb with
     | non=>rfl
    | bl z=>cases rb with
     | bl _=>simp[eqF]
    | int z=>cases rb with
     | int _=>simp[eqF]
    | str z=>cases rb with
     | str _=>simp[eqF]
    | _=>cases fa
   | tp ds=>obtain⟨p,vs,rfl,_⟩:=mM rb eb;cases ra<;>cases fa
   | ls ds=>obtain⟨p,vs,rfl,_⟩:=mW r rb eb;cases ra<;>cases fa
  | tp da=>
   obtain⟨p,va,rfl,hp,rs⟩:=mM ra ea
   cases eb:vw b h with
   | no=>simp[ea,eb] at e
   | fl=>have fb:=mG rb eb;cases rb<;>cases fb
   | tp db=>
    simp only[ea,eb] at e
    obtain⟨q,vb,hpq,hq,rt⟩:=mM rb eb
    cases hpq
    have:=I.gZ hp hq
    subst this
    exact pH (fun a b x c=>oz I r k a b x c) rs rt e
   | ls db=>
    obtain⟨q,vb,hpq,hq,rt⟩:=mW r rb eb
    cases hpq
    exact(yA I hp hq).elim
  | ls da=>
   obtain⟨p,va,rfl,hp,rs⟩:=mW r ra ea
   cases eb:vw b h with
   | no=>simp[ea,eb] at e
   | fl=>have fb:=mG rb eb;cases rb<;>cases fb
   | tp db=>
    obtain⟨q,vb,hpq,hq,rt⟩:=mM rb eb
    cases hpq
    exact(yA I hq hp).elim
   | ls db=>
    simp only[ea,eb] at e
    obtain⟨q,vb,hpq,hq,rt⟩:=mW r rb eb
    cases hpq
    have:=I.jv hp hq
    subst this
    rw[if_pos (by rw[rs.length,rt.length])] at e
    exact pH (fun a b x c=>oz I r k a b x c) rs rt e
theorem wM (I:Inv X pins σ H s) (r:aZ X.K g α H h):∀(k:Nat) (A:Around) (a b:D) (x y:V) (u v:Value) (c:Bool),A.units+k<cLine->aP X.K g α H a x->aP X.K g α H b y->RelV x u->RelV y v->eqD k h a b=some c →
  EqAt A s u v c/\RcAt A s u v c/\RcNeAt A s u v (!c)
 | 0,_,_,_,_,_,_,_,_,_,_,_,_,_,e=>by cases e
 | k+1,A,a,b,x,y,u,v,c,hu,ra,rb,ru,rv,e=>by
  have hu0:A.units<cLine:=by omega
  have ih:∀(a b:D) (x y:V) (u v:Value) (c:Bool),aP X.K g α H a x->aP X.K g α H b y->RelV x u->RelV y v->eqD k h a b=some c->EqAt A.in1 s u v c:=
   fun a b x y u v c h1 h2 h3 h4 h5=>(wM I r k A.in1 a b x y u v c (by show A.units+1+k<_;omega) h1 h2 h3 h4 h5).1
  have whole:=fun x ra rb=>oz I r (k+1) a b x c ra rb e
  unfold eqD at e
  cases ea:vw a h with
  | no=>simp[ea] at e
  | fl=>
   have fa:=mG ra ea
   cases eb:vw b h with
   | no=>simp[ea,eb] at e
   | fl=>simp only[ea,eb] at e;cases e;exact Ee ra rb ru rv fa (mG rb eb)
   | tp db=>
    simp only[ea,eb] at e;cases e
    obtain⟨q,vb,rfl,hq,rt⟩:=mM rb eb
    cases rv
    obtain⟨its,r1,ht,_⟩:=I.tuple hq
    exact(vx ht hu0 ra ru fa).2
   | ls db=>
    simp only[ea,eb] at e;cases e
    obtain⟨q,vb,rfl,hq,rt⟩:=mW r rb eb
    cases rv
    obtain⟨its,r1,ht,_⟩:=I.list hq
    exact(uF ht.isList hu0 ra ru fa).2
  | tp da=>
   obtain⟨p,va,rfl,hp,rs⟩:=mM ra ea
   cases ru
   obtain⟨its,r1,ht,_⟩:=I.tuple hp
   cases eb:vw b h with
   | no=>simp[ea,eb] at e
   | fl=>simp only[ea,eb] at e;cases e;exact(vx ht hu0 rb rv (mG rb eb)).1
   | tp db=>
    simp only[ea,eb] at e
    obtain⟨q,vb,rfl,hq,rt⟩:=mM rb eb
    cases rv
    obtain⟨jts,r2,ht2,_⟩:=I.tuple hq
    obtain⟨h1,h2⟩:=uU r ih rs rt r1 r2 e
    have rc:RcAt A s (.ref p) (.ref q) c:=by rw[h2];exact RcAt.tuples ht ht2 hu0 h1
    refine⟨?_,rc,by rw[h2];exact RcNeAt.tuples ht ht2 hu0 h1⟩
    by_cases hpq:p=q
    ·subst hpq
     rw[whole _ ra rb]
     exact .same _
    ·exact .of_refs hpq rc
   | ls db=>
    simp only[ea,eb] at e;cases e
    obtain⟨q,vb,rfl,hq,rt⟩:=mW r rb eb
    cases rv
    obtain⟨jts,r2,ht2,_⟩:=I.list hq
    exact⟨.tuple_list ht ht2.isList hu0,.tuple_list ht ht2.isList hu0,.tuple_list ht ht2.isList hu0⟩
  | ls da=>
   obtain⟨p,va,rfl,hp,rs⟩:=mW r ra ea
   cases ru
   obtain⟨its,r1,ht',_⟩:=I.list hp
   have ht:=ht'.isList
   cases eb:vw b h with
   | no=>simp[ea,eb] at e
   | fl=>simp only[ea,eb] at e;cases e;exact(uF ht hu0 rb rv (mG rb eb)).1
   | tp db=>
    simp only[ea,eb] at e;cases e
    obtain⟨q,vb,rfl,hq,rt⟩:=mM rb eb
    cases rv
    obtain⟨jts,r2,ht2,_⟩:=I.tuple hq
    exact⟨.list_tuple ht ht2 hu0,.list_tuple ht ht2 hu0,.list_tuple ht ht2 hu0⟩
   | ls db=>
    simp only[ea,eb] at e
    obtain⟨q,vb,rfl,hq,rt⟩:=mW r rb eb
    cases rv
    obtain⟨jts,r2,ht2',_⟩:=I.list hq
    have ht2:=ht2'.isList
    have l1:its.toArray.size=da.length:=by rw[List.size_toArray,<- r1.length,rs.length]
    have l2:jts.toArray.size=db.length:=by rw[List.size_toArray,<- r2.length,rt.length]
    have fin:RcAt A s (.ref p) (.ref q) c/\RcNeAt A s (.ref p) (.ref q) (!c):=by
     by_cases hl:da.length=db.length
     ·rw[if_pos hl] at e
      obtain⟨h1,h2⟩:=uU r ih rs rt r1 r2 e
      have hsz:its.toArray.size=jts.toArray.size:=by omega
      have h2':c=(List.range its.toArray.size).all (fun(j:Nat)=>(eqD k h (da.getD j .non) (db.getD j .non)).getD false):=by
       rw[h2,<- hsz,Nat.min_self];simp
      exact⟨by rw[h2'];exact RcAt.lists ht ht2 hsz hu0 h1,by rw[h2'];exact RcNeAt.lists ht ht2 hsz hu0 h1⟩
     ·rw[if_neg hl] at e
      have e2:c=false:=(Option.some.inj e).symm
      have hsz:(its.toArray.size != jts.toArray.size)=true:=by
       rw[l1,l2];simpa using hl
      rw[e2]
      exact⟨RcAt.lists_lengths ht ht2 hsz hu0,RcNeAt.lists_lengths ht ht2 hsz hu0⟩
    refine⟨?_,fin⟩
    by_cases hpq:p=q
    ·subst hpq
     rw[whole _ ra rb]
     exact .same _
    ·exact .of_refs hpq fin.1
noncomputable abbrev eqN:Nat:=12
noncomputable def dEq:D->D->Hh->R D:=fun a b h=>match eqD eqN h a b with
 | some c=>.ok (.bl c) h
 | none=>.bad
noncomputable def dNe:D->D->Hh->R D:=fun a b h=>match eqD eqN h a b with
 | some c=>.ok (.bl (!c)) h
 | none=>.bad
noncomputable def ES (K:PySem.W.Frag) (g:GG) (neg:Bool):R2:=fun x y H Q=>∃α h a b c,aZ K g α H h/\aP K g α H a x/\aP K g α H b y/\eqD eqN h a b=some c/\Q (.bl (if neg then !c else c)) H
theorem wc (hu:X.A.units+64<cLine):OpR X (compareOp .Eq) (ES X.K g false):=by
 intro pins s σ H x y v u Q I rx ry ⟨α,h,a,b,c,r,ra,rb,e,q⟩
 exact(wM I r eqN X.A a b x y v u c (by show X.A.units+12<_;omega) ra rb rx ry e).2.1 _ _ _ _ ⟨.bl c,H,I,rfl,q⟩
theorem fm (hu:X.A.units+64<cLine):OpR X (compareOp .NotEq) (ES X.K g true):=by
 intro pins s σ H x y v u Q I rx ry ⟨α,h,a,b,c,r,ra,rb,e,q⟩
 exact(wM I r eqN X.A a b x y v u c (by show X.A.units+12<_;omega) ra rb rx ry e).2.2 _ _ _ _ ⟨.bl (!c),H,I,rfl,q⟩
theorem Bm {ε:EE} {K:PySem.W.Frag}:eh K g ε dEq (ES K g false):=by
 intro α H h a b x y Q r ra rb w
 unfold dEq at w
 cases e:eqD eqN h a b with
 | none=>simp only[e] at w;exact w.elim
 | some c=>simp only[e] at w;exact⟨α,h,a,b,c,r,ra,rb,e,aX.now w r (.bl _)⟩
theorem iW {ε:EE} {K:PySem.W.Frag}:eh K g ε dNe (ES K g true):=by
 intro α H h a b x y Q r ra rb w
 unfold dNe at w
 cases e:eqD eqN h a b with
 | none=>simp only[e] at w;exact w.elim
 | some c=>simp only[e] at w;exact⟨α,h,a,b,c,r,ra,rb,e,aX.now w r (.bl _)⟩
end
section
variable {X:Cx} {K:PySem.W.Frag} {g:GG} {ε:EE}
noncomputable def eP:List D->Hh->R D:=fun ds h=>match ds with
 | [.tup ds]=>.ok (.int ds.length) h
 | [.frl ds]=>.ok (.int ds.length) h
 | [.scr ds]=>.ok (.int ds.length) h
 | [.str x]=>if x.length<=1000000 then .ok (.int x.length) h else .bad
 | [.ref n]=>match h[n]? with
  | some (.lst ds)=>.ok (.int ds.length) h
  | some (.set k)=>.ok (.int k.length) h
  | _=>.bad
 | _=>.bad
noncomputable abbrev Fq (K:PySem.W.Frag):List V->Hp->VK->Prop:=fun xs H Q=>(∃p ys,xs=[.ref p]/\(SqL K H p ys\/SqT K H p ys)/\Q (.int ys.length) H)\/(∃p S n,xs=[.ref p]/\H p=some (.set S n)/\Q (.int n) H)\/∃z,xs=[.str z]/\z.length<=sizeLine/\Q (.int z.length) H
theorem gu:bY X (.builtin "len") (Fq X.K):=bY.or t8 (bY.or qv sW)
theorem oY {α:List Addr} {H:Hp} {h:Hh} {ds:List D} {vs:List V} {f:List D->Hh->R D} {Q:VK} (hf:∀d e r h,f (d::e::r) h=.bad) (hf0:∀h,f [] h=.bad) (rs:aA K g α H ds vs) (w:WQ K g ε α H (f ds h) (aX K g α H Q)):∃d v,ds=[d]/\vs=[v]/\aP K g α H d v:=by
 cases rs with
 | nil=>rw[hf0] at w;exact w.elim
 | cons r t=>
  cases t with
  | nil=>exact⟨_,_,rfl,rfl,r⟩
  | cons _ _=>rw[hf] at w;exact w.elim
theorem gH:nu K g ε eP (Fq K):=by
 intro α H h a x Q r ra w
 obtain⟨d,v,rfl,rfl,rd⟩:=oY (f:=eP) (fun d _ _ _=>by cases d<;>rfl) (fun _=>rfl) ra w
 unfold eP at w
 cases rd with
 | tup hp rs=>exact .inl ⟨_,_,rfl,.inr (SqT.of hp),aX.now w r (by rw[<- rs.length];exact .int _)⟩
 | frl hp rs=>exact .inl ⟨_,_,rfl,.inl hp.sq,aX.now w r (by rw[<- rs.length];exact .int _)⟩
 | scr hp rs=>exact .inl ⟨_,_,rfl,.inl hp.sq,aX.now w r (by rw[<- rs.length];exact .int _)⟩
 | str z=>
  obtain⟨hl,w⟩:=WQ.f6 w
  exact .inr (.inr ⟨z,rfl,ip hl,aX.now w r (.int _)⟩)
 | @ref n p hp=>
  simp only at w
  cases e:h[n]? with
  | none=>rw[e] at w;exact w.elim
  | some o=>
   rw[e] at w
   have q:=r.here n p o hp e
   cases o with
   | lst ds=>obtain⟨vs,hv,rs⟩:=q;exact .inl ⟨p,vs,rfl,.inl (SqL.of hv),aX.now w r (by rw[<- rs.length];exact .int _)⟩
   | set k=>exact .inr (.inl ⟨p,_,_,rfl,q,aX.now w r (.int _)⟩)
   | dic k=>exact w.elim
   | dit k=>exact w.elim
 | _=>exact w.elim
noncomputable def gy:List D->Hh->R D:=fun ds h=>match ds with
 | [.tup ds]=>.ok (.tup ds) h
 | [.frl ds]=>.ok (.tup ds) h
 | [.ref n]=>match aM h n with
  | some ds=>.ok (.tup ds) h
  | none=>.bad
 | _=>.bad
theorem pT:nu K g ε gy (fun xs H Q=>∃p ys,xs=[.ref p]/\((SqL K H p ys/\∀l,H l=none->Q (.ref l) (upd H l (.tup ys)))\/(SqT K H p ys/\Q (.ref p) H))):=by
 intro α H h a x Q r ra w
 obtain⟨d,v,rfl,rfl,rd⟩:=oY (f:=gy) (fun d _ _ _=>by cases d<;>rfl) (fun _=>rfl) ra w
 unfold gy at w
 cases rd with
 | tup hp rs=>exact⟨_,_,rfl,.inr ⟨SqT.of hp,aX.now w r (.tup hp rs)⟩⟩
 | frl hp rs=>exact⟨_,_,rfl,.inl ⟨hp.sq,fun l hl=>aX.tup w r rs hl⟩⟩
 | @ref n p hp=>
  simp only at w
  cases e:aM h n with
  | none=>rw[e] at w;exact w.elim
  | some ds=>
   rw[e] at w
   obtain⟨vs,hv,rs⟩:=r.lst e hp
   exact⟨p,vs,rfl,.inl ⟨SqL.of hv,fun l hl=>aX.tup w r rs hl⟩⟩
 | _=>exact w.elim
noncomputable def intsOf:List D->Option (List Int)
 | []=>some []
 | .int i::ds=>(intsOf ds).map (i::·)
 | _::_=>none
theorem ji:∀{ds:List D} {ns:List Int},intsOf ds=some ns->ds=ns.map D.int
 | [],ns,e=>by cases e;rfl
 | .int i::ds,ns,e=>by
  unfold intsOf at e
  cases e1:intsOf ds with
  | none=>rw[e1] at e;cases e
  | some ms=>rw[e1] at e;cases e;rw[ji e1];rfl
 | .non::_,_,e=>by cases e
 | .bl _::_,_,e=>by cases e
 | .str _::_,_,e=>by cases e
 | .tup _::_,_,e=>by cases e
 | .frl _::_,_,e=>by cases e
 | .ref _::_,_,e=>by cases e
 | .fn _::_,_,e=>by cases e
 | .edic::_,_,e=>by cases e
 | .exc _ _::_,_,e=>by cases e
 | .scr _::_,_,e=>by cases e
theorem iy:∀(ns:List Int),intsOf (ns.map D.int)=some ns
 | []=>rfl
 | n::r=>by rw[List.map_cons,intsOf,iy r];rfl
noncomputable def Ce:List D->Hh->R D:=fun ds h=>match ds with
 | [.int i,.int j]=>.ok (.int (if j > i then j else i)) h
 | _=>.bad
theorem A_ {α:List Addr} {H:Hp} {h:Hh} {ds:List D} {vs:List V} {t:Int->Int->Int} {Q:VK} (r:aZ K g α H h) (rs:aA K g α H ds vs) (w:WQ K g ε α H (match ds with | [.int i,.int j]=>.ok (.int (t i j)) h | _=>.bad) (aX K g α H Q)):∃i j,vs=[.int i,.int j]/\Q (.int (t i j)) H:=by
 split at w
 ·cases rs with
  | cons r1 t1=>
   cases r1
   cases t1 with
   | cons r2 t2=>
    cases r2
    cases t2
    exact⟨_,_,rfl,aX.now w r (.int _)⟩
 ·exact w.elim
theorem Dq:nu K g ε Ce (fun xs H Q=>∃i j,xs=[.int i,.int j]/\Q (.int (if j > i then j else i)) H):=fun α H h a x Q r ra w=>A_ (t:=fun i j=>if j > i then j else i) r ra w
noncomputable def BE:List D->Hh->R D:=fun ds h=>match ds with
 | [.int i]=>.ok (.int i) h
 | [.bl b]=>.ok (.int (if b then 1 else 0)) h
 | _=>.bad
theorem FW:nu K g ε BE (fun xs H Q=>(∃i,xs=[.int i]/\Q (.int i) H)\/∃k,xs=[.bl k]/\Q (.int (if k then 1 else 0)) H):=by
 intro α H h a x Q r ra w
 obtain⟨d,v,rfl,rfl,rd⟩:=oY (f:=BE) (fun d _ _ _=>by cases d<;>rfl) (fun _=>rfl) ra w
 unfold BE at w
 cases rd with
 | int i=>exact .inl ⟨i,rfl,aX.now w r (.int _)⟩
 | bl b=>exact .inr ⟨b,rfl,aX.now w r (.int _)⟩
 | _=>exact w.elim
noncomputable def zG:List D->Hh->R D:=fun ds h=>match ds with
 | [.int i]=>.ok (.int (if i<0 then -i else i)) h
 | _=>.bad
theorem BU:nu K g ε zG (fun xs H Q=>∃i,xs=[.int i]/\Q (.int (if i<0 then -i else i)) H):=by
 intro α H h a x Q r ra w
 obtain⟨d,v,rfl,rfl,rd⟩:=oY (f:=zG) (fun d _ _ _=>by cases d<;>rfl) (fun _=>rfl) ra w
 unfold zG at w
 cases rd with
 | int i=>exact⟨i,rfl,aX.now w r (.int _)⟩
 | _=>exact w.elim
noncomputable def tyD (d:D) (h:Hh):Option String:=match d with
 | .non=>some "NoneType"
 | .bl _=>some "bool"
 | .int _=>some "int"
 | .str _=>some "str"
 | .tup _=>some "tuple"
 | .frl _=>some "list"
 | .edic=>some "dict"
 | .ref n=>match h[n]? with
  | some (.lst _)=>some "list"
  | some (.dic _)=>some "dict"
  | some (.dit _)=>some "dict"
  | _=>none
 | _=>none
noncomputable def yO (t n:String):Option Bool:=
 if n="int" then (if t="int" then some true else if t="bool" then some true else if t="NoneType" \/ t="str" \/ t="tuple" \/ t="list" \/ t="dict" then some false else none)
 else if n="bool" \/ n="tuple" \/ n="list" \/ n="str" then (if t=n then some true else if t="int" \/ t="bool" \/ t="NoneType" \/ t="str" \/ t="tuple" \/ t="list" \/ t="dict" then some false else none)
 else none
noncomputable def sL (n:String):D->Hh->R D:=fun d h=>match tyD d h with
 | some t=>match yO t n with
  | some b=>.ok (.bl b) h
  | none=>.bad
 | none=>.bad
theorem IQ {α:List Addr} {H:Hp} {h:Hh} {d:D} {v:V} {t:String} (r:aZ K g α H h) (rd:aP K g α H d v) (e:tyD d h=some t):ku K H v (.type t):=by
 unfold tyD at e
 cases rd with
 | non=>cases e;exact .non
 | bl b=>cases e;exact .bl b
 | int i=>cases e;exact .int i
 | str i=>cases e;exact .str i
 | tup hp rs=>cases e;exact .tup hp
 | frl hp rs=>cases e;obtain⟨o,hp⟩:=hp;exact .frz hp
 | edic hp=>cases e;exact .iL hp
 | @ref n p hp=>
  simp only at e
  cases eo:h[n]? with
  | none=>rw[eo] at e;cases e
  | some o=>
   rw[eo] at e
   have q:=r.here n p o hp eo
   cases o with
   | lst ds=>cases e;obtain⟨vs,hv,_⟩:=q;exact .lst hv
   | set k=>cases e
   | dic k=>cases e;obtain⟨vs,hv,_⟩:=q;exact .dK hv
   | dit k=>cases e;obtain⟨vs,hv,_⟩:=q;exact .dT hv
 | _=>cases e
theorem DT (K:PySem.W.Frag):PySem.W.kitOne K (.type "int") (.type "int")=some true/\PySem.W.kitOne K (.type "bool") (.type "int")=some true/\PySem.W.kitOne K (.type "NoneType") (.type "int")=some false/\PySem.W.kitOne K (.type "str") (.type "int")=some false
  /\ PySem.W.kitOne K (.type "tuple") (.type "int")=some false/\PySem.W.kitOne K (.type "list") (.type "int")=some false/\PySem.W.kitOne K (.type "dict") (.type "int")=some false:=⟨rfl,rfl,rfl,rfl,rfl,rfl,rfl⟩
theorem AN (K:PySem.W.Frag):PySem.W.kitOne K (.type "int") (.type "bool")=some false/\PySem.W.kitOne K (.type "bool") (.type "bool")=some true/\PySem.W.kitOne K (.type "NoneType") (.type "bool")=some false/\PySem.W.kitOne K (.type "str") (.type "bool")=some false
  /\ PySem.W.kitOne K (.type "tuple") (.type "bool")=some false/\PySem.W.kitOne K (.type "list") (.type "bool")=some false/\PySem.W.kitOne K (.type "dict") (.type "bool")=some false:=⟨rfl,rfl,rfl,rfl,rfl,rfl,rfl⟩
theorem kit_tuple (K:PySem.W.Frag):PySem.W.kitOne K (.type "int") (.type "tuple")=some false/\PySem.W.kitOne K (.type "bool") (.type "tuple")=some false/\PySem.W.kitOne K (.type "NoneType") (.type "tuple")=some false/\PySem.W.kitOne K (.type "str") (.type "tuple")=some false
  /\ PySem.W.kitOne K (.type "tuple") (.type "tuple")=some true/\PySem.W.kitOne K (.type "list") (.type "tuple")=some false/\PySem.W.kitOne K (.type "dict") (.type "tuple")=some false:=⟨rfl,rfl,rfl,rfl,rfl,rfl,rfl⟩
theorem BR (K:PySem.W.Frag):PySem.W.kitOne K (.type "int") (.type "list")=some false/\PySem.W.kitOne K (.type "bool") (.type "list")=some false/\PySem.W.kitOne K (.type "NoneType") (.type "list")=some false/\PySem.W.kitOne K (.type "str") (.type "list")=some false
  /\ PySem.W.kitOne K (.type "tuple") (.type "list")=some false/\PySem.W.kitOne K (.type "list") (.type "list")=some true/\PySem.W.kitOne K (.type "dict") (.type "list")=some false:=⟨rfl,rfl,rfl,rfl,rfl,rfl,rfl⟩
theorem Ei (K:PySem.W.Frag):PySem.W.kitOne K (.type "int") (.type "str")=some false/\PySem.W.kitOne K (.type "bool") (.type "str")=some false/\PySem.W.kitOne K (.type "NoneType") (.type "str")=some false/\PySem.W.kitOne K (.type "str") (.type "str")=some true
  /\ PySem.W.kitOne K (.type "tuple") (.type "str")=some false/\PySem.W.kitOne K (.type "list") (.type "str")=some false/\PySem.W.kitOne K (.type "dict") (.type "str")=some false:=⟨rfl,rfl,rfl,rfl,rfl,rfl,rfl⟩
theorem Hf {t n:String} {b:Bool} (e:yO t n=some b):PySem.W.kitOne K (.type t) (.type n)=some b:=by
 unfold yO at e
 obtain⟨a1,a2,a3,a4,a5,a6,a7⟩:=DT K
 obtain⟨b1,b2,b3,b4,b5,b6,b7⟩:=AN K
 obtain⟨c1,c2,c3,c4,c5,c6,c7⟩:=kit_tuple K
 obtain⟨d1,d2,d3,d4,d5,d6,d7⟩:=BR K
 obtain⟨e1,e2,e3,e4,e5,e6,e7⟩:=Ei K
 split at e
 ·rename_i hn;subst hn
  split at e
  ·rename_i h;subst h;cases e;exact a1
  ·split at e
   ·rename_i h;subst h;cases e;exact a2
   ·split at e
    ·rename_i h;cases e;rcases h with rfl | rfl | rfl | rfl | rfl<;>assumption
    ·cases e
 ·split at e
  ·rename_i hn
   split at e
   ·rename_i h;subst h;cases e;rcases hn with rfl | rfl | rfl | rfl<;>assumption
   ·rename_i hne
    split at e
    ·rename_i h;cases e;rcases hn with rfl | rfl | rfl | rfl<;>rcases h with rfl | rfl | rfl | rfl | rfl | rfl | rfl<;>first | assumption | exact absurd rfl hne
    ·cases e
  ·cases e
theorem tO {e:Expr} {me:ME} {n:String} {x:Str} {p1 p2 pos:Pos} (he:PE X e (tM X.K g ε me)) (hg:Gl X "isinstance") (hm:X.mg "isinstance" = none) (hg2:Gl X x) (hm2:X.mg x=none) (hb:bootBuiltins x=some (.type n)) (hn:x≠"__name__" := by decide) (hd:(x == ("__debug__" : Str))=false:=by decide)
  (hs1:starEach [e,.Name x p2] X.env=(false,eval e X.env)::starEach [.Name x p2] X.env:=by rfl) (hs2:starEach [.Name x p2] X.env=[(false,eval (.Name x p2) X.env)]:=by rfl) (hpl:(backTo pos (starEach [.Name x p2] X.env)).any (·.1)=false:=by rfl) :
  PE X (.Call (.Name "isinstance" p1) [e,.Name x p2] [] pos) (tM X.K g ε (cUn (sL n) me)):=
 PE.imp (o6 vg hg hm PyProof.Rows.boot_isinstance (lJ he (lJ (DH (v:=.ty n) hg2 hm2 hb rfl hn hd) t6 hs2) hs1) (by decide) (by decide) hs1 hpl) fun σ H Q ⟨α,env,h,s,w⟩=>tM.use s w.bind fun d1 h1 v1 H1 α1 e1 s1 r1 w1=>by
  unfold sL at w1
  cases et:tyD d1 h1 with
  | none=>simp only[et] at w1;exact w1.elim
  | some t=>
   simp only[et] at w1
   cases es:yO t n with
   | none=>simp only[es] at w1;exact w1.elim
   | some b=>
    simp only[es] at w1
    exact⟨v1,.type t,n,b,rfl,IQ s1.heap r1 et,Hf es,aX.now (aX.ext e1 w1) s1.heap (.bl b)⟩
end
section
variable {X:Cx} {K:PySem.W.Frag} {g:GG} {ε:EE}
noncomputable def n_:D->Hh->R Bool:=fun d h=>match d with
 | .non=>.ok false h
 | .bl b=>.ok b h
 | .int i=>.ok (i != 0) h
 | .tup ds=>.ok (!ds.isEmpty) h
 | .frl ds=>.ok (!ds.isEmpty) h
 | .ref n=>match aM h n with
  | some ds=>.ok (!ds.isEmpty) h
  | none=>.bad
 | _=>.bad
theorem aA.isEmpty {α:List Addr} {H:Hp} {ds:List D} {vs:List V} (r:aA K g α H ds vs):ds.isEmpty=vs.isEmpty:=by cases r<;>rfl
theorem pI:Jr K g ε n_ (fun x H Q=>∃k,Ek K x H k/\Q k H):=by
 intro α H h a x Q r ra w
 unfold n_ at w
 have now:∀{b:Bool},mU K g α H Q b h->Q b H:=fun p=>p H α Ext.refl r
 cases ra with
 | non=>exact⟨false,rfl,now w⟩
 | bl b=>exact⟨b,rfl,now w⟩
 | int i=>exact⟨_,rfl,now w⟩
 | tup hp rs=>exact⟨_,.inr (.inl ⟨_,SqT.of hp,rfl⟩),now (by rw[<- rs.isEmpty];exact w)⟩
 | frl hp rs=>exact⟨_,.inl ⟨_,hp.sq,rfl⟩,now (by rw[<- rs.isEmpty];exact w)⟩
 | @ref n p hp=>
  simp only at w
  cases e:aM h n with
  | none=>rw[e] at w;exact w.elim
  | some ds=>
   rw[e] at w
   obtain⟨vs,hv,rs⟩:=r.lst e hp
   exact⟨_,.inl ⟨vs,SqL.of hv,rfl⟩,now (by rw[<- rs.isEmpty];exact w)⟩
 | _=>exact w.elim
noncomputable def isL (d:D) (h:Hh):Bool:=match d with
 | .ref n=>(aM h n).isSome
 | .frl _=>true
 | _=>false
noncomputable def oM (f:D->List D->Hh->R D) (o:ME) (a:MA):ME:=fun env h=>(o env h).bind fun x h1=>if isL x h1=true then (a env h1).bind fun xs h2=>f x xs h2 else .bad
theorem DE {α:List Addr} {H:Hp} {h:Hh} {d:D} {x:V} (r:aZ K g α H h) (rd:aP K g α H d x) (e:isL d h=true):tyV K "list" x H:=by
 unfold isL at e
 cases rd with
 | @ref n p hp=>
  simp only at e
  obtain⟨ds,e⟩:=Option.isSome_iff_exists.mp e
  obtain⟨vs,hv,_⟩:=r.lst e hp
  exact .inl ⟨rfl,vs,SqL.of hv⟩
 | frl hq rs=>exact .inl ⟨rfl,_,hq.sq⟩
 | _=>cases e
theorem Ho {o e:Expr} {es:List Expr} {mo:ME} {mr:MA} {name:Str} {apos cpos:Pos} {id:String} {r:V->List V->Hp->VK->Prop} {f:D->List D->Hh->R D} (slot:Slot "list" name id) (hty:typeOf (.builtin id)=pure (.type "method_descriptor")) (hm:MtM X id r) (im:H0 X.K g ε f r) (ho:PE X o (tM X.K g ε mo)) (ha:PA X (e::es) (tMA X.K g ε mr))
  (hbase:attributeBase o name X.env (eval o X.env)=eval o X.env:=by rfl)
  (hfew:((backTo cpos (starEach (e::es) X.env)).all (fun x=>!x.1)&&(backToKw cpos (keywordEach [] X.env)).all (fun x=>x.1.isSome)
   && decide ((e::es).length+([]:List Keyword).length+(if ([]:List Keyword).isEmpty then 0 else 1)<30))=true:=by rfl)
  (hline:(apos.endLine == cpos.line)=true:=by rfl) (hs:starEach (e::es) X.env=(false,eval e X.env)::starEach es X.env:=by rfl) (hplain:(backTo cpos (starEach es X.env)).any (·.1)=false:=by rfl) :
  PE X (.Call (.Attribute o name apos) (e::es) [] cpos) (tM X.K g ε (oM f mo mr)):=
 PE.imp (H_ PySem.F.plainAttrs_list slot hty hm ho ha hbase hfew hline hs hplain) fun σ H Q ⟨α,env,h,s,w⟩=>tM.use s w.bind fun d1 h1 v1 H1 α1 e1 s1 r1 w1=>by
  obtain⟨hl,w1⟩:=WQ.f6 w1
  refine⟨DE s1.heap r1 hl,tMA.use s1 (w1.ext e1).bind fun d2 h2 v2 H2 α2 e2 s2 r2 w2=>?_⟩
  exact im α2 H2 h2 d1 d2 v1 v2 Q s2.heap (r1.ext e2) r2 ((w2.ext e2).mono fun _ _ _ p=>aX.ext (e1.trans e2) p)
noncomputable def fu:D->List D->Hh->R D:=fun o ds h=>match o,ds with
 | .ref n,[d]=>match aM h n with
  | some xs=>if xs.length<1000000 then .ok .non (h.set n (.lst (xs++[d]))) else .bad
  | none=>.bad
 | _,_=>.bad
theorem yX:H0 K g ε fu xV:=by
 intro α H h o a y x Q r ro ra w
 unfold fu at w
 cases ro with
 | @ref n p hp=>
  cases ra with
  | nil=>exact w.elim
  | @cons d v _ _ rd rr=>
   cases rr with
   | cons _ _=>exact w.elim
   | nil=>
    simp only at w
    cases e:aM h n with
    | none=>rw[e] at w;exact w.elim
    | some xs=>
     rw[e] at w
     obtain⟨hl,w⟩:=WQ.f6 w
     obtain⟨vs,hv,rs⟩:=r.lst e hp
     refine⟨p,vs,_,rfl,rfl,hv,by rw[<- rs.length,sizeLine_eq];omega,?_⟩
     have x:=Ext.write (o:=.lst (vs++[v])) r hp
     exact(show aX K g α H Q _ _ from w) _ _ α x (r.write hp ⟨_,a9,(rs.append (.cons rd .nil)).ext x⟩) .non
 | _=>exact w.elim
theorem mN (ns:List Int):∀k,k<=ns.length->preSum (fun i=>ns.getD i 0) k=(ns.take k).sum
 | 0,_=>by simp[preSum]
 | k+1,h=>by
  rw[preSum,mN ns k (by omega),List.take_succ,List.sum_append]
  rw[List.getD_eq_getElem?_getD,List.getElem?_eq_getElem (by omega)]
  simp
theorem g9 (hc:X.calm=true):bY X (.builtin "sum") (fun vs H Q=>∃(p:Addr) (ns:List Int),vs=[.ref p]/\(SqL X.K H p (ns.map V.int)\/SqT X.K H p (ns.map V.int))/\Q (.int ns.sum) H):=by
 intro pins s σ H xs us Q I r h
 obtain⟨p,ns,rfl,hq,q⟩:=h
 obtain⟨u,rfl,rx⟩:=vals1 r
 cases rx
 have hh:X.A.in1.handled=none:=I.ok.hd hc
 have fin:∀{its:List Value} {o:Obj},Vals (ns.map V.int) its->∀s',Moved [s.heap.objs.size] (fun a b=>b=a) { s with heap:=s.heap.push o } s'->∀t',EP X pins σ Q (.int (preSum (fun i=>ns.getD i 0) its.toArray.size) t') s':=fun{its o} rv s' mv t'=>by
  have hl:its.toArray.size=ns.length:=by rw[List.size_toArray,<- rv.length,List.length_map]
  have keep:∀b u,s.heap.get? b=some u->s'.heap.get? b=some u:=fun b u e=>mv.heap b u (by simp;exact Nat.ne_of_lt (Heap.lt_size e)) (Heap.get?_push_of_some _ e)
  have I':Inv X pins σ H s':=by
   obtain⟨hp,gs,dr,tk,os⟩:=s'
   have e1:gs=s.gens:=mv.gens
   have e2:dr=s.drawn:=mv.drawn
   have e3:os=s.os:=mv.os
   subst e1 e2 e3
   exact I.kept (h':=hp) (t':=tk) keep
  refine⟨.int ns.sum,H,I',⟨t',?_⟩,q⟩
  rw[hl,mN ns _ (Nat.le_refl _),List.take_length]
 have val:∀{its:List Value},Vals (ns.map V.int) its->∀i v,its.toArray[i]?=some v->∃t:Tok,v=Value.int (ns.getD i 0) t:=fun{its} rv i v e=>by
  obtain⟨x,hx,rxv⟩:=rv.get' (show its[i]?=some v by simpa using e)
  rw[List.getElem?_map] at hx
  cases en:ns[i]? with
  | none=>rw[en] at hx;cases hx
  | some z=>
   rw[en] at hx
   cases hx
   obtain⟨t,e⟩:=rxv
   exact⟨t,by rw[List.getD_eq_getElem?_getD,en];exact e⟩
 rcases hq with hq | hq
 ·obtain⟨its,rv,pl,hz⟩:=I.list hq
  have plt:p<s.heap.objs.size:=by obtain⟨o,e,_⟩:=pl.isList;exact Heap.lt_size e
  have hne:p≠s.heap.objs.size:=Nat.ne_of_lt plt
  refine call_sum_walkAnyS (wpAny_pyIter_list pl.isList ?_)
  refine⟨s.heap.objs.size,_,_,_,its.toArray.size,_,_,fun i=>ns.getD i 0,rfl,(Walks.list (prog:=X.prog) (w:=X.w) hh s.heap.objs.size p hne its.toArray).toS,⟨⟨_,Heap.get?_push_size _ rfl,rfl,rfl⟩,?_⟩,fun b hb=>?_,val rv,fun s' t' mv=>fin rv s' mv t'⟩
  ·exact pl.isList.at fun o e=>Heap.get?_push_of_some _ e
  ·simp at hb
   rcases hb with rfl | rfl
   ·exact Heap.lt_size (Heap.get?_push_size _ rfl)
   ·exact Nat.lt_trans plt (Heap.lt_size (Heap.get?_push_size _ rfl))
 ·obtain⟨its,rv,pl,hz⟩:=I.tuple hq
  have pt:s.heap.IsTuple p its.toArray:=pl
  have hne:p≠s.heap.objs.size:=Nat.ne_of_lt pl.lt
  refine call_sum_walkAnyS (wpAny_pyIter_tuple pt ?_)
  refine⟨s.heap.objs.size,_,_,_,its.toArray.size,_,_,fun i=>ns.getD i 0,rfl,(Walks.tuple (prog:=X.prog) (w:=X.w) hh s.heap.objs.size p hne its.toArray).toS,⟨⟨_,Heap.get?_push_size _ rfl,rfl,rfl⟩,?_⟩,fun b hb=>?_,val rv,fun s' t' mv=>fin rv s' mv t'⟩
  ·exact pt.at fun o e=>Heap.get?_push_of_some _ e
  ·simp at hb
   rcases hb with rfl | rfl
   ·exact Heap.lt_size (Heap.get?_push_size _ rfl)
   ·exact Nat.lt_trans pl.lt (Heap.lt_size (Heap.get?_push_size _ rfl))
noncomputable def kA:List D->Hh->R D:=fun ds h=>match ds with
 | [d]=>match jT d h with
  | some xs=>match intsOf xs with
   | some ns=>.ok (.int ns.sum) h
   | none=>.bad
  | none=>.bad
 | _=>.bad
theorem oN:nu K g ε kA (fun vs H Q=>∃(p:Addr) (ns:List Int),vs=[.ref p]/\(SqL K H p (ns.map V.int)\/SqT K H p (ns.map V.int))/\Q (.int ns.sum) H):=by
 intro α H h a x Q r ra w
 obtain⟨d,v,rfl,rfl,rd⟩:=oY (f:=kA) (fun _ _ _ _=>rfl) (fun _=>rfl) ra w
 unfold kA at w
 simp only at w
 cases e:jT d h with
 | none=>rw[e] at w;exact w.elim
 | some ds=>
  rw[e] at w
  simp only at w
  cases e2:intsOf ds with
  | none=>rw[e2] at w;exact w.elim
  | some ns=>
   rw[e2] at w
   obtain⟨p,vs,rfl,hq,rs⟩:=yJ r rd e
   have e3:=ji e2
   subst e3
   have e4:=rs.FA
   subst e4
   exact⟨p,ns,rfl,hq,aX.now w r (.int _)⟩
theorem xv:PIp X .Mult (fun x y H Q=>∃i j,x=.int i/\y=.int j/\(sml i=true/\sml j=true)/\Q (.int (i*j)) H):=by
 intro pins s σ H x y v u Q I r1 r2 h
 obtain⟨i,j,e1,e2,hc,q⟩:=h
 subst e1;subst e2
 obtain⟨t,rfl⟩:=r1
 obtain⟨t',rfl⟩:=r2
 exact imul_int ⟨.int _,H,I.tok _,⟨_,rfl⟩,q⟩ (IntMulOk.of_bits (Nat.le_trans (i7 hc.1) (by decide)) (Nat.le_trans (i7 hc.2) (by decide)))
noncomputable def oy:D->D->Hh->R D
 | .int i,.int j,h=>.ok (.int (i+j)) h
 | _,_,_=>.bad
noncomputable def pf:D->D->Hh->R D
 | .int i,.int j,h=>if sml i=true/\sml j=true then .ok (.int (i*j)) h else .bad
 | _,_,_=>.bad
theorem BQ:eh K g ε oy (ipI fun i j=>i+j):=by
 intro α H h a b x y Q r ra rb w
 unfold oy at w
 cases ra with
 | int i=>
  cases rb with
  | int j=>exact⟨i,j,rfl,rfl,aX.now w r (.int _)⟩
  | _=>exact w.elim
 | _=>exact w.elim
theorem BX:eh K g ε pf (fun x y H Q=>∃i j,x=.int i/\y=.int j/\(sml i=true/\sml j=true)/\Q (.int (i*j)) H):=by
 intro α H h a b x y Q r ra rb w
 unfold pf at w
 cases ra with
 | int i=>
  cases rb with
  | int j=>
   obtain⟨hc,w⟩:=WQ.f6 w
   exact⟨i,j,rfl,rfl,hc,aX.now w r (.int _)⟩
  | _=>exact w.elim
 | _=>exact w.elim
end
section
variable {P:Program} {w:World} {K:PySem.W.Frag} {mg:Str->Option Value} {base:Heap} {g:GG}
noncomputable def aO (K:PySem.W.Frag) (mg:Str->Option Value) (x:Str) (st:Stmt):Prop:=∃f fd,mg x=some (.ref f)/\Fun K x x st f fd
noncomputable def bA (K:PySem.W.Frag) (x:Str) (st:Stmt):Prop:=∃f fd,PySem.W.nsIn K mainGlobals x=some (some (.ref f))/\Fun K x x st f fd
theorem a_ {x:Str} {st:Stmt} {f:Addr} {oc:Value} {od an:Option Addr} {osl:Array (Option Value)} {kV doc pm cdv ct:Value} (a:PySem.W.nsIn K mainGlobals x=some (some (.ref f)))
  (l:K.lookup f=some ⟨oc,od,.func (PySem.W.fnOf x x (lK st) (iF st) (ay st) .none kV doc pm an cdv ct),osl⟩) (c:PySem.W.codeIn K cdv x=true) (k:PySem.W.keepIn K (.ref f)=true):bA K x st:=⟨f,_,a,FT l c k⟩
theorem aO.of {h:Heap} {x:Str} {st:Stmt} (X:K.In h) (G:h.Ns mainGlobals mg) (d:bA K x st):aO K mg x st:=
 let ⟨f,fd,a,F⟩:=d;⟨f,fd,PySem.W.mg_of X G a,F⟩
noncomputable def Has (P:Program) (w:World) (K:PySem.W.Frag) (mg:Str->Option Value) (base:Heap) (g:GG) (x:Str) (k:Nat) (ps:List Str) (m:MF):Prop:=
 ∃f fd,fL P w K mg base CX0 k f fd ps (spM K g ps.length m)/\PySem.W.keepIn K (.ref f)=true/\Binds K fd ps []/\mg x=some (.ref f)/\∃(oc:Value) (od:Option Addr) (osl:Array (Option Value)),K.lookup f=some ⟨oc,od,.func fd,osl⟩
noncomputable def gOf (mg:Str->Option Value):GG:=fun x=>match mg x with
 | some (.ref f)=>some f
 | _=>none
theorem aU {x:Str} {st:Stmt} {f:Addr} {fd:FuncData} (F:Fun K x x st f fd):∃(oc:Value) (od:Option Addr) (osl:Array (Option Value)),K.lookup f=some ⟨oc,od,.func fd,osl⟩:=by
 obtain⟨oc,od,kV,doc,pm,an,cdv,ct,osl,rfl,lk,hcd⟩:=F.ex
 exact⟨oc,od,osl,lk⟩
theorem Gq {x:Str} {st:Stmt} {f:Addr} {fd:FuncData} {k:Nat} {ps:List Str} {m:MF} (F:Fun K x x st f fd) (hm:mg x=some (.ref f)) (h:Has P w K mg base g x k ps m):fL P w K mg base CX0 k f fd ps (spM K g ps.length m):=by
 obtain⟨f2,fd2,G,_,_,hm2,oc,od,osl,l2⟩:=h
 obtain⟨oc',od',osl',l1⟩:=aU F
 rw[hm] at hm2
 cases hm2
 rw[l1] at l2
 cases l2
 exact G
end
section
variable {X:Cx} {g:GG} {ε:EE}
noncomputable def oP (i j:Nat) (m:ME):MS:=fun env h=>(m env h).bind fun d h1=>(gT2 i j d env h1).bind fun e h2=>.ok (.nx e) h2
theorem yd {i j:Nat} {x y:Str} {e:Expr} {me:ME} {px py pt pos:Pos} {kt} (hc:X.calm=true) (hN:X.N.Nodup) (hi:X.N[i]?=some x) (hj:X.N[j]?=some y) (he:PE X e (tM X.K g ε me))
  (hx:Loc X.env.scope x:=by first | exact Or.inl rfl | exact Or.inr rfl) (hy:Loc X.env.scope y:=by first | exact Or.inl rfl | exact Or.inr rfl)
  (fx:X.fn x=true\/X.env.scope.names.lookup x=some .local:=by first | exact .inl rfl | exact .inr rfl) (fy:X.fn y=true\/X.env.scope.names.lookup y=some .local:=by first | exact .inl rfl | exact .inr rfl)
  (hs:swapsWithSole [.Tuple [.Name x px,.Name y py] kt pt] e pos.line X.env=pure false:=by rfl) (hw:swappedStores [.Tuple [.Name x px,.Name y py] kt pt] e X.env=pure none:=by rfl) :
  PS X (.Assign [.Tuple [.Name x px,.Name y py] kt pt] e pos) (tMS X.K g ε (oP i j me)):=
 PS.imp (CT he (t_ hc (eV (bb hN hi hx fx) (eV (bb hN hj hy fy) n6))) hs hw rfl) fun E σ H ⟨α,env,h,s,w⟩=>tM.use s w.bind fun d1 h1 v1 H1 α1 e1 s1 r1 w1=>by
  refine xt (ε:=ε) α1 H1 h1 env σ d1 v1 _ s1 r1 ((w1.ext e1).bind.mono fun e' h2 _ w2 σ2 H2 α2 e2 s2=>?_)
  exact(show cq X.K g α H E (.nx e') h2 from w2) H2 α2 (e1.trans e2) s2.heap σ2 s2.vs
theorem lU {i j:Nat} {x y:Str} {a b:Expr} {ma:MA} {px py pt pos:Pos} {kt k2 pt2} (hc:X.calm=true) (hN:X.N.Nodup) (hi:X.N[i]?=some x) (hj:X.N[j]?=some y) (hij:i≠j) (ha:PA X [a,b] (tMA X.K g ε ma))
  (hx:X.env.scope.names.lookup x=some .local:=by rfl) (hy:X.env.scope.names.lookup y=some .local:=by rfl)
  (hw:swappedStores [.Tuple [.Name x px,.Name y py] kt pt] (.Tuple [a,b] k2 pt2) X.env=pure (some [x,y]):=by rfl)
  (hs:swapsWithSole [.Tuple [.Name x px,.Name y py] kt pt] (.Tuple [a,b] k2 pt2) pos.line X.env=pure false:=by rfl) :
  PS X (.Assign [.Tuple [.Name x px,.Name y py] kt pt] (.Tuple [a,b] k2 pt2) pos) (tMS X.K g ε (jL i j ma)):=Jf hc hN hi hj hij hx hy ha hw hs
end
theorem Ga {k:Nat} {m:MF} {l:PySem.W.OpenLaw} {q:Program} {loose:List Str} {XP:(Str->Option Value)->Heap->Prop} {YP:World->Heap->Prop} {d:DefRec} {K:Params->PySem.W.Frag} (hn:l.most=some 63) (hdf:d.params.defaults=[]) (hr:gX k callerA)
  (hY:∀(w:World) (h:Heap),YP w h->(K w.params).In h)
  (ok:∀ns:List Int,ns.length<=63->∃h,m [.scr (ns.map D.int)] []=.ok (.bl true) h)
  (F:∀(w:World) (mg:Str->Option Value) (fa:Addr) (h:Heap),(K w.params).In h->h.Ns mainGlobals mg->mg d.name=some (.ref fa) →
   ∃fd:FuncData,(∀(s:Shared) (u:Value),BindsTo s fd ⟨[u],[]⟩ [("_law_script", u)])/\∀base:Heap,(K w.params).In base->base.Ns mainGlobals mg->fL l.prog w (K w.params) mg base CX0 k fa fd ["_law_script"] (spM (K w.params) (gOf mg) 1 m)) :
  PySem.W.WalkO q loose XP YP l.row.toRowW d [] (fun f vs=>PySem.call f vs):=by
 refine L2.Eg (n:=63) (k:=k) (x:="_law_script") (CX:=fun _=>CX0) (sp:=fun w=>fun vs H Q _=>∃a ns,vs=[V.ref a]/\ns.length<=63/\Ds H/\SqL (K w.params) H a (ns.map V.int)/\∀v H',v=V.bl true->Q v H') hn (by decide) hdf hr hY (fun w mg fa h KX G hmg=>?_) (fun w H a ns hl hO hS=>⟨a,ns,rfl,hl,hO,hS,fun _ _ z=>z⟩) fun _ _ _ _ _ z=>z
 obtain⟨fd,hb,hF⟩:=F w mg fa h KX G hmg
 refine⟨fd,hb,fun base kb nb=>(hF base kb nb).imp fun vs H Q E z=>?_⟩
 obtain⟨a,ns,rfl,hl,hO,hS,hQ⟩:=z
 obtain⟨hh,e⟩:=ok ns hl
 refine⟨rfl,[],[.scr (ns.map D.int)],[],.cons (.scr ?_ (aA.ints ns)) .nil,⟨rfl,fun n m p z=>by simp at z,fun n p o z=>by simp at z⟩,?_⟩
 ·rcases hS with(hS | ⟨o,hS⟩) | hS
  ·rcases hO a with z | ⟨o,xs,z⟩
   ·rw[hS] at z;cases z
   ·rw[hS] at z;cases z
  ·exact .inl ⟨o,hS⟩
  ·exact .inr hS
 ·rw[e]
  intro v H' α' _ _ rd
  cases rd
  exact hQ _ _ rfl
section
variable {X:Cx} {K:PySem.W.Frag} {g:GG} {ε:EE}
noncomputable def mI (lo st:Int) (n:Nat):List D:=(DZ lo st n).map D.int
noncomputable def EX:List D->Option (List D)
 | [.int a,.int b,.int c]=>if Builtin.Range.small a b c=true/\0<=Builtin.Range.rangeSize a b c/\(Builtin.Range.rangeSize a b c).natAbs<=1000000/\c≠0/\c.natAbs<1073741824 then some (mI a c (Builtin.Range.rangeSize a b c).toNat) else none
 | _=>none
theorem A9 {α:List Addr} {H:Hp} {ds:List D} {vs:List V} {xs:List D} (r:aA K g α H ds vs) (e:EX ds=some xs) :
  ∃a b c n,vs=[.int a,.int b,.int c]/\c≠0/\c.natAbs<1073741824/\Cu a b c n/\xs=mI a c n:=by
 unfold EX at e
 split at e
 ·rename_i a b c
  split at e
  ·rename_i hc
   cases e
   cases r with
   | cons r1 t=>
    cases t with
    | cons r2 t=>
     cases t with
     | cons r3 t=>
      cases t;cases r1;cases r2;cases r3
      exact⟨a,b,c,_,rfl,hc.2.2.2.1,hc.2.2.2.2,⟨hc.1,by omega,by omega⟩,rfl⟩
  ·cases e
 ·cases e
noncomputable def CM:D->D->Hh->R D:=fun a b h=>match a with
 | .ref n=>dIx (.ref n) b h
 | _=>.bad
noncomputable def rE (o i v:ME):MS:=fun env h=>(o env h).bind fun x h1=>(i env h1).bind fun y h2=>(CM x y h2).bind fun z h3=>(v env h3).bind fun u h4=>(oy z u h4).bind fun t h5=>(iz x y t h5).bind fun _ h6=>.ok (.nx env) h6
theorem Ep:JN X (fun x y H Q=>GF X.K x y H Q):=by
 intro pins s σ H o i ov iv Q I ro ri h
 obtain⟨p,xs,k,z,rfl,rfl,hq,he,q⟩:=h
 cases ro
 obtain⟨t,rfl⟩:=ri
 obtain⟨its,r,pl,hz⟩:=I.list hq
 obtain⟨j,h1,h2,h3,h4,h5⟩:=nU he
 obtain⟨w,ew,rw'⟩:=r.get h2
 have hl:=r.length
 have hn:=jj
 have fin:EP X pins σ Q w s:=⟨z,H,I,rw',q⟩
 by_cases h0:0<=k
 ·have hj:k.toNat=j:=by
   rw[seqIndex_of h0 h5] at h1
   exact Option.some.inj h1
  exact wpAny_getItem_list pl.isList h0 (by omega) (by rw[hj];simpa using ew) fin
 ·have hj:(k+(its.toArray.size:Int)).toNat=j:=by
   rw[seqIndex_neg (by omega) h4] at h1
   rw[List.size_toArray,<- hl]
   exact Option.some.inj h1
  exact wpAny_getItem_list_neg pl.isList (by omega) (by rw[List.size_toArray]<;>omega) (by omega) (by rw[hj];simpa using ew) fin
theorem DL {o i e:Expr} {mo mi me:ME} {tpos pos:Pos} (ho:PE X o (tM X.K g ε mo)) (hi:PE X i (tM X.K g ε mi)) (he:PE X e (tM X.K g ε me))
  (ha:∀ov iv new,augStore i ov iv new=(do holding [new,ov,iv] (setItem ov iv new);release [new,ov,iv] [];pure .next):=by intros;rfl):PS X (.AugAssign (.Subscript o i tpos) .Add e pos) (tMS X.K g ε (rE mo mi me)):=
 PS.imp (EY ho hi Ep he C3 set_list ha) fun E σ H ⟨α,env,h,s,w⟩=>tM.use s w.bind fun d1 h1 v1 H1 α1 e1 s1 r1 w1=>tM.use s1 (w1.ext e1).bind fun d2 h2 v2 H2 α2 e2 s2 r2 w2=>by
  have w3:=(w2.ext e2).bind
  have r1':=r1.ext e2
  unfold CM at w3
  cases r1' with
  | @ref n p hp=>
   simp only[dIx] at w3
   cases eq:jT (.ref n) h2 with
   | none=>simp only[eq] at w3;exact w3.elim
   | some ds=>
    simp only[eq] at w3
    cases r2 with
    | int k=>
     cases ea:atI ds k with
     | none=>simp only[ea] at w3;exact w3.elim
     | some z=>
      simp only[ea] at w3
      have w4:WQ X.K g ε α2 H2 ((me env h2).bind _) _:=w3
      have eq':aM h2 n=some ds:=eq
      obtain⟨vs',hv',rs'⟩:=s2.heap.lst eq' hp
      obtain⟨v',ev',rv'⟩:=yt rs' ea
      refine⟨p,vs',k,v',rfl,rfl,SqL.of hv',ev',tM.use s2 w4.bind fun d3 h3 v3 H3 α3 e3 s3 r3 w5=>?_⟩
      refine BQ (K:=X.K) (g:=g) (ε:=ε) α3 H3 h3 z d3 v' v3 _ s3.heap (rv'.ext e3) r3 ((w5.ext e3).bind.mono fun t h4 _ w6 v4 H4 α4 e4 hr4 r4=>?_)
      refine o_ (K:=X.K) (g:=g) (ε:=ε) α4 H4 h4 (.ref n) (.int k) t (.ref p) (.int k) v4 _ hr4 (.ref ((e3.trans e4).get hp)) (.int k) r4 (((w6.ext e4)).bind.mono fun _ h5 _ w7 H5 α5 e5 hr5=>?_)
      exact(show cq X.K g α H E (.nx env) h5 from w7) H5 α5 (e1.trans (e2.trans (e3.trans (e4.trans e5)))) hr5 _ (s3.vs.ext (e4.trans e5))
    | _=>exact w3.elim
  | _=>exact w3.elim
end
mutual
noncomputable def gU (k:Nat):D->Bool
 | .ref n=>decide (n<k)
 | .tup ds=>cx k ds
 | .frl ds=>cx k ds
 | .scr ds=>cx k ds
 | _=>true
noncomputable def cx (k:Nat):List D->Bool
 | []=>true
 | d::ds=>gU k d&&cx k ds
end
noncomputable def wj (k:Nat):O->Bool
 | .lst ds=>cx k ds
 | .set _=>true
 | .dic kvs=>cx k (kvs.map (·.2))
 | .dit kvs=>cx k (kvs.map (·.2))
noncomputable def lT (f:D->Option D):List D->Option (List D)
 | []=>some []
 | d::ds=>match f d,lT f ds with
  | some e,some es=>some (e::es)
  | _,_=>none
noncomputable def iL (k:Nat) (h:Hh):Nat->D->Option D
 | 0,_=>none
 | f+1,d=>match d with
  | .ref n=>if n<k then some (.ref n) else match aM h n with
   | some ds=>(lT (iL k h f) ds).map .frl
   | none=>none
  | .tup ds=>(lT (iL k h f) ds).map .tup
  | .frl ds=>(lT (iL k h f) ds).map .frl
  | .scr _=>none
  | d=>some d
noncomputable def gS (h:Hh):D->Hh->R D:=fun d h'=>if (h'.take h.length).all (wj h.length)=true then match iL h.length h' 8 d with
 | some e=>.ok e (h'.take h.length)
 | none=>.bad else .bad
open Classical in
noncomputable def lG (S:Addr->Prop) (o:Addr->Obj) (H:Hp):Hp:=fun p=>if S p then (H p).map (.frz (o p)) else H p
theorem GC {P:Program} {w:World} {H:Hp} {h:Heap} {p:Addr} {u:HO} (q:cF P w H h p u) (mu:Mut (some u)):∃o,h.get? p=some o:=by
 cases u with
 | lst xs=>obtain⟨_,_,_,_,e'⟩:=q;exact⟨_,e'⟩
 | dK kvs=>obtain⟨_,_,_,_,o,_,_,e',_⟩:=q;exact⟨_,e'⟩
 | dT kvs=>obtain⟨_,_,_,_,o,_,_,e',_⟩:=q;exact⟨_,e'⟩
 | set S n=>obtain⟨o,_,_,_,e',_⟩:=q;exact⟨_,e'⟩
 | ins C dx fs=>obtain⟨_,_,_,e',_⟩:=q;exact⟨_,e'⟩
 | ext φ=>obtain⟨_,⟨_,e'⟩,_⟩:=q;exact⟨_,e'⟩
 | _=>exact absurd mu (fun z=>z)
theorem GN {outer:List Env} {P:Program} {w:World} {H:Hp} {s:Shared} {Q Q':VK} {u:Value} {s':Shared} (h:CE outer P w H s Q' u s')
  (hQ:∀v H',Q' v H'->∃S:Addr->Prop,(∀p,S p->∃u,H' p=some u/\Mut (some u))/\∀o:Addr->Obj,Q v (lG S o H')):CE outer P w H s Q u s':=by
 obtain⟨v,H',os,bare,un,hok,r,q⟩:=h
 obtain⟨S,hS,q⟩:=hQ v H' q
 have hS1:∀p,S p->∀u,H' p=some u->Mut (some u):=fun p z u e=>by obtain⟨u',e',m⟩:=hS p z;rw[e] at e';cases e';exact m
 have off:∀(o:Addr->Obj) b u,H' b=some u->¬ Mut (some u)->lG S o H' b=some u:=fun o b u e m=>by
  unfold lG
  rw[if_neg fun z=>m (hS1 b z u e)];exact e
 have offn:∀(o:Addr->Obj) b,H' b=none->lG S o H' b=none:=fun o b e=>by
  unfold lG
  split
  ·rw[e];rfl
  ·exact e
 let o:Addr->Obj:=fun b=>(s'.heap.get? b).getD { cls:=.none,data:=.fields #[] }
 refine⟨v,lG S o H',os,bare,⟨un.keep,un.slot,fun b ob e n hx=>offn o b (un.free b ob e n hx),un.there,fun b xs e=>off o b _ (un.oh b xs e) fun z=>z,fun b ob xs e=>off o b _ (un.qh b ob xs e) fun z=>z,fun b ps e=>?_⟩,?_,r,q o⟩
 ·obtain⟨more,e1⟩:=un.tD b ps e
  exact⟨more,off o b _ e1 fun z=>z⟩
 ·intro b u e
  have st:∀u,cF P w H' s'.heap b u->cF P w (lG S o H') s'.heap b u:=fun u x=>x.pN (fun _ _ _ z=>z) (fun c z=>off o c _ z fun z=>z) fun c xs z=>off o c _ z fun z=>z
  unfold lG at e
  split at e
  ·rename_i hb
   obtain⟨u',e',m⟩:=hS b hb
   rw[e'] at e
   cases e
   have x:=hok b u' e'
   obtain⟨ob,eo⟩:=GC x m
   refine⟨?_,st _ x⟩
   show s'.heap.get? b=some ((s'.heap.get? b).getD _)
   rw[eo];rfl
  ·exact st u (hok b u e)
section
variable {K:PySem.W.Frag} {g:GG} {α α':List Addr} {H H' H2:Hp} {k:Nat}
structure vo (K:PySem.W.Frag) (α α':List Addr) (H' H2:Hp) (k:Nat):Prop where
 pre:∀n,n<k->α[n]?=α'[n]?
 tup:∀p xs,H' p=some (.tup xs)->H2 p=some (.tup xs)
 frz:∀p (o:Obj) (u:HO),H' p=some (.frz o u)->H2 p=some (.frz o u)
mutual
theorem nW (L:vo K α α' H' H2 k):∀{d:D} {v:V},gU k d=true->aP K g α' H' d v->aP K g α H2 d v
 | _,_,_,.non=>.non
 | _,_,_,.bl b=>.bl b
 | _,_,_,.int i=>.int i
 | _,_,_,.str x=>.str x
 | _,_,hl,.ref h=>.ref (by rw[L.pre _ (by simpa [gU] using hl)];exact h)
 | _,_,hl,.tup h r=>.tup (L.tup _ _ h) (g_ L (by simpa [gU] using hl) r)
 | _,_,hl,.frl h r=>.frl (let ⟨o,h⟩:=h;⟨o,L.frz _ _ _ h⟩) (g_ L (by simpa [gU] using hl) r)
 | _,_,hl,.scr h r=>.scr (h.elim (fun⟨o,h⟩=>.inl ⟨o,L.frz _ _ _ h⟩) .inr) (g_ L (by simpa [gU] using hl) r)
 | _,_,_,.fn h=>.fn h
 | _,_,_,.edic h=>.edic (L.frz _ _ _ h)
 | _,_,_,.exc hg h hc hd hf=>.exc hg (L.frz _ _ _ h) hc hd (hf.elim .inl fun⟨dx,od,a,b⟩=>.inr ⟨dx,od,a,L.frz _ _ _ b⟩)
theorem g_ (L:vo K α α' H' H2 k):∀{ds:List D} {vs:List V},cx k ds=true->aA K g α' H' ds vs->aA K g α H2 ds vs
 | _,_,_,.nil=>.nil
 | _,_,hl,.cons r t=>by
  simp only[cx,Bool.and_eq_true] at hl
  exact .cons (nW L hl.1 r) (g_ L hl.2 t)
end
theorem lg {f:D->Option D} (hf:∀d e v,f d=some e->aP K g α' H' d v->aP K g α H2 e v):∀{ds es:List D} {vs:List V},lT f ds=some es->aA K g α' H' ds vs->aA K g α H2 es vs
 | [],es,_,e,.nil=>by cases e;exact .nil
 | d::ds,es,_,e,.cons r t=>by
  unfold lT at e
  split at e
  ·rename_i e1 es1 h1 h2
   cases e
   exact .cons (hf _ _ _ h1 r) (lg hf h2 t)
  ·cases e
theorem nS {h' hx:Hh} (L:vo K α α' H' H2 k) (r:aZ K g α' H' h') (hx':∀n ds,aM hx n=some ds->aM h' n=some ds) (fz:∀n p ds vs,k<=n->aM hx n=some ds->α'[n]?=some p->H' p=some (.lst vs)->Fr1 H2 p vs) :
  ∀(f:Nat) (d e:D) (v:V),iL k hx f d=some e->aP K g α' H' d v->aP K g α H2 e v
 | 0,_,_,_,e,_=>by cases e
 | f+1,d,e,v,he,rd=>by
  unfold iL at he
  cases rd with
  | non=>cases he;exact .non
  | bl b=>cases he;exact .bl b
  | int i=>cases he;exact .int i
  | str x=>cases he;exact .str x
  | fn h=>cases he;exact .fn h
  | edic h=>cases he;exact .edic (L.frz _ _ _ h)
  | exc hg h hc hd hf=>cases he;exact .exc hg (L.frz _ _ _ h) hc hd (hf.elim .inl fun⟨dx,od,a,b⟩=>.inr ⟨dx,od,a,L.frz _ _ _ b⟩)
  | scr _ _=>cases he
  | tup h rs=>
   simp only at he
   cases e1:lT (iL k hx f) _ with
   | none=>rw[e1] at he;cases he
   | some es=>rw[e1] at he;cases he;exact .tup (L.tup _ _ h) (lg (fun d e v=>nS L r hx' fz f d e v) e1 rs)
  | frl h rs=>
   simp only at he
   cases e1:lT (iL k hx f) _ with
   | none=>rw[e1] at he;cases he
   | some es=>rw[e1] at he;cases he;exact .frl (let ⟨o,h⟩:=h;⟨o,L.frz _ _ _ h⟩) (lg (fun d e v=>nS L r hx' fz f d e v) e1 rs)
  | @ref n p hp=>
   simp only at he
   split at he
   ·rename_i hn
    cases he
    exact .ref (by rw[L.pre n hn];exact hp)
   ·rename_i hn
    cases el:aM hx n with
    | none=>rw[el] at he;cases he
    | some ds=>
     rw[el] at he
     simp only at he
     cases e1:lT (iL k hx f) ds with
     | none=>rw[e1] at he;cases he
     | some es=>
      rw[e1] at he;cases he
      obtain⟨vs,hv,rs⟩:=r.lst (hx' n ds el) hp
      exact .frl (fz n p ds vs (by omega) el hp hv) (lg (fun d e v=>nS L r hx' fz f d e v) e1 rs)
end
theorem uM {β:Type} {l:List β} {k n:Nat} {x:β} (e:(l.take k)[n]?=some x):n<k/\l[n]?=some x:=by
 rw[List.getElem?_take] at e
 split at e
 ·exact⟨by assumption,e⟩
 ·cases e
theorem xJ {α α':List Addr} (h:α <+: α') {n:Nat} (hn:n<α.length):α[n]?=α'[n]?:=by
 obtain⟨t,rfl⟩:=h
 rw[List.getElem?_append_left hn]
theorem Dp {β:Type} {l:List β} {f:β->Bool} (h:l.all f=true) {n:Nat} {x:β} (e:l[n]?=some x):f x=true:=List.all_eq_true.mp h x (List.mem_of_getElem? e)
theorem Bt {K:PySem.W.Frag} {g:GG} {α α' α2:List Addr} {H H' H2:Hp} {h h':Hh} (r0:α.length=h.length) (e:Ext K α H α' H') (r:aZ K g α' H' h') (hl:(h'.take h.length).all (wj h.length)=true)
  (L:vo K α2 α' H' H2 h.length) (kp:∀n p u,n<h.length->α'[n]?=some p->H' p=some u->H2 p=some u):∀(n:Nat) (p:Addr) (o:O),n<h.length->α'[n]?=some p->(h'.take h.length)[n]?=some o->OAt K g α2 H2 p o:=by
 intro n p o hn hp ho
 have lo:=Dp hl ho
 obtain⟨_,ho'⟩:=uM ho
 have q:=r.here n p o hp ho'
 cases o with
 | lst ds=>obtain⟨vs,a,b⟩:=q;exact⟨vs,kp n p _ hn hp a,g_ L lo b⟩
 | set m=>exact kp n p _ hn hp q
 | dic kvs=>
  obtain⟨kws,a,b⟩:=q
  refine⟨kws,kp n p _ hn hp a,?_⟩
  replace lo:cx h.length (kvs.map (·.2))=true:=lo
  clear a ho ho'
  induction b with
  | nil=>exact .nil
  | cons x t ih=>
   simp only[List.map_cons,cx,Bool.and_eq_true] at lo
   exact .cons ⟨x.1,nW L lo.1 x.2⟩ (ih lo.2)
 | dit kvs=>
  obtain⟨kws,a,b⟩:=q
  refine⟨kws,kp n p _ hn hp a,?_⟩
  replace lo:cx h.length (kvs.map (·.2))=true:=lo
  clear a ho ho'
  induction b with
  | nil=>exact .nil
  | cons x t ih=>
   simp only[List.map_cons,cx,Bool.and_eq_true] at lo
   exact .cons ⟨x.1,nW L lo.1 x.2⟩ (ih lo.2)
section
variable {P:Program} {w:World} {K:PySem.W.Frag} {mg:Str->Option Value} {base:Heap} {g:GG} {k np:Nat} {f:Addr} {fd:FuncData} {ps:List Str} {m:MF}
theorem n9 {CX:CXT} {ε:XK->EE} (F:fL P w K mg base CX k f fd ps (spG K g ε np m)):fL P w K mg base CX k f fd ps (spG K g ε np fun ds h=>(m ds h).bind (gS h)):=by
 refine⟨fun vs H Q E h=>?_,fun A outer s H args us vs Q E hr e0 hb hv hsp=>?_⟩
 ·obtain⟨hl,α,ds,h,rs,hh,w⟩:=h
  exact F.len vs H (fun _ _=>True) E ⟨hl,α,ds,h,rs,hh,w.bind.mono fun _ _ _ _ _ _ _ _ _ _=>trivial⟩
 ·obtain⟨hl,α,ds,h,rs,hh,w⟩:=hsp
  refine codeAny_mono (F.run A outer s H args us vs (fun v H'=>∃α' d h',Ext K α H α' H'/\aZ K g α' H' h'/\aP K g α' H' d v/\WQ K g (ε E) α H (gS h d h') (aX K g α H Q)) E hr e0 hb hv ⟨hl,α,ds,h,rs,hh,w.bind.mono fun d h' _ w1 v H' α' e r rd=>⟨α',d,h',e,r,rd,w1⟩⟩) fun res s' q=>?_
  cases res with
  | error e=>exact q
  | ok fl=>
   cases fl with
   | ret u=>
    refine GN (show CE outer P _ H s _ u s' from q) fun v H' ⟨α',d,h',e,r,rd,w⟩=>?_
    refine⟨fun p=>∃n ds,h.length<=n/\α'[n]?=some p/\aM h' n=some ds,fun p ⟨n,ds,_,hp,hn⟩=>?_,fun o=>?_⟩
    ·obtain⟨vs,hv,_⟩:=r.lst hn hp
     exact⟨_,hv,trivial⟩
    ·unfold gS at w
     obtain⟨hl,w⟩:=WQ.f6 w
     cases ez:iL h.length h' 8 d with
     | none=>rw[ez] at w;exact w.elim
     | some e'=>
      rw[ez] at w
      generalize hS:(fun p=>∃n ds,h.length<=n/\α'[n]?=some p/\aM h' n=some ds)=S
      have inS:∀p,S p↔∃n ds,h.length<=n/\α'[n]?=some p/\aM h' n=some ds:=fun p=>by rw[<- hS]
      have k0:α.length=h.length:=hh.len
      have notS:∀p u,H' p=some u->(∀vs,u≠.lst vs)->¬ S p:=fun p u e1 e2 z=>by
       obtain⟨n,ds,_,hp,hn⟩:=(inS p).mp z
       obtain⟨vs,hv,_⟩:=r.lst hn hp
       rw[e1] at hv;cases hv;exact e2 vs rfl
      have off:∀p,¬ S p->lG S o H' p=H' p:=fun p z=>by unfold lG;rw[if_neg z]
      have L:vo K α α' H' (lG S o H') h.length:=⟨fun n hn=>xJ e.pre (by omega),fun p xs z=>by rw[off p (notS p _ z fun vs z=>nomatch z)];exact z,fun p o u z=>by rw[off p (notS p _ z fun vs z=>nomatch z)];exact z⟩
      have kp:∀n p u,n<h.length->α'[n]?=some p->H' p=some u->lG S o H' p=some u:=fun n p u hn hp e1=>by
       rw[off p fun z=>?_];exact e1
       obtain⟨m,ds,hm,hp',_⟩:=(inS p).mp z
       have:=r.inj n m p hp hp'
       omega
      have rd2:aP K g α (lG S o H') e' v:=nS L r (fun _ _ z=>z) (fun n p ds vs hn hl hp hv=>⟨o p,by unfold lG;rw[if_pos ((inS p).mpr ⟨n,ds,hn,hp,hl⟩),hv];rfl⟩) 8 d e' v ez rd
      refine(show aX K g α H Q e' (h'.take h.length) from w) v _ α ⟨⟨List.prefix_refl _,fun p xs z=>L.tup p xs (e.tup p xs z),fun p o u z=>L.frz p o u (e.frz p o u z)⟩,fun p u z n=>?_,fun _ z n=>absurd z n⟩ ⟨?_,fun n m p h1 h2=>hh.inj n m p h1 h2,fun n p ob h1 h2=>?_⟩ rd2
      ·rw[off p fun z'=>?_];exact e.keep p u z n
       obtain⟨m,ds,_,hp',_⟩:=(inS p).mp z'
       have:=e.new p (List.mem_of_getElem? hp') n
       rw[z] at this;cases this
      ·rw[List.length_take,<- r.len,k0]
       have:=e.pre.length_le
       omega
      ·have hn:n<h.length:=(uM h2).1
       rw[xJ e.pre (by omega)] at h1
       exact Bt k0 e r hl L kp n p ob hn h1 h2
   | next=>exact q
   | brk=>exact q
   | cont=>exact q
end
end L2.FE
namespace L2
open PySem PySem.Spec PyProof.Rows
noncomputable def Izl (K:PySem.W.Frag) (a b:Addr):It:=
 ⟨fun i H=>∃xs ys x y,SqL K H a xs/\SqL K H b ys/\xs[i]?=some x/\ys[i]?=some y,
  fun i H x H'=>∃p v w,x=.ref p/\H p=none/\(∀xs,SqL K H a xs->xs[i]?=some v)/\(∀ys,SqL K H b ys->ys[i]?=some w)/\H'=upd H p (.tup [v,w]),
  fun i H=>∃xs ys,SqL K H a xs/\SqL K H b ys/\(xs.length<=i\/ys.length<=i)⟩
structure ZA (z TI TO i1 i2:Addr):Prop where
 TIz:TI≠z
 TOz:TO≠z
 i1z:i1≠z
 i2z:i2≠z
 TITO:TI≠TO
 TIi1:TI≠i1
 TIi2:TI≠i2
 TOi1:TO≠i1
 TOi2:TO≠i2
 i12:i1≠i2
noncomputable def Fz (z TI TO i1 i2 a b:Addr) (i:Nat) (h:Heap):Prop:=
 IsZip h z TI TO .none/\IsPair h TI (.ref i1) (.ref i2)/\(∃x y,IsPair h TO x y)/\h.IsListIter i1 a i/\h.IsListIter i2 b i
theorem qP {z TI TO i1 i2 a b:Addr} {i:Nat} {h:Heap} {xs ys:Array Value} (A:ZA z TI TO i1 i2) (st:Fz z TI TO i1 i2 a b i h) (ha:h.IsList a xs) (hb:h.IsList b ys):ZipApart z TI TO i1 i2 a b:=by
 obtain⟨hz,hTI,⟨x,y,hTO⟩,h1,h2⟩:=st
 have cl:∀{l:Addr} {vs:Array Value},h.IsList l vs->l≠z/\l≠TO/\l≠i1/\l≠i2:=fun{l vs} hl=>by
  obtain⟨oa,qa,ca,_⟩:=hl
  obtain⟨o1,q1,c1,_⟩:=h1
  obtain⟨o2,q2,c2,_⟩:=h2
  refine⟨fun q=>?_,fun q=>?_,fun q=>?_,fun q=>?_⟩
  ·rw[q,hz] at qa;cases qa;injection ca with w;exact absurd w (by decide)
  ·rw[q,hTO] at qa;cases qa;injection ca with w;exact absurd w (by decide)
  ·rw[q,q1] at qa;cases qa;rw[c1] at ca;injection ca with w;exact absurd w (by decide)
  ·rw[q,q2] at qa;cases qa;rw[c2] at ca;injection ca with w;exact absurd w (by decide)
 obtain⟨a1,a2,a3,a4⟩:=cl ha
 obtain⟨b1,b2,b3,b4⟩:=cl hb
 exact⟨A.TIz,A.TOz,A.i1z,A.i2z,A.TITO,A.TIi1,A.TIi2,A.TOi1,A.TOi2,A.i12,a1,a2,a3,a4,b1,b2,b3,b4⟩
theorem zO {P:Program} {w:World} {K:PySem.W.Frag} {elts:List Expr} {k:Nat} {pos:Pos} {a b z TI TO i1 i2:Addr} (A:ZA z TI TO i1 i2):Turn P w K (.Tuple elts k pos) (Izl K a b) [z,TI,TO,i1,i2] z (Fz z TI TO i1 i2 a b) where
 mem:=by simp
 obj:=fun i h st c hc=>by
  obtain⟨hz,hTI,⟨x,y,hTO⟩,⟨o1,q1,_,d1⟩,⟨o2,q2,_,d2⟩⟩:=st
  simp only[List.mem_cons,List.not_mem_nil,or_false] at hc
  rcases hc with e | e | e | e | e<;>rw[e]
  ·exact⟨_,hz,fun v q=>nomatch q⟩
  ·exact⟨_,hTI,fun v q=>nomatch q⟩
  ·exact⟨_,hTO,fun v q=>nomatch q⟩
  ·exact⟨o1,q1,fun v y=>by rw[d1] at y;cases y⟩
  ·exact⟨o2,q2,fun v y=>by rw[d2] at y;cases y⟩
 keep:=fun i h h' st kk=>by
  obtain⟨hz,hTI,⟨x,y,hTO⟩,h1,h2⟩:=st
  exact⟨kk z (by simp) _ hz,kk TI (by simp) _ hTI,⟨x,y,kk TO (by simp) _ hTO⟩,h1.at fun o q=>kk i1 (by simp) o q,h2.at fun o q=>kk i2 (by simp) o q⟩
 item:=by
  intro X hP hw hK hc i pins s σ H E I hf st hg
  subst hP hw hK
  obtain⟨xs,ys,x,y,hq,hr,hx,hy⟩:=hg
  obtain⟨its,rv,p,hz⟩:=I.list hq
  obtain⟨jts,rw',p',hz'⟩:=I.list hr
  obtain⟨u,hu,ru⟩:=rv.get hx
  obtain⟨u',hu',ru'⟩:=rw'.get hy
  have D:=qP A st p.isList p'.isList
  obtain⟨z1,z2,⟨t1,t2,z3⟩,z4,z5⟩:=st
  refine wpAny_pyNext_zip_item D z1 z2 z3 z4 z5 p.isList p'.isList (x:=u) (y:=u') (by simpa using hu) (by simpa using hu') fun h1 a1 a2 a3 a4 a5 a6 k1=>?_
  refine⟨_,rfl,wpAny_letOwnedTupleGo_zip a1 fun h2 b1 b2=>?_⟩
  have lt:∀{c o},s.heap.get? c=some o->s.heap.objs.size≠c:=fun e=>Nat.ne_of_gt (Heap.lt_size e)
  have kk:∀c o,c∉[z,TI,TO,i1,i2]->s.heap.get? c=some o->h2.get? c=some o:=fun c o hc q=>by
   simp only[List.mem_cons,List.not_mem_nil,or_false,not_or] at hc
   exact b2.extBut _ _ hc.1 (k1 c o hc.1 hc.2.2.1 hc.2.2.2.1 hc.2.2.2.2 q)
  have hn:H s.heap.objs.size=none:=I.hok.fresh (Nat.le_refl _)
  have hzT:s.heap.objs.size≠z:=lt z1
  have nTf:∀c∈[z,TI,TO,i1,i2],c≠s.heap.objs.size:=fun c hc=>by
   simp only[List.mem_cons,List.not_mem_nil,or_false] at hc
   rcases hc with e | e | e | e | e<;>rw[e]
   ·exact(lt z1).symm
   ·exact(lt z2).symm
   ·exact(lt z3).symm
   ·obtain⟨o,q,_⟩:=z4;exact(lt q).symm
   ·obtain⟨o,q,_⟩:=z5;exact(lt q).symm
  have hT2:lQ h2 s.heap.objs.size #[u,u']:=⟨_,b2.extBut _ _ hzT a5,⟨rfl,_,rfl⟩,rfl⟩
  refine⟨.ref s.heap.objs.size,upd H s.heap.objs.size (.tup [x,y]),I.yielded (t':=s.toks) hf kk (Nat.le_refl _) ⟨by show 2<=sizeLine;decide,[u,u'],.cons ru (.cons ru' .nil),hT2⟩,rfl,⟨_,x,y,rfl,hn,fun l hl=>by rw[I.jv hl hq];exact hx,fun l hl=>by rw[I.jv hl hr];exact hy,rfl⟩,?_,fun c hc=>by rw[aS (nTf c hc)];exact(hf c hc).1⟩
  exact⟨b1,b2.extBut _ _ A.TIz (k1 _ _ A.TIz A.TITO A.TIi1 A.TIi2 z2),⟨_,_,b2.extBut _ _ A.TOz a2⟩,a3.extBut b2.extBut A.i1z,a4.extBut b2.extBut A.i2z⟩
 done:=by
  intro X hP hw hK hc i pins s σ H E I hf st hg
  subst hP hw hK
  obtain⟨xs,ys,hq,hr,hx⟩:=hg
  obtain⟨its,rv,p,hz⟩:=I.list hq
  obtain⟨jts,rw',p',hz'⟩:=I.list hr
  have D:=qP A st p.isList p'.isList
  obtain⟨z1,z2,⟨t1,t2,z3⟩,z4,z5⟩:=st
  have hl:=rv.length
  have hl':=rw'.length
  refine wpAny_pyNext_zip_end (I.ok.hd hc) D z1 z2 z3 z4 z5 p.isList p'.isList ?_ fun h' eb=>⟨rfl,I.nX (t':=s.toks) hf fun b u hb q=>eb b u (fun z=>hb (by simp[z])) (fun z=>hb (by simp[z])) (fun z=>hb (by simp[z])) (fun z=>hb (by simp[z])) q⟩
  rcases hx with hx | hx
  ·exact .inl (Array.getElem?_eq_none (by rw[List.size_toArray];omega))
  ·exact .inr (Array.getElem?_eq_none (by rw[List.size_toArray];omega))
 self:=fun A i s Q E st q=>wpAny_pyIter_zip st.1 q
end L2
namespace L2.FE
open PySem PySem.Spec PyProof.Rows
section
variable {X:Cx} {g:GG} {ε:EE} {K:PySem.W.Frag}
noncomputable def fG:List D->List D->List D
 | x::xs,y::ys=>D.tup [x,y]::fG xs ys
 | _,_=>[]
theorem oO:∀{ds es:List D} {i:Nat},(fG ds es)[i]?=match ds[i]?,es[i]? with | some d,some e=>some (D.tup [d,e]) | _,_=>none
 | [],_,_=>by simp[fG]
 | _::_,[],_=>by
  simp only[fG,List.getElem?_nil]
  split<;>simp_all
 | _::_,_::_,0=>by simp[fG]
 | _::xs,_::ys,i+1=>by
  simp only[fG,List.getElem?_cons_succ]
  exact oO
theorem yr {α:List Addr} {H:Hp} {h:Hh} {d e:D} {v w:V} {p:Addr} (hr:aZ K g α H h) (rv:aP K g α H d v) (rw':aP K g α H e w) (hp:H p=none) :
  ∃α',Ext K α H α' (upd H p (.tup [v,w]))/\aZ K g α' (upd H p (.tup [v,w])) h/\aP K g α' (upd H p (.tup [v,w])) (.tup [d,e]) (.ref p):=
 ⟨α,Ext.fresh hp,hr.grow hp,.tup a9 (.cons (rv.ext (Ext.fresh hp)) (.cons (rw'.ext (Ext.fresh hp)) .nil))⟩
theorem yZ {α:List Addr} {H:Hp} {a b:Addr} {ds es:List D} {vs ws:List V} (hq:Fro K H a vs) (rs:aA K g α H ds vs) (hq':Fro K H b ws) (rs':aA K g α H es ws):Reads K g (Izl K a b) (Src.snap (fG ds es)).rdr α H:=by
 intro α2 H2 h2 x2 hr i
 have hq2:SqL K H2 a vs:=(x2.fro _ _ hq).sq
 have hq2':SqL K H2 b ws:=(x2.fro _ _ hq').sq
 have rs2:=rs.ext x2
 have rs2':=rs'.ext x2
 show match some (fG ds es)[i]? with | none=>True | some none=>_ | some (some d)=>_
 rw[oO]
 cases e:ds[i]? with
 | none=>
  have:ds.length<=i:=List.getElem?_eq_none_iff.mp e
  exact⟨vs,ws,hq2,hq2',.inl (by rw[<- rs.length];exact this)⟩
 | some d=>
  cases e':es[i]? with
  | none=>
   have:es.length<=i:=List.getElem?_eq_none_iff.mp e'
   exact⟨vs,ws,hq2,hq2',.inr (by rw[<- rs'.length];exact this)⟩
  | some d'=>
   obtain⟨v,ev,rv⟩:=rs2.get e
   obtain⟨v',ev',rv'⟩:=rs2'.get e'
   refine⟨⟨vs,ws,v,v',hq2,hq2',ev,ev'⟩,fun x H' y=>?_⟩
   obtain⟨p,u,u',e1,hp,e2,e2',e3⟩:=y
   subst e1 e3
   have:=e2 vs hq2
   rw[ev] at this
   cases this
   have:=e2' ws hq2'
   rw[ev'] at this
   cases this
   exact yr hr rv rv' hp
noncomputable def tR (m:MF):MF:=fun ds h=>if cx 0 ds=true then match m ds [] with
  | .ok d _=>if gU 0 d=true then .ok d h else .bad
  | _=>.bad
 else m ds h
theorem yG {α α':List Addr} {H H':Hp} (e:Ext K [] H α' H'):Ext K α H α H':=
 ⟨⟨List.prefix_refl _,e.tup,e.frz⟩,fun p o h _=>e.keep p o h (by simp),fun p a b=>absurd a b⟩
theorem Bu {α α':List Addr} {H H':Hp} {h:Hh} (e:Ext K [] H α' H') (r:aZ K g α H h):aZ K g α H' h:=
 ⟨r.len,r.inj,fun n p o a b=>(r.here n p o a b).ex0 (yG (α:=α) e).toEx0 fun u hu=>e.keep p u hu (by simp)⟩
theorem Cn {np:Nat} {m:MF} {vs:List V} {H:Hp} {Q:VK} {E} (h:spM K g np (tR m) vs H Q E):spM K g np m vs H Q E:=by
 obtain⟨hl,α,ds,h,rs,hh,w⟩:=h
 unfold tR at w
 by_cases lo:cx 0 ds=true
 ·rw[if_pos lo] at w
  cases e:m ds [] with
  | bad=>rw[e] at w;exact w.elim
  | err x h1=>rw[e] at w;exact w.elim
  | ok d h1=>
   rw[e] at w
   simp only at w
   obtain⟨ld,w⟩:=WQ.f6 w
   refine⟨hl,[],ds,[],g_ ⟨fun n hn=>absurd hn (Nat.not_lt_zero _),fun _ _ z=>z,fun _ _ _ z=>z⟩ lo rs,⟨rfl,fun n m p a=>by simp at a,fun n p o a=>by simp at a⟩,?_⟩
   rw[e]
   exact fun v H' α' ex hr' rd=>(show aX K g α H Q d h from w) v H' α (yG ex) (Bu ex hh) (nW ⟨fun n hn=>absurd hn (Nat.not_lt_zero _),fun _ _ z=>z,fun _ _ _ z=>z⟩ ld rd)
 ·rw[if_neg lo] at w
  exact⟨hl,α,ds,h,rs,hh,w⟩
theorem wL {P:Program} {w:World} {mg:Str->Option Value} {base:Heap} {k np:Nat} {f:Addr} {fd:FuncData} {ps:List Str} {m:MF} (F:fL P w K mg base CX0 k f fd ps (spM K g np m)):fL P w K mg base CX0 k f fd ps (spM K g np (tR m)):=
 ⟨fun vs H Q E h=>F.len vs H Q E (Cn h),fun A outer s H args us vs Q E hr e0 hb hv hsp=>F.run A outer s H args us vs Q E hr e0 hb hv (Cn hsp)⟩
end
end L2.FE
namespace L2
open PySem PySem.Spec PyProof.Rows
section
variable {prog:Program} {w:World} {A:Around} {E:Value->Shared->Prop} {s:Shared}
theorem zp {z U V a b p q:Addr} {i j:Nat} {xs ys:Array Value} {x y v1 v2:Value} {Q:Value->Shared->Prop} (D:ZipApart z U V a b p q) (hz:IsZip s.heap z U V .none) (hU:IsPair s.heap U (.ref a) (.ref b)) (hV:IsPair s.heap V v1 v2)
  (ha:s.heap.IsTupleIter a p i) (hb:s.heap.IsTupleIter b q j) (hp:s.heap.IsTuple p xs) (hq:s.heap.IsTuple q ys) (hx:xs[i]?=some x) (hy:ys[j]?=some y)
  (K:∀h',IsZip h' z U V (rawInt s.heap.objs.size)->IsPair h' V x y->h'.IsTupleIter a p (i+1)->h'.IsTupleIter b q (j+1)->IsPair h' s.heap.objs.size x y->h'.objs.size=s.heap.objs.size+1->(∀c o,c≠z->c≠V->c≠a->c≠b->s.heap.get? c=some o->h'.get? c=some o)->Q (.ref s.heap.objs.size) { s with heap:=h' }) :
  wpAny (model prog w) A (Builtin.«zip.__next__» ⟨[.ref z],[]⟩) (fun f s'=>∃v,f=.done (.ret v)/\Q v s') E s:=by
 show wpAny _ _ (field (.ref z) 2 >>= _) _ _ _;refine wpAny_bind (wpAny_field hz rfl (x:=.bool false) rfl ?_);show wpAny _ _ (field (.ref z) 3 >>= _) _ _ _
 refine wpAny_bind (wpAny_field hz rfl (x:=.ref U) rfl (wpAny_bind (wpAny_seqItems hU rfl ?_)))
 show wpAny _ _ (Builtin.SmallTypes.ownedTupleIsFree (.ref z) >>= _) _ _ _;refine wpAny_bind ?_;unfold Builtin.SmallTypes.ownedTupleIsFree
 refine wpAny_bind (wpAny_field hz rfl (x:=.none) rfl (wpAny_pure ?_));simp only[if_true]
 refine wpAny_bind (wpAny_rule (wpAny_bind (wpAny_field hz rfl (x:=.ref V) rfl (wpAny_bind (wpAny_setField_rec hz (by simp) fun g1 z1 m1=>?_)))))
 replace z1:IsZip g1 z U V .ellipsis:=z1
 refine wpAny_bind ?_;simp only[List.zipIdx_cons,List.zipIdx_nil,List.forIn_cons,List.forIn_nil]
 refine wpAny_bind (wpAny_bind (wpAny_onRaise ?_));show wpAny _ _ (Builtin.SmallTypes.nextOf (.ref a) >>= _) _ _ _
 refine wpAny_bind (ik (ha.extBut m1.extBut D.i1z) (hp.extBut m1.extBut D.l1z) hx fun g2 a2 m2=>wpAny_pure ?_)
 have V2:IsPair g2 V v1 v2:=m2.extBut _ _ D.TOi1 (m1.extBut _ _ D.TOz hV)
 refine wpAny_bind (wpAny_seqItems V2 rfl (wpAny_bind (wpAny_updateSeq_pair V2 fun g3 V3 m3=>?_)))
 replace V3:IsPair g3 V x v2:=V3
 refine wpAny_bind (wpAny_letGo (wpAny_pure (wpAny_bind (wpAny_bind (wpAny_onRaise ?_)))));show wpAny _ _ (Builtin.SmallTypes.nextOf (.ref b) >>= _) _ _ _
 refine wpAny_bind (ik (((hb.extBut m1.extBut D.i2z).extBut m2.extBut D.i12.symm).extBut m3.extBut D.TOi2.symm) (((hq.extBut m1.extBut D.l2z).extBut m2.extBut D.l2i1).extBut m3.extBut D.l2TO) hy fun g4 b4 m4=>wpAny_pure ?_)
 have V4:IsPair g4 V x v2:=m4.extBut _ _ D.TOi2 V3
 refine wpAny_bind (wpAny_seqItems V4 rfl (wpAny_bind (wpAny_updateSeq_pair V4 fun g5 V5 m5=>?_)))
 replace V5:IsPair g5 V x y:=V5
 refine wpAny_bind (wpAny_letGo (wpAny_pure (wpAny_pure (wpAny_bind (wpAny_seqItems V5 rfl (wpAny_bind (wpAny_newTuple ?_)))))))
 have n5:g5.objs.size=s.heap.objs.size:=by rw[m5.1,m4.1,m3.1,m2.1,m1.1]
 have z5:IsZip g5 z U V .ellipsis:=m5.extBut _ _ D.TOz.symm (m4.extBut _ _ D.i2z.symm (m3.extBut _ _ D.TOz.symm (m2.extBut _ _ D.i1z.symm z1)))
 have k5:∀c o,c≠z->c≠V->c≠a->c≠b->s.heap.get? c=some o->g5.get? c=some o:=fun c o c1 c2 c3 c4 e=>m5.extBut _ _ c2 (m4.extBut _ _ c4 (m3.extBut _ _ c2 (m2.extBut _ _ c3 (m1.extBut _ _ c1 e))))
 have a5:g5.IsTupleIter a p (i+1):=((a2.extBut m3.extBut D.TOi1.symm).extBut m4.extBut D.i12).extBut m5.extBut D.TOi1.symm
 have b5:g5.IsTupleIter b q (j+1):=b4.extBut m5.extBut D.TOi2.symm
 have lz:z<g5.objs.size:=Heap.lt_size z5
 show wpAny _ _ (Builtin.SmallTypes.ownedTupleHandOut (.ref z) (.ref g5.objs.size) >>= _) _ _ _;refine wpAny_bind ?_;unfold Builtin.SmallTypes.ownedTupleHandOut
 have z6:IsZip (g5.push { cls:=.type "tuple", data:=.seq #[x,y] }) z U V .ellipsis:=Heap.get?_push_of_some _ z5
 refine wpAny_bind (wpAny_setField_rec z6 (by simp) fun g7 z7 m7=>?_)
 replace z7:IsZip g7 z U V (rawInt g5.objs.size):=z7
 refine wpAny_setField_rec z7 (by simp) fun g8 z8 m8=>?_
 replace z8:IsZip g8 z U V (rawInt g5.objs.size):=z8
 have up:∀c o,c≠z->g5.get? c=some o->g8.get? c=some o:=fun c o c1 e=>m8.extBut _ _ c1 (m7.extBut _ _ c1 (Heap.get?_push_of_some _ e))
 have T8:IsPair g8 g5.objs.size x y:=m8.extBut _ _ (Nat.ne_of_gt lz) (m7.extBut _ _ (Nat.ne_of_gt lz) (Heap.get?_push_size _ rfl))
 have n8:g8.objs.size=g5.objs.size+1:=by rw[m8.1,m7.1,Heap.size_push]
 rw[n5] at z8 T8 n8
 refine wpAny_pure ⟨_,rfl,?_⟩;show Q (.ref g5.objs.size) _;rw[n5]
 exact K g8 z8 (up _ _ D.TOz V5) (a5.at fun o e=>up _ o D.i1z e) (b5.at fun o e=>up _ o D.i2z e) T8 n8 fun c o c1 c2 c3 c4 e=>up c o c1 (k5 c o c1 c2 c3 c4 e)
theorem CB {z U V a b p q:Addr} {i j:Nat} {xs ys:Array Value} {v1 v2:Value} {Q:Fin->Shared->Prop} (hh:A.handled=none) (D:ZipApart z U V a b p q) (hz:IsZip s.heap z U V .none) (hU:IsPair s.heap U (.ref a) (.ref b)) (hV:IsPair s.heap V v1 v2)
  (ha:s.heap.IsTupleIter a p i) (hb:s.heap.IsTupleIter b q j) (hp:s.heap.IsTuple p xs) (hq:s.heap.IsTuple q ys) (he:xs[i]?=none\/ys[j]?=none)
  (K:∀h' e,(∀c o,c≠z->c≠V->c≠a->c≠b->s.heap.get? c=some o->h'.get? c=some o)->(∃o,h'.get? e=some o/\o.cls=.type "StopIteration")->E (.ref e) { s with heap:=h' }):wpAny (model prog w) A (Builtin.«zip.__next__» ⟨[.ref z],[]⟩) Q E s:=by
 show wpAny _ _ (field (.ref z) 2 >>= _) _ _ _;refine wpAny_bind (wpAny_field hz rfl (x:=.bool false) rfl ?_);show wpAny _ _ (field (.ref z) 3 >>= _) _ _ _
 refine wpAny_bind (wpAny_field hz rfl (x:=.ref U) rfl (wpAny_bind (wpAny_seqItems hU rfl ?_)))
 show wpAny _ _ (Builtin.SmallTypes.ownedTupleIsFree (.ref z) >>= _) _ _ _;refine wpAny_bind ?_;unfold Builtin.SmallTypes.ownedTupleIsFree
 refine wpAny_bind (wpAny_field hz rfl (x:=.none) rfl (wpAny_pure ?_));simp only[if_true]
 refine wpAny_bind (wpAny_rule (wpAny_bind (wpAny_field hz rfl (x:=.ref V) rfl (wpAny_bind (wpAny_setField_rec hz (by simp) fun g1 z1 m1=>?_)))))
 replace z1:IsZip g1 z U V .ellipsis:=z1
 refine wpAny_bind ?_;simp only[List.zipIdx_cons,List.zipIdx_nil,List.forIn_cons,List.forIn_nil]
 refine wpAny_bind (wpAny_bind (wpAny_onRaise ?_));show wpAny _ _ (Builtin.SmallTypes.nextOf (.ref a) >>= _) _ _ _
 cases hx:xs[i]? with
 | none=>
  refine wpAny_bind (jH hh (ha.extBut m1.extBut D.i1z) (hp.extBut m1.extBut D.l1z) hx fun g2 e m2 ee=>?_)
  obtain⟨oe,e1,e2⟩:=ee
  have z2:IsZip g2 z U V .ellipsis:=m2 _ _ D.i1z.symm z1
  have ez:e≠z:=fun u=>by subst u;rw[z2] at e1;cases e1;simp at e2
  exact wpAny_setField_rec z2 (by simp) fun g3 _ m3=>K g3 e (fun c o c1 _ c3 _ u=>m3.extBut _ _ c1 (m2 _ _ c3 (m1.extBut _ _ c1 u))) ⟨oe,m3.extBut _ _ ez e1,e2⟩
 | some x=>
  have hy:ys[j]?=none:=he.resolve_left (by rw[hx];exact nofun)
  refine wpAny_bind (ik (ha.extBut m1.extBut D.i1z) (hp.extBut m1.extBut D.l1z) hx fun g2 a2 m2=>wpAny_pure ?_)
  have V2:IsPair g2 V v1 v2:=m2.extBut _ _ D.TOi1 (m1.extBut _ _ D.TOz hV)
  refine wpAny_bind (wpAny_seqItems V2 rfl (wpAny_bind (wpAny_updateSeq_pair V2 fun g3 V3 m3=>?_)))
  refine wpAny_bind (wpAny_letGo (wpAny_pure (wpAny_bind (wpAny_bind (wpAny_onRaise ?_)))));show wpAny _ _ (Builtin.SmallTypes.nextOf (.ref b) >>= _) _ _ _
  refine wpAny_bind (jH hh (((hb.extBut m1.extBut D.i2z).extBut m2.extBut D.i12.symm).extBut m3.extBut D.TOi2.symm) (((hq.extBut m1.extBut D.l2z).extBut m2.extBut D.l2i1).extBut m3.extBut D.l2TO) hy fun g4 e m4 ee=>?_)
  obtain⟨oe,e1,e2⟩:=ee
  have z4:IsZip g4 z U V .ellipsis:=m4 _ _ D.i2z.symm (m3.extBut _ _ D.TOz.symm (m2.extBut _ _ D.i1z.symm z1))
  have ez:e≠z:=fun u=>by subst u;rw[z4] at e1;cases e1;simp at e2
  exact wpAny_setField_rec z4 (by simp) fun g5 _ m5=>K g5 e (fun c o c1 c2 c3 c4 u=>m5.extBut _ _ c1 (m4 _ _ c4 (m3.extBut _ _ c2 (m2.extBut _ _ c3 (m1.extBut _ _ c1 u))))) ⟨oe,m5.extBut _ _ ez e1,e2⟩
theorem zM {z U V a b p q:Addr} {i j:Nat} {xs ys:Array Value} {x y v1 v2:Value} {Q:Option Value->Shared->Prop} (D:ZipApart z U V a b p q) (hz:IsZip s.heap z U V .none) (hU:IsPair s.heap U (.ref a) (.ref b)) (hV:IsPair s.heap V v1 v2)
  (ha:s.heap.IsTupleIter a p i) (hb:s.heap.IsTupleIter b q j) (hp:s.heap.IsTuple p xs) (hq:s.heap.IsTuple q ys) (hx:xs[i]?=some x) (hy:ys[j]?=some y)
  (K:∀h',IsZip h' z U V (rawInt s.heap.objs.size)->IsPair h' V x y->h'.IsTupleIter a p (i+1)->h'.IsTupleIter b q (j+1)->IsPair h' s.heap.objs.size x y->h'.objs.size=s.heap.objs.size+1->(∀c o,c≠z->c≠V->c≠a->c≠b->s.heap.get? c=some o->h'.get? c=some o)->Q (some (.ref s.heap.objs.size)) { s with heap:=h' }) :
  wpAny (model prog w) A (pyNext (.ref z)) Q E s:=by
 have ty:s.TypeIs (.ref z) "zip" := ⟨_,hz,rfl⟩
 unfold pyNext;refine wpAny_bind (wpAny_attempt (wpAny_callSpecial?_slot (name:=Str.ofString "__next__") ty F.slot_zip_next (wpAny_call_entry F.slot_zip_next ty F.entry_zip_next ?_ (F.args_zip_next_1 _))))
 exact zp D hz hU hV ha hb hp hq hx hy fun h' b1 b2 b3 b4 b5 b6 b7=>wpAny_pure (K h' b1 b2 b3 b4 b5 b6 b7)
theorem AL {z U V a b p q:Addr} {i j:Nat} {xs ys:Array Value} {v1 v2:Value} {Q:Option Value->Shared->Prop} (hh:A.handled=none) (D:ZipApart z U V a b p q) (hz:IsZip s.heap z U V .none) (hU:IsPair s.heap U (.ref a) (.ref b)) (hV:IsPair s.heap V v1 v2)
  (ha:s.heap.IsTupleIter a p i) (hb:s.heap.IsTupleIter b q j) (hp:s.heap.IsTuple p xs) (hq:s.heap.IsTuple q ys) (he:xs[i]?=none\/ys[j]?=none)
  (K:∀h',(∀c o,c≠z->c≠V->c≠a->c≠b->s.heap.get? c=some o->h'.get? c=some o)->Q none { s with heap:=h' }):wpAny (model prog w) A (pyNext (.ref z)) Q E s:=by
 have ty:s.TypeIs (.ref z) "zip" := ⟨_,hz,rfl⟩
 unfold pyNext;refine wpAny_bind (wpAny_attempt (wpAny_callSpecial?_slot (name:=Str.ofString "__next__") ty F.slot_zip_next (wpAny_call_entry F.slot_zip_next ty F.entry_zip_next ?_ (F.args_zip_next_1 _))))
 refine CB hh D hz hU hV ha hb hp hq he fun h' e kk ⟨o,ho,hc⟩=>?_
 exact wpAny_bind (wpAny_isInstance (T:="StopIteration") (b:=true) ⟨o,ho,hc⟩ isSubtype_stop (wpAny_pure (K _ kk)))
end
noncomputable def zh1 (h:Heap) (p:Addr):Heap:=h.push { cls:=.type "tuple_iterator", data:=.fields #[.ref p,.int 0 0] }
noncomputable def zh2 (h:Heap) (p q:Addr):Heap:=(zh1 h p).push { cls:=.type "tuple_iterator", data:=.fields #[.ref q,.int 0 0] }
noncomputable def zh3 (h:Heap) (p q:Addr):Heap:=(zh2 h p q).push { cls:=.type "tuple", data:=.seq #[.ref h.objs.size,.ref (zh1 h p).objs.size] }
noncomputable def zh4 (h:Heap) (p q:Addr):Heap:=(zh3 h p q).push { cls:=.type "tuple", data:=.seq #[.none,.none] }
noncomputable def zh5 (h:Heap) (p q:Addr):Heap:=(zh4 h p q).push { cls:=.type "zip", data:=.fields #[.none,.bool false,.bool false,.ref (zh2 h p q).objs.size,.ref (zh3 h p q).objs.size] }
theorem wN (p q:Addr) (xs ys:Array Value):Meets (Builtin.«zip.__new__» ⟨[.type "zip", .ref p,.ref q],[]⟩) (fun _ R s=>s.heap.IsTuple p xs/\s.heap.IsTuple q ys/\R (.ok (.ret (.ref (zh4 s.heap p q).objs.size))) { s with heap:=zh5 s.heap p q }):=
 .of_wp fun prog w A R s h=>by
  obtain⟨hp,g,d,tk,os⟩:=s;obtain⟨h1,h2,h⟩:=h
  have sub:=sub_zip
  have t1:Heap.IsTuple (Shared.heap ⟨hp,g,d,tk,os⟩) p xs:=h1
  have t2:Heap.IsTuple (Shared.heap ⟨hp.push { cls:=.type "tuple_iterator", data:=.fields #[.ref p,.int 0 0] },g,d,tk,os⟩) q ys:=Heap.IsTuple.at h2 fun o e=>Heap.get?_push_of_some _ e
  wp_walk using wpAny_pyIter_tuple t1,wpAny_pyIter_tuple t2
  exact⟨_,rfl,h⟩
section
variable {prog:Program} {w:World} {A:Around} {E:Value->Shared->Prop} {s:Shared}
theorem Am {p q:Addr} {xs ys:Array Value} {Q:Value->Shared->Prop} (h1:s.heap.IsTuple p xs) (h2:s.heap.IsTuple q ys)
  (K:∀h',IsZip h' (s.heap.objs.size+4) (s.heap.objs.size+2) (s.heap.objs.size+3) .none->IsPair h' (s.heap.objs.size+2) (.ref s.heap.objs.size) (.ref (s.heap.objs.size+1))->IsPair h' (s.heap.objs.size+3) .none .none->h'.IsTupleIter s.heap.objs.size p 0->h'.IsTupleIter (s.heap.objs.size+1) q 0->(∀c o,s.heap.get? c=some o->h'.get? c=some o)->Q (.ref (s.heap.objs.size+4)) { s with heap:=h' }) :
  wpAny (model prog w) A (call (.type "zip") [.ref p,.ref q]) Q E s:=by
 refine callType_new F.called_zip (by decide) (F.typeCall_zip_2 _ _) (F.newCall_zip_2 _ _) (fun obj=>F.args_object_init_3 obj _ _) F.entry_zip_new (wN p q xs ys) ⟨h1,h2,?_⟩
 have e1:(zh1 s.heap p).objs.size=s.heap.objs.size+1:=Heap.size_push ..
 have e2:(zh2 s.heap p q).objs.size=s.heap.objs.size+2:=(Heap.size_push ..).trans (by rw[e1])
 have e3:(zh3 s.heap p q).objs.size=s.heap.objs.size+3:=(Heap.size_push ..).trans (by rw[e2])
 have e4:(zh4 s.heap p q).objs.size=s.heap.objs.size+4:=(Heap.size_push ..).trans (by rw[e3])
 have o5:(zh5 s.heap p q).get? (zh4 s.heap p q).objs.size=some _:=Heap.get?_push_size _ rfl
 have o4:(zh5 s.heap p q).get? (zh3 s.heap p q).objs.size=some _:=Heap.get?_push_of_some _ (Heap.get?_push_size _ rfl)
 have o3:(zh5 s.heap p q).get? (zh2 s.heap p q).objs.size=some _:=Heap.get?_push_of_some _ (Heap.get?_push_of_some _ (Heap.get?_push_size _ rfl))
 have o2:(zh5 s.heap p q).get? (zh1 s.heap p).objs.size=some _:=Heap.get?_push_of_some _ (Heap.get?_push_of_some _ (Heap.get?_push_of_some _ (Heap.get?_push_size _ rfl)))
 have o1:(zh5 s.heap p q).get? s.heap.objs.size=some _:=Heap.get?_push_of_some _ (Heap.get?_push_of_some _ (Heap.get?_push_of_some _ (Heap.get?_push_of_some _ (Heap.get?_push_size _ rfl))))
 have kp:∀c o,s.heap.get? c=some o->(zh5 s.heap p q).get? c=some o:=fun c o x=>Heap.get?_push_of_some _ (Heap.get?_push_of_some _ (Heap.get?_push_of_some _ (Heap.get?_push_of_some _ (Heap.get?_push_of_some _ x))))
 show _/\_
 rw[e2,e3,e4] at o5
 rw[e1,e2] at o3
 rw[e3] at o4
 rw[e1] at o2
 rw[e4]
 exact⟨⟨_,o5,rfl⟩,K _ o5 o3 o4 ⟨_,o1,rfl,rfl⟩ ⟨_,o2,rfl,rfl⟩ kp⟩
end
noncomputable def Izt (K:PySem.W.Frag) (a b:Addr):It:=
 ⟨fun i H=>∃xs ys x y,SqT K H a xs/\SqT K H b ys/\xs[i]?=some x/\ys[i]?=some y,
  fun i H x H'=>∃p v w,x=.ref p/\H p=none/\(∀xs,SqT K H a xs->xs[i]?=some v)/\(∀ys,SqT K H b ys->ys[i]?=some w)/\H'=upd H p (.tup [v,w]),
  fun i H=>∃xs ys,SqT K H a xs/\SqT K H b ys/\(xs.length<=i\/ys.length<=i)⟩
noncomputable def FI (z TI TO i1 i2 a b:Addr) (i:Nat) (h:Heap):Prop:=
 IsZip h z TI TO .none/\IsPair h TI (.ref i1) (.ref i2)/\(∃x y,IsPair h TO x y)/\h.IsTupleIter i1 a i/\h.IsTupleIter i2 b i/\a≠TO/\b≠TO
theorem pJ {z TI TO i1 i2 a b:Addr} {i:Nat} {h:Heap} {xs ys:Array Value} (A:ZA z TI TO i1 i2) (st:FI z TI TO i1 i2 a b i h) (ha:h.IsTuple a xs) (hb:h.IsTuple b ys):ZipApart z TI TO i1 i2 a b:=by
 obtain⟨hz,hTI,⟨x,y,hTO⟩,h1,h2,na,nb⟩:=st
 have cl:∀{l:Addr} {vs:Array Value},h.IsTuple l vs->l≠z/\l≠i1/\l≠i2:=fun{l vs} hl=>by
  obtain⟨oa,qa,ca,_⟩:=hl
  obtain⟨o1,q1,c1,_⟩:=h1
  obtain⟨o2,q2,c2,_⟩:=h2
  refine⟨fun q=>?_,fun q=>?_,fun q=>?_⟩
  ·rw[q,hz] at qa;cases qa;injection ca with w;exact absurd w (by decide)
  ·rw[q,q1] at qa;cases qa;rw[c1] at ca;injection ca with w;exact absurd w (by decide)
  ·rw[q,q2] at qa;cases qa;rw[c2] at ca;injection ca with w;exact absurd w (by decide)
 obtain⟨a1,a3,a4⟩:=cl ha
 obtain⟨b1,b3,b4⟩:=cl hb
 exact⟨A.TIz,A.TOz,A.i1z,A.i2z,A.TITO,A.TIi1,A.TIi2,A.TOi1,A.TOi2,A.i12,a1,na,a3,a4,b1,nb,b3,b4⟩
theorem zo {P:Program} {w:World} {K:PySem.W.Frag} {elts:List Expr} {k:Nat} {pos:Pos} {a b z TI TO i1 i2:Addr} (A:ZA z TI TO i1 i2):Turn P w K (.Tuple elts k pos) (Izt K a b) [z,TI,TO,i1,i2] z (FI z TI TO i1 i2 a b) where
 mem:=by simp
 obj:=fun i h st c hc=>by
  obtain⟨hz,hTI,⟨x,y,hTO⟩,⟨o1,q1,_,d1⟩,⟨o2,q2,_,d2⟩,_⟩:=st
  simp only[List.mem_cons,List.not_mem_nil,or_false] at hc
  rcases hc with e | e | e | e | e<;>rw[e]
  ·exact⟨_,hz,fun v q=>nomatch q⟩
  ·exact⟨_,hTI,fun v q=>nomatch q⟩
  ·exact⟨_,hTO,fun v q=>nomatch q⟩
  ·exact⟨o1,q1,fun v y=>by rw[d1] at y;cases y⟩
  ·exact⟨o2,q2,fun v y=>by rw[d2] at y;cases y⟩
 keep:=fun i h h' st kk=>by
  obtain⟨hz,hTI,⟨x,y,hTO⟩,h1,h2,na,nb⟩:=st
  exact⟨kk z (by simp) _ hz,kk TI (by simp) _ hTI,⟨x,y,kk TO (by simp) _ hTO⟩,h1.at fun o q=>kk i1 (by simp) o q,h2.at fun o q=>kk i2 (by simp) o q,na,nb⟩
 item:=by
  intro X hP hw hK hc i pins s σ H E I hf st hg
  subst hP hw hK
  obtain⟨xs,ys,x,y,hq,hr,hx,hy⟩:=hg
  obtain⟨its,rv,p,hz⟩:=I.tuple hq
  obtain⟨jts,rw',p',hz'⟩:=I.tuple hr
  have pt:s.heap.IsTuple a its.toArray:=p
  have pt':s.heap.IsTuple b jts.toArray:=p'
  obtain⟨u,hu,ru⟩:=rv.get hx
  obtain⟨u',hu',ru'⟩:=rw'.get hy
  have D:=pJ A st pt pt'
  obtain⟨z1,z2,⟨t1,t2,z3⟩,z4,z5,na,nb⟩:=st
  refine zM D z1 z2 z3 z4 z5 pt pt' (x:=u) (y:=u') (by simpa using hu) (by simpa using hu') fun h1 a1 a2 a3 a4 a5 a6 k1=>?_
  refine⟨_,rfl,wpAny_letOwnedTupleGo_zip a1 fun h2 b1 b2=>?_⟩
  have lt:∀{c o},s.heap.get? c=some o->s.heap.objs.size≠c:=fun e=>Nat.ne_of_gt (Heap.lt_size e)
  have kk:∀c o,c∉[z,TI,TO,i1,i2]->s.heap.get? c=some o->h2.get? c=some o:=fun c o hc q=>by
   simp only[List.mem_cons,List.not_mem_nil,or_false,not_or] at hc
   exact b2.extBut _ _ hc.1 (k1 c o hc.1 hc.2.2.1 hc.2.2.2.1 hc.2.2.2.2 q)
  have hn:H s.heap.objs.size=none:=I.hok.fresh (Nat.le_refl _)
  have hzT:s.heap.objs.size≠z:=lt z1
  have nTf:∀c∈[z,TI,TO,i1,i2],c≠s.heap.objs.size:=fun c hc=>by
   simp only[List.mem_cons,List.not_mem_nil,or_false] at hc
   rcases hc with e | e | e | e | e<;>rw[e]
   ·exact(lt z1).symm
   ·exact(lt z2).symm
   ·exact(lt z3).symm
   ·obtain⟨o,q,_⟩:=z4;exact(lt q).symm
   ·obtain⟨o,q,_⟩:=z5;exact(lt q).symm
  have hT2:lQ h2 s.heap.objs.size #[u,u']:=⟨_,b2.extBut _ _ hzT a5,⟨rfl,_,rfl⟩,rfl⟩
  refine⟨.ref s.heap.objs.size,upd H s.heap.objs.size (.tup [x,y]),I.yielded (t':=s.toks) hf kk (Nat.le_refl _) ⟨by show 2<=sizeLine;decide,[u,u'],.cons ru (.cons ru' .nil),hT2⟩,rfl,⟨_,x,y,rfl,hn,fun l hl=>by rw[I.gZ hl hq];exact hx,fun l hl=>by rw[I.gZ hl hr];exact hy,rfl⟩,?_,fun c hc=>by rw[aS (nTf c hc)];exact(hf c hc).1⟩
  exact⟨b1,b2.extBut _ _ A.TIz (k1 _ _ A.TIz A.TITO A.TIi1 A.TIi2 z2),⟨_,_,b2.extBut _ _ A.TOz a2⟩,a3.extBut b2.extBut A.i1z,a4.extBut b2.extBut A.i2z,na,nb⟩
 done:=by
  intro X hP hw hK hc i pins s σ H E I hf st hg
  subst hP hw hK
  obtain⟨xs,ys,hq,hr,hx⟩:=hg
  obtain⟨its,rv,p,hz⟩:=I.tuple hq
  obtain⟨jts,rw',p',hz'⟩:=I.tuple hr
  have pt:s.heap.IsTuple a its.toArray:=p
  have pt':s.heap.IsTuple b jts.toArray:=p'
  have D:=pJ A st pt pt'
  obtain⟨z1,z2,⟨t1,t2,z3⟩,z4,z5,_⟩:=st
  have hl:=rv.length
  have hl':=rw'.length
  refine AL (I.ok.hd hc) D z1 z2 z3 z4 z5 pt pt' ?_ fun h' eb=>⟨rfl,I.nX (t':=s.toks) hf fun b u hb q=>eb b u (fun z=>hb (by simp[z])) (fun z=>hb (by simp[z])) (fun z=>hb (by simp[z])) (fun z=>hb (by simp[z])) q⟩
  rcases hx with hx | hx
  ·exact .inl (Array.getElem?_eq_none (by rw[List.size_toArray];omega))
  ·exact .inr (Array.getElem?_eq_none (by rw[List.size_toArray];omega))
 self:=fun A i s Q E st q=>wpAny_pyIter_zip st.1 q
noncomputable def Ir (K:PySem.W.Frag) (ta:TA):TI:=fun σ H R=>ta σ H fun vs H1=>∃a b,vs=[.ref a,.ref b]/\(((∃xs,SqL K H1 a xs)/\(∃ys,SqL K H1 b ys)/\R (Izl K a b) H1)\/((∃xs,SqT K H1 a xs)/\(∃ys,SqT K H1 b ys)/\R (Izt K a b) H1))
theorem Et {X:Cx} {elts:List Expr} {kt:Nat} {tp p pos:Pos} {l m:Expr} {ta:TA} (hg:Gl X "zip") (hm:X.mg "zip" = none) (hl:PA X [l,m] ta) (hs:starEach [l,m] X.env=(false,eval l X.env)::starEach [m] X.env:=by rfl) (hp:(backTo pos (starEach [m] X.env)).any (·.1)=false:=by rfl) :
  PI X (.Tuple elts kt tp) (.Call (.Name "zip" p) [l,m] [] pos) (Ir X.K ta):=by
 intro pins s σ H R I h
 refine Call_ (jm I hg hm PyProof.Rows.boot_zip (PyProof.Rows.callWith_type1 (thn (hl pos pins s σ H _ I h) fun us s1 ⟨vs,H1,I1,r1,q1⟩=>?_) hs hp))
 obtain⟨a,b,e1,q⟩:=q1
 subst e1
 obtain⟨u1,u2,rfl,rv,rw'⟩:∃u1 u2,us=[u1,u2]/\RelV (.ref a) u1/\RelV (.ref b) u2:=by
  cases r1 with
  | cons p q=>
   cases q with
   | cons p' q'=>
    cases q'
    exact⟨_,_,rfl,p,p'⟩
 cases rv
 cases rw'
 have ne:∀n i j:Nat,i≠j->n+i≠n+j:=by intro n i j h;omega
 have ap:ZA (s1.heap.objs.size+4) (s1.heap.objs.size+2) (s1.heap.objs.size+3) s1.heap.objs.size (s1.heap.objs.size+1):=⟨ne _ 2 4 (by decide),ne _ 3 4 (by decide),ne _ 0 4 (by decide),ne _ 1 4 (by decide),ne _ 2 3 (by decide),ne _ 2 0 (by decide),ne _ 2 1 (by decide),ne _ 3 0 (by decide),ne _ 3 1 (by decide),ne _ 0 1 (by decide)⟩
 have fp:∀c∈[s1.heap.objs.size+4,s1.heap.objs.size+2,s1.heap.objs.size+3,s1.heap.objs.size,s1.heap.objs.size+1],mx X pins H1 c:=by
  intro c hc
  have hb':s1.heap.objs.size<=c:=by
   simp only[List.mem_cons,List.not_mem_nil,or_false] at hc
   rcases hc with e | e | e | e | e<;>rw[e]
   ·exact Nat.le_add_right _ _
   ·exact Nat.le_add_right _ _
   ·exact Nat.le_add_right _ _
   ·exact Nat.le_refl _
   ·exact Nat.le_add_right _ _
  exact I1.Ag hb' (I1.hok.fresh hb')
 rcases q with⟨⟨xs,hq⟩,⟨ys,hr⟩,q⟩ | ⟨⟨xs,hq⟩,⟨ys,hr⟩,q⟩
 ·obtain⟨its,rv,pl,hz⟩:=I1.list hq
  obtain⟨jts,rw',pl',hz'⟩:=I1.list hr
  refine call_zip_2 pl.isList pl'.isList fun h2 y1 y2 y3 y4 y5 hsz kp=>wpAny_pyIter_zip (s:={ s1 with heap:=h2 }) y1 ?_
  exact⟨s1.heap.objs.size+4,_,_,_,H1,rfl,I1.kept (t':=s1.toks) kp,zO (a:=a) (b:=b) ap,⟨y1,y2,⟨_,_,y3⟩,y4,y5⟩,fp,q⟩
 ·obtain⟨its,rv,pl,hz⟩:=I1.tuple hq
  obtain⟨jts,rw',pl',hz'⟩:=I1.tuple hr
  have pt:s1.heap.IsTuple a its.toArray:=pl
  have pt':s1.heap.IsTuple b jts.toArray:=pl'
  have la:a<s1.heap.objs.size:=pl.lt
  have lb:b<s1.heap.objs.size:=pl'.lt
  refine Am pt pt' fun h2 y1 y2 y3 y4 y5 kp=>wpAny_pyIter_zip (s:={ s1 with heap:=h2 }) y1 ?_
  refine⟨s1.heap.objs.size+4,_,_,_,H1,rfl,I1.kept (t':=s1.toks) kp,zo (a:=a) (b:=b) ap,⟨y1,y2,⟨_,_,y3⟩,y4,y5,?_,?_⟩,fp,q⟩
  ·exact Nat.ne_of_lt (Nat.lt_of_lt_of_le la (Nat.le_add_right _ _))
  ·exact Nat.ne_of_lt (Nat.lt_of_lt_of_le lb (Nat.le_add_right _ _))
end L2
namespace L2.FE
open PySem PySem.Spec PyProof.Rows
section
variable {X:Cx} {g:GG} {ε:EE} {K:PySem.W.Frag}
noncomputable def DO:List D->Hh->R Src
 | [.frl ds,.frl es],h=>.ok (.snap (fG ds es)) h
 | [.tup ds,.tup es],h=>.ok (.snap (fG ds es)) h
 | _,_=>.bad
noncomputable def CQ (a:MA):MI:=fun env h=>(a env h).bind DO
theorem xh {α:List Addr} {H:Hp} {a b:Addr} {ds es:List D} {vs ws:List V} (hq:H a=some (.tup vs)) (rs:aA K g α H ds vs) (hq':H b=some (.tup ws)) (rs':aA K g α H es ws):Reads K g (Izt K a b) (Src.snap (fG ds es)).rdr α H:=by
 intro α2 H2 h2 x2 hr i
 have hq2:SqT K H2 a vs:=SqT.of (x2.tup _ _ hq)
 have hq2':SqT K H2 b ws:=SqT.of (x2.tup _ _ hq')
 have rs2:=rs.ext x2
 have rs2':=rs'.ext x2
 show match some (fG ds es)[i]? with | none=>True | some none=>_ | some (some d)=>_
 rw[oO]
 cases e:ds[i]? with
 | none=>
  have:ds.length<=i:=List.getElem?_eq_none_iff.mp e
  exact⟨vs,ws,hq2,hq2',.inl (by rw[<- rs.length];exact this)⟩
 | some d=>
  cases e':es[i]? with
  | none=>
   have:es.length<=i:=List.getElem?_eq_none_iff.mp e'
   exact⟨vs,ws,hq2,hq2',.inr (by rw[<- rs'.length];exact this)⟩
  | some d'=>
   obtain⟨v,ev,rv⟩:=rs2.get e
   obtain⟨v',ev',rv'⟩:=rs2'.get e'
   refine⟨⟨vs,ws,v,v',hq2,hq2',ev,ev'⟩,fun x H' y=>?_⟩
   obtain⟨p,u,u',e1,hp,e2,e2',e3⟩:=y
   subst e1 e3
   have:=e2 vs hq2
   rw[ev] at this
   cases this
   have:=e2' ws hq2'
   rw[ev'] at this
   cases this
   exact yr hr rv rv' hp
theorem EF {elts:List Expr} {kt:Nat} {tp p pos:Pos} {e e':Expr} {ma:MA} (hg:Gl X "zip") (hm:X.mg "zip" = none) (he:PA X [e,e'] (tMA X.K g ε ma)) (hs:starEach [e,e'] X.env=(false,eval e X.env)::starEach [e'] X.env:=by rfl) (hp:(backTo pos (starEach [e'] X.env)).any (·.1)=false:=by rfl):PI X (.Tuple elts kt tp) (.Call (.Name "zip" p) [e,e'] [] pos) (tMI X.K g ε (CQ ma)):=
 PI.imp (Et hg hm he hs hp) fun σ H T ⟨α,env,h,s,w⟩=>tMA.use s w.bind fun d1 h1 v1 H1 α1 e1 s1 r1 w1=>by
  unfold DO at w1
  split at w1
  ·cases r1 with
   | cons ra rr=>
    cases rr with
    | cons rb rr=>
     cases rr
     cases ra with
     | frl hq rs=>
      cases rb with
      | frl hq' rs'=>exact⟨_,_,rfl,.inl ⟨⟨_,hq.sq⟩,⟨_,hq'.sq⟩,w1 _ H1 α1 e1 s1.heap (yZ hq.fro rs hq'.fro rs')⟩⟩
  ·cases r1 with
   | cons ra rr=>
    cases rr with
    | cons rb rr=>
     cases rr
     cases ra with
     | tup hq rs=>
      cases rb with
      | tup hq' rs'=>exact⟨_,_,rfl,.inr ⟨⟨_,SqT.of hq⟩,⟨_,SqT.of hq'⟩,w1 _ H1 α1 e1 s1.heap (xh hq rs hq' rs')⟩⟩
  ·exact w1.elim
end
end L2.FE
namespace L2
open PySem PySem.Spec PyProof.Rows
noncomputable def Its (lo st:Int) (n:Nat):It:=⟨fun i _=>i<n,fun i H x H'=>H'=H/\x=.int (lo+i*st),fun i _=>n<=i⟩
theorem Ae {P:Program} {w:World} {K:PySem.W.Frag} {tg:Expr} (it:Addr) (lo st:Int) (n:Nat):Turn P w K tg (Its lo st n) [it] it (fun i h=>IsRangeIter h it (lo+(i:Nat)*st) ((n:Int) - (i:Nat)) st) where
 mem:=by simp
 obj:=fun i h q b hb=>by
  have e:b=it:=by simpa using hb
  subst e
  exact⟨_,q,fun v z=>by
   have z':Data.fields _=Data.cell v:=z
   cases z'⟩
 keep:=fun i h h' q k=>k it (by simp) _ q
 item:=by
  intro X hP hw hK hc i pins s σ H E I hf q hg
  subst hP hw hK
  obtain⟨f0,f1,f2,f3,f4,f5⟩:=hf it (by simp)
  have W:=Walks.range (prog:=X.prog) (w:=X.w) (I.ok.hd hc) it lo st n
  refine W.item i s _ _ hg q fun v h' tk hv q' kk=>?_
  obtain⟨t,rfl⟩:=hv
  have I1:Inv X pins σ H { s with heap:=h',toks:=tk }:=I.turned (fun b o hb e=>kk b o (by simpa using hb) e) f0 f1 f3 f4 f5
  exact⟨_,rfl,xC (s:={ s with heap:=h',toks:=tk }) (n:="range_iterator") q' rfl rfl (by decide) ⟨.int (lo+i*st),H,I1,⟨t,rfl⟩,⟨rfl,rfl⟩,q',fun b hb=>(hf b hb).1⟩⟩
 done:=by
  intro X hP hw hK hc i pins s σ H E I hf q hg
  subst hP hw hK
  obtain⟨f0,f1,f2,f3,f4,f5⟩:=hf it (by simp)
  exact wpAny_pyNext_range_end (I.ok.hd hc) q (by have:n<=i:=hg;omega) fun h' eb=>⟨rfl,I.turned (t':=s.toks) (fun b o hb e=>eb b o hb e) f0 f1 f3 f4 f5⟩
 self:=fun _ _ _ _ _ q h=>wpAny_pyIter_rangeiter q h
section
variable {X:Cx} {tg:Expr}
theorem Ez {pins:List (Addr × Obj)} {σ:St} {H:Hp} {s:Shared} {R:It->Hp->Prop} {E:Value->Shared->Prop} {lo hi st:Int} {n:Nat} {t u v:Tok} {tk:Nat} (I:Inv X pins σ H s) (ok:Cu lo hi st n)
  (q:R (Its lo st n) H):wpAny (model X.prog X.w) X.A (pyIter (.ref s.heap.objs.size)) (PIE X pins σ tg R) E { s with heap:=s.heap.push { cls:=.type "range", data:=.fields #[.int lo t,.int hi u,.int st v] },toks:=tk }:=by
 refine wpAny_pyIter_range (IsRange.new ..) ok.sm ?_
 have I1:Inv X pins σ H { s with heap:=s.heap.push { cls:=.type "range", data:=.fields #[.int lo t,.int hi u,.int st v] },toks:=tk }:=I.kept fun b o e=>Heap.get?_push_of_some _ e
 refine⟨(s.heap.push { cls:=.type "range", data:=.fields #[.int lo t,.int hi u,.int st v] }).objs.size,[(s.heap.push { cls:=.type "range", data:=.fields #[.int lo t,.int hi u,.int st v] }).objs.size],_,_,H,rfl,
  I1.kept (t':=tk) fun b o e=>Heap.get?_push_of_some _ e,Ae _ lo st n,?_,fun b hb=>?_,q⟩
 ·have e1:lo+((0:Nat):Int)*st=lo:=by simp
  have e2:(n:Int) - ((0:Nat):Int)=Builtin.Range.rangeSize lo hi st:=by rw[ok.sz];omega
  show IsRangeIter _ _ (lo+((0:Nat):Int)*st) ((n:Int) - ((0:Nat):Int)) st
  rw[e1,e2]
  exact Heap.get?_push_size _ rfl
 ·have e:b=(s.heap.push { cls:=.type "range", data:=.fields #[.int lo t,.int hi u,.int st v] }).objs.size:=by simpa using hb
  subst e
  exact I1.Ag (Nat.le_refl _) (I1.hok.fresh (Nat.le_refl _))
noncomputable def Ih (ta:TA):TI:=fun σ H R=>ta σ H fun vs H1=>∃(i j k:Int) (n:Nat),vs=[.int i,.int j,.int k]/\k≠0/\k.natAbs<1073741824/\Cu i j k n/\R (Its i k n) H1
theorem zW {a b c:Expr} {ta:TA} {p pos:Pos} (hg:Gl X "range") (hm:X.mg "range" = none) (ha:PA X [a,b,c] ta) (hs:starEach [a,b,c] X.env=(false,eval a X.env)::starEach [b,c] X.env:=by rfl) (hp:(backTo pos (starEach [b,c] X.env)).any (·.1)=false:=by rfl) :
  PI X tg (.Call (.Name "range" p) [a,b,c] [] pos) (Ih ta):=by
 intro pins s σ H R I h
 refine Call_ (jm I hg hm boot_range (PyProof.Rows.callWith_type1 (thn (ha pos pins s σ H _ I h) fun us s1 ⟨vs,H1,I1,r1,q1⟩=>?_) hs hp))
 obtain⟨i,j,k,n,e,k0,k1,ok,q⟩:=q1
 subst e
 cases r1 with
 | cons r rr=>
  cases rr with
  | cons r' rr=>
   cases rr with
   | cons r'' rr=>
    cases rr
    obtain⟨t,rfl⟩:=r
    obtain⟨t',rfl⟩:=r'
    obtain⟨t'',rfl⟩:=r''
    exact call_range_3 k0 (Ez I1 ok q) (.inl (PyProof.noPylong_small (by omega)))
end
end L2
namespace L2.FE
open PySem PySem.Spec PyProof.Rows
section
variable {X:Cx} {g:GG} {ε:EE} {K:PySem.W.Frag}
noncomputable def AE:List D->Hh->R Src:=fun ds h=>match EX ds with
 | some xs=>.ok (.snap xs) h
 | none=>.bad
theorem wR {α:List Addr} {H:Hp} {lo st:Int} {n:Nat}:Reads K g (Its lo st n) (Src.snap (mI lo st n)).rdr α H:=by
 intro α2 H2 h2 x2 hr i
 show match some (mI lo st n)[i]? with | none=>True | some none=>_ | some (some d)=>_
 by_cases hi:i<n
 ·have e:(mI lo st n)[i]?=some (.int (lo+i*st)):=by
   unfold mI
   rw[List.getElem?_map]
   simp[DZ,hi]
  rw[e]
  refine⟨hi,fun x H' y=>?_⟩
  obtain⟨rfl,rfl⟩:=y
  exact⟨α2,Ext.refl,hr,.int _⟩
 ·have e:(mI lo st n)[i]?=none:=List.getElem?_eq_none (by unfold mI;rw[List.length_map,u9];omega)
  rw[e]
  show n<=i
  omega
theorem Fc {tg a b c:Expr} {ma:MA} {p pos:Pos} (hg:Gl X "range") (hm:X.mg "range" = none) (ha:PA X [a,b,c] (tMA X.K g ε ma)) (hs:starEach [a,b,c] X.env=(false,eval a X.env)::starEach [b,c] X.env:=by rfl) (hp:(backTo pos (starEach [b,c] X.env)).any (·.1)=false:=by rfl):PI X tg (.Call (.Name "range" p) [a,b,c] [] pos) (tMI X.K g ε (fC AE ma)):=
 PI.imp (zW hg hm ha hs hp) fun σ H T ⟨α,env,h,s,w⟩=>tMA.use s w.bind fun d1 h1 v1 H1 α1 e1 s1 r1 w1=>by
  unfold AE at w1
  cases er:EX d1 with
  | none=>rw[er] at w1;exact w1.elim
  | some xs=>
   rw[er] at w1
   obtain⟨a,b,c,n,rfl,c0,c1,ok,rfl⟩:=A9 r1 er
   exact⟨a,b,c,n,rfl,c0,c1,ok,w1 _ H1 α1 e1 s1.heap wR⟩
end
end L2.FE
namespace L2.FE
open PySem
section
variable {β γ:Type} {h h1:Hh} {env:En}
@[simp] theorem bq {b:β} {f:β->Hh->R γ}:(R.ok b h).bind f=f b h:=Eq.trans rfl rfl
@[simp] theorem Ii {f:β->Hh->R γ}:(R.bad).bind f=.bad:=Eq.trans rfl rfl
@[simp] theorem Jo {c:Prop} [Decidable c] {a b:R β} {f:β->Hh->R γ}:(if c then a else b).bind f=if c then a.bind f else b.bind f:=by split<;>rfl
@[simp] theorem e_C {d:D}:cC d env h=.ok d h:=Eq.trans rfl rfl
@[simp] theorem KA {d:D} {r:En}:ag 0 (some d::r) h=.ok d h:=Eq.trans rfl rfl
@[simp] theorem Lg {i:Nat} {x:Option D} {r:En}:ag (i+1) (x::r) h=ag i r h:=Eq.trans rfl rfl
@[simp] theorem LJ {f:D->D->Hh->R D} {a b:ME}:ao f a b env h=(a env h).bind fun x h1=>(b env h1).bind fun y h2=>f x y h2:=Eq.trans rfl rfl
@[simp] theorem L5 {f:D->Hh->R D} {a:ME}:cUn f a env h=(a env h).bind fun x h1=>f x h1:=Eq.trans rfl rfl
@[simp] theorem LF:ak env h=.ok [] h:=Eq.trans rfl rfl
@[simp] theorem K9 {a:ME} {r:MA}:aa a r env h=(a env h).bind fun x h1=>(r env h1).bind fun xs h2=>.ok (x::xs) h2:=Eq.trans rfl rfl
@[simp] theorem KP {f:List D->Hh->R D} {a:MA}:ai f a env h=(a env h).bind f:=Eq.trans rfl rfl
@[simp] theorem JQ {f:D->List D->Hh->R D} {o:ME} {a:MA}:oM f o a env h=(o env h).bind fun x h1=>if isL x h1=true then (a env h1).bind fun xs h2=>f x xs h2 else .bad:=Eq.trans rfl rfl
@[simp] theorem Kg {f:D->Hh->R Bool} {a:ME}:aT f a env h=(a env h).bind f:=Eq.trans rfl rfl
@[simp] theorem Kl {a:MT}:mO a env h=(a env h).bind fun b h1=>.ok (!b) h1:=Eq.trans rfl rfl
@[simp] theorem Lm {a b:MT}:Cw a b env h=(a env h).bind fun x h1=>if x=true then b env h1 else .ok false h1:=Eq.trans rfl rfl
@[simp] theorem Lz {a b:MT}:nj a b env h=(a env h).bind fun x h1=>if x=true then .ok true h1 else b env h1:=Eq.trans rfl rfl
@[simp] theorem L4 {c:MT} {a b:ME}:cIf c a b env h=(c env h).bind fun x h1=>if x=true then a env h1 else b env h1:=Eq.trans rfl rfl
@[simp] theorem Ls {b:Bool}:asB (.bl b) h=.ok b h:=Eq.trans rfl rfl
@[simp] theorem Kk {a b:ME}:xO a b env h=(a env h).bind fun x h1=>(asB x h1).bind fun k h2=>if k=true then b env h2 else .ok (.bl false) h2:=Eq.trans rfl rfl
@[simp] theorem Kx {a:ME}:BB a env h=(a env h).bind fun x h1=>(asB x h1).bind fun k h2=>.ok (.bl (!k)) h2:=Eq.trans rfl rfl
@[simp] theorem JX {f f':D->D->Hh->R D} {a b c:ME}:kF f f' a b c env h=(a env h).bind fun x h1=>(b env h1).bind fun y h2=>(f x y h2).bind fun z h3=>(asB z h3).bind fun k h4=>if k=true then (c env h4).bind fun w h5=>f' y w h5 else .ok (.bl false) h4:=Eq.trans rfl rfl
@[simp] theorem HW:r8 env h=.ok none h:=Eq.trans rfl rfl
noncomputable def Ft:D->Hh->R (Option Int):=fun d h1=>match d with
 | .int i=>.ok (some i) h1
 | _=>.bad
@[simp] theorem JO {i:Int}:Ft (.int i) h=.ok (some i) h:=Eq.trans rfl rfl
@[simp] theorem Lf {a:ME}:gW a env h=(a env h).bind Ft:=Eq.trans rfl rfl
@[simp] theorem JY {nl:NL} {a:ME} {l u:MO}:i4 nl a l u env h=(a env h).bind fun x h1=>(l env h1).bind fun lo h2=>(u env h2).bind fun hi h3=>uW nl x lo hi h3:=Eq.trans rfl rfl
@[simp] theorem Ku:bC env h=.ok (.nx env) h:=Eq.trans rfl rfl
noncomputable def F3 (b:MS):Fl->Hh->R Fl:=fun fl h1=>match fl with
 | .nx e=>b e h1
 | fl=>.ok fl h1
@[simp] theorem pG {b:MS} {e:En}:F3 b (.nx e) h=b e h:=Eq.trans rfl rfl
@[simp] theorem LZ {b:MS} {d:D}:F3 b (.rt d) h=.ok (.rt d) h:=Eq.trans rfl rfl
@[simp] theorem jk {a b:MS}:aI a b env h=(a env h).bind (F3 b):=by
 unfold aI
 first | rfl | (congr 1;funext fl h1;cases fl<;>rfl)
@[simp] theorem Ka {a:ME}:cw a env h=(a env h).bind fun _ h1=>.ok (.nx env) h1:=Eq.trans rfl rfl
@[simp] theorem LP {a:ME}:bB a env h=(a env h).bind fun d h1=>.ok (.rt d) h1:=Eq.trans rfl rfl
@[simp] theorem IT {c:MT} {a b:MS}:cO c a b env h=(c env h).bind fun x h1=>if x=true then a env h1 else b env h1:=Eq.trans rfl rfl
@[simp] theorem LK {i:Nat} {a:ME}:bh i a env h=(a env h).bind fun d h1=>.ok (.nx (env.set i (some d))) h1:=Eq.trans rfl rfl
noncomputable def Ji (i j:Nat) (env:En):List D->Hh->R Fl:=fun ds h1=>match ds with
 | [x,y]=>.ok (.nx ((env.set i (some x)).set j (some y))) h1
 | _=>.bad
@[simp] theorem KN {i j:Nat} {x y:D}:Ji i j env [x,y] h=.ok (.nx ((env.set i (some x)).set j (some y))) h:=Eq.trans rfl rfl
@[simp] theorem Lv {i j:Nat} {a:MA}:jL i j a env h=(a env h).bind (Ji i j env):=by
 rfl
@[simp] theorem HU {i:Nat} {d:D}:gN i d env h=.ok (env.set i (some d)) h:=Eq.trans rfl rfl
@[simp] theorem Fi {i j:Nat} {x y:D}:gT2 i j (.tup [x,y]) env h=.ok ((env.set i (some x)).set j (some y)) h:=Eq.trans rfl rfl
@[simp] theorem Ly {i j:Nat} {a:ME}:oP i j a env h=(a env h).bind fun d h1=>(gT2 i j d env h1).bind fun e h2=>.ok (.nx e) h2:=Eq.trans rfl rfl
@[simp] theorem LX {i:Nat} {f:D->D->Hh->R D} {a:ME}:uY i f a env h=(ag i env h).bind fun x h0=>(a env h0).bind fun y h1=>(f x y h1).bind fun z h2=>.ok (.nx (env.set i (some z))) h2:=Eq.trans rfl rfl
@[simp] theorem J4 {f:D->D->D->Hh->R Unit} {o i v:ME}:sH f o i v env h=(v env h).bind fun x h1=>(o env h1).bind fun y h2=>(i env h2).bind fun z h3=>(f y z x h3).bind fun _ h4=>.ok (.nx env) h4:=Eq.trans rfl rfl
@[simp] theorem JW {o i v:ME}:rE o i v env h=(o env h).bind fun x h1=>(i env h1).bind fun y h2=>(CM x y h2).bind fun z h3=>(v env h3).bind fun u h4=>(oy z u h4).bind fun t h5=>(iz x y t h5).bind fun _ h6=>.ok (.nx env) h6:=Eq.trans rfl rfl
noncomputable def GH:Fl->Hh->R D:=fun fl h1=>match fl with
 | .rt d=>.ok d h1
 | .nx _=>.ok .non h1
 | _=>.bad
@[simp] theorem L0 {d:D}:GH (.rt d) h=.ok d h:=Eq.trans rfl rfl
@[simp] theorem L6 {e:En}:GH (.nx e) h=.ok .non h:=Eq.trans rfl rfl
theorem bP {n:Nat} {m:MS} {ds:List D}:cB n m ds h=(m (ds.map some++List.replicate (n - ds.length) none) h).bind GH:=by
 unfold cB
 first | rfl | (congr 1;funext fl h1;cases fl<;>rfl)
section
variable {nl:NL}
@[simp] theorem Li {i j:Int}:bj nl (.int i) (.int j) h=.ok (.int (i+j)) h:=Eq.trans rfl rfl
@[simp] theorem JT {i j:Int}:oy (.int i) (.int j) h=.ok (.int (i+j)) h:=Eq.trans rfl rfl
@[simp] theorem Kw {i j:Int}:eR (.int i) (.int j) h=.ok (.int (i - j)) h:=Eq.trans rfl rfl
@[simp] theorem J7 {i:Int}:vN (.int i) h=.ok (.int (-i)) h:=Eq.trans rfl rfl
@[simp] theorem LA {i j:Int}:dLt (.int i) (.int j) h=.ok (.bl (decide (i<j))) h:=by unfold dLt;rw[pe];rfl
@[simp] theorem LM {i j:Int}:dLe (.int i) (.int j) h=.ok (.bl (decide (i<=j))) h:=by unfold dLe;rw[rM];rfl
@[simp] theorem LD {i j:Int}:dGt (.int i) (.int j) h=.ok (.bl (decide (j<i))) h:=by unfold dGt;rw[pe];rfl
@[simp] theorem LI {i j:Int}:dGe (.int i) (.int j) h=.ok (.bl (decide (j<=i))) h:=by unfold dGe;rw[rM];rfl
@[simp] theorem Ll {i j:Int}:bJ nl (.int i) (.int j) h=if sml i=true/\sml j=true then .ok (.int (i*j)) h else .bad:=Eq.trans rfl rfl
@[simp] theorem JS {i j:Int}:pf (.int i) (.int j) h=if sml i=true/\sml j=true then .ok (.int (i*j)) h else .bad:=Eq.trans rfl rfl
@[simp] theorem KQ {i j:Int}:lL (.int i) (.int j) h=if 0<j/\sml j=true then .ok (.int (i / j)) h else .bad:=Eq.trans rfl rfl
@[simp] theorem Ln {i j:Int}:h_ (.int i) (.int j) h=if 0<j then .ok (.int (i % j)) h else .bad:=Eq.trans rfl rfl
@[simp] theorem Ki {i j:Int}:E9 (.int i) (.int j) h=if 0<=j/\j.natAbs<=1000/\sml i=true then .ok (.int (i ^ j.toNat)) h else .bad:=Eq.trans rfl rfl
@[simp] theorem KR {i j:Int}:Ce [.int i,.int j] h=.ok (.int (max i j)) h:=by
 have:(if j > i then j else i)=max i j:=by split<;>omega
 rw[<- this];rfl
@[simp] theorem J5 {b:Bool}:BE [.bl b] h=.ok (.int (if b then 1 else 0)) h:=Eq.trans rfl rfl
@[simp] theorem Kf {i:Int}:zG [.int i] h=.ok (.int (i.natAbs:Int)) h:=by
 have:(if i<0 then -i else i)=(i.natAbs:Int):=by split<;>omega
 rw[<- this];rfl
@[simp] theorem LY {ds:List D}:bU ds h=if ds.length<=1000000 then .ok (.tup ds) h else .bad:=Eq.trans rfl rfl
@[simp] theorem Lu {ds:List D}:iZ nl ds h=if ds.length<=1000000 then nl ds h else .bad:=Eq.trans rfl rfl
@[simp] theorem KC {ds:List D}:zt ds h=.ok (.ref h.length) (h++[.lst ds]):=Eq.trans rfl rfl
@[simp] theorem Kc {ds:List D}:aF ds h=.ok (.frl ds) h:=Eq.trans rfl rfl
@[simp] theorem Kh {ds:List D}:eP [.tup ds] h=.ok (.int ds.length) h:=Eq.trans rfl rfl
@[simp] theorem Kb {ds:List D}:eP [.frl ds] h=.ok (.int ds.length) h:=Eq.trans rfl rfl
@[simp] theorem KJ {ds:List D}:eP [.scr ds] h=.ok (.int ds.length) h:=Eq.trans rfl rfl
noncomputable def ixK (ds:List D) (i:Int) (h:Hh):R D:=match atI ds i with
 | some d=>.ok d h
 | none=>.bad
@[simp] theorem Jx {ds:List D} {i:Int}:dIx (.tup ds) (.int i) h=ixK ds i h:=Eq.trans rfl rfl
@[simp] theorem LN {ds:List D} {i:Int}:dIx (.frl ds) (.int i) h=ixK ds i h:=Eq.trans rfl rfl
@[simp] theorem LB {ds:List D} {i:Int}:dIx (.scr ds) (.int i) h=ixK ds i h:=Eq.trans rfl rfl
theorem rk {n:Nat} {ds:List D} {i:Int} (e:aM h n=some ds):dIx (.ref n) (.int i) h=ixK ds i h:=by
 have z:jT (.ref n) h=some ds:=e
 delta dIx;rw[z];rfl
theorem HF {ds:List D} {i:Int} {d:D} (e:atI ds i=some d):ixK ds i h=.ok d h:=by simp only[ixK,e]
theorem AM {β:Type} {xs:List β} {j:Nat} {v:β} {i:Int} (h:xs[j]?=some v) (e:i=(j:Int)):atI xs i=some v:=by rw[e];exact Ex h
theorem sC {ds:List D} {i:Int} {j:Nat} {d:D} (e:i=(j:Int)) (e2:ds[j]?=some d):ixK ds i h=.ok d h:=HF (AM e2 e)
noncomputable def gI (ns:List Int) (i:Nat):Int:=ns.getD i 0
theorem yK {ns:List Int} {j:Nat} (hj:j<ns.length):gI ns j=ns[j]:=by
 unfold gI;rw[List.getD_eq_getElem?_getD,List.getElem?_eq_getElem hj];rfl
theorem F0 {ns:List Int} {j:Nat} (hj:j<ns.length):gI ns j∈ns:=by rw[yK hj];exact List.getElem_mem hj
theorem k9 {ns:List Int} {i:Int} {j:Nat} (e:i=(j:Int)) (hj:j<ns.length):ixK (ns.map D.int) i h=.ok (.int (gI ns j)) h:=by
 refine sC e ?_
 rw[List.getElem?_map,List.getElem?_eq_getElem hj,yK hj];rfl
@[simp] theorem LS {d:D} {ds:List D}:ixK (d::ds) 0 h=.ok d h:=sC (j:=0) rfl rfl
@[simp] theorem LV {d d1:D} {ds:List D}:ixK (d::d1::ds) 1 h=.ok d1 h:=sC (j:=1) rfl rfl
@[simp] theorem Kq {ds:List D} {lo hi:Option Int}:uW nl (.tup ds) lo hi h=.ok (.tup (cutD ds lo hi)) h:=Eq.trans rfl rfl
@[simp] theorem KO {ds:List D} {lo hi:Option Int}:uW nl (.frl ds) lo hi h=nl (cutD ds lo hi) h:=Eq.trans rfl rfl
@[simp] theorem Lo {ds:List D} {lo hi:Option Int}:uW nl (.scr ds) lo hi h=nl (cutD ds lo hi) h:=Eq.trans rfl rfl
@[simp] theorem Lj {a b:List D}:bj nl (.tup a) (.tup b) h=if a.length+b.length<=1000000 then .ok (.tup (a++b)) h else .bad:=Eq.trans rfl rfl
@[simp] theorem Lc {a b:List D}:bj nl (.frl a) (.frl b) h=if a.length+b.length<=1000000 then nl (a++b) h else .bad:=Eq.trans rfl rfl
@[simp] theorem KI {a:List D} {k:Int}:bJ nl (.frl a) (.int k) h=if k.natAbs<=1000000/\a.length*k.toNat<=1000000 then nl (List.replicate k.toNat a).flatten h else .bad:=Eq.trans rfl rfl
@[simp] theorem J9 {ds:List D}:gy [.frl ds] h=.ok (.tup ds) h:=Eq.trans rfl rfl
@[simp] theorem GV {ns:List Int}:kA [.frl (ns.map D.int)] h=.ok (.int ns.sum) h:=by simp only[kA,jT,iy]
@[simp] theorem K0 {ns:List Int}:kA [.tup (ns.map D.int)] h=.ok (.int ns.sum) h:=by simp only[kA,jT,iy]
@[simp] theorem KL {b:Bool}:n_ (.bl b) h=.ok b h:=Eq.trans rfl rfl
@[simp] theorem K4 {i:Int}:n_ (.int i) h=.ok (i != 0) h:=Eq.trans rfl rfl
@[simp] theorem LC {i j:Int}:dEq (.int i) (.int j) h=.ok (.bl (i == j)) h:=Eq.trans rfl rfl
@[simp] theorem LH {i j:Int}:dNe (.int i) (.int j) h=.ok (.bl (!(i == j))) h:=Eq.trans rfl rfl
@[simp] theorem J8 {i:Int}:sL "int" (.int i) h=.ok (.bl true) h:=Eq.trans rfl rfl
@[simp] theorem Lr {i:Int}:sL "bool" (.int i) h=.ok (.bl false) h:=Eq.trans rfl rfl
@[simp] theorem Ko {ds:List D}:sL "tuple" (.tup ds) h=.ok (.bl true) h:=Eq.trans rfl rfl
@[simp] theorem n4 {ds:List D} {t:Hh}:aM (h++.lst ds::t) h.length=some ds:=by
 unfold aM;rw[List.getElem?_append_right (Nat.le_refl _)];simp
@[simp] theorem tN {o o':O} {t:Hh}:(h++o::t).set h.length o'=h++o'::t:=by
 rw[List.set_append_right _ _ (Nat.le_refl _)];simp
theorem AD {n:Nat} {ds:List D} {d:D} (e:aM h n=some ds):fu (.ref n) [d] h=if ds.length<1000000 then .ok .non (h.set n (.lst (ds++[d]))) else .bad:=by delta fu;dsimp only;rw[e]
theorem F6 {n:Nat} {ds:List D} (e:aM h n=some ds):eP [.ref n] h=.ok (.int ds.length) h:=by
 unfold aM at e
 split at e
 ·rename_i ds' q;cases e;delta eP;dsimp only;rw[q]
 ·cases e
theorem Hx {n:Nat} {ds:List D} (e:aM h n=some ds):gy [.ref n] h=.ok (.tup ds) h:=by delta gy;dsimp only;rw[e]
theorem nV {n:Nat} {ds:List D} {i:Int} {j:Nat} {v:D} (e:aM h n=some ds) (e2:ixN ds.length i=some j):iz (.ref n) (.int i) v h=.ok () (h.set n (.lst (ds.set j v))):=by delta iz;dsimp only;rw[e];dsimp only;rw[e2]
@[simp] theorem zV {ds:List D} {d:D} {t:Hh}:fu (.ref h.length) [d] (h++.lst ds::t)=if ds.length<1000000 then .ok .non (h++.lst (ds++[d])::t) else .bad:=by rw[AD n4,tN]
theorem EW {n j:Nat} {i:Int} (e:i=(j:Int)) (hj:j<n):ixN n i=some j:=by
 subst e
 unfold ixN
 rw[if_pos (by omega),if_pos (by omega)];simp
end
@[simp] theorem K2 {a:MA}:fC fU a env h=(a env h).bind fU:=Eq.trans rfl rfl
@[simp] theorem Kz {j:Int}:fU [.int j] h=if j.natAbs<=1000000 then .ok (.snap (eT 0 j.toNat)) h else .bad:=Eq.trans rfl rfl
@[simp] theorem LU {a:ME}:f_ a env h=(a env h).bind BL:=Eq.trans rfl rfl
@[simp] theorem KY {a:ME}:lR a env h=(a env h).bind rB:=Eq.trans rfl rfl
@[simp] theorem LO {ds:List D}:BL (.tup ds) h=.ok (.snap ds) h:=Eq.trans rfl rfl
@[simp] theorem LR {ds:List D}:BL (.frl ds) h=.ok (.snap ds) h:=Eq.trans rfl rfl
@[simp] theorem Km {a:MA}:CQ a env h=(a env h).bind DO:=Eq.trans rfl rfl
@[simp] theorem JU {ds es:List D}:DO [.tup ds,.tup es] h=.ok (.snap (fG ds es)) h:=Eq.trans rfl rfl
@[simp] theorem JZ {ds:List D}:rB (.frl ds) h=.ok (.snap (gc ds)) h:=Eq.trans rfl rfl
noncomputable def Ha (tg:D->En->Hh->R En) (body:MS) (env:En):Src->Hh->R Fl:=fun sr h1=>match sr with
 | .snap ds=>dR tg body ds env h1
 | .live n=>jB (Src.live n).rdr tg body ((aM h1 n).getD []).length 0 env h1
 | .liveE n=>jB (Src.liveE n).rdr tg body ((aM h1 n).getD []).length 0 env h1
@[simp] theorem Kr {tg:D->En->Hh->R En} {body:MS} {ds:List D}:Ha tg body env (.snap ds) h=dR tg body ds env h:=Eq.trans rfl rfl
@[simp] theorem Lx {mi:MI} {tg:D->En->Hh->R En} {body:MS}:dU mi tg body env h=(mi env h).bind (Ha tg body env):=by
 unfold dU
 congr 1
noncomputable def Jw (nl:NL) (tt:MT) (te:ME) (ee:D->En):Src->Hh->R D:=fun sr h1=>if sr.fuel h1<=1000000 then
 (match sr with
  | .snap ds=>eB tt te ee ds h1
  | .live n=>gj (Src.live n).rdr tt te ee ((aM h1 n).getD []).length 0 [] h1
  | .liveE n=>gj (Src.liveE n).rdr tt te ee ((aM h1 n).getD []).length 0 [] h1).bind nl else .bad
@[simp] theorem Ld {nl:NL} {mi:MI} {ix:List Nat} {tt:MT} {te:ME}:dX nl mi ix tt te env h=(mi env h).bind (Jw nl tt te (jx ix env)):=Eq.trans rfl rfl
@[simp] theorem J1 {nl:NL} {tt:MT} {te:ME} {ee:D->En} {ds:List D}:Jw nl tt te ee (.snap ds) h=if ds.length<=1000000 then (eB tt te ee ds h).bind nl else .bad:=Eq.trans rfl rfl
@[simp] theorem HQ {lo:Int} {n:Nat}:(eT lo n).length=n:=by simp[eT]
@[simp] theorem LW {ix:List Nat}:jx ix env=fun d=>some d::ix.map fun i=>(env[i]?).join:=Eq.trans rfl rfl
@[simp] theorem LQ:tt1 env h=.ok true h:=Eq.trans rfl rfl
@[simp] theorem LG {m:En->Hh->R β} {x y:D} {r:En}:unp m (some (.tup [x,y])::r) h=m (some x::some y::r) h:=Eq.trans rfl rfl
@[simp] theorem JP {f:Nat} {c:MT} {b:MS}:pU f c b env h=dh c b f env h:=Eq.trans rfl rfl
noncomputable def Jh (tg:D->En->Hh->R En) (body:MS) (ds:List D):Fl->Hh->R Fl:=fun fl h2=>match fl with
 | .nx e=>dR tg body ds e h2
 | .ct e=>dR tg body ds e h2
 | .bk e=>.ok (.nx e) h2
 | .rt d=>.ok (.rt d) h2
theorem r9 {tg:D->En->Hh->R En} {body:MS}:dR tg body [] env h=.ok (.nx env) h:=rfl
theorem jq {tg:D->En->Hh->R En} {body:MS} {d:D} {ds:List D}:dR tg body (d::ds) env h=(tg d env h).bind fun e1 h1=>(body e1 h1).bind (Jh tg body ds):=rfl
@[simp] theorem Fe {tg:D->En->Hh->R En} {body:MS} {ds:List D} {e:En}:Jh tg body ds (.nx e) h=dR tg body ds e h:=Eq.trans rfl rfl
theorem zK (ns:List Int):gc (ns.map D.int)=(List.range ns.length).map fun(i:Nat)=>D.tup [.int i,.int (gI ns i)]:=by
 unfold gc
 rw[List.length_map]
 apply List.map_congr_left
 intro i hi
 have hi:i<ns.length:=List.mem_range.mp hi
 rw[List.getD_eq_getElem?_getD,List.getElem?_map,List.getElem?_eq_getElem hi,yK hi];rfl
theorem comp_map {X:Type} {tt:MT} {te:ME} {ee:D->En} (enc:X->D) (p:X->Bool) (g:X->D):∀(xs:List X),(∀x∈xs,tt (ee (enc x)) h=.ok (p x) h/\(p x=true->te (ee (enc x)) h=.ok (g x) h)) →
  eB tt te ee (xs.map enc) h=.ok ((xs.filter p).map g) h
 | [],_=>rfl
 | x::xs,st=>by
  obtain⟨e1,e2⟩:=st x List.mem_cons_self
  have ih:=comp_map enc p g xs fun y hy=>st y (List.mem_cons_of_mem _ hy)
  rw[List.map_cons,eB,e1,bq]
  cases hp:p x with
  | false=>rw[if_neg Bool.false_ne_true,ih,List.filter_cons_of_neg (by simp[hp])]
  | true=>rw[if_pos rfl,e2 hp,bq,ih,bq,List.filter_cons_of_pos hp,List.map_cons]
theorem uJ {X:Type} {te:ME} {ee:D->En} (enc:X->D) (g:X->D) (xs:List X) (st:∀x∈xs,te (ee (enc x)) h=.ok (g x) h):eB tt1 te ee (xs.map enc) h=.ok (xs.map g) h:=by
 have:=comp_map (tt:=tt1) (ee:=ee) (h:=h) enc (fun _=>true) g xs fun x hx=>⟨rfl,fun _=>st x hx⟩
 rw[List.filter_eq_self.mpr fun _ _=>rfl] at this
 exact this
theorem wX {X:Type} {te:ME} {ee:D->En} (enc:X->D) (g:X->D) (xs:List X) (tt:MT) (ht:∀x∈xs,tt (ee (enc x)) h=.ok true h) (st:∀x∈xs,te (ee (enc x)) h=.ok (g x) h):eB tt te ee (xs.map enc) h=.ok (xs.map g) h:=by
 have:=comp_map (tt:=tt) (ee:=ee) (h:=h) enc (fun _=>true) g xs fun x hx=>⟨ht x hx,fun _=>st x hx⟩
 rw[List.filter_eq_self.mpr fun _ _=>rfl] at this
 exact this
theorem hZ (n:Nat):eT 0 n=(List.range n).map fun(i:Nat)=>D.int i:=by
 unfold eT
 apply List.map_congr_left
 intro i _
 rw[Int.zero_add]
theorem Ax {n:Nat} {tt:MT} {te:ME} {ee:D->En} (p:Nat->Bool) (g:Nat->D) (st:∀i,i<n->tt (ee (.int (i:Nat))) h=.ok (p i) h/\(p i=true->te (ee (.int (i:Nat))) h=.ok (g i) h)) :
  eB tt te ee (eT 0 n) h=.ok (((List.range n).filter p).map g) h:=by
 rw[hZ,comp_map (fun(i:Nat)=>D.int i) p g (List.range n) fun i hi=>st i (List.mem_range.mp hi)]
theorem qZ {n:Nat} {te:ME} {ee:D->En} (g:Nat->D) (st:∀i,i<n->te (ee (.int (i:Nat))) h=.ok (g i) h) :
  eB tt1 te ee (eT 0 n) h=.ok ((List.range n).map g) h:=by
 rw[hZ,uJ (fun(i:Nat)=>D.int i) g (List.range n) fun i hi=>st i (List.mem_range.mp hi)]
theorem DR {σ:Type} {tg:D->En->Hh->R En} {body:MS} (enc:Nat->D) (n:Nat) (E:σ->En) (G:σ->Hh) (f:σ->Nat->σ) (I:Nat->σ->Prop) (s:σ) (i0:I 0 s)
  (st:∀i s,i<n->I i s->I (i+1) (f s i)/\((tg (enc i) (E s) (G s)).bind body=.ok (.nx (E (f s i))) (G (f s i))\/(tg (enc i) (E s) (G s)).bind body=.ok (.ct (E (f s i))) (G (f s i)))) :
  dR tg body ((List.range n).map enc) (E s) (G s)=.ok (.nx (E ((List.range n).foldl f s))) (G ((List.range n).foldl f s))/\I n ((List.range n).foldl f s):=by
 have key:∀(k:Nat) (xs:List Nat) (s:σ),(∀j x,xs[j]?=some x->x=k+j/\x<n)->I k s->dR tg body (xs.map enc) (E s) (G s)=.ok (.nx (E (xs.foldl f s))) (G (xs.foldl f s))/\I (k+xs.length) (xs.foldl f s):=by
  intro k xs
  induction xs generalizing k with
  | nil=>intro s _ i;exact⟨rfl,i⟩
  | cons x xs ih=>
   intro s hx i
   obtain⟨h1,h2⟩:=hx 0 x rfl
   have h1:x=k:=by omega
   subst h1
   obtain⟨i1,e⟩:=st x s h2 i
   obtain⟨e2,i2⟩:=ih (x+1) (f s x) (fun j y hj=>by have:=hx (j+1) y hj;omega) i1
   refine⟨?_,by rw[List.length_cons,List.foldl_cons];rw[show x+(xs.length+1)=x+1+xs.length by omega];exact i2⟩
   rw[List.map_cons,dR,<- bw]
   rcases e with e | e<;>rw[e]<;>exact e2
 have hr:∀j x,(List.range n)[j]?=some x->x=0+j/\x<n:=fun j x hj=>by
  have hl:j<n:=by
   by_cases hl:j<n
   ·exact hl
   ·rw[List.getElem?_eq_none (by simpa using hl)] at hj;cases hj
  rw[List.getElem?_range hl] at hj
  cases hj
  omega
 have:=key 0 (List.range n) s hr i0
 rw[List.length_range,Nat.zero_add] at this
 exact this
theorem jI {σ:Type} {tg:D->En->Hh->R En} {body:MS} (n:Nat) (E:σ->En) (G:σ->Hh) (f:σ->Nat->σ) (I:Nat->σ->Prop) (s:σ) (i0:I 0 s)
  (st:∀i s,i<n->I i s->I (i+1) (f s i)/\((tg (.int (i:Nat)) (E s) (G s)).bind body=.ok (.nx (E (f s i))) (G (f s i))\/(tg (.int (i:Nat)) (E s) (G s)).bind body=.ok (.ct (E (f s i))) (G (f s i)))) :
  dR tg body (eT 0 n) (E s) (G s)=.ok (.nx (E ((List.range n).foldl f s))) (G ((List.range n).foldl f s))/\I n ((List.range n).foldl f s):=by
 rw[hZ]
 exact DR (fun(i:Nat)=>D.int i) n E G f I s i0 st
theorem wQ {c:MT} {b:MS} (n:Nat) (E:Nat->En) (G:Nat->Hh) (hc:∀i,i<n->c (E i) (G i)=.ok true (G i)) (hb:∀i,i<n->b (E i) (G i)=.ok (.nx (E (i+1))) (G (i+1))) (he:c (E n) (G n)=.ok false (G n)) :
  ∀(f:Nat),n<f->dh c b f (E 0) (G 0)=.ok (.nx (E n)) (G n):=by
 have key:∀(k i f:Nat),i+k=n->k<f->dh c b f (E i) (G i)=.ok (.nx (E n)) (G n):=by
  intro k
  induction k with
  | zero=>
   intro i f hi hf
   obtain⟨f,rfl⟩:∃g,f=g+1:=⟨f - 1,by omega⟩
   have:i=n:=by omega
   subst this
   rw[dh,he];rfl
  | succ k ih=>
   intro i f hi hf
   obtain⟨f,rfl⟩:∃g,f=g+1:=⟨f - 1,by omega⟩
   rw[dh,hc i (by omega),bq,if_pos rfl,hb i (by omega),bq]
   exact ih (i+1) f (by omega) (by omega)
 exact fun f hf=>key n 0 f (by omega) hf
noncomputable def Wf (h:Hh):Prop:=h.all (wj h.length)=true
mutual
theorem zr {j k:Nat} (h:j<=k):∀(d:D),gU j d=true->gU k d=true
 | .non,_=>rfl | .bl _,_=>rfl | .int _,_=>rfl | .str _,_=>rfl | .fn _,_=>rfl | .edic,_=>rfl | .exc _ _,_=>rfl
 | .ref n,e=>by simp only[gU,decide_eq_true_eq] at e ⊢;omega
 | .tup ds,e=>by simp only[gU] at e ⊢;exact dB h ds e
 | .frl ds,e=>by simp only[gU] at e ⊢;exact dB h ds e
 | .scr ds,e=>by simp only[gU] at e ⊢;exact dB h ds e
theorem dB {j k:Nat} (h:j<=k):∀(ds:List D),cx j ds=true->cx k ds=true
 | [],_=>rfl
 | d::ds,e=>by
  simp only[cx,Bool.and_eq_true] at e ⊢
  exact⟨zr h d e.1,dB h ds e.2⟩
end
theorem zb {j k:Nat} (h:j<=k) (o:O) (e:wj j o=true):wj k o=true:=by
 cases o with
 | lst ds=>exact dB h ds e
 | set n=>rfl
 | dic kvs=>exact dB h _ e
 | dit kvs=>exact dB h _ e
theorem rh {k:Nat}:∀{ds:List D},(∀d∈ds,gU k d=true)->cx k ds=true
 | [],_=>rfl
 | d::ds,h=>by simp only[cx,Bool.and_eq_true];exact⟨h d List.mem_cons_self,rh fun e he=>h e (List.mem_cons_of_mem _ he)⟩
@[simp] theorem zx {X:Type} {k:Nat} {f:X->D} {xs:List X} (h:∀x,gU k (f x)=true):cx k (xs.map f)=true:=rh fun d hd=>by
 obtain⟨x,_,rfl⟩:=List.mem_map.mp hd;exact h x
@[simp] theorem GP {k:Nat} {ns:List Int}:cx k (ns.map D.int)=true:=zx fun _=>rfl
theorem Wf.nil:Wf []:=rfl
theorem Wf.app {h:Hh} {o:O} (w:Wf h) (l:wj (h.length+1) o=true):Wf (h++[o]):=by
 unfold Wf at w ⊢
 rw[List.all_append,List.length_append,List.length_singleton]
 simp only[List.all_cons,List.all_nil,Bool.and_true,Bool.and_eq_true]
 refine⟨?_,l⟩
 rw[List.all_eq_true] at w ⊢
 exact fun x hx=>zb (Nat.le_succ _) x (w x hx)
noncomputable def deep:Nat->D->Bool
 | 0,_=>false
 | f+1,d=>match d with
  | .ref _=>false
  | .scr _=>false
  | .tup ds=>ds.all (deep f)
  | .frl ds=>ds.all (deep f)
  | _=>true
theorem tm {f:D->Option D}:∀{ds:List D},(∀d∈ds,f d=some d)->lT f ds=some ds
 | [],_=>rfl
 | d::ds,h=>by simp only[lT,h d List.mem_cons_self,tm fun e he=>h e (List.mem_cons_of_mem _ he)]
theorem lV {k:Nat} {h:Hh}:∀(f:Nat) (d:D),deep f d=true->iL k h f d=some d
 | 0,_,e=>by cases e
 | f+1,d,e=>by
  unfold deep at e
  unfold iL
  cases d with
  | ref n=>cases e
  | scr n=>cases e
  | tup ds=>simp only[List.all_eq_true] at e;show Option.map D.tup (lT (iL k h f) ds)=_;rw[tm (f:=iL k h f) fun d hd=>lV f d (e d hd)];rfl
  | frl ds=>simp only[List.all_eq_true] at e;show Option.map D.frl (lT (iL k h f) ds)=_;rw[tm (f:=iL k h f) fun d hd=>lV f d (e d hd)];rfl
  | _=>rfl
theorem j_ {d:D} {t:Hh} (w:Wf h) (e:deep 8 d=true):gS h d (h++t)=.ok d h:=by
 unfold gS
 rw[List.take_left' rfl,if_pos (show h.all (wj h.length)=true from w),lV 8 d e]
@[simp] theorem JK {f:Nat} {i:Int}:deep (f+1) (.int i)=true:=rfl
@[simp] theorem JV {f:Nat} {i:Bool}:deep (f+1) (.bl i)=true:=rfl
@[simp] theorem JL {f:Nat} {i:Str}:deep (f+1) (.str i)=true:=rfl
@[simp] theorem HY {f:Nat}:deep (f+1) .non=true:=rfl
@[simp] theorem HP {f:Nat}:deep (f+1) .edic=true:=rfl
@[simp] theorem IM {f:Nat} {ds:List D}:deep (f+1) (.tup ds)=ds.all (deep f):=rfl
@[simp] theorem JF {f:Nat} {ds:List D}:deep (f+1) (.frl ds)=ds.all (deep f):=rfl
end
noncomputable def Ok {β:Type} (r:R β) (Q:β->Hh->Prop):Prop:=∃b h,r=.ok b h/\Q b h
section
variable {β γ:Type} {Q:β->Hh->Prop} {h h1 h2:Hh}
theorem Ok.mono {r:R β} {Q':β->Hh->Prop} (o:Ok r Q) (q:∀b h,Q b h->Q' b h):Ok r Q':=let ⟨b,h,e,z⟩:=o;⟨b,h,e,q b h z⟩
end
theorem rW {X:Type} {tg:D->En->Hh->R En} {body:MS} {QS:Fl->Hh->Prop} (enc:X->D) (I:En->Hh->Prop) :
  ∀(xs:List X) (env:En) (h:Hh),I env h->(∀x e h,x∈xs->I e h->Ok ((tg (enc x) e h).bind body) fun fl h2=>match fl with
   | .nx e=>I e h2
   | .ct e=>I e h2
   | .bk e=>QS (.nx e) h2
   | .rt d=>QS (.rt d) h2)->(∀e h,I e h->QS (.nx e) h)->Ok (dR tg body (xs.map enc) env h) QS
 | [],env,h,i,_,q=>⟨_,_,rfl,q _ _ i⟩
 | x::xs,env,h,i,st,q=>by
  obtain⟨fl,h2,e,z⟩:=st x env h List.mem_cons_self i
  rw[List.map_cons,dR,<- bw,e,bq]
  cases fl with
  | nx e'=>exact rW enc I xs e' h2 z (fun y e h hy=>st y e h (List.mem_cons_of_mem _ hy)) q
  | ct e'=>exact rW enc I xs e' h2 z (fun y e h hy=>st y e h (List.mem_cons_of_mem _ hy)) q
  | bk e=>exact⟨_,_,rfl,z⟩
  | rt d=>exact⟨_,_,rfl,z⟩
end L2.FE
namespace L2.FE
open PySem PySem.Spec PyProof.Rows
noncomputable def FK (h:Hh) (n:Nat):Option (List (Key × D)):=match h[n]? with
 | some (.dic kvs)=>some kvs
 | _=>none
noncomputable abbrev PD (K:PySem.W.Frag) (g:GG) (α:List Addr) (H:Hp):List (Key × D)->List (Key × V)->Prop:=Paired (fun(a:Key × D) (b:Key × V)=>a.1=b.1/\aP K g α H a.2 b.2)
section
variable {K:PySem.W.Frag} {g:GG} {α:List Addr} {H:Hp} {h:Hh}
theorem aZ.dic {n:Nat} {p:Addr} {kvs:List (Key × D)} (r:aZ K g α H h) (e:FK h n=some kvs) (hp:α[n]?=some p):∃kws,H p=some (.dK kws)/\PD K g α H kvs kws:=by
 unfold FK at e
 cases eo:h[n]? with
 | none=>rw[eo] at e;cases e
 | some o=>
  rw[eo] at e
  cases o with
  | dic k=>cases e;exact r.here n p _ hp eo
  | _=>cases e
theorem PD.ext {α':List Addr} {H':Hp} {kvs:List (Key × D)} {kws:List (Key × V)} (e:Ext K α H α' H') (r:PD K g α H kvs kws):PD K g α' H' kvs kws:=Paired.IB e.toEx0 r
theorem aX.dic {Q:VK} {kvs:List (Key × D)} {kws:List (Key × V)} {p:Addr} (w:aX K g α H Q (.ref h.length) (h++[.dic kvs])) (r:aZ K g α H h) (rs:PD K g α H kvs kws) (hp:H p=none):Q (.ref p) (upd H p (.dK kws)):=by
 have x:=Ext.push (K:=K) (α:=α) (o:=.dK kws) hp
 exact w _ _ _ x (r.push hp ⟨_,a9,rs.ext x⟩) (.ref (by rw[<- r.len];simp))
end
end L2.FE
namespace L2
open PySem PySem.Spec PyProof.Rows
structure Gn (h h':Heap):Prop where
 up:h.UpToSlots h'
 there:∀b o,h.get? b=some o->∃o',h'.get? b=some o'
theorem Gn.trans {h h1 h2:Heap} (a:Gn h h1) (b:Gn h1 h2):Gn h h2:=⟨a.up.trans b.up,fun c o q=>let ⟨_,q'⟩:=a.there c o q;b.there c _ q'⟩
structure Fly (B:Heap) (l:List Env) (e:Addr) (C:Value) (dc:Option Addr) (fl:Value) (h:Heap):Prop where
 stays:B.StaysIn h
 new:B.get? e=none
 fr:h.FunFrames B l
 obj:∃oe ws T oT ts,h.get? e=some oe/\oe.cls=C/\oe.dict=dc/\oe.data=.fields ws/\ws[1]?=some (.ref T)/\B.get? T=none/\T≠e/\h.get? T=some oT/\oT.data=.fields ts/\ts[3]?=some fl
theorem Fly.there {B:Heap} {l:List Env} {e:Addr} {C:Value} {dc:Option Addr} {fl:Value} {h:Heap} (x:Fly B l e C dc fl h):∃oe ws,h.get? e=some oe/\oe.cls=C/\oe.dict=dc/\oe.data=.fields ws:=by
 obtain⟨oe,ws,T,oT,ts,a,b,c,d,_⟩:=x.obj
 exact⟨oe,ws,a,b,c,d⟩
noncomputable def Arr (B:Heap) (l:List Env) (e:Addr) (C:Value) (dc:Option Addr) (h:Heap):Prop:=
 (B.StaysIn h/\B.get? e=none/\h.FunFrames B l/\∃oe ws,h.get? e=some oe/\oe.cls=C/\oe.dict=dc/\oe.data=.fields ws/\ws[1]?=some .none)\/Fly B l e C dc .none h
theorem Arr.stays {B:Heap} {l:List Env} {e:Addr} {C:Value} {dc:Option Addr} {h:Heap} (x:Arr B l e C dc h):B.StaysIn h:=x.elim (·.1) (·.stays)
theorem Arr.new {B:Heap} {l:List Env} {e:Addr} {C:Value} {dc:Option Addr} {h:Heap} (x:Arr B l e C dc h):B.get? e=none:=x.elim (·.2.1) (·.new)
theorem Arr.fr {B:Heap} {l:List Env} {e:Addr} {C:Value} {dc:Option Addr} {h:Heap} (x:Arr B l e C dc h):h.FunFrames B l:=x.elim (·.2.2.1) (·.fr)
end L2
namespace L2.FE
open PySem PySem.Spec PyProof.Rows
noncomputable def noR {β:Type}:R β->R β
 | .ok b h=>.ok b h
 | _=>.bad
@[simp] theorem KW {β:Type} (b:β) (h:Hh):noR (.ok b h)=.ok b h:=rfl
noncomputable def up {β:Type} (m:En->Hh->R β):En->Hh->R β:=fun env h=>noR (m env h)
theorem us0 {P:List Value->Prop} {us:List Value} (hl:us.length=0) (h:P []):P us:=by cases us with | nil=>exact h | cons _ _=>cases hl
theorem us1 {P:List Value->Prop} {us:List Value} (hl:us.length=1) (h:∀a,P [a]):P us:=by cases us with | nil=>cases hl | cons a us=>exact us0 (P:=fun us=>P (a::us)) (Nat.succ.inj hl) (h a)
theorem us2 {P:List Value->Prop} {us:List Value} (hl:us.length=2) (h:∀a b,P [a,b]):P us:=by cases us with | nil=>cases hl | cons a us=>exact us1 (P:=fun us=>P (a::us)) (Nat.succ.inj hl) (h a)
theorem us3 {P:List Value->Prop} {us:List Value} (hl:us.length=3) (h:∀a b c,P [a,b,c]):P us:=by cases us with | nil=>cases hl | cons a us=>exact us2 (P:=fun us=>P (a::us)) (Nat.succ.inj hl) (h a)
theorem qw {fd:FuncData} {ps:List Str} {us:List Value} (hl:us.length=1) (h:∀a:Value,bindArgs fd ⟨[a],[]⟩=pure (ps.zip [a])):bindArgs fd ⟨us,[]⟩=pure (ps.zip us):=us1 (P:=fun us=>bindArgs fd ⟨us,[]⟩=pure (ps.zip us)) hl h
theorem iY {fd:FuncData} {ps:List Str} {us:List Value} (hl:us.length=2) (h:∀a b:Value,bindArgs fd ⟨[a,b],[]⟩=pure (ps.zip [a,b])):bindArgs fd ⟨us,[]⟩=pure (ps.zip us):=us2 (P:=fun us=>bindArgs fd ⟨us,[]⟩=pure (ps.zip us)) hl h
theorem yV {fd:FuncData} {ps:List Str} {us:List Value} (hl:us.length=3) (h:∀a b c:Value,bindArgs fd ⟨[a,b,c],[]⟩=pure (ps.zip [a,b,c])):bindArgs fd ⟨us,[]⟩=pure (ps.zip us):=us3 (P:=fun us=>bindArgs fd ⟨us,[]⟩=pure (ps.zip us)) hl h
end L2.FE
namespace L2
open PySem PySem.Spec PyProof.Rows PySem.W
theorem Jp {P:Program} {w:World} {H:Hp} {h':Heap} {a:Addr} {o:Obj} (e:h'.get? a=some o):cF P w H h' a (FE.AtO a o):=⟨e,e,⟨o,e⟩,fun h1 h2 q k=>k o q⟩
end L2
namespace L2.Srt
open PySem PySem.W PyProof.Rows
section
variable {n:Nat} {key:Nat->Int}
structure Pm (n:Nat) (p:Array Nat):Prop where
 size:p.size=n
 perm:p.Perm (List.range n).toArray
theorem Pm.lt {p:Array Nat} (h:Pm n p) {i:Nat} (hi:i<n):p.getD i 0<n:=by
 have hi':i<p.size:=by rw[h.size];exact hi
 have e:p.getD i 0=p[i]:=by simp[Array.getD,hi']
 rw[e]
 have:=h.perm.mem_iff.mp (Array.getElem_mem hi')
 simpa using this
noncomputable def Dn (key:Nat->Int) (p:Array Nat) (m:Nat):Prop:=∀i j,i<j->j<m->key (p.getD j 0)<key (p.getD i 0)
variable (inj:∀i j,i<n->j<n->key i=key j->i=j)
include inj
omit inj in
omit inj in
omit inj in
omit inj in
omit inj in
omit inj in
end
end L2.Srt
namespace L2.Srt
open PySem PySem.W PyProof.Rows PySem.Calls
section
variable {prog:Program} {w:World} {A:Around} {E:Value->Shared->Prop} {s:Shared} {a:Addr} {vs:List Value} {κ:SortKind}
noncomputable def bZ (h:Heap) (a:Addr) (vs:List Value):Heap:=((h.update a (Obj.mapSeq fun _=>(#[]:Array Value))).push (seqObj "tuple" vs.toArray 0)).push (seqObj "list" #[] 0)
end
section
variable {prog:Program} {w:World} {A:Around} {E:Value->Shared->Prop} {s:Shared} {vs:List Value}
theorem D6 {h:Heap} {a b:Addr} {o:Obj} (hn:b≠a) (q:h.get? b=some o):(bZ h a vs).get? b=some o:=by
 unfold bZ
 exact Heap.get?_push_of_some _ (Heap.get?_push_of_some _ (by rw[Heap.get?_update_ne _ _ _ _ hn];exact q))
inductive Prs (h:Heap):List Value->List (Int × Int)->Prop
 | nil:Prs h [] []
 | cons {a:Addr} {o:Obj} {k:Nat} {t u:Tok} {x y:Int} {vs:List Value} {ps:List (Int × Int)}:h.get? a=some o->o.cls=.type "tuple" -> o.data=.seq #[.int x t,.int y u] k->Prs h vs ps->Prs h (.ref a::vs) ((x,y)::ps)
theorem Prs.len {h:Heap} {vs:List Value} {ps:List (Int × Int)} (r:Prs h vs ps):vs.length=ps.length:=by
 induction r with
 | nil=>rfl
 | cons _ _ _ _ ih=>simp[ih]
end
end L2.Srt
namespace L2
open PySem PySem.Spec PyProof.Rows L2.Srt
inductive PrV (K:PySem.W.Frag) (H:Hp):List V->List (Int × Int)->Prop
 | nil:PrV K H [] []
 | cons {a:Addr} {x y:Int} {xs:List V} {ps:List (Int × Int)}:SqT K H a [.int x,.int y]->PrV K H xs ps->PrV K H (.ref a::xs) ((x,y)::ps)
section
variable {X:Cx}
theorem PrV.len {K:PySem.W.Frag} {H:Hp} {xs:List V} {ps:List (Int × Int)} (r:PrV K H xs ps):xs.length=ps.length:=by
 induction r with
 | nil=>rfl
 | cons _ _ ih=>simp[ih]
theorem qY {xs:List V} {us:List Value} (r:Vals xs us):∀(l:List Nat),(∀i∈l,i<xs.length)->Vals (l.map fun i=>xs.getD i .non) (l.map fun i=>us.getD i Value.none)
 | [],_=>.nil
 | i::l,h=>by
  refine .cons ?_ (qY r l fun j hj=>h j (List.mem_cons_of_mem _ hj))
  have hi:i<xs.length:=h i List.mem_cons_self
  have hu:i<us.length:=by rw[<- r.length];exact hi
  obtain⟨y,e3,ry⟩:=r.get' (List.getElem?_eq_getElem hu)
  have a:xs.getD i .non=y:=by simp[List.getD,e3]
  have b:us.getD i Value.none=us[i]:=by simp[hu]
  show RelV (xs.getD i .non) (us.getD i Value.none)
  rw[a,b]
  exact ry
end
end L2
namespace L2.FE
open PySem PySem.Spec PyProof.Rows L2.Srt
section
variable {X:Cx} {g:GG} {ε:EE} {K:PySem.W.Frag}
theorem x8 {α:List Addr} {H:Hp}:∀{ds:List D} {xs:List V},aA K g α H ds xs->∀(i:Nat),i<ds.length->aP K g α H (ds.getD i .non) (xs.getD i .non)
 | _,_,.nil,i,h=>by simp at h
 | _,_,.cons a b,0,_=>a
 | _,_,.cons a b,i+1,h=>by simpa using x8 b i (by simpa using h)
theorem uu {α:List Addr} {H:Hp} {ds:List D} {xs:List V} (r:aA K g α H ds xs):∀(l:List Nat),(∀i∈l,i<ds.length)->aA K g α H (l.map fun i=>ds.getD i .non) (l.map fun i=>xs.getD i .non)
 | [],_=>.nil
 | i::l,h=>.cons (x8 r i (h i List.mem_cons_self)) (uu r l fun j hj=>h j (List.mem_cons_of_mem _ hj))
end
end L2.FE
namespace L2.Srt
open PySem PySem.W PyProof.Rows PySem.Calls
section
variable {prog:Program} {w:World} {A:Around} {E:Value->Shared->Prop} {s:Shared} {a:Addr} {vs:List Value}
theorem p8 {n:Nat} {P:PySem.Fin->Shared->Prop} (ho:s.heap.get? a=some (seqObj "list" vs.toArray n)) (h1:vs.length<2) (h:P (.done (.ret .none)) { s with heap:=sortedHeap s.heap a vs vs.toArray }) :
  wpAny (model prog w) A (Builtin.«list.sort» ⟨[.ref a],[]⟩) P E s:=by
 obtain⟨e1,ho1⟩:∃e1,(s.heap.update a (Obj.mapSeq fun _=>(#[]:Array Value))).get? a=some (seqObj "list" #[] e1):=⟨_,get?_update_seq ho fun _=>#[]⟩
 have hm:(bZ s.heap a vs).get? a=some (seqObj "list" #[] e1):=Heap.get?_push_of_some _ (Heap.get?_push_of_some _ ho1)
 rw[list_sort_plain]
 refine wpAny_bind (listItems_at ho rfl ?_)
 refine wpAny_bind (listUpdate_at ho rfl ?_ (by rw[List.size_toArray,sizeLine_eq];omega) (Nat.zero_le _))
 refine wpAny_bind (seqEpoch_at ho1 rfl ?_)
 refine wpAny_bind (wpAny_newTuple ?_ (by show vs.length<=_;rw[sizeLine_eq];omega))
 refine wpAny_bind (wpAny_newList ?_ (Nat.zero_le _))
 refine wpAny_holding ?_
 show wpAny (model prog w) A _ P E { s with heap:=bZ s.heap a vs }
 dsimp only
 have hn2:vs.toArray.size<2:=by rw[List.size_toArray];exact h1
 rw[if_pos hn2,if_pos hn2]
 refine wpAny_bind (wpAny_pure ?_)
 refine wpAny_bind (wpAny_pure (a:=((),SortSt.mk' general' (vs.toArray.zip vs.toArray) #[] 7 none)) ?_)
 dsimp only
 have hout:(arrOf (SortSt.mk' general' (vs.toArray.zip vs.toArray) #[] 7 none)).map (·.2)=vs.toArray:=by
  show(vs.toArray.zip vs.toArray).map (·.2)=vs.toArray
  apply Array.toList_inj.mp
  simp[List.map_snd_zip]
 rw[hout]
 refine wpAny_bind (seqEpoch_at hm rfl ?_)
 refine wpAny_bind (listUpdate_at hm rfl ?_ (Nat.zero_le _) (by rw[List.size_toArray,sizeLine_eq];omega))
 simp only[bne_self_eq_false,Bool.false_eq_true,if_false]
 exact wpAny_pure h
end
end L2.Srt
namespace L2.FE
open PySem PySem.Spec PyProof.Rows
noncomputable def setOf (h:Hh) (n:Nat):Option (List Int):=match h[n]? with
 | some (.set ns)=>some ns
 | _=>none
section
variable {X:Cx} {g:GG} {ε:EE} {K:PySem.W.Frag}
theorem aZ.set {α:List Addr} {H:Hp} {h:Hh} {n:Nat} {p:Addr} {ns:List Int} (r:aZ K g α H h) (e:setOf h n=some ns) (hp:α[n]?=some p):H p=some (.set (fun k=>ns.any (· == k)) ns.length):=by
 unfold setOf at e
 cases eo:h[n]? with
 | none=>rw[eo] at e;cases e
 | some o=>
  rw[eo] at e
  cases o with
  | set k=>cases e;exact r.here n p _ hp eo
  | _=>cases e
end
noncomputable def Fp (h:Hh) (n:Nat):Option (List (List Key × D)):=match h[n]? with
 | some (.dit kvs)=>some kvs
 | _=>none
noncomputable abbrev PDT (K:PySem.W.Frag) (g:GG) (α:List Addr) (H:Hp):List (List Key × D)->List (List Key × V)->Prop:=Paired (fun(a:List Key × D) (b:List Key × V)=>a.1=b.1/\aP K g α H a.2 b.2)
section
variable {K:PySem.W.Frag} {g:GG} {α:List Addr} {H:Hp} {h:Hh}
theorem aZ.dit {n:Nat} {p:Addr} {kvs:List (List Key × D)} (r:aZ K g α H h) (e:Fp h n=some kvs) (hp:α[n]?=some p):∃kws,H p=some (.dT kws)/\PDT K g α H kvs kws:=by
 unfold Fp at e
 cases eo:h[n]? with
 | none=>rw[eo] at e;cases e
 | some o=>
  rw[eo] at e
  cases o with
  | dit k=>cases e;exact r.here n p _ hp eo
  | _=>cases e
theorem PDT.ext {α':List Addr} {H':Hp} {kvs:List (List Key × D)} {kws:List (List Key × V)} (e:Ext K α H α' H') (r:PDT K g α H kvs kws):PDT K g α' H' kvs kws:=Paired.IV e.toEx0 r
theorem aX.dit {Q:VK} {kvs:List (List Key × D)} {kws:List (List Key × V)} {p:Addr} (w:aX K g α H Q (.ref h.length) (h++[.dit kvs])) (r:aZ K g α H h) (rs:PDT K g α H kvs kws) (hp:H p=none):Q (.ref p) (upd H p (.dT kws)):=by
 have x:=Ext.push (K:=K) (α:=α) (o:=.dT kws) hp
 exact w _ _ _ x (r.push hp ⟨_,a9,rs.ext x⟩) (.ref (by rw[<- r.len];simp))
end
end L2.FE
namespace L2
open PySem PySem.Spec PyProof.Rows
noncomputable abbrev Hv (J:It) (ix:List Nat) (σ:St) (wi2:TI) (te:TE) (acc:Addr) (H1:Hp) (Q:VK):Prop:=
 ∃W:Nat->Nat->List V->Hp->Prop,(∃m,W 0 m [] (upd H1 acc (.lst [])))/\∀i m ys H,W i m ys H →
  (J.stop i H/\Q (.ref acc) H)\/(J.go i H/\∀σ0 x H',iX 2 ix σ σ0->J.yld i H x H'->wi2 (σ0.set 0 (some x)) H' fun J2 H2=>
   ∃U:Nat->Nat->List V->Hp->Prop,(∃m2,U 0 m2 ys H2)/\∀j m2 zs H,U j m2 zs H->(J2.stop j H/\∃m',m'<m/\W (i+1) m' zs H) ∨
    (J2.go j H/\∀y H',J2.yld j H y H'->te ((σ0.set 0 (some x)).set 1 (some y)) H' fun v H3=>∃ks,H3 acc=some (.lst ks)/\ks.length<sizeLine/\∃m',m'<m2/\U (j+1) m' (ks++[v]) (upd H3 acc (.lst (ks++[v])))))
noncomputable def wk (wi:TI) (ix:List Nat) (wi2:TI) (te:TE):TE:=fun σ H Q=>wi σ H fun J H1=>∀acc,H1 acc=none->Hv J ix σ wi2 te acc H1 Q
section
variable {prog:Program} {w:World} {A:Around} {R:Result->Shared->Prop} {s:Shared} {elt tg iter tg2 iter2:Expr} {scope:Scope} {pos:Pos} {it acc:Value} {env:Env}
noncomputable abbrev e2 (elt tg iter tg2 iter2:Expr) (scope:Scope) (pos:Pos):Expr:=.ListComp elt [⟨tg,iter,[],0⟩,⟨tg2,iter2,[],0⟩] scope pos
theorem Cv:compTurn (e2 elt tg iter tg2 iter2 scope pos) 0 it acc env=(standAt iter.pos >>= fun _=>pyNext it >>= fun r=>match r with
  | none=>pure (.done .next)
  | some v=>letOwnedTupleGo tg it v >>= fun _=>assign tg env v >>= fun _=>
   eval iter2 env >>= fun x=>standAt iter2.pos >>= fun _=>foldedSetIterable iter2 env x >>= fun x=>holding [x] (pyIter x) >>= fun i2=>runOwn (.compStart (e2 elt tg iter tg2 iter2 scope pos) 1 i2 acc env) env >>= fun _=>
    again (.compLoop (e2 elt tg iter tg2 iter2 scope pos) 0 it acc env)):=by rfl
theorem Dy:compTurn (e2 elt tg iter tg2 iter2 scope pos) 1 it acc env=(standAt iter2.pos >>= fun _=>pyNext it >>= fun r=>match r with
  | none=>pure (.done .next)
  | some v=>letOwnedTupleGo tg2 it v >>= fun _=>assign tg2 env v >>= fun _=>
   (eval elt env >>= fun x=>call (.builtin "list.append") [acc,x] >>= fun _=>pure ()) >>= fun _=>
    again (.compLoop (e2 elt tg iter tg2 iter2 scope pos) 1 it acc env)):=by rfl
theorem AY (I:Nat->Shared->Prop)
  (turn:∀n s,I n s->wpAny (model prog w) A (pyNext it) (fun r s₁=>match r with
   | none=>R (.ok .next) s₁
   | some v=>wpAny (model prog w) A (letOwnedTupleGo tg2 it v) (fun _ s₁=>wpAny (model prog w) A (assign tg2 env v) (fun _ s₂=>
     wpAny (model prog w) A (eval elt env) (fun x s₄=>wpAny (model prog w) A (call (.builtin "list.append") [acc,x]) (fun _ s₅=>∃m,m<n/\I m s₅) (fun _ _=>False) s₄) (fun _ _=>False) s₂) (fun _ _=>False) s₁) (fun _ _=>False) s₁) (fun _ _=>False) s)
  (n:Nat) (h:I n s):codeAny (model prog w) A (.compLoop (e2 elt tg iter tg2 iter2 scope pos) 1 it acc env) R s:=by
 refine codeAny_loop rfl I (fun n s hI=>?_) n h
 show wpAny _ A ((compTurn (e2 elt tg iter tg2 iter2 scope pos) 1 it acc env).onRaise (fun x=>do noteFrame x env;theTreesLotGoes x)) _ _ s
 refine wpAny_noted ?_
 rw[Dy]
 refine wpAny_noRaise ?_
 refine wpAny_bind (wpAny_standAt (wpAny_bind (thn (turn n s hI) fun r s₁ h₁=>?_)))
 cases r with
 | none=>exact wpAny_pure h₁
 | some v=>exact wpAny_bind (thn h₁ fun _ s₂ h₂=>wpAny_bind (thn h₂ fun _ s₃ h₃=>wpAny_bind (wpAny_bind (thn h₃ fun x s₄ h₄=>wpAny_bind (thn h₄ fun _ s₅ h₅=>wpAny_pure (wpAny_pure ⟨rfl,h₅⟩))))))
theorem z_ (I:Nat->Shared->Prop) (hf:∀x,foldedSetIterable iter2 env x=pure x)
  (turn:∀n s,I n s->wpAny (model prog w) A (pyNext it) (fun r s₁=>match r with
   | none=>R (.ok .next) s₁
   | some v=>wpAny (model prog w) A (letOwnedTupleGo tg it v) (fun _ s₁=>wpAny (model prog w) A (assign tg env v) (fun _ s₂=>
     wpAny (model prog w) A (eval iter2 env) (fun x s₃=>wpAny (model prog w) A (pyIter x) (fun i2 s₄=>
      codeAny (model prog w) A (.compStart (e2 elt tg iter tg2 iter2 scope pos) 1 i2 acc env) (fun r s'=>match r with
       | .ok _=>∃m,m<n/\I m s'
       | .error _=>False) s₄) (fun _ _=>False) s₃) (fun _ _=>False) s₂) (fun _ _=>False) s₁) (fun _ _=>False) s₁) (fun _ _=>False) s)
  (n:Nat) (h:I n s):codeAny (model prog w) A (.compLoop (e2 elt tg iter tg2 iter2 scope pos) 0 it acc env) R s:=by
 refine codeAny_loop rfl I (fun n s hI=>?_) n h
 show wpAny _ A ((compTurn (e2 elt tg iter tg2 iter2 scope pos) 0 it acc env).onRaise (fun x=>do noteFrame x env;theTreesLotGoes x)) _ _ s
 refine wpAny_noted ?_
 rw[Cv]
 refine wpAny_noRaise ?_
 refine wpAny_bind (wpAny_standAt (wpAny_bind (thn (turn n s hI) fun r s₁ h₁=>?_)))
 cases r with
 | none=>exact wpAny_pure h₁
 | some v=>
  refine wpAny_bind (thn h₁ fun _ s₂ h₂=>wpAny_bind (thn h₂ fun _ s₃ h₃=>wpAny_bind (thn h₃ fun x s₄ h₄=>wpAny_bind (wpAny_standAt (wpAny_bind (wpAny_of_eq (hf x) (wpAny_bind (wpAny_holding (thn h₄ fun i2 s₅ h₅=>?_)))))))))
  refine wpAny_bind (wpAny_runOwn (codeAny_mono h₅ fun r s' hr=>?_))
  cases r with
  | ok f=>exact wpAny_pure ⟨rfl,hr⟩
  | error e=>exact hr.elim
theorem Bg:compStart (e2 elt tg iter tg2 iter2 scope pos) 1 it acc env=(ask >>= fun st=>if st.params.followText "comprehension-iter-twice" = true then again (.compLoop (e2 elt tg iter tg2 iter2 scope pos) 1 it acc env) else
  rule "comprehension.iter-twice" >>= fun _=>standAt iter2.pos >>= fun _=>pyIter it >>= fun i'=>again (.compLoop (e2 elt tg iter tg2 iter2 scope pos) 1 i' acc env)):=by rfl
theorem B4 (h0:codeAny (model prog w) A (.compLoop (e2 elt tg iter tg2 iter2 scope pos) 1 it acc env) R s)
  (h:wpAny (model prog w) A (pyIter it) (fun i' s'=>codeAny (model prog w) A (.compLoop (e2 elt tg iter tg2 iter2 scope pos) 1 i' acc env) R s') (fun _ _=>False) s) :
  codeAny (model prog w) A (.compStart (e2 elt tg iter tg2 iter2 scope pos) 1 it acc env) R s:=by
 refine codeAny_of_tree ?_
 show wpAny _ _ ((compStart (e2 elt tg iter tg2 iter2 scope pos) 1 it acc env).onRaise (fun x=>do noteFrame x env;standAt theWindowsPlace)) _ _ s
 refine wpAny_notedAt ?_
 refine wpAny_noRaise ?_
 rw[Bg]
 refine wpAny_bind (wpAny_askSetting ?_)
 split
 ·exact wpAny_pure ⟨rfl,h0⟩
 ·exact wpAny_bind (wpAny_rule (wpAny_bind (wpAny_standAt (wpAny_bind (thn h fun i' s' h'=>wpAny_pure ⟨rfl,h'⟩)))))
end
theorem zj {X:Cx} {use:Option (Value->Sem Unit)} {Q2:Value->Shared->Prop} {pins:List (Addr × Obj)} {s:Shared} {σ:St} {H:Hp} {Q:VK} {elt iter tg iter2 tg2:Expr} {tn':List Str} {scope osc:Scope} {pos:Pos} {wi wi2:TI} {te:TE} (ix:List Nat) (N':List Str)
  (hxe:X.xe=fun _ _=>False) (hc:X.calm=true) (ho:X.env.scope=osc) (hN:N'=tn'++ix.map fun i=>(X.N[i]?).getD ("" : Str)) (hnd:N'.Nodup)
  (hall:(∀y∈scope.names,y.2=.free->osc.names.lookup y.1=some .cell)/\(∀y∈scope.names,y.2≠.cell)/\scope.kind=.function/\(∀y∈scope.names,y.2=.local->scope.names.lookup y.1=some .local)/\(∀y∈N'.drop tn'.length,scope.names.lookup y=some .free))
  (hi:PI X tg iter wi) (hg:∀cl C aK aN fp,PG (aY X scope cl C aK aN fp N') tg (dE 0)) (hi2:∀cl C aK aN fp,PI (aY X scope cl C aK aN fp N') tg2 iter2 wi2) (hg2:∀cl C aK aN fp,PG (aY X scope cl C aK aN fp N') tg2 (dE 1))
  (he:∀cl C aK aN fp,PE (aY X scope cl C aK aN fp N') elt te)
  (hs:∀x,foldedSetIterable iter X.env x=pure x) (hs2:∀env x,foldedSetIterable iter2 env x=pure x) (h2n:tn'.length=2) (I:Inv X pins σ H s) (h:wk wi ix wi2 te σ H Q)
  (hfin:∀(acc C:Addr) (H5:Hp) (s5:Shared) (o:Obj),Inv X (pins++[(C,o)]) σ H5 s5->(∀x c,X.env.cells.lookup x=some c->c≠C)->X.aK.heap.objs.size<=C->(∀p∈X.pn++pins,p.1≠C)->(∃m,∀h':Heap,h'.get? C=some o->h'.Ns C m)->Q (.ref acc) H5->compPost (model X.prog X.w) X.A X.xe use Q2 (.ref acc) C (.ok .next) s5) :
  wpAny (model X.prog X.w) X.A (comprehension (.ListComp elt [⟨tg,iter,[],0⟩,⟨tg2,iter2,[],0⟩] scope pos) scope X.env (firstIterPos [⟨tg,iter,[],0⟩,⟨tg2,iter2,[],0⟩] pos) (newList []) false (eval iter X.env) use) Q2 X.xe s:=by
 obtain⟨hfr,hcell,hkind,hnames,hcap⟩:=hall
 subst ho
 have outc:∀y∈scope.names,y.2=.free->X.env.kindOf y.1=some .cell:=fun y hy q=>hfr y hy q
 obtain⟨cl,hclos,hcl1,hcl2⟩:=jN (env:=X.env) (scope:=scope) fun y hy q=>I.ok.has y.1 (.inl (outc y hy q))
 refine wpAny_comprehension_free (use:=use) rfl hs hclos hkind hnames (thn (hi pins s σ H _ I h) fun v s1 h1=>thn h1 fun itv s2 h2=>?_)
 obtain⟨it,fp,tn,J,H2,e,I2,T,st2,f2,rest⟩:=h2
 subst e
 have hf2:H2 s2.heap.objs.size=none:=I2.hok.fresh (Nat.le_refl _)
 obtain⟨W,⟨m0,w0⟩,turn⟩:=rest s2.heap.objs.size hf2
 -- the list
 refine wpAny_newObj_type ?_
 have I3:Inv X pins σ (upd H2 s2.heap.objs.size (.lst [])) { s2 with heap:=s2.heap.push { cls:=.type "list", dict:=none,data:=.seq ([]:List Value).toArray } }:=I2.D1 (its:=[]) (t':=s2.toks) .nil (Nat.zero_le _)
 have keep3:∀b o,s2.heap.get? b=some o->(s2.heap.push { cls:=.type "list", dict:=none,data:=.seq ([]:List Value).toArray }).get? b=some o:=fun b o q=>Heap.get?_push_of_some _ q
 have fp3:∀b∈fp,∃o,s2.heap.get? b=some o/\∀v,o.data≠.cell v:=T.obj _ _ st2
 have st3:tn 0 (s2.heap.push { cls:=.type "list", dict:=none,data:=.seq ([]:List Value).toArray }):=T.keep _ _ _ st2 fun b _ o q=>keep3 b o q
 have fpn:∀b∈fp,(upd H2 s2.heap.objs.size (HO.lst [])) b=none:=fun b hb=>by
  obtain⟨o,q,_⟩:=fp3 b hb
  rw[aS (Nat.ne_of_lt (Heap.lt_size q))]
  exact(f2 b hb).1
 revert I3 keep3 st3 fpn w0
 generalize hS3:({ s2 with heap:=s2.heap.push { cls:=.type "list", dict:=none,data:=.seq ([]:List Value).toArray } }:Shared)=s3
 generalize hH3:upd H2 s2.heap.objs.size (HO.lst [])=H3
 intro w0 I3 keep3 st3 fpn
 have acc3:H3 s2.heap.objs.size=some (.lst []):=by rw[<- hH3];exact a9
 generalize s2.heap.objs.size=acc at *
 have e3:s2.heap.push { cls:=.type "list", dict:=none,data:=.seq ([]:List Value).toArray }=s3.heap:=by rw[<- hS3]
 have keep3':∀b o,s2.heap.get? b=some o->s3.heap.get? b=some o:=fun b o q=>by rw[<- e3];exact keep3 b o q
 have st3':tn 0 s3.heap:=by rw[<- e3];exact st3
 refine wpAny_newFunctionEnv hcell (by intro y hy;simp at hy) (fun h₁ hns₁ hsb₁=>?_) hkind
 have hC:s3.heap.objs.size=s3.heap.objs.size:=rfl
 have keep4:∀b o,s3.heap.get? b=some o->h₁.get? b=some o:=fun b o q=>hsb₁.extBut b o (Nat.ne_of_lt (Heap.lt_size q)) (Heap.get?_push_of_some _ q)
 have fpC:∀b∈fp,b≠s3.heap.objs.size:=fun b hb=>by
  obtain⟨o,q,_⟩:=fp3 b hb
  exact Nat.ne_of_lt (Heap.lt_size (keep3' b o q))
 -- the block's context
 generalize hX':aY X scope cl s3.heap.objs.size s3 H3 fp N'=X'
 have hXp:X'.prog=X.prog:=by rw[<- hX'];rfl
 have hXw:X'.w=X.w:=by rw[<- hX'];rfl
 have hXK:X'.K=X.K:=by rw[<- hX'];rfl
 have hXA:X'.A=X.A:=by rw[<- hX'];rfl
 have hXe:X'.env=compEnvC scope cl s3.heap.objs.size X.env:=by rw[<- hX'];rfl
 have hXc:X'.calm=true:=by rw[<- hX'];exact hc
 have hXx:X'.xe=fun _ _=>False:=by rw[<- hX'];exact hxe
 have hXf:X'.fs=frs X.stack:=by rw[<- hX'];rfl
 have hXex:X'.ex=fp:=by rw[<- hX'];rfl
 have hXN:X'.N=N':=by rw[<- hX'];rfl
 have hXs:X'.aK=s3:=by rw[<- hX'];rfl
 have hXH:X'.aN=H3:=by rw[<- hX'];rfl
 have hXpn:X'.pn=[]:=by rw[<- hX'];rfl
 have okX:X'.Ok:=by
  rw[<- hX']
  refine⟨I3.ok.mod,hkind,I3.ok.glob,I3.ok.blt,Nat.le_refl _,fun a b c p q=>I3.ok.inj a b c (hcl1 a c p) (hcl1 b c q),fun y hy=>?_,fun _ _ z=>(by cases z),I3.ok.hd,I3.ok.frames,.inl rfl,fun b hb=>⟨fpC b hb,fun y c p=>(f2 b hb).2.2.2.2.1 y c (hcl1 y c p)⟩,
   I3.bs,Nat.le_trans I3.ok.bsz I3.sz,fun b o p hb=>?_,fun b hb z=>?_,I3.stack,I3.rO⟩
  ·have hy':(relabel scope X.env).names.lookup y=some .cell\/(relabel scope X.env).names.lookup y=some .free:=hy
   have free:scope.names.lookup y=some .free->∃c,cl.lookup y=some c:=fun q=>hcl2 y (lookup_mem q)
   rcases hy' with q | q
   ·rcases dZ q with z | ⟨z,_⟩
    ·exact absurd rfl (hcell _ (lookup_mem z))
    ·exact free z
   ·rcases dZ q with z | ⟨_,z⟩
    ·exact free z
    ·cases z
  ·rcases(f2 b hb).2.2.2.1 with z | z
   ·exact I3.ok.Af b o p z
   ·exact absurd (Nat.lt_of_lt_of_le (Heap.lt_size p) (Nat.le_trans I3.ok.bsz z)) (Nat.lt_irrefl _)
  ·rcases List.mem_cons.mp (I3.lX b z) with q | q
   ·exact(f2 b hb).2.1 q
   ·exact(f2 b hb).2.2.1 q
 have I4:∀tk,Inv X' [] (qg tn'.length ix σ) H3 { s3 with heap:=h₁,toks:=tk }:=fun tk=>by
  have hloc:=I3.loc
  refine⟨okX,by rw[hXs],I3.bare,?_,⟨fun y=>([]:List (Str × Value)).reverse.lookup y,by rw[hXe];exact hns₁,fun i y v e1 e2 e3=>?_⟩,fun y c p=>?_,?_,fun y c p=>?_,fun p hp=>?_,?_,?_⟩
  ·rw[hXf,hXex,hXH,hXs];exact Un.kept keep4
  ·rw[hXN,hN] at e1
   by_cases hit':i<tn'.length
   ·exfalso
    unfold qg at e2
    rw[List.getElem?_append_left (by simpa using hit'),List.getElem?_replicate,if_pos hit'] at e2
    cases e2
   ·have e10:N'[i]?=some y:=by rw[hN];exact e1
    obtain⟨j,rfl⟩:∃j,i=tn'.length+j:=⟨i - tn'.length,by omega⟩
    have e1':(ix.map fun i=>(X.N[i]?).getD ("" : Str))[j]?=some y:=by
     rw[List.getElem?_append_right (by omega)] at e1
     rw[show tn'.length+j - tn'.length=j by omega] at e1
     exact e1
    have e2':(ix.map fun i=>(σ[i]?).join)[j]?=some (some v):=by
     unfold qg at e2
     rw[List.getElem?_append_right (by simp)] at e2
     simpa using e2
    rw[List.getElem?_map] at e1' e2'
    cases hj:ix[j]? with
    | none=>rw[hj] at e1';cases e1'
    | some i0=>
     rw[hj] at e1' e2'
     have e1'':(X.N[i0]?).getD ("" : Str)=y:=by simpa using e1'
     have e2'':(σ[i0]?).join=some v:=by simpa using e2'
     have hsv:σ[i0]?=some (some v):=by
      cases q:σ[i0]? with
      | none=>rw[q] at e2'';cases e2''
      | some z=>rw[q] at e2'';have:z=some v:=by simpa using e2''
                rw[this]
     have hlt:i0<X.N.length:=by
      have:=(List.getElem?_eq_some_iff.mp hsv).1
      rw[I3.len] at this;exact this
     have hNy:X.N[i0]?=some y:=by
      rw[List.getElem?_eq_getElem hlt] at e1'' ⊢
      simpa using e1''
     have hyt:y∈N'.drop tn'.length:=by
      refine List.mem_of_getElem? (i:=j) ?_
      rw[List.getElem?_drop];exact e10
     have hyf:=hcap y hyt
     have hyc:=outc (y,.free) (lookup_mem hyf) rfl
     obtain⟨m,hn,hl⟩:=hloc
     obtain⟨u,r,l⟩:=hl i0 y v hNy hsv (.inr (.inl hyc))
     refine⟨u,r,?_⟩
     rcases l with⟨k1,_⟩ | ⟨_,c,p,z⟩
     ·have hyc':X.env.kindOf y=some .cell:=hyc
      rw[k1] at hyc';cases hyc'
     ·obtain⟨c',p'⟩:=hcl2 y (lookup_mem hyf)
      have pc:c'=c:=by
       have:=hcl1 y c' p'
       rw[p] at this;cases this;rfl
      subst pc
      refine .inr ⟨.inl ?_,c',by rw[hXe];exact p',?_⟩
      ·rw[hXe];exact dm I3.ok.kind hyf hyc
      ·obtain⟨o,q1,q2⟩:=z
       exact⟨o,keep4 c' o q1,q2⟩
  ·rw[hXe] at p
   obtain⟨v,o,q1,q2⟩:=I3.cell y c (hcl1 y c p)
   exact⟨v,o,keep4 c o q1,q2⟩
  ·rw[hXe];exact I3.hok.fresh (Nat.le_refl _)
  ·rw[hXe] at p;exact I3.jo y c (hcl1 y c p)
  ·rw[hXpn] at hp;cases hp
  ·rw[hXp,hXw];exact I3.hok.kept keep4
  ·rw[hXN,hN];simp[qg]
 -- the loop
 have stat:∀{H':Hp},(∀b∈fp,H' b=none)->∀b∈fp,mx X' [] H' b:=fun hn b hb=>by
  refine⟨hn b hb,by rw[hXe];exact fpC b hb,?_,.inl (by rw[hXex];exact hb),fun y c p=>?_,fun p hp=>by rw[hXpn] at hp;cases hp⟩
  ·rw[hXf];intro z
   rcases List.mem_cons.mp (I3.lX b z) with q | q
   ·exact(f2 b hb).2.1 q
   ·exact(f2 b hb).2.2.1 q
  ·rw[hXe] at p;exact(f2 b hb).2.2.2.2.1 y c (hcl1 y c p)
 have fin:∀{H5:Hp} {s5:Shared} {σ5:St},Inv X' [] σ5 H5 s5->Q (.ref acc) H5->compPost (model X.prog X.w) X.A X.xe use Q2 (.ref acc) s3.heap.objs.size (.ok .next) s5:=fun{H5 s5 σ5} I5 q=>by
  obtain⟨m,hn,_⟩:=I5.loc
  rw[hXe] at hn
  have hn':s5.heap.Ns s3.heap.objs.size m:=hn
  obtain⟨oC,esC,epC,hC1,hC2,hC3⟩:=hn'
  have u5:=I5.base
  rw[hXf,hXex,hXH,hXs] at u5
  have fr:H5 s3.heap.objs.size=none:=by have:=I5.free;rw[hXe] at this;exact this
  have hok5:=I5.hok
  rw[hXp,hXw] at hok5
  have hos:s5.os=s3.os:=by have:=I5.os;rw[hXs] at this;exact this
  have IX:Inv X pins σ H5 s5:=I3.ve (s':=s5) (ch:=fp) hos u5 hok5 I5.bare (fun b hb=>by
   obtain⟨g0,g1,g2,g3,g4,g5⟩:=f2 b hb
   exact⟨g3,g1,g4,g5⟩)
  have cC:∀x c,X.env.cells.lookup x=some c->c≠s3.heap.objs.size:=fun x c z e=>by
   obtain⟨v,q⟩:=I3.cell x c z
   exact absurd q.lt (by rw[e];exact Nat.lt_irrefl _)
  have pC:∀p∈X.pn++pins,p.1≠s3.heap.objs.size:=fun p hp e=>by
   have:=Heap.lt_size (I3.pin p hp).1
   rw[e] at this
   exact Nat.lt_irrefl _ this
  refine hfin acc s3.heap.objs.size H5 s5 oC (IX.kL fun p hp=>?_) cC I3.sz pC ⟨m,fun h' z=>⟨oC,esC,epC,z,hC2,hC3⟩⟩ q
  rcases List.mem_append.mp hp with z | z
  ·exact IX.pin p (List.mem_append_right _ z)
  ·have e:=List.mem_singleton.mp z
   subst e
   refine⟨hC1,fr,Nat.ne_of_gt I3.lt,I3.Gw (Nat.le_refl _),fun v e=>?_⟩
   have e':oC.data=.cell v:=e
   rw[hC2] at e';cases e'
 have IsC:∀{σ0:St} {i:Nat} {v:Option V},iX 2 ix σ σ0->i<2->iX 2 ix σ (σ0.set i v):=fun{σ0 i v} ⟨ts,hl,e⟩ hi=>⟨ts.set i v,by rw[List.length_set];exact hl,by rw[e,List.set_append_left _ _ (by rw[hl];exact hi)]⟩
 have loop:∀tk,codeAny (model X.prog X.w) X.A (.compLoop (.ListComp elt [⟨tg,iter,[],0⟩,⟨tg2,iter2,[],0⟩] scope pos) 0 (.ref it) (.ref acc) (compEnvC scope cl s3.heap.objs.size X.env))
   (compPost (model X.prog X.w) X.A X.xe use Q2 (.ref acc) s3.heap.objs.size) { s3 with heap:=h₁,toks:=tk }:=fun tk=>by
  refine z_ (fun n s'=>∃i ys σ' H',Inv X' [] σ' H' s'/\iX 2 ix σ σ'/\tn i s'.heap/\(∀b∈fp,H' b=none)/\W i n ys H') (hs2 _) (fun n s5 h5=>?_) m0
   ⟨0,[],qg tn'.length ix σ,H3,I4 tk,⟨_,by rw[List.length_replicate];exact h2n,rfl⟩,T.keep _ _ _ st3' fun b _ o q=>keep4 b o q,fpn,w0⟩
  obtain⟨i,ys,σ5,H5,I5,hσ,st5,fr5,w5⟩:=h5
  rcases turn i n ys H5 w5 with⟨stop,q⟩ | ⟨go,step⟩
  ·have d:=T.done X' hXp hXw hXK hXc i [] s5 σ5 H5 (fun _ _=>False) I5 (stat fr5) st5 stop
   rw[hXA] at d
   refine thn d fun r s6 ⟨hr,I6⟩=>?_
   subst hr
   exact fin I6 q
  ·have d:=T.item X' hXp hXw hXK hXc i [] s5 σ5 H5 (fun _ _=>False) I5 (stat fr5) st5 go
   rw[hXA] at d
   refine thn d fun r s6 ⟨u,hr,h6⟩=>?_
   subst hr
   refine thn h6 fun _ s7 ⟨z,H7,I7,r7,y7,st7,fr7⟩=>?_
   have I7':=I7.pinned (stat fr7) (T.obj _ _ st7)
   have again:∀{H9:Hp} {s9:Shared} {ys9:List V} {σ9:St},Inv X' ([]++jF fp s7.heap) σ9 H9 s9->iX 2 ix σ σ9->(∃m',m'<n/\W (i+1) m' ys9 H9)->∃m',m'<n/\∃i ys σ' H',Inv X' [] σ' H' s9/\iX 2 ix σ σ'/\tn i s9.heap/\(∀b∈fp,H' b=none)/\W i m' ys H':=fun{H9 s9 ys9 σ9} I9 c9 ⟨m',hm,w9⟩=>by
    refine⟨m',hm,i+1,ys9,_,H9,I9.gT,c9,T.keep _ _ _ st7 fun b hb o e=>(I9.pin (b,o) (List.mem_append_right _ (List.mem_append_right _ (cR hb e)))).1,fun b hb=>?_,w9⟩
    obtain⟨o,e,_⟩:=T.obj _ _ st7 b hb
    exact(I9.pin (b,o) (List.mem_append_right _ (List.mem_append_right _ (cR hb e)))).2.1
   have he':=he cl s3.heap.objs.size s3 H3 fp
   have hg':=hg cl s3.heap.objs.size s3 H3 fp
   have hg2':=hg2 cl s3.heap.objs.size s3 H3 fp
   have hi2':=hi2 cl s3.heap.objs.size s3 H3 fp
   rw[hX'] at he' hg' hg2' hi2'
   rw[<- hXe]
   have a0:=hg' _ s7 σ5 H7 z u (fun σ2 Hn=>σ2=σ5.set 0 (some z)/\Hn=H7) I7' r7 ⟨rfl,rfl⟩
   rw[hXp,hXw,hXA,hXx] at a0
   refine thn a0 fun _ s8 ⟨σ8,H8,I8,e8,e8'⟩=>?_
   subst e8 e8'
   have a1:=hi2' _ s8 _ H8 _ I8 (step σ5 z H8 hσ y7)
   rw[hXp,hXw,hXA,hXx] at a1
   refine thn a1 fun v2 s9 h9=>thn h9 fun itv2 s10 h10=>?_
   obtain⟨it2,fp2,tn2,J2,H10,e10,I10,T2,st10,f10,V,⟨m2,v0⟩,turn2⟩:=h10
   subst e10
   rw[hXp,hXw,hXK] at T2
   have stat2:∀{H':Hp},(∀b∈fp2,H' b=none)->∀b∈fp2,mx X' ([]++jF fp s7.heap) H' b:=fun hn b hb=>⟨hn b hb,(f10 b hb).2⟩
   have inner:codeAny (model X.prog X.w) X.A (.compLoop (.ListComp elt [⟨tg,iter,[],0⟩,⟨tg2,iter2,[],0⟩] scope pos) 1 (.ref it2) (.ref acc) X'.env) (fun r s'=>match r with
     | .ok _=>∃m',m'<n/\∃i ys σ' H',Inv X' [] σ' H' s'/\iX 2 ix σ σ'/\tn i s'.heap/\(∀b∈fp,H' b=none)/\W i m' ys H'
     | .error _=>False) s10:=by
    refine AY (fun m s'=>∃j zs uo H',Inv X' ([]++jF fp s7.heap) ((σ5.set 0 (some z)).set 1 uo) H' s'/\tn2 j s'.heap/\(∀b∈fp2,H' b=none)/\V j m zs H') (fun m s11 h11=>?_) m2 ⟨0,ys,((σ5.set 0 (some z))[1]?).join,H10,?_,st10,fun b hb=>(f10 b hb).1,v0⟩
    ·obtain⟨j,zs,uo,H11,I11,st11,fr11,v11⟩:=h11
     rcases turn2 j m zs H11 v11 with⟨stop2,q2⟩ | ⟨go2,step2⟩
     ·have d:=T2.done X' hXp hXw hXK hXc j _ s11 _ H11 (fun _ _=>False) I11 (stat2 fr11) st11 stop2
      rw[hXA] at d
      refine thn d fun r s12 ⟨hr,I12⟩=>?_
      subst hr
      exact again I12 (IsC (IsC hσ (by decide)) (by decide)) q2
     ·have d:=T2.item X' hXp hXw hXK hXc j _ s11 _ H11 (fun _ _=>False) I11 (stat2 fr11) st11 go2
      rw[hXA] at d
      refine thn d fun r s12 ⟨u2,hr,h12⟩=>?_
      subst hr
      refine thn h12 fun _ s13 ⟨z2,H13,I13,r13,y13,st13,fr13⟩=>?_
      have I13':=I13.pinned (stat2 fr13) (T2.obj _ _ st13)
      have b0:=hg2' _ s13 _ H13 z2 u2 (fun σ2 Hn=>σ2=((σ5.set 0 (some z)).set 1 uo).set 1 (some z2)/\Hn=H13) I13' r13 ⟨rfl,rfl⟩
      rw[hXp,hXw,hXA,hXx] at b0
      refine thn b0 fun _ s14 ⟨σ14,H14,I14,e14,e14'⟩=>?_
      subst e14 e14'
      rw[List.set_set] at I14
      have b1:=he' _ s14 _ H14 _ I14 (step2 z2 H14 y13)
      rw[hXp,hXw,hXA,hXx] at b1
      refine thn b1 fun yv s15 ⟨y,H15,I15,r15,ks,q1,q2,q3⟩=>?_
      have b2:=lZ (X:=X') _ s15 _ H15 (.ref acc) [y] (.ref acc) [yv] (fun _ Hq=>∃m',m'<m/\V (j+1) m' (ks++[y]) Hq) I15 rfl (.cons r15 .nil) ⟨acc,ks,y,rfl,rfl,q1,q2,q3⟩
      rw[hXp,hXw,hXA,hXx] at b2
      refine thn b2 fun _ s16 ⟨_,H16,I16,_,m',hm',w16⟩=>?_
      refine⟨m',hm',j+1,ks++[y],some z2,H16,I16.gT,T2.keep _ _ _ st13 fun b hb o e=>(I16.pin (b,o) (List.mem_append_right _ (List.mem_append_right _ (cR hb e)))).1,fun b hb=>?_,w16⟩
      obtain⟨o,e,_⟩:=T2.obj _ _ st13 b hb
      exact(I16.pin (b,o) (List.mem_append_right _ (List.mem_append_right _ (cR hb e)))).2.1
    ·have:(σ5.set 0 (some z)).set 1 ((σ5.set 0 (some z))[1]?).join=σ5.set 0 (some z):=by
      obtain⟨ts,hl,e⟩:=hσ
      match ts,hl with
      | [p,q],_=>rw[e];rfl
     rw[this];exact I10
   refine B4 inner ?_
   exact T2.self _ 0 _ _ _ st10 inner
 refine codeAny_compStart_list (loop _) ?_
 exact T.self _ 0 _ _ _ (T.keep _ _ _ st3' fun b _ o q=>keep4 b o q) (loop _)
section
variable {X:Cx} {elt iter tg iter2 tg2:Expr} {scope osc:Scope} {pos:Pos} {wi wi2:TI} {te:TE}
theorem vC {y:Str} {py spos:Pos} {i:Nat} (ix:List Nat) (tn' N':List Str) (h2n:tn'.length=2)
  (hxe:X.xe=fun _ _=>False) (hc:X.calm=true) (ho:X.env.scope=osc) (hN:N'=tn'++ix.map fun i=>(X.N[i]?).getD ("" : Str)) (hnd:N'.Nodup)
  (hall:(∀y∈scope.names,y.2=.free->osc.names.lookup y.1=some .cell)/\(∀y∈scope.names,y.2≠.cell)/\scope.kind=.function/\(∀y∈scope.names,y.2=.local->scope.names.lookup y.1=some .local)/\(∀y∈N'.drop tn'.length,scope.names.lookup y=some .free))
  (hi:PI X tg iter wi) (hg:∀cl C aK aN fp,PG (aY X scope cl C aK aN fp N') tg (dE 0)) (hi2:∀cl C aK aN fp,PI (aY X scope cl C aK aN fp N') tg2 iter2 wi2) (hg2:∀cl C aK aN fp,PG (aY X scope cl C aK aN fp N') tg2 (dE 1))
  (he:∀cl C aK aN fp,PE (aY X scope cl C aK aN fp N') elt te)
  (hNN:X.N.Nodup) (hy:X.N[i]?=some y) (hl:X.env.scope.names.lookup y=some .local)
  (hsw:swapsWith (.ListComp elt [⟨tg,iter,[],0⟩,⟨tg2,iter2,[],0⟩] scope pos) (some (.Name y py)) spos.line X.env=pure true:=by rfl)
  (hs:∀x,foldedSetIterable iter X.env x=pure x:=by intro _;rfl) (hs2:∀env x,foldedSetIterable iter2 env x=pure x:=by intro _ _;rfl) :
  PS X (.Assign [.Name y py] (.ListComp elt [⟨tg,iter,[],0⟩,⟨tg2,iter2,[],0⟩] scope pos) spos) (DA (wk wi ix wi2 te) (dE i)):=by
 intro pins s σ H D I h
 rw[exec_Assign_Name_used _ _ _ _ hsw]
 refine wpAny_bind (wpAny_standAt ?_)
 show wpAny _ _ (evalThenUse (.ListComp elt [⟨tg,iter,[],0⟩,⟨tg2,iter2,[],0⟩] scope pos) X.env (assign (.Name y py) X.env) >>= fun _=>pure Flow.next) _ _ _
 refine wpAny_bind ?_
 show wpAny _ _ (comprehension (.ListComp elt [⟨tg,iter,[],0⟩,⟨tg2,iter2,[],0⟩] scope pos) scope X.env (firstIterPos [⟨tg,iter,[],0⟩,⟨tg2,iter2,[],0⟩] pos) (newList []) false (eval iter X.env) (some (assign (.Name y py) X.env)) >>= fun _=>pure ()) _ _ _
 refine wpAny_bind (zj (use:=some (assign (.Name y py) X.env)) ix N' hxe hc ho hN hnd hall hi hg hi2 hg2 he hs hs2 h2n I h fun acc C H5 s5 o I5 cC hC pC hm q=>?_)
 obtain⟨m,hm⟩:=hm
 refine wpAny_assign_Name (fY (i:=i) (v:=.ref acc) I5 hNN hy (.inl hl) rfl (fun s6 I6=>?_) (.inr hl))
 refine⟨m,hm _ (I6.pin (C,o) (List.mem_append_right _ (List.mem_append_right _ (List.mem_singleton.mpr rfl)))).1,fun h' hs'=>?_⟩
 exact wpAny_pure (wpAny_pure ⟨_,H5,I6.F2 cC hC pC hs',q⟩)
end
end L2
namespace L2.FE
open PySem PySem.Spec PyProof.Rows
noncomputable def kG (ix:List Nat) (env:En) (a b:Option D):En:=a::b::ix.map fun i=>(env[i]?).join
noncomputable def FU (n0:Nat) (y:D) (h:Hh):R Unit:=match aM h n0 with
 | some ds=>if ds.length<1000000 then .ok () (h.set n0 (.lst (ds++[y]))) else .bad
 | none=>.bad
noncomputable def B8 (n0:Nat) (rd:Rdr) (te:ME) (ff:D->En):Nat->Nat->Hh->R Unit
 | k,j,h=>match rd h j with
  | none=>.bad
  | some none=>.ok () h
  | some (some e)=>match k with
   | 0=>.bad
   | k+1=>(te (ff e) h).bind fun y h2=>(FU n0 y h2).bind fun _ h3=>B8 n0 rd te ff k (j+1) h3
noncomputable def zQ (n0:Nat) (rd:Rdr) (mi2:MI) (te:ME) (ff:Option D->Option D->En):Nat->Nat->Hh->R Unit
 | k,i,h=>match rd h i with
  | none=>.bad
  | some none=>.ok () h
  | some (some d)=>match k with
   | 0=>.bad
   | k+1=>(mi2 (ff (some d) none) h).bind fun sr h1=>(B8 n0 sr.rdr te (fun e=>ff (some d) (some e)) (sr.fuel h1) 0 h1).bind fun _ h2=>zQ n0 rd mi2 te ff k (i+1) h2
noncomputable def sU (mi:MI) (ix:List Nat) (mi2:MI) (te:ME):ME:=fun env h=>(mi env h).bind fun sr h1=>(zQ h1.length sr.rdr mi2 te (kG ix env) (sr.fuel h1) 0 (h1++[.lst []])).bind fun _ h2=>.ok (.ref h1.length) h2
section
variable {K:PySem.W.Frag} {g:GG}
theorem uX {α:List Addr} {H:Hp} {env:En} {σ:St} {ix:List Nat} {a b:Option D} {p q:Option V} (s:je K g α H env σ) (ra:∀d,a=some d->∃v,p=some v/\aP K g α H d v) (rb:∀d,b=some d->∃v,q=some v/\aP K g α H d v):je K g α H (kG ix env a b) (p::q::ix.map fun i=>(σ[i]?).join):=by
 refine⟨by simp[kG],fun i e h=>?_⟩
 match i with
 | 0=>
  have:a=some e:=by simpa [kG] using h
  obtain⟨v,rfl,r⟩:=ra e this
  exact⟨v,rfl,r⟩
 | 1=>
  have:b=some e:=by simpa [kG] using h
  obtain⟨v,rfl,r⟩:=rb e this
  exact⟨v,rfl,r⟩
 | i+2=>
  have h':(ix.map fun i=>(env[i]?).join)[i]?=some (some e):=by simpa [kG] using h
  rw[List.getElem?_map] at h'
  cases ei:ix[i]? with
  | none=>rw[ei] at h';cases h'
  | some j=>
   rw[ei] at h'
   have h2:(env[j]?).join=some e:=by simpa using h'
   cases ej:env[j]? with
   | none=>rw[ej] at h2;cases h2
   | some oe=>
    rw[ej] at h2
    have h3:oe=some e:=by simpa using h2
    subst h3
    obtain⟨u,eu,ru⟩:=s.vars j e ej
    refine⟨u,?_,ru⟩
    simp only[List.getElem?_cons_succ,List.getElem?_map,ei,Option.map_some,eu]
    rfl
theorem tH {α α':List Addr} {n:Nat} {p:Addr} {H H':Hp} (e:Ext K α H α' H') (h:α[n]?=some p):α'[n]?=some p:=by
 obtain⟨l,rfl⟩:=e.toEx0.pre
 rw[List.getElem?_append_left]
 ·exact h
 ·by_cases hl:n<α.length
  ·exact hl
  ·rw[List.getElem?_eq_none (by omega)] at h;cases h
theorem zw {mi mi2:MI} {te:ME} {ix:List Nat} {σ:St} {H:Hp} {Q:VK} (t:tM K g E00 (sU mi ix mi2 te) σ H Q):wk (tMI K g E00 mi) ix (tMI K g E00 mi2) (tM K g E00 te) σ H Q:=by
 obtain⟨α,env,h,s,w⟩:=t
 unfold sU at w
 refine⟨α,env,h,s,w.bind.mono fun sr h1 _ w1 J H1 α1 e1 hr1 rd=>fun acc hacc=>?_⟩
 have s1:=s.ext e1 hr1
 have xp:Ext K α1 H1 (α1++[acc]) (upd H1 acc (.lst [])):=Ext.push hacc
 have hrp:aZ K g (α1++[acc]) (upd H1 acc (.lst [])) (h1++[.lst []]):=hr1.push hacc ⟨[],a9,.nil⟩
 have p0:(α1++[acc])[h1.length]?=some acc:=by rw[<- hr1.len];simp
 refine⟨fun i m ys H=>∃α h,Ext K α1 H1 α H/\α[h1.length]?=some acc/\aZ K g α H h ∧
  WQ K g E00 α1 H1 ((zQ h1.length sr.rdr mi2 te (kG ix env) m i h).bind fun _ h2=>.ok (.ref h1.length) h2) (aX K g α1 H1 Q),
  ⟨sr.fuel h1,_,_,xp,p0,hrp,w1.post e1⟩,?_⟩
 rintro i m ys H2 ⟨α2,h2,x2,p2,hr2,w2⟩
 have q:=rd α2 H2 h2 x2 hr2 i
 unfold zQ at w2
 cases e:sr.rdr h2 i with
 | none=>rw[e] at w2;exact w2.elim
 | some od=>
  rw[e] at w2 q
  cases od with
  | none=>exact .inl ⟨q,(show aX K g α1 H1 Q (.ref h1.length) h2 from w2) _ _ _ x2 hr2 (.ref p2)⟩
  | some d=>
   cases m with
   | zero=>exact w2.elim
   | succ m=>
    rw[bw] at w2
    have w3:=WQ.bind (show WQ K g E00 α1 H1 ((mi2 (kG ix env (some d) none) h2).bind _) _ from w2)
    refine .inr ⟨q.1,fun σ0 x H3 hcap y=>?_⟩
    obtain⟨ts,hl,hσ0⟩:=hcap
    match ts,hl with
    | [v0,q0],_=>
    subst hσ0
    obtain⟨α3,x3,hr3,rx⟩:=q.2 x H3 y
    have s3:dk K g α3 H3 (kG ix env (some d) none) (some x::q0::ix.map fun i=>(σ[i]?).join) h2:=⟨hr3,uX (s1.vs.ext (x2.trans x3)) (fun d' hd=>by cases hd;exact⟨x,rfl,rx⟩) (fun d' hd=>by cases hd)⟩
    refine⟨α3,_,h2,s3,((w3.ext x2).ext x3).mono fun sr2 h4 _ w4 J2 H4 α4 x4 hr4 rd2=>?_⟩
    have x14:=x2.trans (x3.trans x4)
    have p4:=tH (x3.trans x4) p2
    refine⟨fun j m2 zs H=>∃α h,Ext K α4 H4 α H/\aZ K g α H h ∧
     WQ K g E00 α1 H1 (((B8 h1.length sr2.rdr te (fun e=>kG ix env (some d) (some e)) m2 j h).bind fun _ h2=>zQ h1.length sr.rdr mi2 te (kG ix env) m (i+1) h2).bind fun _ h2=>.ok (.ref h1.length) h2) (aX K g α1 H1 Q),
     ⟨sr2.fuel h4,α4,h4,Ext.refl,hr4,w4⟩,?_⟩
    rintro j m2 zs H5 ⟨α5,h5,x5,hr5,w5⟩
    have q2:=rd2 α5 H5 h5 x5 hr5 j
    have p5:=tH x5 p4
    unfold B8 at w5
    cases e2:sr2.rdr h5 j with
    | none=>rw[e2] at w5;exact w5.elim
    | some od2=>
     rw[e2] at w5 q2
     cases od2 with
     | none=>exact .inl ⟨q2,m,Nat.lt_succ_self _,α5,h5,x14.trans x5,p5,hr5,w5⟩
     | some d2=>
      cases m2 with
      | zero=>exact w5.elim
      | succ m2=>
       have w6:WQ K g E00 α1 H1 ((te (kG ix env (some d) (some d2)) h5).bind fun y h2=>(((FU h1.length y h2).bind fun _ h3=>B8 h1.length sr2.rdr te (fun e=>kG ix env (some d) (some e)) m2 (j+1) h3).bind fun _ h2=>zQ h1.length sr.rdr mi2 te (kG ix env) m (i+1) h2).bind fun _ h2=>.ok (.ref h1.length) h2) (aX K g α1 H1 Q):=by
        have:=w5
        simp only[bw] at this ⊢
        exact this
       refine .inr ⟨q2.1,fun yv H6 yy=>?_⟩
       obtain⟨α6,x6,hr6,ry⟩:=q2.2 yv H6 yy
       have s6:dk K g α6 H6 (kG ix env (some d) (some d2)) (some x::some yv::ix.map fun i=>(σ[i]?).join) h5:=⟨hr6,uX (s1.vs.ext (x14.trans (x5.trans x6))) (fun d' hd=>by cases hd;exact⟨x,rfl,rx.ext (x4.trans (x5.trans x6))⟩) (fun d' hd=>by cases hd;exact⟨yv,rfl,ry⟩)⟩
       refine tM.use s6 ((WQ.bind w6).ext (x14.trans (x5.trans x6))) fun y h7 v7 H7 α7 x7 s7 r7 w7=>?_
       have p7:=tH (x6.trans x7) p5
       unfold FU at w7
       cases el:aM h7 h1.length with
       | none=>rw[el] at w7;exact w7.elim
       | some ds=>
        rw[el] at w7
        dsimp only at w7
        by_cases hlen:ds.length<1000000
        ·rw[if_pos hlen] at w7
         obtain⟨vs,hv,rs⟩:=s7.heap.lst el p7
         have x:=Ext.write (K:=K) (o:=.lst (vs++[v7])) s7.heap p7
         exact⟨vs,hv,by rw[<- rs.length,sizeLine_eq];omega,m2,Nat.lt_succ_self _,α7,_,(x5.trans (x6.trans x7)).trans x,s7.heap.write (u':=.lst (ds++[y])) p7 ⟨_,a9,(rs.append (.cons r7 .nil)).ext x⟩,w7⟩
        ·rw[if_neg hlen] at w7;exact w7.elim
end
section
variable {X:Cx} {g:GG}
theorem w8 {elt iter iter2:Expr} {x y z:Str} {px py pz:Pos} {scope osc:Scope} {pos spos:Pos} {mi mi2:MI} {te:ME} {i:Nat} (ix:List Nat) (N':List Str)
  (hxe:X.xe=fun _ _=>False) (hc:X.calm=true) (ho:X.env.scope=osc) (hN:N'=[x,y]++ix.map fun i=>(X.N[i]?).getD ("" : Str)) (hnd:N'.Nodup)
  (hall:(∀y∈scope.names,y.2=.free->osc.names.lookup y.1=some .cell)/\(∀y∈scope.names,y.2≠.cell)/\scope.kind=.function/\(∀y∈scope.names,y.2=.local->scope.names.lookup y.1=some .local)/\(∀z∈N'.drop [x,y].length,scope.names.lookup z=some .free))
  (hi:PI X (.Name x px) iter (tMI X.K g E00 mi))
  (hx:∀cl C aK aN fp,Loc (aY X scope cl C aK aN fp N').env.scope x/\(aY X scope cl C aK aN fp N').env.scope.names.lookup x=some .local) (hy:∀cl C aK aN fp,Loc (aY X scope cl C aK aN fp N').env.scope y/\(aY X scope cl C aK aN fp N').env.scope.names.lookup y=some .local)
  (hi2:∀cl C aK aN fp,PI (aY X scope cl C aK aN fp N') (.Name y py) iter2 (tMI X.K g E00 mi2))
  (he:∀cl C aK aN fp,PE (aY X scope cl C aK aN fp N') elt (tM X.K g E00 te))
  (hNN:X.N.Nodup) (hz:X.N[i]?=some z) (hl:X.env.scope.names.lookup z=some .local:=by rfl)
  (hsw:swapsWith (.ListComp elt [⟨.Name x px,iter,[],0⟩,⟨.Name y py,iter2,[],0⟩] scope pos) (some (.Name z pz)) spos.line X.env=pure true:=by rfl)
  (hs:∀x,foldedSetIterable iter X.env x=pure x:=by intro _;rfl) (hs2:∀env x,foldedSetIterable iter2 env x=pure x:=by intro _ _;rfl) :
  PS X (.Assign [.Name z pz] (.ListComp elt [⟨.Name x px,iter,[],0⟩,⟨.Name y py,iter2,[],0⟩] scope pos) spos) (tMS X.K g E00 (bh i (sU mi ix mi2 te))):=
 PS.imp (vC ix [x,y] N' rfl hxe hc ho hN hnd hall hi (fun cl C aK aN fp=>bb (X:=aY X scope cl C aK aN fp N') hnd (show N'[0]?=some x by rw[hN];rfl) (hx cl C aK aN fp).1 (.inr (hx cl C aK aN fp).2)) hi2 (fun cl C aK aN fp=>bb (X:=aY X scope cl C aK aN fp N') hnd (show N'[1]?=some y by rw[hN];rfl) (hy cl C aK aN fp).1 (.inr (hy cl C aK aN fp).2)) he hNN hz hl hsw hs hs2) fun E σ H ⟨α,env,h,s,w⟩=>zw (Q:=fun v H1=>E.nx (σ.set i (some v)) H1) (tM.use s w.bind fun d1 h1 v1 H1 α1 e1 s1 r1 w1=>(show cq X.K g α H E (.nx (env.set i (some d1))) h1 from w1) H1 α1 e1 s1.heap _ (s1.vs.set r1))
end
variable {X:Cx} {g:GG}
theorem xZ {K:PySem.W.Frag} {ε:EE} {mi:MI} {ix:List Nat} {tt:TT} {te:TE} {σ:St} {H:Hp} {Q:VK} (t:FD (tMI K g ε mi) ix tt te σ H Q):oF (tMI K g ε mi) 1 ix (dE 0) tt te σ H Q:=by
 obtain⟨α,env,h,s,w⟩:=t
 refine⟨α,env,h,s,w.mono fun sr h1 _ z J H' α' e hr rd acc ha=>?_⟩
 obtain⟨W,w0,st⟩:=z J H' α' e hr rd acc ha
 refine⟨W,w0,fun i m ys H1 hw=>(st i m ys H1 hw).imp id fun⟨a,b⟩=>⟨a,fun σ0 x H2 hc hy=>?_⟩⟩
 obtain⟨ts,tl,rfl⟩:=hc
 match ts,tl with
 | [t0],_=>exact⟨⟨[some x],rfl,rfl⟩,b x H2 hy⟩
theorem kQ {nl:NL} [jJ nl] {elt iter:Expr} {x:Str} {px:Pos} {ifs:List Expr} {scope osc:Scope} {pos:Pos} {mi:MI} {tt:MT} {te:ME} (ix:List Nat) (N':List Str)
  (hxe:X.xe=fun _ _=>False) (hc:X.calm=true) (ho:X.env.scope=osc) (hN:N'=x::ix.map fun i=>(X.N[i]?).getD ("" : Str)) (hnd:N'.Nodup)
  (hall:(∀y∈scope.names,y.2=.free->osc.names.lookup y.1=some .cell)/\(∀y∈scope.names,y.2≠.cell)/\scope.kind=.function/\(∀y∈scope.names,y.2=.local->scope.names.lookup y.1=some .local)/\scope.names.lookup x=some .local/\(∀y∈N'.tail,scope.names.lookup y=some .free))
  (hi:PI X (.Name x px) iter (tMI X.K g E00 mi))
  (ht:∀cl C aK aN fp,PTs (aY X scope cl C aK aN fp N') ifs (tMT X.K g E00 tt))
  (he:∀cl C aK aN fp,PE (aY X scope cl C aK aN fp N') elt (tM X.K g E00 te))
  (hs:∀x,foldedSetIterable iter X.env x=pure x:=by intro _;rfl) :
  PE X (.ListComp elt [⟨.Name x px,iter,ifs,0⟩] scope pos) (tM X.K g E00 (dX nl mi ix tt te)):=by
 refine PE.imp (PE.frz (uw (tgr:=dE 0) ix [x] N' hxe hc ho hN hnd ⟨hall.1,hall.2.1,hall.2.2.1,hall.2.2.2.1,fun y hy=>hall.2.2.2.2.2 y (by rw[hN] at hy ⊢;exact hy)⟩ hi (fun cl C aK aN fp=>bb (X:=aY X scope cl C aK aN fp N') hnd (show N'[0]?=some x by rw[hN];rfl) (.inl (lookup_relabel_local hall.2.2.2.2.1)) (.inr (lookup_relabel_local hall.2.2.2.2.1))) ht he hs)) fun σ H Q t=>?_
 exact xZ (vd (fun _ _ z=>z) t)
theorem wH {nl:NL} [jJ nl] {elt iter:Expr} {x z:Str} {px pz:Pos} {ifs:List Expr} {scope osc:Scope} {pos spos:Pos} {mi:MI} {tt:MT} {te:ME} {i:Nat} (ix:List Nat) (N':List Str)
  (hxe:X.xe=fun _ _=>False) (hc:X.calm=true) (ho:X.env.scope=osc) (hN:N'=x::ix.map fun i=>(X.N[i]?).getD ("" : Str)) (hnd:N'.Nodup)
  (hall:(∀y∈scope.names,y.2=.free->osc.names.lookup y.1=some .cell)/\(∀y∈scope.names,y.2≠.cell)/\scope.kind=.function/\(∀y∈scope.names,y.2=.local->scope.names.lookup y.1=some .local)/\scope.names.lookup x=some .local/\(∀y∈N'.tail,scope.names.lookup y=some .free))
  (hi:PI X (.Name x px) iter (tMI X.K g E00 mi))
  (ht:∀cl C aK aN fp,PTs (aY X scope cl C aK aN fp N') ifs (tMT X.K g E00 tt))
  (he:∀cl C aK aN fp,PE (aY X scope cl C aK aN fp N') elt (tM X.K g E00 te))
  (hNN:X.N.Nodup) (hz:X.N[i]?=some z) (hl:X.env.scope.names.lookup z=some .local:=by rfl)
  (hsw:swapsWith (.ListComp elt [⟨.Name x px,iter,ifs,0⟩] scope pos) (some (.Name z pz)) spos.line X.env=pure true:=by rfl)
  (hs:∀x,foldedSetIterable iter X.env x=pure x:=by intro _;rfl) :
  PS X (.Assign [.Name z pz] (.ListComp elt [⟨.Name x px,iter,ifs,0⟩] scope pos) spos) (tMS X.K g E00 (bh i (dX nl mi ix tt te))):=by
 refine PS.imp (PS.frz (vf (tgr:=dE 0) ix [x] N' hxe hc ho hN hnd ⟨hall.1,hall.2.1,hall.2.2.1,hall.2.2.2.1,fun y hy=>hall.2.2.2.2.2 y (by rw[hN] at hy ⊢;exact hy)⟩ hi (fun cl C aK aN fp=>bb (X:=aY X scope cl C aK aN fp N') hnd (show N'[0]?=some x by rw[hN];rfl) (.inl (lookup_relabel_local hall.2.2.2.2.1)) (.inr (lookup_relabel_local hall.2.2.2.2.1))) ht he hNN hz hl hsw hs)) fun E σ H ⟨α,env,h,s,w⟩=>xZ (vd (nl:=nl) (Q:=fun v H1=>E.nx (σ.set i (some v)) H1) (fun v H1 z=>E4 z) (tM.use s w.bind fun d1 h1 v1 H1 α1 e1 s1 r1 w1=>(show cq X.K g α H E (.nx (env.set i (some d1))) h1 from w1) H1 α1 e1 s1.heap _ (s1.vs.set r1)))
end L2.FE
namespace L2.SM
open PySem PySem.W PyProof.Rows
noncomputable def tU:Bool->Keyed->Array Keyed->Nat->Nat->Nat->StateT SortSt Sem (Option Nat):=sortPriv% PySem.Builtin.gallop
noncomputable def Ci:Array Keyed->Array Keyed->StateT SortSt Sem (Array Keyed):=sortPriv% PySem.Builtin.mergeLo
noncomputable def AV:Array Keyed->Array Keyed->StateT SortSt Sem (Array Keyed):=sortPriv% PySem.Builtin.mergeHi
section
variable {prog:Program} {w:World} {A:Around} {E:Value->Shared->Prop} {s:Shared}
noncomputable def Gv (prog:Program) (w:World) (A:Around) (E:Value->Shared->Prop) (s:Shared) {α:Type} (m:StateT SortSt Sem α) (st:SortSt) (Q:α->SortSt->Prop):Prop:=
 kasC (model prog w) A E m (fun a st' s'=>s'=s/\Q a st') st s
theorem Gv.pure {α:Type} {a:α} {Q:α->SortSt->Prop} {st:SortSt} (h:Q a st):Gv prog w A E s (Pure.pure a:StateT SortSt Sem α) st Q:=kasC_pure ⟨rfl,h⟩
theorem Gv.bind {α β:Type} {m:StateT SortSt Sem α} {f:α->StateT SortSt Sem β} {Q:β->SortSt->Prop} {st:SortSt} (h:Gv prog w A E s m st fun a st'=>Gv prog w A E s (f a) st' Q):Gv prog w A E s (m >>= f) st Q:=by
 refine kasC_bind (wpAny_mono h (fun r s' h'=>?_) fun _ _ e=>e)
 obtain⟨e,h'⟩:=h'
 subst e
 exact h'
theorem Gv.mono {α:Type} {m:StateT SortSt Sem α} {Q Q':α->SortSt->Prop} {st:SortSt} (h:Gv prog w A E s m st Q) (q:∀a st',Q a st'->Q' a st'):Gv prog w A E s m st Q':=wpAny_mono h (fun r s' h'=>⟨h'.1,q _ _ h'.2⟩) fun _ _ e=>e
theorem Gv.get {Q:SortSt->SortSt->Prop} {st:SortSt} (h:Q st st):Gv prog w A E s (MonadState.get:StateT SortSt Sem SortSt) st Q:=kasC_get ⟨rfl,h⟩
theorem Gv.set {Q:PUnit->SortSt->Prop} {st st':SortSt} (h:Q ⟨⟩ st'):Gv prog w A E s (MonadState.set st':StateT SortSt Sem PUnit) st Q:=by
 unfold Gv kasC
 exact wpAny_pure ⟨rfl,h⟩
theorem Gv.modify {f:SortSt->SortSt} {Q:PUnit->SortSt->Prop} {st:SortSt} (h:Q ⟨⟩ (f st)):Gv prog w A E s (_root_.modify f:StateT SortSt Sem PUnit) st Q:=kasC_modify ⟨rfl,h⟩
theorem Gv.lift {α:Type} {m:Sem α} {Q:α->SortSt->Prop} {st:SortSt} (h:wpAny (model prog w) A m (fun a s'=>s'=s/\Q a st) E s):Gv prog w A E s (liftM m:StateT SortSt Sem α) st Q:=kasC_lift h
theorem Gv.rule {id:String} {Q:Unit->SortSt->Prop} {st:SortSt} (h:Q () st):Gv prog w A E s (liftM (PySem.rule id):StateT SortSt Sem Unit) st Q:=Gv.lift (wpAny_rule ⟨rfl,h⟩)
theorem yi {β:Type} {f:Nat->β->StateT SortSt Sem (ForInStep β)} (I:Nat->β->SortSt->Prop) (D:β->SortSt->Prop)
  (step:∀x n b st,I (n+1) b st->Gv prog w A E s (f x b) st fun r st'=>match r with | .done b'=>D b' st' | .yield b'=>I n b' st')
  (fin:∀b st,I 0 b st->D b st):∀(l:List Nat) (b:β) (st:SortSt),I l.length b st->Gv prog w A E s (forIn l b f) st D
 | [],b,st,h=>kasC_nil ⟨rfl,fin b st h⟩
 | x::l,b,st,h=>by
  have ih:=yi I D step fin l
  refine kasC_cons (wpAny_mono (step x l.length b st h) (fun r s' h'=>?_) fun _ _ e=>e)
  obtain⟨e,h'⟩:=h'
  subst e
  revert h'
  cases r.1 with
  | done b'=>intro h';exact⟨rfl,h'⟩
  | yield b'=>intro h';exact ih b' r.2 h'
theorem Gv.range {β:Type} {a b:Nat} {c:β} {f:Nat->β->StateT SortSt Sem (ForInStep β)} {Q:β->SortSt->Prop} {st:SortSt} (I:Nat->β->SortSt->Prop) (h0:I (b - a) c st)
  (step:∀x n b st,I (n+1) b st->Gv prog w A E s (f x b) st fun r st'=>match r with | .done b'=>Q b' st' | .yield b'=>I n b' st')
  (fin:∀b st,I 0 b st->Q b st):Gv prog w A E s (forIn [a:b] c f) st Q:=
 kasC_range (yi I Q step fin _ _ _ (by rw[List.length_range'];exact h0))
theorem Gv.elem {arr:Array Keyed} {i:Nat} {x:Keyed} {Q:Keyed->SortSt->Prop} {st:SortSt} (e:arr[i]?=some x) (h:Q x st):Gv prog w A E s (elem' arr i) st Q:=by
 rw[elem'_eq,e];exact Gv.pure h
theorem Gv.lt {x y:Keyed} {c:Bool} {Q:Option Bool->SortSt->Prop} {st:SortSt} (hc:∀C:Bool->Shared->Prop,C c s->wpAny (model prog w) A (keyLt' (kindOf st) x.1 y.1) C (fun _ _=>False) s) (h:Q (some c) st):Gv prog w A E s (lt' x y) st Q:=by
 rw[lt'_eq]
 refine Gv.bind (Gv.get ?_)
 refine Gv.bind (Gv.lift (wpAny_attempt (wpAny_mono (hc (fun c' s'=>c'=c/\s'=s) ⟨rfl,rfl⟩) (fun c' s' hc'=>?_) fun _ _ hF=>hF.elim)))
 obtain⟨rfl,rfl⟩:=hc'
 exact⟨rfl,Gv.pure h⟩
end
section
variable {prog:Program} {w:World} {A:Around} {E:Value->Shared->Prop} {s:Shared} {κ:SortKind} {P:Keyed->Prop} {kk:Keyed->Int}
noncomputable def Cmp (prog:Program) (w:World) (A:Around) (s:Shared) (κ:SortKind) (P:Keyed->Prop) (kk:Keyed->Int):Prop:=∀x y,P x->P y->∀C:Bool->Shared->Prop,C (decide (kk x<kk y)) s->wpAny (model prog w) A (keyLt' κ x.1 y.1) C (fun _ _=>False) s
theorem Gv.ltC {x y:Keyed} {Q:Option Bool->SortSt->Prop} {st:SortSt} (c:Cmp prog w A s κ P kk) (hx:P x) (hy:P y) (hk:kindOf st=κ) (h:Q (some (decide (kk x<kk y))) st):Gv prog w A E s (lt' x y) st Q:=by
 subst hk
 exact Gv.lt (c x y hx hy) h
noncomputable def kAt (kk:Keyed->Int) (a:Array Keyed) (i:Nat):Int:=((a[i]?).map kk).getD 0
theorem AA {a:Array Keyed} {i:Nat} {x:Keyed} (e:a[i]?=some x):kAt kk a i=kk x:=by unfold kAt;rw[e];rfl
noncomputable def bey (kk:Keyed->Int) (left:Bool) (key:Keyed) (arr:Array Keyed) (base i:Nat):Bool:=if left then decide (kAt kk arr (base+i)<kk key) else !decide (kk key<kAt kk arr (base+i))
theorem HM {left:Bool} {key:Keyed} {arr:Array Keyed} {base i:Nat} {st:SortSt} {Q:Option Bool->SortSt->Prop} (c:Cmp prog w A s κ P kk) (ha:∀x∈arr,P x) (hy:P key) (hk:kindOf st=κ) (hi:base+i<arr.size)
  (h:Q (some (bey kk left key arr base i)) st):Gv prog w A E s (do
   let x ← elem' arr (base+i)
   if left=true then lt' x key else do
    let r ← lt' key x
    pure (r.map (!·))) st Q:=by
 have e:arr[base+i]?=some arr[base+i]:=by simp[hi]
 have hp:P arr[base+i]:=ha _ (Array.getElem_mem hi)
 have hv:=AA (kk:=kk) e
 unfold bey at h
 rw[hv] at h
 refine Gv.bind (Gv.elem e ?_)
 cases left with
 | true=>exact Gv.ltC c hp hy hk h
 | false=>exact Gv.bind (Gv.ltC c hy hp hk (Gv.pure h))
theorem qV {left:Bool} {key:Keyed} {arr:Array Keyed} {base n hint:Nat} {st:SortSt} {Q:Option Nat->SortSt->Prop} (c:Cmp prog w A s κ P kk) (ha:∀x∈arr,P x) (hy:P key) (hk:kindOf st=κ) (hn:base+n<=arr.size) (hh:hint<n)
  (mo:∀i j,i<=j->j<n->bey kk left key arr base j=true->bey kk left key arr base i=true)
  (h:∀k,k<=n->(∀i,i<k->bey kk left key arr base i=true)->(∀i,k<=i->i<n->bey kk left key arr base i=false)->Q (some k) st):Gv prog w A E s (tU left key arr base n hint) st Q:=by
 have B:∀{i:Nat} {Q:Option Bool->SortSt->Prop},i<n->Q (some (bey kk left key arr base i)) st->Gv prog w A E s (do
   let x ← elem' arr (base+i)
   if left=true then lt' x key else do
    let r ← lt' key x
    pure (r.map (!·))) st Q:=fun{i Q} hi h=>HM c ha hy hk (by omega) h
 have mo':∀i j,i<=j->j<n->bey kk left key arr base i=false->bey kk left key arr base j=false:=fun i j hij hj e=>by
  cases z:bey kk left key arr base j with
  | false=>rfl
  | true=>rw[mo i j hij hj z] at e;cases e
 generalize bey kk left key arr base=b at *
 -- the last loop
 have L3:∀lo hi,lo<=hi->hi<=n->(∀i,i<lo->b i=true)->(∀i,hi<=i->i<n->b i=false)->∀{f:Nat->Option (Option Nat) × Nat × Nat->StateT SortSt Sem (ForInStep (Option (Option Nat) × Nat × Nat))} {R:Option (Option Nat) × Nat × Nat->SortSt->Prop},
   (∀x lo hi R,lo ≥ hi->R (.done (none,lo,hi)) st->Gv prog w A E s (f x (none,lo,hi)) st R) →
   (∀x lo hi R,lo<hi->hi<=n->R (if b (lo+(hi - lo) / 2)=true then .yield (none,lo+(hi - lo) / 2+1,hi) else .yield (none,lo,lo+(hi - lo) / 2)) st->Gv prog w A E s (f x (none,lo,hi)) st R) →
   (∀k lo,k<=n->(∀i,i<k->b i=true)->(∀i,k<=i->i<n->b i=false)->R (none,lo,k) st) →
   Gv prog w A E s (forIn [:n] (none,lo,hi) f) st R:=by
  intro lo hi h1 h2 h3 h4 f R f1 f2 hR
  refine Gv.range (fun m z st'=>st'=st/\∃lo hi,z=(none,lo,hi)/\lo<=hi/\hi<=n/\hi - lo<=m/\(∀i,i<lo->b i=true)/\(∀i,hi<=i->i<n->b i=false)) ⟨rfl,lo,hi,rfl,h1,h2,by omega,h3,h4⟩ (fun x m z st' hz=>?_) (fun z st' hz=>?_)
  ·obtain⟨rfl,lo,hi,rfl,g1,g2,g3,g4,g5⟩:=hz
   by_cases hl:lo ≥ hi
   ·refine f1 x lo hi _ hl ?_
    have:lo=hi:=by omega
    subst this
    exact hR lo lo g2 g4 g5
   ·refine f2 x lo hi _ (by omega) g2 ?_
    cases e:b (lo+(hi - lo) / 2) with
    | true=>
     rw[if_pos rfl]
     refine⟨rfl,_,_,rfl,by omega,g2,by omega,fun i hi'=>?_,g5⟩
     exact mo i _ (by omega) (by omega) e
    | false=>
     rw[if_neg (by decide)]
     refine⟨rfl,_,_,rfl,by omega,by omega,by omega,g4,fun i hi' hn'=>?_⟩
     exact mo' _ i hi' hn' e
  ·obtain⟨rfl,lo,hi,rfl,g1,g2,g3,g4,g5⟩:=hz
   have:lo=hi:=by omega
   subst this
   exact hR lo lo g2 g4 g5
 with_unfolding_all refine Gv.bind ?_
 refine B hh ?_
 dsimp only
 cases e0:b hint with
 | true=>
  rw[if_pos rfl]
  refine Gv.bind (Gv.mono (Q:=fun z st'=>st'=st/\∃la ofs,z=(none,la,ofs)/\la<ofs/\hint+la<n/\b (hint+la)=true/\(n - hint<=ofs\/(ofs<n - hint/\b (hint+ofs)=false))) (Gv.range (fun m z st'=>st'=st/\∃la ofs,z=(none,la,ofs)/\la<ofs/\n+1<=ofs+m/\hint+la<n/\b (hint+la)=true) ⟨rfl,0,1,rfl,by omega,by omega,by omega,e0⟩ (fun x m z st' hz=>?_) (fun z st' hz=>?_)) (fun z st' hz=>?_))
  ·obtain⟨rfl,la,ofs,rfl,g1,g2,g3,g4⟩:=hz
   dsimp only
   by_cases hl:ofs ≥ n - hint
   ·rw[if_pos hl]
    exact Gv.pure ⟨rfl,la,ofs,rfl,g1,g3,g4,.inl hl⟩
   ·rw[if_neg hl]
    refine Gv.bind (B (by omega) ?_)
    dsimp only
    cases e:b (hint+ofs) with
    | true=>exact Gv.pure ⟨rfl,ofs,2*ofs+1,rfl,by omega,by omega,by omega,e⟩
    | false=>exact Gv.pure ⟨rfl,la,ofs,rfl,g1,g3,g4,.inr ⟨by omega,e⟩⟩
  ·obtain⟨rfl,la,ofs,rfl,g1,g2,g3,g4⟩:=hz
   exact⟨rfl,la,ofs,rfl,g1,g3,g4,.inl (by omega)⟩
  ·obtain⟨rfl,la,ofs,rfl,g1,g3,g4,g5⟩:=hz
   dsimp only
   refine Gv.bind (L3 (hint+la+1) (hint+min ofs (n - hint)) ?_ ?_ ?_ ?_ (fun x lo hi R hl hR=>?_) (fun x lo hi R hl hn' hR=>?_) fun k lo g1 g2 g3=>Gv.pure (h k g1 g2 g3))
   ·rcases g5 with g | ⟨g,_⟩<;>omega
   ·omega
   ·intro i hi
    exact mo i _ (by omega) g3 g4
   ·intro i hi hin
    rcases g5 with g | ⟨g,e⟩
    ·omega
    ·exact mo' _ i (by omega) hin e
   ·dsimp only;rw[if_pos hl];exact Gv.pure hR
   ·dsimp only;rw[if_neg (by omega)]
    refine Gv.bind (B (by omega) ?_)
    dsimp only
    cases e:b (lo+(hi - lo) / 2) with
    | true=>rw[e,if_pos rfl] at hR;exact Gv.pure hR
    | false=>rw[e,if_neg (by decide)] at hR;exact Gv.pure hR
 | false=>
  rw[if_neg (by decide)]
  refine Gv.bind (Gv.mono (Q:=fun z st'=>st'=st/\∃la ofs,z=(none,la,ofs)/\la<ofs/\la<=hint/\b (hint - la)=false/\(hint+1<=ofs\/(ofs<hint+1/\b (hint - ofs)=true))) (Gv.range (fun m z st'=>st'=st/\∃la ofs,z=(none,la,ofs)/\la<ofs/\n+1<=ofs+m/\la<=hint/\b (hint - la)=false) ⟨rfl,0,1,rfl,by omega,by omega,by omega,e0⟩ (fun x m z st' hz=>?_) (fun z st' hz=>?_)) (fun z st' hz=>?_))
  ·obtain⟨rfl,la,ofs,rfl,g1,g2,g3,g4⟩:=hz
   dsimp only
   by_cases hl:ofs ≥ hint+1
   ·rw[if_pos hl]
    exact Gv.pure ⟨rfl,la,ofs,rfl,g1,g3,g4,.inl hl⟩
   ·rw[if_neg hl]
    refine Gv.bind (B (by omega) ?_)
    dsimp only
    cases e:b (hint - ofs) with
    | true=>exact Gv.pure ⟨rfl,la,ofs,rfl,g1,g3,g4,.inr ⟨by omega,e⟩⟩
    | false=>exact Gv.pure ⟨rfl,ofs,2*ofs+1,rfl,by omega,by omega,by omega,e⟩
  ·obtain⟨rfl,la,ofs,rfl,g1,g2,g3,g4⟩:=hz
   exact⟨rfl,la,ofs,rfl,g1,g3,g4,.inl (by omega)⟩
  ·obtain⟨rfl,la,ofs,rfl,g1,g3,g4,g5⟩:=hz
   dsimp only
   refine Gv.bind (L3 (hint+1 - min ofs (hint+1)) (hint - la) ?_ ?_ ?_ ?_ (fun x lo hi R hl hR=>?_) (fun x lo hi R hl hn' hR=>?_) fun k lo g1 g2 g3=>Gv.pure (h k g1 g2 g3))
   ·rcases g5 with g | ⟨g,_⟩<;>omega
   ·omega
   ·intro i hi
    rcases g5 with g | ⟨g,e⟩
    ·omega
    ·exact mo i _ (by omega) (by omega) e
   ·intro i hi hin
    exact mo' _ i hi hin g4
   ·dsimp only;rw[if_pos hl];exact Gv.pure hR
   ·dsimp only;rw[if_neg (by omega)]
    refine Gv.bind (B (by omega) ?_)
    dsimp only
    cases e:b (lo+(hi - lo) / 2) with
    | true=>rw[e,if_pos rfl] at hR;exact Gv.pure hR
    | false=>rw[e,if_neg (by decide)] at hR;exact Gv.pure hR
end
section
variable {kk:Keyed->Int} {a b out:Array Keyed} {ia ib:Nat}
noncomputable def Srt (kk:Keyed->Int) (l:List Keyed):Prop:=l.Pairwise fun x y=>kk x<kk y
structure Mg (kk:Keyed->Int) (a b out:Array Keyed) (ia ib:Nat):Prop where
 perm:out.toList.Perm (a.toList.take ia++b.toList.take ib)
 srt:Srt kk out.toList
 la:∀x∈out.toList,∀y∈a.toList.drop ia,kk x<kk y
 lb:∀x∈out.toList,∀y∈b.toList.drop ib,kk x<kk y
theorem Mg.symm (m:Mg kk a b out ia ib):Mg kk b a out ib ia:=⟨m.perm.trans List.perm_append_comm,m.srt,m.lb,m.la⟩
theorem Mg.zero:Mg kk a b #[] 0 0:=⟨by simp,List.Pairwise.nil,fun x hx=>by simp at hx,fun x hx=>by simp at hx⟩
theorem B_ {l:List Keyed} {i j:Nat} {h:j<l.length} (hij:i<=j):l[j]∈l.drop i:=by
 have e:l[j]=(l.drop i)[j - i]'(by rw[List.length_drop];omega):=by rw[List.getElem_drop];congr 1;omega
 rw[e];exact List.getElem_mem _
theorem vh {l:List Keyed} (s:Srt kk l) {j:Nat} (h:j<l.length):∀y∈l.drop (j+1),kk l[j]<kk y:=by
 have e:=List.drop_eq_getElem_cons h
 have s2:Srt kk (l.drop j):=List.Pairwise.sublist (List.drop_sublist _ _) s
 rw[e] at s2
 exact fun y hy=>(List.pairwise_cons.mp s2).1 y hy
theorem Mg.jR (m:Mg kk a b out ia ib) (sb:Srt kk b.toList) (hi:ib<b.size) (hd:∀y∈a.toList.drop ia,kk b[ib]<kk y):Mg kk a b (out.push b[ib]) ia (ib+1):=by
 have hl:ib<b.toList.length:=by simpa using hi
 have eb:b.toList[ib]=b[ib]:=by simp
 have bm:b[ib]∈b.toList.drop ib:=by rw[<- eb];exact B_ (Nat.le_refl _)
 have es:(out.push b[ib]).toList=out.toList++[b[ib]]:=by simp
 refine⟨?_,?_,?_,?_⟩
 ·rw[es,List.take_succ_eq_append_getElem hl,eb,<- List.append_assoc]
  exact m.perm.append_right _
 ·rw[es]
  exact List.pairwise_append.mpr ⟨m.srt,List.pairwise_singleton _ _,fun x hx y hy=>by rw[List.mem_singleton] at hy;subst hy;exact m.lb x hx _ bm⟩
 ·intro x hx y hy
  rw[es] at hx
  rcases List.mem_append.mp hx with hx | hx
  ·exact m.la x hx y hy
  ·rw[List.mem_singleton] at hx;subst hx;exact hd y hy
 ·intro x hx y hy
  rw[es] at hx
  rcases List.mem_append.mp hx with hx | hx
  ·exact m.lb x hx y (by rw[<- List.drop_drop] at hy;exact List.mem_of_mem_drop hy)
  ·rw[List.mem_singleton] at hx;subst hx
   have:=vh sb hl y hy
   rw[eb] at this;exact this
theorem Mg.mT (m:Mg kk a b out ia ib) (sa:Srt kk a.toList) (hi:ia<a.size) (hd:∀y∈b.toList.drop ib,kk a[ia]<kk y):Mg kk a b (out.push a[ia]) (ia+1) ib:=(m.symm.jR sa hi hd).symm
theorem Mg.fR (m:Mg kk a b out ia ib) (sb:Srt kk b.toList):∀(k:Nat),ib+k<=b.size->(∀j,(hj:j<b.size)->ib<=j->j<ib+k->∀y∈a.toList.drop ia,kk b[j]<kk y)->Mg kk a b (out++b.extract ib (ib+k)) ia (ib+k)
 | 0,_,_=>by
  have e:b.extract ib (ib+0) = #[]:=by simp;omega
  rw[e];simpa using m
 | k+1,hk,hd=>by
  have ih:=Mg.fR m sb k (by omega) (fun j hj h1 h2=>hd j hj h1 (by omega))
  have e:out++b.extract ib (ib+(k+1))=(out++b.extract ib (ib+k)).push b[ib+k]:=by
   rw[<- Array.append_push]
   congr 1
   rw[show ib+(k+1)=ib+k+1 by omega,Array.push_extract_getElem (by omega) ]
   congr 1
   omega
  rw[e]
  exact ih.jR sb (by omega) (hd (ib+k) (by omega) (by omega) (by omega))
theorem Mg.mF (m:Mg kk a b out ia ib) (sa:Srt kk a.toList) (k:Nat) (hk:ia+k<=a.size) (hd:∀j,(hj:j<a.size)->ia<=j->j<ia+k->∀y∈b.toList.drop ib,kk a[j]<kk y):Mg kk a b (out++a.extract ia (ia+k)) (ia+k) ib:=(m.symm.fR sa k hk hd).symm
noncomputable def gQ (kk:Keyed->Int) (a b r:Array Keyed):Prop:=r.toList.Perm (a.toList++b.toList)/\Srt kk r.toList
theorem Mg.fin (m:Mg kk a b out a.size b.size):gQ kk a b out:=⟨by have:=m.perm;rwa [List.take_of_length_le (by simp),List.take_of_length_le (by simp)] at this,m.srt⟩
theorem Mg.mR (m:Mg kk a b out ia b.size) (sa:Srt kk a.toList) (hi:ia<=a.size):gQ kk a b (out++a.extract ia a.size++b.extract b.size b.size):=by
 have e:b.extract b.size b.size = #[]:=by simp
 rw[e,Array.append_empty]
 have:=m.mF sa (a.size - ia) (by omega) (fun j hj _ _ y hy=>by rw[List.drop_eq_nil_of_le (by simp)] at hy;cases hy)
 rw[show ia+(a.size - ia)=a.size by omega] at this
 exact this.fin
theorem Mg.lH (m:Mg kk a b out a.size ib) (sb:Srt kk b.toList) (hi:ib<=b.size):gQ kk a b (out++a.extract a.size a.size++b.extract ib b.size):=by
 have e:a.extract a.size a.size = #[]:=by simp
 rw[e,Array.append_empty]
 have:=m.fR sb (b.size - ib) (by omega) (fun j hj _ _ y hy=>by rw[List.drop_eq_nil_of_le (by simp)] at hy;cases hy)
 rw[show ib+(b.size - ib)=b.size by omega] at this
 exact this.fin
theorem Mg.last (m:Mg kk a b out ia ib) (sa:Srt kk a.toList) (sb:Srt kk b.toList) (hi:ia+1=a.size) (hb:ib<=b.size) (hd:∀y∈b.toList,kk y<kk a[ia]):gQ kk a b (out++b.extract ib b.size++a.extract ia a.size):=by
 have hla:a.toList.drop ia=[a[ia]]:=by
  have hl:ia<a.toList.length:=by simp;omega
  rw[List.drop_eq_getElem_cons hl]
  have:a.toList.drop (ia+1)=[]:=by rw[List.drop_eq_nil_iff];simp;omega
  rw[this];simp
 have m1:=m.fR sb (b.size - ib) (by omega) (fun j hj _ _ y hy=>by
  rw[hla,List.mem_singleton] at hy;subst hy
  exact hd _ (by simp))
 rw[show ib+(b.size - ib)=b.size by omega] at m1
 have m2:=m1.mF sa (a.size - ia) (by omega) (fun j hj _ _ y hy=>by rw[List.drop_eq_nil_of_le (by simp)] at hy;cases hy)
 rw[show ia+(a.size - ia)=a.size by omega] at m2
 exact m2.fin
theorem heads (sa:Srt kk a.toList) (hi:ia<a.size) {v:Int} (hv:v<kk a[ia]):∀y∈a.toList.drop ia,v<kk y:=by
 have hl:ia<a.toList.length:=by simpa using hi
 intro y hy
 rw[List.drop_eq_getElem_cons hl] at hy
 rcases List.mem_cons.mp hy with rfl | hy
 ·simpa using hv
 ·have:=vh sa hl y hy
  have e:a.toList[ia]=a[ia]:=by simp
  rw[e] at this;omega
theorem pR (sa:Srt kk a.toList) {i j:Nat} (hij:i<j) (hj:j<a.size):kk a[i]<kk a[j]:=by
 have:=List.pairwise_iff_getElem.mp sa i j (by simp;omega) (by simpa using hj) hij
 simpa using this
theorem xQ {i:Nat} (h:i<a.size):kAt kk a i=kk a[i]:=AA (by simp[h])
end
section
variable {prog:Program} {w:World} {A:Around} {E:Value->Shared->Prop} {s:Shared} {κ:SortKind} {P:Keyed->Prop} {kk:Keyed->Int} {α:Type} {st:SortSt} {Q:α->SortSt->Prop}
theorem bo {c:Prop} [Decidable c] {x y:StateT SortSt Sem α} (h1:c->Gv prog w A E s x st Q) (h2:¬ c->Gv prog w A E s y st Q):Gv prog w A E s (if c then x else y) st Q:=by
 by_cases h:c
 ·rw[if_pos h];exact h1 h
 ·rw[if_neg h];exact h2 h
structure dP (st st':SortSt):Prop where
 kind:kindOf st'=kindOf st
 arr:arrOf st'=arrOf st
 pend:pendingOf st'=pendingOf st
 fail:failedOf st'=failedOf st
theorem dP.refl:dP st st:=⟨rfl,rfl,rfl,rfl⟩
theorem dP.trans {a b c:SortSt} (h:dP a b) (g:dP b c):dP a c:=⟨g.1.trans h.1,g.2.trans h.2,g.3.trans h.3,g.4.trans h.4⟩
end
section
variable {prog:Program} {w:World} {A:Around} {E:Value->Shared->Prop} {s:Shared} {κ:SortKind} {P:Keyed->Prop} {kk:Keyed->Int}
structure Two (P:Keyed->Prop) (kk:Keyed->Int) (a b:Array Keyed):Prop where
 pa:∀x∈a,P x
 pb:∀x∈b,P x
 sa:Srt kk a.toList
 sb:Srt kk b.toList
 dj:∀x∈a.toList,∀y∈b.toList,kk x≠kk y
theorem Two.ne {a b:Array Keyed} (t:Two P kk a b) {i j:Nat} (hi:i<a.size) (hj:j<b.size):kk a[i]≠kk b[j]:=t.dj _ (by simp) _ (by simp)
theorem t9 {a:Array Keyed} {key:Keyed} {i n hint:Nat} {st:SortSt} {Q:Option Nat->SortSt->Prop} (c:Cmp prog w A s κ P kk) (pa:∀x∈a,P x) (hy:P key) (hk:kindOf st=κ) (hn:i+n<=a.size) (hh:hint<n)
  (sa:∀j m,(hm:m<a.size)->i<=j->(hj:j<m)->m<i+n->kk (a[j]'(by omega))<kk a[m]) (nk:∀j,(hj:j<a.size)->i<=j->j<i+n->kk a[j]≠kk key)
  (h:∀k,k<=n->(∀j,(hj:j<a.size)->i<=j->j<i+k->kk a[j]<kk key)->(∀j,(hj:j<a.size)->i+k<=j->j<i+n->kk key<kk a[j])->Q (some k) st):Gv prog w A E s (tU false key a i n hint) st Q:=by
 have bv:∀m,(hm:i+m<a.size)->m<n->bey kk false key a i m=decide (kk a[i+m]<kk key):=fun m hm hmn=>by
  unfold bey
  rw[xQ hm]
  have:=nk (i+m) hm (by omega) (by omega)
  by_cases z:kk a[i+m]<kk key
  ·have:¬ kk key<kk a[i+m]:=by omega
   simp[z,this]
  ·have:kk key<kk a[i+m]:=by omega
   simp[z,this]
 refine qV c pa hy hk hn hh (fun m n hmn hn' e=>?_) (fun k hk1 e1 e2=>?_)
 ·rw[bv n (by omega) (by omega),decide_eq_true_eq] at e
  rw[bv m (by omega) (by omega),decide_eq_true_eq]
  rcases Nat.lt_or_eq_of_le hmn with z | z
  ·have:=sa (i+m) (i+n) (by omega) (by omega) (by omega) (by omega);omega
  ·subst z;exact e
 ·refine h k hk1 (fun j hj h1 h2=>?_) (fun j hj h1 h2=>?_)
  ·have:=e1 (j - i) (by omega)
   rw[bv (j - i) (by omega) (by omega),decide_eq_true_eq] at this
   simpa [show i+(j - i)=j by omega] using this
  ·have:=e2 (j - i) (by omega) (by omega)
   rw[bv (j - i) (by omega) (by omega),decide_eq_false_iff_not] at this
   have ne:=nk j hj (by omega) h2
   have:¬ kk a[j]<kk key:=by simpa [show i+(j - i)=j by omega] using this
   omega
theorem tX {a:Array Keyed} {key:Keyed} {i n hint:Nat} {st:SortSt} {Q:Option Nat->SortSt->Prop} (c:Cmp prog w A s κ P kk) (pa:∀x∈a,P x) (hy:P key) (hk:kindOf st=κ) (hn:i+n<=a.size) (hh:hint<n)
  (sa:∀j m,(hm:m<a.size)->i<=j->(hj:j<m)->m<i+n->kk (a[j]'(by omega))<kk a[m])
  (h:∀k,k<=n->(∀j,(hj:j<a.size)->i<=j->j<i+k->kk a[j]<kk key)->(∀j,(hj:j<a.size)->i+k<=j->j<i+n->¬ kk a[j]<kk key)->Q (some k) st):Gv prog w A E s (tU true key a i n hint) st Q:=by
 have bv:∀m,(hm:i+m<a.size)->bey kk true key a i m=decide (kk a[i+m]<kk key):=fun m hm=>by
  unfold bey
  rw[xQ hm];rfl
 refine qV c pa hy hk hn hh (fun m n hmn hn' e=>?_) (fun k hk1 e1 e2=>?_)
 ·rw[bv n (by omega),decide_eq_true_eq] at e
  rw[bv m (by omega),decide_eq_true_eq]
  rcases Nat.lt_or_eq_of_le hmn with z | z
  ·have:=sa (i+m) (i+n) (by omega) (by omega) (by omega) (by omega);omega
  ·subst z;exact e
 ·refine h k hk1 (fun j hj h1 h2=>?_) (fun j hj h1 h2=>?_)
  ·have:=e1 (j - i) (by omega)
   rw[bv (j - i) (by omega),decide_eq_true_eq] at this
   simpa [show i+(j - i)=j by omega] using this
  ·have:=e2 (j - i) (by omega) (by omega)
   rw[bv (j - i) (by omega),decide_eq_false_iff_not] at this
   simpa [show i+(j - i)=j by omega] using this
end
section
variable {prog:Program} {w:World} {A:Around} {E:Value->Shared->Prop} {s:Shared} {κ:SortKind} {P:Keyed->Prop} {kk:Keyed->Int}
structure Mid (kk:Keyed->Int) (a b out:Array Keyed) (ia ib:Nat):Prop where
 m:Mg kk a b out ia ib
 ha:ia+1<a.size
 hb:ib<b.size
theorem Gv.modS {f:SortSt->SortSt} {st:SortSt} {Q:PUnit->SortSt->Prop} (hf:dP st (f st)) (h:∀st',dP st st'->Q ⟨⟩ st'):Gv prog w A E s (_root_.modify f:StateT SortSt Sem PUnit) st Q:=Gv.modify (h _ hf)
theorem CG {α:Type} {c:Prop} [Decidable c] {x y:StateT SortSt Sem α} {st:SortSt} {Q:α->SortSt->Prop} (h:Gv prog w A E s x st Q/\Gv prog w A E s y st Q):Gv prog w A E s (if c then x else y) st Q:=bo (fun _=>h.1) (fun _=>h.2)
theorem Gb {α:Type} {c:Prop} [Decidable c] {x y:StateT SortSt Sem α} {st:SortSt} {Q:α->SortSt->Prop} (h2:¬ c->Gv prog w A E s y st Q) (h1:c->Gv prog w A E s x st Q):Gv prog w A E s (if c then x else y) st Q:=bo h1 h2
theorem yC {α:Type} {R:Array Keyed->Nat->StateT SortSt Sem α} {F:Array Keyed->Nat->Prop} {x:StateT SortSt Sem α} {st:SortSt} {Q:α->SortSt->Prop} (use:(∀o i,F o i->Gv prog w A E s (R o i) st Q)->Gv prog w A E s x st Q) (h:∀o i,F o i->Gv prog w A E s (R o i) st Q):Gv prog w A E s x st Q:=use h
theorem yR {P:Nat->Prop} {Y:Prop} (h:∀g,P g) (hy:(∀g,P g)->Y) (g:Nat):P g/\Y:=⟨h g,hy h⟩
theorem get_some {a:Array Keyed} {i:Nat} (h:i<a.size):a[i]?=some a[i]:=by simp[h]
theorem v8 {a b:Array Keyed} {st:SortSt} {Q:Array Keyed->SortSt->Prop} (c:Cmp prog w A s κ P kk) (t:Two P kk a b) (hk:kindOf st=κ) (ha:1<=a.size) (hb:1<=b.size) (h0:kk b[0]<kk a[0]) (hl:∀y∈b.toList,kk y<kk a[a.size - 1])
  (h:∀r st',gQ kk a b r->dP st st'->Q r st'):Gv prog w A E s (Ci a b) st Q:=by
 have m1:Mg kk a b #[b[0]] 0 1:=by
  have:=(Mg.zero (kk:=kk) (a:=a) (b:=b)).jR t.sb (by omega) (heads t.sa (by omega) h0)
  simpa using this
 have lastOk:∀{out:Array Keyed} {ia ib:Nat},Mg kk a b out ia ib->ia+1=a.size->ib<=b.size->gQ kk a b (out++b.extract ib b.size++a.extract ia a.size):=fun{out ia ib} m e hb'=>m.last t.sa t.sb e hb' (fun y hy=>by have:=hl y hy;simpa [show a.size - 1=ia by omega] using this)
 have mR:∀{out:Array Keyed} {ia ib:Nat},Mg kk a b out ia ib->ia<=a.size->ib=b.size->gQ kk a b (out++a.extract ia a.size++b.extract ib b.size):=fun{out ia ib} m e hb'=>by subst hb';exact m.mR t.sa e
 with_unfolding_all refine Gv.bind (Gv.rule ?_)
 dsimp only
 refine Gv.bind (Gv.elem (get_some (by omega)) ?_)
 refine bo (fun e=>Gv.pure (h _ _ (mR m1 (by omega) (by simpa using e)) dP.refl)) (fun e1=>?_)
 refine bo (fun e=>Gv.pure (h _ _ (lastOk m1 (by simpa using e) (by omega)) dP.refl)) (fun e2=>?_)
 have z1:1<b.size:=by have:¬ 1=b.size:=by simpa using e1
                      omega
 have z2:1<a.size:=by have:¬ 0+1=a.size:=by simpa using e2
                      omega
 refine Gv.bind (Gv.get ?_)
 refine Gv.bind (Gv.mono (Q:=fun z st'=>dP st st'/\∃r,z.1=some r/\gQ kk a b r) (Gv.range (fun m z st'=>dP st st'/\∃out ia ib mg,z=(none,out,ia,ib,mg)/\Mid kk a b out ia ib/\a.size+b.size<ia+ib+m) ⟨dP.refl,_,_,_,_,rfl,⟨m1,by omega,by omega⟩,by omega⟩ (fun x m z st' hz=>?_) (fun z st' hz=>?_)) (fun z st' hz=>?_))
 ·obtain⟨sm,out,ia,ib,mg,rfl,md,pr⟩:=hz
  have hk':kindOf st'=κ:=sm.kind.trans hk
  dsimp only
  refine Gv.bind (Gv.mono (Q:=fun z st''=>dP st st''/\((∃r o i j p q,z=(some r,o,i,j,p,q)/\gQ kk a b r)\/∃o i j p q,z=(none,o,i,j,p,q)/\Mid kk a b o i j/\ia+ib<i+j)) (Gv.range (fun m' z st''=>dP st st''/\∃o i j p q,z=(none,o,i,j,p,q)/\Mid kk a b o i j/\ia+ib<=i+j/\ia+ib+(a.size+b.size)<=i+j+m') ⟨sm,_,_,_,_,_,rfl,md,by omega,by omega⟩ (fun x m' z st'' hz=>?_) (fun z st'' hz=>?_)) (fun z st'' hz=>?_))
  ·obtain⟨sm2,o,i,j,p,q,rfl,md2,pr0,pr2⟩:=hz
   clear pr z1 z2 e1 e2 m1 h0 hl ha hb
   have hk2:kindOf st''=κ:=sm2.kind.trans hk
   have ha2:=md2.ha
   have hi:i<a.size:=by omega
   have hj:=md2.hb
   dsimp only
   refine Gv.bind (Gv.elem (get_some hj) ?_)
   refine Gv.bind (Gv.elem (get_some hi) ?_)
   refine Gv.bind (Gv.ltC c (t.pb _ (Array.getElem_mem hj)) (t.pa _ (Array.getElem_mem hi)) hk2 ?_)
   dsimp only
   by_cases lt:kk b[j]<kk a[i]
   ·rw[decide_eq_true lt,if_pos rfl]
    have m3:=md2.m.jR t.sb hj (heads t.sa hi lt)
    refine Gv.bind (Gv.elem (get_some hj) ?_)
    refine bo (fun e=>Gv.pure ⟨sm2,.inl ⟨_,_,_,_,_,_,rfl,mR m3 (by omega) (by simpa using e)⟩⟩) (fun e=>?_)
    have e':¬ j+1=b.size:=by simpa using e
    exact bo (fun _=>Gv.pure ⟨sm2,.inr ⟨_,_,_,_,_,rfl,⟨m3,by omega,by omega⟩,by omega⟩⟩) (fun _=>Gv.pure ⟨sm2,_,_,_,_,_,rfl,⟨m3,by omega,by omega⟩,by omega,by omega⟩)
   ·have gt:kk a[i]<kk b[j]:=by have:=t.ne hi hj;omega
    rw[decide_eq_false lt,if_neg (by decide)]
    have m3:=md2.m.mT t.sa hi (heads t.sb hj gt)
    refine Gv.bind (Gv.elem (get_some hi) ?_)
    refine bo (fun e=>Gv.pure ⟨sm2,.inl ⟨_,_,_,_,_,_,rfl,lastOk m3 (by simpa using e) (by omega)⟩⟩) (fun e=>?_)
    have e':¬ i+1+1=a.size:=by simpa using e
    exact bo (fun _=>Gv.pure ⟨sm2,.inr ⟨_,_,_,_,_,rfl,⟨m3,by omega,hj⟩,by omega⟩⟩) (fun _=>Gv.pure ⟨sm2,_,_,_,_,_,rfl,⟨m3,by omega,hj⟩,by omega,by omega⟩)
  ·obtain⟨sm2,o,i,j,p,q,rfl,md2,pr0,pr2⟩:=hz
   exact⟨sm2,.inr ⟨_,_,_,_,_,rfl,md2,by omega⟩⟩
  ·obtain⟨sm2,⟨r,o,i,j,p,q,rfl,fr⟩ | ⟨o,i,j,p,q,rfl,md2,pr2⟩⟩:=hz
   ·exact Gv.pure ⟨sm2,r,rfl,fr⟩
   ·dsimp only
    refine Gv.bind (Gv.rule ?_)
    refine Gv.bind (Gv.mono (Q:=fun z st4=>dP st st4/\((∃r o i j g p q,z=(some r,o,i,j,g,p,q)/\gQ kk a b r)\/∃o i j g p q,z=(none,o,i,j,g,p,q)/\Mid kk a b o i j/\ia+ib<i+j)) (Gv.range (fun m' z st4=>dP st st4/\∃o i j g p q,z=(none,o,i,j,g,p,q)/\Mid kk a b o i j/\ia+ib<i+j) ⟨sm2,_,_,_,_,_,_,rfl,md2,pr2⟩ (fun x m' z st4 hz=>?_) (fun z st4 hz=>?_)) (fun z st4 hz=>?_))
    ·obtain⟨sm4,o,i,j,g,p,q,rfl,md4,pr4⟩:=hz
     clear pr pr2 md md2 z1 z2 e1 e2 m1 h0 hl ha hb
     have ha4:=md4.ha
     have hj:=md4.hb
     have hi:i<a.size:=by omega
     dsimp only
     refine CG ?_
     generalize g - 1=g1
     revert g1
     refine yR (fun g'=>?_) (fun f=>f g)
     ·with_unfolding_all refine Gv.bind (Gv.modS ⟨rfl,rfl,rfl,rfl⟩ (fun st3 sm3'=>?_))
      have sm3:=sm4.trans sm3'
      have hk3:kindOf st3=κ:=sm3.kind.trans hk
      refine Gv.bind (Gv.elem (get_some hj) ?_)
      refine Gv.bind (t9 c t.pa (t.pb _ (Array.getElem_mem hj)) hk3 (show i+(a.size - i)<=a.size by omega) (by omega) (fun p q hq _ hpq _=>pR t.sa hpq hq) (fun p hp _ _=>t.ne hp hj) (fun k hk1 e1 e2=>?_))
      dsimp only
      apply yC (F:=fun o' I=>Mg kk a b o' I j/\i<=I/\I+1<a.size/\∃hI:I<a.size,kk b[j]<kk a[I])
      ·intro key
       refine Gb (fun k0=>?_) (fun k0=>?_)
       ·generalize ho:o=o1
        generalize hi':i=i1
        refine key o1 i1 ?_
        subst ho hi'
        exact⟨md4.m,by omega,ha4,hi,e2 i hi (by omega) (by omega)⟩
       have m3:=md4.m.mF t.sa k (by omega) (fun p hp h1 h2=>heads t.sb hj (e1 p hp h1 h2))
       refine bo (fun e=>Gv.pure ⟨sm3,.inl ⟨_,_,_,_,_,_,_,rfl,lastOk m3 (by simpa using e) (by omega)⟩⟩) (fun ne1=>?_)
       refine bo (fun e=>?_) (fun ne2=>?_)
       ·have e':i+k=a.size:=by simpa using e
        have m3':=m3
        rw[e'] at m3'
        refine Gv.pure ⟨sm3,.inl ⟨_,_,_,_,_,_,_,rfl,?_⟩⟩
        rw[e']
        exact m3'.lH t.sb (by omega)
       ·have ne1':¬ i+k+1=a.size:=by simpa using ne1
        have ne2':¬ i+k=a.size:=by simpa using ne2
        have hI:i+k<a.size:=by omega
        have gtI:kk b[j]<kk a[i+k]:=e2 (i+k) hI (by omega) (by omega)
        exact key _ _ ⟨m3,by omega,by omega,hI,gtI⟩
      ·rintro o' I ⟨m3,iI,ha5,hI,gtI⟩
       refine Gv.bind (Gv.elem (get_some hj) ?_)
       have m4:=m3.jR t.sb hj (heads t.sa hI gtI)
       refine bo (fun e=>Gv.pure ⟨sm3,.inl ⟨_,_,_,_,_,_,_,rfl,mR m4 (by omega) (by simpa using e)⟩⟩) (fun ne3=>?_)
       have ne3':¬ j+1=b.size:=by simpa using ne3
       refine Gv.bind (Gv.elem (get_some hI) ?_)
       refine Gv.bind (tX c t.pb (t.pa _ (Array.getElem_mem hI)) hk3 (show j+1+(b.size - (j+1))<=b.size by omega) (by omega) (fun p q hq _ hpq _=>pR t.sb hpq hq) (fun k1 hk1 f1 f2=>?_))
       dsimp only
       by_cases k10:k1 > 0
       ·rw[if_pos k10]
        have m5:=m4.fR t.sb k1 (by omega) (fun q hq h1 h2=>heads t.sa hI (f1 q hq h1 h2))
        refine bo (fun e=>Gv.pure ⟨sm3,.inl ⟨_,_,_,_,_,_,_,rfl,mR m5 (by omega) (by simpa using e)⟩⟩) (fun ne4=>?_)
        have ne4':¬ j+1+k1=b.size:=by simpa using ne4
        have hJ:j+1+k1<b.size:=by omega
        have ltJ:kk a[I]<kk b[j+1+k1]:=by have:=f2 _ hJ (by omega) (by omega);have:=t.ne hI hJ;omega
        refine Gv.bind (Gv.elem (get_some hI) ?_)
        have m6:=m5.mT t.sa hI (heads t.sb hJ ltJ)
        refine bo (fun e=>Gv.pure ⟨sm3,.inl ⟨_,_,_,_,_,_,_,rfl,lastOk m6 (by simpa using e) (by omega)⟩⟩) (fun ne5=>?_)
        have ne5':¬ I+1+1=a.size:=by simpa using ne5
        exact bo (fun _=>Gv.pure ⟨sm3,.inr ⟨_,_,_,_,_,_,rfl,⟨m6,by omega,hJ⟩,by omega⟩⟩) (fun _=>Gv.pure ⟨sm3,_,_,_,_,_,_,rfl,⟨m6,by omega,hJ⟩,by omega⟩)
       ·rw[if_neg k10]
        have m5:=m4
        have hJ:j+1<b.size:=by omega
        have ltJ:kk a[I]<kk b[j+1]:=by have:=f2 _ hJ (by omega) (by omega);have:=t.ne hI hJ;omega
        refine Gv.bind (Gv.elem (get_some hI) ?_)
        have m6:=m5.mT t.sa hI (heads t.sb hJ ltJ)
        refine bo (fun e=>Gv.pure ⟨sm3,.inl ⟨_,_,_,_,_,_,_,rfl,lastOk m6 (by simpa using e) (by omega)⟩⟩) (fun ne5=>?_)
        have ne5':¬ I+1+1=a.size:=by simpa using ne5
        exact bo (fun _=>Gv.pure ⟨sm3,.inr ⟨_,_,_,_,_,_,rfl,⟨m6,by omega,hJ⟩,by omega⟩⟩) (fun _=>Gv.pure ⟨sm3,_,_,_,_,_,_,rfl,⟨m6,by omega,hJ⟩,by omega⟩)
    ·obtain⟨sm4,o,i,j,g,p,q,rfl,md4,pr4⟩:=hz
     exact⟨sm4,.inr ⟨_,_,_,_,_,_,rfl,md4,pr4⟩⟩
    ·obtain⟨sm4,⟨r,o,i,j,g,p,q,rfl,fr⟩ | ⟨o,i,j,g,p,q,rfl,md4,pr4⟩⟩:=hz
     ·exact Gv.pure ⟨sm4,r,rfl,fr⟩
     ·dsimp only
      with_unfolding_all refine Gv.bind (Gv.modS ⟨rfl,rfl,rfl,rfl⟩ (fun st3 sm3'=>?_))
      exact Gv.pure ⟨sm4.trans sm3',_,_,_,_,rfl,md4,by omega⟩
 ·obtain⟨sm,out,ia,ib,mg,rfl,md,pr⟩:=hz
  have:=md.ha
  have:=md.hb
  omega
 ·obtain⟨sm,r,e,fr⟩:=hz
  rw[e]
  exact Gv.pure (h r st' fr sm)
end
section
variable {kk:Keyed->Int} {a b out:Array Keyed} {na nb:Nat}
structure Mh (kk:Keyed->Int) (a b out:Array Keyed) (na nb:Nat):Prop where
 perm:out.toList.Perm (a.toList.drop na++b.toList.drop nb)
 srt:out.toList.Pairwise fun x y=>kk y<kk x
 la:∀x∈out.toList,∀y∈a.toList.take na,kk y<kk x
 lb:∀x∈out.toList,∀y∈b.toList.take nb,kk y<kk x
theorem Mh.symm (m:Mh kk a b out na nb):Mh kk b a out nb na:=⟨m.perm.trans List.perm_append_comm,m.srt,m.lb,m.la⟩
theorem Mh.zero:Mh kk a b #[] a.size b.size:=⟨by simp[List.drop_eq_nil_of_le],List.Pairwise.nil,fun x hx=>by simp at hx,fun x hx=>by simp at hx⟩
theorem yo {l:List Keyed} {n:Nat} (h:n<l.length):l.take (n+1)=l.take n++[l[n]]:=List.take_succ_eq_append_getElem h
theorem Mh.jR (m:Mh kk a b out na (nb+1)) (sb:Srt kk b.toList) (hi:nb<b.size) (hd:∀y∈a.toList.take na,kk y<kk b[nb]):Mh kk a b (out.push b[nb]) na nb:=by
 have hl:nb<b.toList.length:=by simpa using hi
 have eb:b.toList[nb]=b[nb]:=by simp
 have et:=yo hl
 rw[eb] at et
 have bm:b[nb]∈b.toList.take (nb+1):=by rw[et];simp
 have es:(out.push b[nb]).toList=out.toList++[b[nb]]:=by simp
 refine⟨?_,?_,?_,?_⟩
 ·rw[es,List.drop_eq_getElem_cons hl,eb]
  refine(List.perm_append_singleton _ _).trans ?_
  refine List.Perm.trans ?_ List.perm_middle.symm
  exact m.perm.cons _
 ·rw[es]
  exact List.pairwise_append.mpr ⟨m.srt,List.pairwise_singleton _ _,fun x hx y hy=>by rw[List.mem_singleton] at hy;subst hy;exact m.lb x hx _ bm⟩
 ·intro x hx y hy
  rw[es] at hx
  rcases List.mem_append.mp hx with hx | hx
  ·exact m.la x hx y hy
  ·rw[List.mem_singleton] at hx;subst hx;exact hd y hy
 ·intro x hx y hy
  rw[es] at hx
  rcases List.mem_append.mp hx with hx | hx
  ·exact m.lb x hx y (by rw[et];exact List.mem_append_left _ hy)
  ·rw[List.mem_singleton] at hx;subst hx
   obtain⟨i,hi',rfl⟩:=List.mem_iff_getElem.mp hy
   rw[List.length_take] at hi'
   rw[List.getElem_take]
   have:=List.pairwise_iff_getElem.mp sb i nb (by omega) hl (by omega)
   rwa [eb] at this
theorem Mh.mT (m:Mh kk a b out (na+1) nb) (sa:Srt kk a.toList) (hi:na<a.size) (hd:∀y∈b.toList.take nb,kk y<kk a[na]):Mh kk a b (out.push a[na]) na nb:=(m.symm.jR sa hi hd).symm
theorem Mh.fR (sb:Srt kk b.toList):∀(k nb:Nat) {out:Array Keyed},Mh kk a b out na (nb+k)->nb+k<=b.size->(∀j,(hj:j<b.size)->nb<=j->j<nb+k->∀y∈a.toList.take na,kk y<kk b[j])->Mh kk a b (out++(b.extract nb (nb+k)).reverse) na nb
 | 0,nb,out,m,_,_=>by
  have e:b.extract nb (nb+0) = #[]:=by simp;omega
  rw[e];simpa using m
 | k+1,nb,out,m,hk,hd=>by
  have ih:=Mh.fR sb k (nb+1) (by rw[show nb+1+k=nb+(k+1) by omega];exact m) (by omega) (fun j hj h1 h2=>hd j hj (by omega) (by omega))
  have e:out++(b.extract nb (nb+(k+1))).reverse=(out++(b.extract (nb+1) (nb+1+k)).reverse).push b[nb]:=by
   rw[<- Array.append_push]
   congr 1
   have e2:b.extract nb (nb+(k+1)) = #[b[nb]]++b.extract (nb+1) (nb+1+k):=by
    apply Array.ext
    ·simp;omega
    ·intro i h1 h2
     rw[Array.getElem_extract,Array.getElem_append]
     split
     ·rename_i hz
      have:i=0:=by simpa using hz
      subst this;simp
     ·rename_i hz
      have:1<=i:=by simp at hz;omega
      rw[Array.getElem_extract]
      congr 1
      simp
      omega
   rw[e2,Array.reverse_append]
   apply Array.ext'
   simp
  rw[e]
  exact ih.jR sb (by omega) (hd nb (by omega) (by omega) (by omega))
theorem Mh.mF (sa:Srt kk a.toList) (k na:Nat) {out:Array Keyed} (m:Mh kk a b out (na+k) nb) (hk:na+k<=a.size) (hd:∀j,(hj:j<a.size)->na<=j->j<na+k->∀y∈b.toList.take nb,kk y<kk a[j]):Mh kk a b (out++(a.extract na (na+k)).reverse) na nb:=(Mh.fR sa k na m.symm hk hd).symm
theorem Mh.fin (m:Mh kk a b out 0 0):gQ kk a b out.reverse:=by
 refine⟨?_,?_⟩
 ·rw[Array.toList_reverse]
  refine(List.reverse_perm _).trans ?_
  have:=m.perm;simpa using this
 ·unfold Srt;rw[Array.toList_reverse,List.pairwise_reverse];exact m.srt
theorem nY (x y:Array Keyed):(x++y.reverse).reverse=y++x.reverse:=by
 apply Array.ext';simp
theorem Mh.lH (m:Mh kk a b out 0 nb) (sb:Srt kk b.toList) (hi:nb<=b.size):gQ kk a b (a.extract 0 0++b.extract 0 nb++out.reverse):=by
 have e:a.extract 0 0 = #[]:=by simp
 rw[e,Array.empty_append]
 have:=Mh.fR sb nb 0 (by rw[Nat.zero_add];exact m) (by omega) (fun j hj _ _ y hy=>by simp at hy)
 rw[Nat.zero_add] at this
 have f:=this.fin
 rwa [nY] at f
theorem Mh.mR (m:Mh kk a b out na 0) (sa:Srt kk a.toList) (hi:na<=a.size):gQ kk a b (a.extract 0 na++b.extract 0 0++out.reverse):=by
 have e:b.extract 0 0 = #[]:=by simp
 rw[e,Array.append_empty]
 have:=Mh.mF sa na 0 (by rw[Nat.zero_add];exact m) (by omega) (fun j hj _ _ y hy=>by simp at hy)
 rw[Nat.zero_add] at this
 have f:=this.fin
 rwa [nY] at f
theorem Mh.first (m:Mh kk a b out na 1) (sa:Srt kk a.toList) (sb:Srt kk b.toList) (hi:na<=a.size) (hb:0<b.size) (hd:∀y∈a.toList,kk b[0]<kk y):gQ kk a b (b.extract 0 1++a.extract 0 na++out.reverse):=by
 have hb1:b.toList.take 1=[b[0]]:=by rw[yo (n:=0) (by simpa using hb)];simp
 have m1:=Mh.mF sa na 0 (by rw[Nat.zero_add];exact m) (by omega) (fun j hj _ _ y hy=>by
  rw[hb1,List.mem_singleton] at hy;subst hy
  exact hd _ (by simp))
 rw[Nat.zero_add] at m1
 have m2:=Mh.fR sb 1 0 (by rw[Nat.zero_add];exact m1) (by omega) (fun j hj _ _ y hy=>by simp at hy)
 rw[Nat.zero_add] at m2
 have f:=m2.fin
 rw[nY,nY,<- Array.append_assoc] at f
 exact f
theorem vv (sa:Srt kk a.toList) {i:Nat} (hi:i<a.size) {v:Int} (hv:kk a[i]<v):∀y∈a.toList.take (i+1),kk y<v:=by
 intro y hy
 obtain⟨j,hj,rfl⟩:=List.mem_iff_getElem.mp hy
 rw[List.length_take] at hj
 rw[List.getElem_take]
 rcases Nat.lt_or_ge j i with z | z
 ·have:=pR sa z hi
  have e:a.toList[j]'(by omega)=a[j]:=by simp
  rw[e];omega
 ·have:j=i:=by omega
  subst this
  simpa using hv
end
section
variable {prog:Program} {w:World} {A:Around} {E:Value->Shared->Prop} {s:Shared} {κ:SortKind} {P:Keyed->Prop} {kk:Keyed->Int}
structure Mih (kk:Keyed->Int) (a b out:Array Keyed) (na nb:Nat):Prop where
 m:Mh kk a b out na nb
 ha:1<=na
 hb:2<=nb
 la:na<=a.size
 lb:nb<=b.size
theorem Mh.xK {a b out:Array Keyed} {na k hi:Nat} (sb:Srt kk b.toList) (hle:k<=hi) (m:Mh kk a b out na hi) (hh:hi<=b.size) (hd:∀j,(hj:j<b.size)->k<=j->j<hi->∀y∈a.toList.take na,kk y<kk b[j]):Mh kk a b (out++(b.extract k hi).reverse) na k:=by
 obtain⟨d,rfl⟩:=Nat.exists_eq_add_of_le hle
 exact Mh.fR sb d k m hh hd
theorem Mh.ER {a b out:Array Keyed} {nb k hi:Nat} (sa:Srt kk a.toList) (hle:k<=hi) (m:Mh kk a b out hi nb) (hh:hi<=a.size) (hd:∀j,(hj:j<a.size)->k<=j->j<hi->∀y∈b.toList.take nb,kk y<kk a[j]):Mh kk a b (out++(a.extract k hi).reverse) k nb:=(Mh.xK sa hle m.symm hh hd).symm
theorem get_eq {a:Array Keyed} {i k:Nat} (h:i<a.size) (e:k=i):a[k]?=some a[i]:=by subst e;simp[h]
theorem vP {a b:Array Keyed} {st:SortSt} {Q:Array Keyed->SortSt->Prop} (c:Cmp prog w A s κ P kk) (t:Two P kk a b) (hk:kindOf st=κ) (ha:1<=a.size) (hb:1<=b.size) (h0:∀y∈a.toList,kk b[0]<kk y) (hl:kk b[b.size - 1]<kk a[a.size - 1])
  (h:∀r st',gQ kk a b r->dP st st'->Q r st'):Gv prog w A E s (AV a b) st Q:=by
 obtain⟨A1,hA1⟩:∃A1,a.size=A1+1:=⟨a.size - 1,by omega⟩
 have hA:A1<a.size:=by omega
 have eA:a.size - 1=A1:=by omega
 have m1:Mh kk a b #[a[A1]] A1 b.size:=by
  have:=(Mh.zero (kk:=kk) (a:=a) (b:=b))
  have t1:=vv t.sb (i:=b.size - 1) (by omega) (show kk b[b.size - 1]<kk a[A1] by have:=hl;simpa [eA] using this)
  rw[show b.size - 1+1=b.size by omega] at t1
  have:=Mh.mT (na:=A1) (by rw[<- hA1];exact this) t.sa hA t1
  simpa using this
 have firstOk:∀{out:Array Keyed} {na:Nat},Mh kk a b out na 1->na<=a.size->gQ kk a b (b.extract 0 1++a.extract 0 na++out.reverse):=fun{out na} m e=>m.first t.sa t.sb e (by omega) h0
 have lH:∀{out:Array Keyed} {na nb:Nat},Mh kk a b out na nb->na=0->nb<=b.size->gQ kk a b (a.extract 0 na++b.extract 0 nb++out.reverse):=fun{out na nb} m e hb'=>by subst e;exact m.lH t.sb hb'
 with_unfolding_all refine Gv.bind (Gv.rule ?_)
 dsimp only
 refine Gv.bind (Gv.elem (get_eq hA eA) ?_)
 refine bo (fun e=>?_) (fun e1=>?_)
 ·have e':a.size - 1=0:=by simpa using e
  rw[eA]
  exact Gv.pure (h _ _ (lH m1 (by omega) (by omega)) dP.refl)
 refine bo (fun e=>?_) (fun e2=>?_)
 ·have e':b.size=1:=by simpa using e
  rw[e'] at m1
  rw[e',eA]
  exact Gv.pure (h _ _ (firstOk m1 (by omega)) dP.refl)
 have z1:¬ a.size - 1=0:=by simpa using e1
 have z2:¬ b.size=1:=by simpa using e2
 refine Gv.bind (Gv.get ?_)
 refine Gv.bind (Gv.mono (Q:=fun z st'=>dP st st'/\∃r,z.1=some r/\gQ kk a b r) (Gv.range (fun m z st'=>dP st st'/\∃na nb out mg,z=(none,na,nb,out,mg)/\Mih kk a b out na nb/\na+nb<m+1) ⟨dP.refl,a.size - 1,_,_,_,rfl,⟨by rw[eA];exact m1,by omega,by omega,by omega,by omega⟩,by omega⟩ (fun x m z st' hz=>?_) (fun z st' hz=>?_)) (fun z st' hz=>?_))
 ·obtain⟨sm,na,nb,out,mg,rfl,md,pr⟩:=hz
  dsimp only
  refine Gv.bind (Gv.mono (Q:=fun z st''=>dP st st''/\((∃r x y o p q,z=(some r,x,y,o,p,q)/\gQ kk a b r)\/∃x y o p q,z=(none,x,y,o,p,q)/\Mih kk a b o x y/\x+y<na+nb)) (Gv.range (fun m' z st''=>dP st st''/\∃x y o p q,z=(none,x,y,o,p,q)/\Mih kk a b o x y/\x+y<=na+nb/\x+y+(a.size+b.size)<=na+nb+m') ⟨sm,_,_,_,_,_,rfl,md,by omega,by omega⟩ (fun x m' z st'' hz=>?_) (fun z st'' hz=>?_)) (fun z st'' hz=>?_))
  ·obtain⟨sm2,x2,y2,o,p,q,rfl,⟨mm,ha2,hb2,la2,lb2⟩,pr0,pr2⟩:=hz
   clear pr md z1 z2 e1 e2 m1 hl eA hA hA1
   obtain⟨i,rfl⟩:∃i,x2=i+1:=⟨x2 - 1,by omega⟩
   obtain⟨j,rfl⟩:∃j,y2=j+2:=⟨y2 - 2,by omega⟩
   have hk2:kindOf st''=κ:=sm2.kind.trans hk
   have hi:i<a.size:=by omega
   have hj:j+1<b.size:=by omega
   dsimp only
   refine Gv.bind (Gv.elem (get_eq hj (by omega)) ?_)
   refine Gv.bind (Gv.elem (get_eq hi (by omega)) ?_)
   refine Gv.bind (Gv.ltC c (t.pb _ (Array.getElem_mem hj)) (t.pa _ (Array.getElem_mem hi)) hk2 ?_)
   dsimp only
   by_cases lt:kk b[j+1]<kk a[i]
   ·rw[decide_eq_true lt,if_pos rfl]
    have m3:Mh kk a b _ i (j+2):=mm.mT t.sa hi (vv t.sb hj lt)
    refine Gv.bind (Gv.elem (get_eq hi (by omega)) ?_)
    refine bo (fun e=>Gv.pure ⟨sm2,.inl ⟨_,_,_,_,_,_,rfl,lH m3 (by simpa using e) (by omega)⟩⟩) (fun e=>?_)
    have e':¬ i=0:=by simpa using e
    exact bo (fun _=>Gv.pure ⟨sm2,.inr ⟨i,j+2,_,_,_,rfl,⟨m3,by omega,by omega,by omega,by omega⟩,by omega⟩⟩) (fun _=>Gv.pure ⟨sm2,i,j+2,_,_,_,rfl,⟨m3,by omega,by omega,by omega,by omega⟩,by omega,by omega⟩)
   ·have gt:kk a[i]<kk b[j+1]:=by have:=t.ne hi hj;omega
    rw[decide_eq_false lt,if_neg (by decide)]
    have m3:Mh kk a b _ (i+1) (j+1):=mm.jR t.sb hj (vv t.sa hi gt)
    refine Gv.bind (Gv.elem (get_eq hj (by omega)) ?_)
    refine bo (fun e=>?_) (fun e=>?_)
    ·have e':j=0:=by simpa using e
     subst e'
     exact Gv.pure ⟨sm2,.inl ⟨_,_,_,_,_,_,rfl,firstOk m3 (by omega)⟩⟩
    have e':¬ j=0:=by simpa using e
    exact bo (fun _=>Gv.pure ⟨sm2,.inr ⟨i+1,j+1,_,_,_,rfl,⟨m3,by omega,by omega,by omega,by omega⟩,by omega⟩⟩) (fun _=>Gv.pure ⟨sm2,i+1,j+1,_,_,_,rfl,⟨m3,by omega,by omega,by omega,by omega⟩,by omega,by omega⟩)
  ·obtain⟨sm2,x2,y2,o,p,q,rfl,md2,pr0,pr2⟩:=hz
   exact⟨sm2,.inr ⟨_,_,_,_,_,rfl,md2,by omega⟩⟩
  ·obtain⟨sm2,⟨r,x2,y2,o,p,q,rfl,fr⟩ | ⟨x2,y2,o,p,q,rfl,md2,pr2⟩⟩:=hz
   ·exact Gv.pure ⟨sm2,r,rfl,fr⟩
   ·dsimp only
    refine Gv.bind (Gv.rule ?_)
    refine Gv.bind (Gv.mono (Q:=fun z st4=>dP st st4/\((∃r x y o g p q,z=(some r,x,y,o,g,p,q)/\gQ kk a b r)\/∃x y o g p q,z=(none,x,y,o,g,p,q)/\Mih kk a b o x y/\x+y<na+nb)) (Gv.range (fun m' z st4=>dP st st4/\∃x y o g p q,z=(none,x,y,o,g,p,q)/\Mih kk a b o x y/\x+y<na+nb) ⟨sm2,_,_,_,_,_,_,rfl,md2,pr2⟩ (fun x m' z st4 hz=>?_) (fun z st4 hz=>?_)) (fun z st4 hz=>?_))
    ·obtain⟨sm4,x4,y4,o,g,p,q,rfl,⟨mm,ha4,hb4,la4,lb4⟩,pr4⟩:=hz
     clear pr pr2 md md2 z1 z2 e1 e2 m1 hl eA hA hA1
     obtain⟨i,rfl⟩:∃i,x4=i+1:=⟨x4 - 1,by omega⟩
     obtain⟨j,rfl⟩:∃j,y4=j+2:=⟨y4 - 2,by omega⟩
     have hj:j+1<b.size:=by omega
     have hi:i<a.size:=by omega
     dsimp only
     refine CG ?_
     generalize g - 1=g1
     revert g1
     refine yR (fun g'=>?_) (fun f=>f g)
     ·with_unfolding_all refine Gv.bind (Gv.modS ⟨rfl,rfl,rfl,rfl⟩ (fun st3 sm3'=>?_))
      have sm3:=sm4.trans sm3'
      have hk3:kindOf st3=κ:=sm3.kind.trans hk
      refine Gv.bind (Gv.elem (get_eq hj (by omega)) ?_)
      refine Gv.bind (t9 (n:=i+1) (hint:=i) c t.pa (t.pb _ (Array.getElem_mem hj)) hk3 (by omega) (by omega) (fun p q hq _ hpq _=>pR t.sa hpq hq) (fun p hp _ _=>t.ne hp hj) (fun k hk1 e1 e2=>?_))
      dsimp only
      apply yC (F:=fun o' k'=>∃I,∃hI:I<a.size,k'=I+1/\Mh kk a b o' (I+1) (j+2)/\I<=i/\kk a[I]<kk b[j+1])
      ·intro key
       by_cases k0:i+1 - k > 0
       ·rw[if_pos k0]
        have m3':=Mh.ER t.sa (show k<=i+1 by omega) mm (by omega) (fun p hp h1 h2=>vv t.sb hj (e2 p hp (by omega) (by omega)))
        refine bo (fun e=>Gv.pure ⟨sm3,.inl ⟨_,_,_,_,_,_,_,rfl,lH m3' (by simpa using e) (by omega)⟩⟩) (fun ne1=>?_)
        have ne1':¬ k=0:=by simpa using ne1
        generalize o++(a.extract k (i+1)).reverse=o' at m3' ⊢
        obtain⟨I,hI⟩:∃I,k=I+1:=⟨k - 1,by omega⟩
        have z:∃I,∃hI:I<a.size,k=I+1/\Mh kk a b o' (I+1) (j+2)/\I<=i/\kk a[I]<kk b[j+1]:=⟨I,by omega,hI,by rw[<- hI];exact m3',by omega,e1 I (by omega) (by omega) (by omega)⟩
        revert z
        generalize k=k2
        exact key o' k2
       ·have e':k=i+1:=by omega
        subst e'
        rw[if_neg k0]
        exact key o (i+1) ⟨i,hi,rfl,mm,by omega,e1 i hi (by omega) (by omega)⟩
      ·rintro o' k' ⟨I,hI,ek,m3,iI,gtI⟩
       subst ek
       refine Gv.bind (Gv.elem (get_eq hj (by omega)) ?_)
       have m4:Mh kk a b _ (I+1) (j+1):=Mh.jR m3 t.sb hj (vv t.sa hI gtI)
       refine bo (fun e=>?_) (fun ne3=>?_)
       ·have e':j=0:=by simpa using e
        subst e'
        exact Gv.pure ⟨sm3,.inl ⟨_,_,_,_,_,_,_,rfl,firstOk m4 (by omega)⟩⟩
       have ne3':¬ j=0:=by simpa using ne3
       refine Gv.bind (Gv.elem (get_eq hI (by omega)) ?_)
       refine Gv.bind (tX (n:=j+1) (hint:=j) c t.pb (t.pa _ (Array.getElem_mem hI)) hk3 (by omega) (by omega) (fun p q hq _ hpq _=>pR t.sb hpq hq) (fun k1 hk1 f1 f2=>?_))
       dsimp only
       refine bo (fun k10=>?_) (fun k10=>?_)
       ·skip
        have m5:=Mh.xK t.sb (show k1<=j+1 by omega) m4 (by omega) (fun q hq h1 h2=>vv t.sa hI (by have:=f2 q hq (by omega) (by omega);have:=t.ne hI hq;omega))
        refine bo (fun e=>?_) (fun ne4=>?_)
        ·have e':k1=1:=by simpa using e
         subst e'
         exact Gv.pure ⟨sm3,.inl ⟨_,_,_,_,_,_,_,rfl,firstOk m5 (by omega)⟩⟩
        refine bo (fun e=>?_) (fun ne6=>?_)
        ·have e':k1=0:=by simpa using e
         subst e'
         exact Gv.pure ⟨sm3,.inl ⟨_,_,_,_,_,_,_,rfl,m5.mR t.sa (by omega)⟩⟩
        have ne4':¬ k1=1:=by simpa using ne4
        have ne6':¬ k1=0:=by simpa using ne6
        have ltJ:∀y∈b.toList.take k1,kk y<kk a[I]:=by
         have:=vv t.sb (i:=k1 - 1) (by omega) (f1 (k1 - 1) (by omega) (by omega) (by omega))
         rwa [show k1 - 1+1=k1 by omega] at this
        refine Gv.bind (Gv.elem (get_eq hI (by omega)) ?_)
        have m6:Mh kk a b _ I k1:=Mh.mT m5 t.sa hI ltJ
        refine bo (fun e=>Gv.pure ⟨sm3,.inl ⟨_,_,_,_,_,_,_,rfl,lH m6 (by simpa using e) (by omega)⟩⟩) (fun ne5=>?_)
        have ne5':¬ I=0:=by simpa using ne5
        exact bo (fun _=>Gv.pure ⟨sm3,.inr ⟨I,k1,_,_,_,_,rfl,⟨m6,by omega,by omega,by omega,by omega⟩,by omega⟩⟩) (fun _=>Gv.pure ⟨sm3,I,k1,_,_,_,_,rfl,⟨m6,by omega,by omega,by omega,by omega⟩,by omega⟩)
       ·skip
        have e1':k1=j+1:=by omega
        have m5:=m4
        have ltJ:∀y∈b.toList.take (j+1),kk y<kk a[I]:=vv t.sb (by omega) (f1 j (by omega) (by omega) (by omega))
        refine Gv.bind (Gv.elem (get_eq hI (by omega)) ?_)
        have m6:Mh kk a b _ I (j+1):=Mh.mT m5 t.sa hI ltJ
        refine bo (fun e=>Gv.pure ⟨sm3,.inl ⟨_,_,_,_,_,_,_,rfl,lH m6 (by simpa using e) (by omega)⟩⟩) (fun ne5=>?_)
        have ne5':¬ I=0:=by simpa using ne5
        exact bo (fun _=>Gv.pure ⟨sm3,.inr ⟨I,(j+1),_,_,_,_,rfl,⟨m6,by omega,by omega,by omega,by omega⟩,by omega⟩⟩) (fun _=>Gv.pure ⟨sm3,I,(j+1),_,_,_,_,rfl,⟨m6,by omega,by omega,by omega,by omega⟩,by omega⟩)
    ·obtain⟨sm4,x4,y4,o,g,p,q,rfl,md4,pr4⟩:=hz
     exact⟨sm4,.inr ⟨_,_,_,_,_,_,rfl,md4,pr4⟩⟩
    ·obtain⟨sm4,⟨r,x4,y4,o,g,p,q,rfl,fr⟩ | ⟨x4,y4,o,g,p,q,rfl,md4,pr4⟩⟩:=hz
     ·exact Gv.pure ⟨sm4,r,rfl,fr⟩
     ·dsimp only
      with_unfolding_all refine Gv.bind (Gv.modS ⟨rfl,rfl,rfl,rfl⟩ (fun st3 sm3'=>?_))
      exact Gv.pure ⟨sm4.trans sm3',_,_,_,_,rfl,md4,by omega⟩
 ·obtain⟨sm,na,nb,out,mg,rfl,md,pr⟩:=hz
  have:=md.ha
  omega
 ·obtain⟨sm,r,e,fr⟩:=hz
  rw[e]
  exact Gv.pure (h r st' fr sm)
end
section
variable {kk:Keyed->Int}
noncomputable def seg (a:Array Keyed) (lo n:Nat):List Keyed:=(a.toList.drop lo).take n
theorem cI {a:Array Keyed} {lo n:Nat} (h:lo+n<=a.size):(seg a lo n).length=n:=by unfold seg;rw[List.length_take,List.length_drop,Array.length_toList];omega
theorem kM {a:Array Keyed} {lo n i:Nat} (h:lo+n<=a.size) (hi:i<n):(seg a lo n)[i]'(by rw[cI h];exact hi)=a[lo+i]:=by
 unfold seg;rw[List.getElem_take,List.getElem_drop];simp
theorem cp (a:Array Keyed) (lo n k:Nat) (h:k<=n):seg a lo n=seg a lo k++seg a (lo+k) (n - k):=by
 unfold seg
 rw[<- List.drop_drop]
 have:n=k+(n - k):=by omega
 conv=>lhs;rw[this,List.take_add]
theorem kK {a:Array Keyed} {lo n:Nat} (h:lo+n<=a.size) (s:Srt kk (seg a lo n)) {j m:Nat} (hj:lo<=j) (hjm:j<m) (hm:m<lo+n):kk (a[j]'(by omega))<kk (a[m]'(by omega)):=by
 have:=List.pairwise_iff_getElem.mp s (j - lo) (m - lo) (by rw[cI h];omega) (by rw[cI h];omega) (by omega)
 rw[kM h (by omega),kM h (by omega)] at this
 simpa [show lo+(j - lo)=j by omega,show lo+(m - lo)=m by omega] using this
theorem cX {a:Array Keyed} {lo n:Nat} (h:lo+n<=a.size) {x:Keyed} (hx:x∈seg a lo n):∃j,∃hj:j<a.size,lo<=j/\j<lo+n/\a[j]=x:=by
 obtain⟨i,hi,rfl⟩:=List.mem_iff_getElem.mp hx
 have hi':i<n:=by rw[cI h] at hi;exact hi
 exact⟨lo+i,by omega,by omega,by omega,(kM h hi').symm⟩
theorem xH {a:Array Keyed} {lo n:Nat} {x:Keyed} (h:x∈seg a lo n):x∈a:=by
 have:=List.mem_of_mem_drop (List.mem_of_mem_take h)
 simpa using this
theorem fD (a:Array Keyed) (lo n:Nat):a.toList=a.toList.take lo++seg a lo n++a.toList.drop (lo+n):=by
 unfold seg
 rw[<- List.drop_drop,List.append_assoc,List.take_append_drop,List.take_append_drop]
theorem xG (a:Array Keyed) (lo hi:Nat):(a.extract lo hi).toList=seg a lo (hi - lo):=by
 unfold seg;rw[Array.toList_extract,List.extract_eq_take_drop]
theorem uf:∀(l o X Z:List Keyed) (a:Array Keyed) (k pos:Nat),a.toList=X++o++Z->o.length=l.length->X.length=pos+k->((l.zipIdx k).foldl (fun a pj=>a.setIfInBounds (pos+pj.2) pj.1) a).toList=X++l++Z
 | [],o,X,Z,a,k,pos,e,hl,_=>by
  have:o=[]:=List.length_eq_zero_iff.mp hl
  subst this
  simpa using e
 | x::l,[],X,Z,a,k,pos,e,hl,_=>by simp at hl
 | x::l,y::o,X,Z,a,k,pos,e,hl,hX=>by
  rw[List.zipIdx_cons,List.foldl_cons]
  have e1:(a.setIfInBounds (pos+k) x).toList=(X++[x])++o++Z:=by
   rw[Array.toList_setIfInBounds,e,<- hX]
   simp[List.set_append]
  have:=uf l o (X++[x]) Z (a.setIfInBounds (pos+k) x) (k+1) pos e1 (by simpa using hl) (by simp;omega)
  rw[this];simp
end
section
variable {prog:Program} {w:World} {A:Around} {E:Value->Shared->Prop} {s:Shared} {κ:SortKind} {P:Keyed->Prop} {kk:Keyed->Int}
theorem Gv.KU {st st0:SortSt} {Q:PUnit->SortSt->Prop} (h:∀st',st'=st0->Q ⟨⟩ st'):Gv prog w A E s (MonadState.set st0:StateT SortSt Sem PUnit) st Q:=Gv.set (h _ rfl)
theorem Gv.qt {f:SortSt->SortSt} {st:SortSt} {Q:PUnit->SortSt->Prop} (h:∀st',st'=f st->Q ⟨⟩ st'):Gv prog w A E s (_root_.modify f:StateT SortSt Sem PUnit) st Q:=Gv.modify (h _ rfl)
theorem qM {a:Array Keyed} (nd:(a.toList.map kk).Nodup) {i j:Nat} (hi:i<a.size) (hj:j<a.size) (n:i≠j):kk a[i]≠kk a[j]:=fun e=>by
 have h:=List.pairwise_iff_getElem.mp nd
 rcases Nat.lt_or_gt_of_ne n with z | z
 ·have:=h i j (by simpa using hi) (by simpa using hj) z
  simp at this;exact this e
 ·have:=h j i (by simpa using hj) (by simpa using hi) z
  simp at this;exact this e.symm
theorem pO {a a':Array Keyed} {sa na nb k q:Nat} {r:List Keyed} (hk:k<=na) (hq:q<=nb) (hn:sa+na+nb<=a.size) (hr:r.Perm (seg a (sa+k) (na - k)++seg a (sa+na) q)) (sr:Srt kk r)
  (e:a'.toList=a.toList.take (sa+k)++r++a.toList.drop (sa+na+q))
  (s1:Srt kk (seg a sa na)) (s2:Srt kk (seg a (sa+na) nb)) (o3:∀j,(hj:j<a.size)->sa<=j->j<sa+k->∀m,(hm:m<a.size)->sa+na<=m->m<sa+na+nb->kk a[j]<kk a[m])
  (o4:∀j,(hj:j<a.size)->sa<=j->j<sa+na->∀m,(hm:m<a.size)->sa+na+q<=m->m<sa+na+nb->kk a[j]<kk a[m]) :
  a'.toList=a.toList.take sa++(seg a sa k++r++seg a (sa+na+q) (nb - q))++a.toList.drop (sa+na+nb)/\(seg a sa k++r++seg a (sa+na+q) (nb - q)).Perm (seg a sa (na+nb))/\Srt kk (seg a sa k++r++seg a (sa+na+q) (nb - q)):=by
 have hs1:sa+na<=a.size:=by omega
 have e1:=cp a sa na k hk
 have e2:=cp a (sa+na) nb q hq
 refine⟨?_,?_,?_⟩
 ·rw[e,List.take_add]
  have:a.toList.drop (sa+na+q)=seg a (sa+na+q) (nb - q)++a.toList.drop (sa+na+nb):=by
   unfold seg
   have:=(List.take_append_drop (nb - q) (a.toList.drop (sa+na+q))).symm
   rwa [List.drop_drop,show sa+na+q+(nb - q)=sa+na+nb by omega] at this
  rw[this]
  unfold seg
  simp[List.append_assoc]
 ·have e3:seg a sa (na+nb)=seg a sa na++seg a (sa+na) nb:=by
   have:=cp a sa (na+nb) na (by omega)
   rwa [show na+nb - na=nb by omega] at this
  rw[e3,e1,e2]
  have:=(hr.append_left (seg a sa k)).append_right (seg a (sa+na+q) (nb - q))
  simpa [List.append_assoc] using this
 ·have S1:=s1
  rw[e1] at S1
  have S2:=s2
  rw[e2] at S2
  unfold Srt at S1 S2
  rw[List.pairwise_append] at S1 S2
  refine List.pairwise_append.mpr ⟨List.pairwise_append.mpr ⟨S1.1,sr,fun x hx y hy=>?_⟩,S2.2.1,fun x hx y hy=>?_⟩
  ·rcases List.mem_append.mp (hr.mem_iff.mp hy) with hy | hy
   ·exact S1.2.2 x hx y hy
   ·obtain⟨j,hj,j1,j2,rfl⟩:=cX (by omega) hx
    obtain⟨m,hm,m1,m2,rfl⟩:=cX (by omega) hy
    exact o3 j hj j1 j2 m hm m1 (by omega)
  ·obtain⟨m,hm,m1,m2,rfl⟩:=cX (by omega) hy
   rcases List.mem_append.mp hx with hx | hx
   ·obtain⟨j,hj,j1,j2,rfl⟩:=cX (by omega) hx
    exact o4 j hj j1 (by omega) m hm (by omega) (by omega)
   ·rcases List.mem_append.mp (hr.mem_iff.mp hx) with hx | hx
    ·obtain⟨j,hj,j1,j2,rfl⟩:=cX (by omega) hx
     exact o4 j hj (by omega) (by omega) m hm (by omega) (by omega)
    ·exact S2.2.2 _ hx _ hy
theorem wW {i sa na pw nb pw2:Nat} {st:SortSt} {Q:Bool->SortSt->Prop} (c:Cmp prog w A s κ P kk) (hk:kindOf st=κ) (hf:failedOf st=none) (hp:∀x∈arrOf st,P x) (nd:((arrOf st).toList.map kk).Nodup)
  (p1:(pendingOf st)[i]?=some (sa,na,pw)) (p2:(pendingOf st)[i+1]?=some (sa+na,nb,pw2)) (h1:1<=na) (h2:1<=nb) (hn:sa+na+nb<=(arrOf st).size) (s1:Srt kk (seg (arrOf st) sa na)) (s2:Srt kk (seg (arrOf st) (sa+na) nb))
  (h:∀(st':SortSt) (M:List Keyed),kindOf st'=κ->failedOf st'=none->pendingOf st'=((pendingOf st).setIfInBounds i (sa,na+nb,pw)).eraseIdxIfInBounds (i+1)->(arrOf st').toList=(arrOf st).toList.take sa++M++(arrOf st).toList.drop (sa+na+nb)->M.Perm (seg (arrOf st) sa (na+nb))->Srt kk M->Q true st'):Gv prog w A E s (mergeAt' i) st Q:=by
 obtain⟨kd,a,pd,mg,fl⟩:=st
 with_unfolding_all refine Gv.bind (Gv.get ?_)
 dsimp only
 rw[show pd[i]?=_ from p1,show pd[i+1]?=_ from p2]
 dsimp only
 replace hp:∀x∈a,P x:=hp
 replace nd:(a.toList.map kk).Nodup:=nd
 replace hn:sa+na+nb<=a.size:=hn
 replace s1:Srt kk (seg a sa na):=s1
 replace s2:Srt kk (seg a (sa+na) nb):=s2
 replace h:∀(st':SortSt) (M:List Keyed),kindOf st'=κ->failedOf st'=none->pendingOf st'=(pd.setIfInBounds i (sa,na+nb,pw)).eraseIdxIfInBounds (i+1)->(arrOf st').toList=a.toList.take sa++M++a.toList.drop (sa+na+nb)->M.Perm (seg a sa (na+nb))->Srt kk M->Q true st':=h
 refine Gv.bind (Gv.KU fun st1 f1=>?_)
 have k1:kindOf st1=κ:=by rw[f1];exact hk
 have fl1:failedOf st1=none:=by rw[f1];exact hf
 have a1:arrOf st1=a:=by rw[f1]
 have pd1:pendingOf st1=(pd.setIfInBounds i (sa,na+nb,pw)).eraseIdxIfInBounds (i+1):=by rw[f1]
 clear f1
 have hsb:sa+na<a.size:=by omega
 have hs1:sa+na<=a.size:=by omega
 have o1:∀{j m:Nat} (hm:m<a.size),sa<=j->(hjm:j<m)->m<sa+na->kk (a[j]'(by omega))<kk a[m]:=fun hm h1 h2 h3=>kK hs1 s1 h1 h2 h3
 have o2:∀{j m:Nat} (hm:m<a.size),sa+na<=j->(hjm:j<m)->m<sa+na+nb->kk (a[j]'(by omega))<kk a[m]:=fun hm h1 h2 h3=>kK hn s2 h1 h2 h3
 refine Gv.bind (Gv.elem (get_some hsb) ?_)
 refine Gv.bind (t9 c hp (hp _ (Array.getElem_mem hsb)) k1 hs1 (by omega) (fun j m hm h1 h2 h3=>o1 hm h1 h2 h3) (fun j hj h1 h2=>qM nd hj hsb (by omega)) (fun k hk1 e1 e2=>?_))
 have O3:∀j,(hj:j<a.size)->sa<=j->j<sa+k->∀m,(hm:m<a.size)->sa+na<=m->m<sa+na+nb->kk a[j]<kk a[m]:=fun j hj h1 h2 m hm h3 h4=>by
  have x1:=e1 j hj h1 h2
  rcases Nat.lt_or_eq_of_le h3 with z | z
  ·have:=o2 hm (Nat.le_refl _) z h4;omega
  ·subst z;exact x1
 dsimp only
 refine bo (fun e=>?_) (fun ne1=>?_)
 ·have e':na - k=0:=by simpa using e
  have ek:k=na:=by omega
  subst ek
  have pb:=pO (a:=a) (a':=arrOf st1) (sa:=sa) (na:=k) (nb:=nb) (k:=k) (q:=nb) (r:=seg a (sa+k) nb) (Nat.le_refl _) (Nat.le_refl _) hn (by unfold seg;simp) s2 (by rw[a1];exact fD a (sa+k) nb) s1 s2 O3 (fun j hj h1 h2 m hm h3 h4=>by omega)
  exact Gv.pure (h st1 _ k1 fl1 pd1 pb.1 pb.2.1 pb.2.2)
 have ne1':¬ na - k=0:=by simpa using ne1
 have hx:sa+na - 1<a.size:=by omega
 refine Gv.bind (Gv.elem (get_eq hx (by omega)) ?_)
 refine Gv.bind (tX c hp (hp _ (Array.getElem_mem hx)) k1 hn (by omega) (fun j m hm h1 h2 h3=>o2 hm h1 h2 h3) (fun q hq1 f1 f2=>?_))
 have O4:∀j,(hj:j<a.size)->sa<=j->j<sa+na->∀m,(hm:m<a.size)->sa+na+q<=m->m<sa+na+nb->kk a[j]<kk a[m]:=fun j hj h1 h2 m hm h3 h4=>by
  have x1:=f2 m hm h3 h4
  have x2:=qM nd hm hx (by omega)
  rcases Nat.lt_or_eq_of_le (show j<=sa+na - 1 by omega) with z | z
  ·have:=o1 hx h1 z (by omega);omega
  ·subst z;omega
 dsimp only
 refine bo (fun e=>?_) (fun ne2=>?_)
 ·have e':q=0:=by simpa using e
  subst e'
  have pb:=pO (a:=a) (a':=arrOf st1) (sa:=sa) (na:=na) (nb:=nb) (k:=k) (q:=0) (r:=seg a (sa+k) (na - k)) hk1 (Nat.zero_le _) hn (by unfold seg;simp) (by have:=s1;rw[cp a sa na k hk1] at this;exact(List.pairwise_append.mp this).2.1) (by rw[a1,Nat.add_zero];have:=fD a (sa+k) (na - k);rwa [show sa+k+(na - k)=sa+na by omega] at this) s1 s2 O3 O4
  exact Gv.pure (h st1 _ k1 fl1 pd1 pb.1 pb.2.1 pb.2.2)
 have ne2':¬ q=0:=by simpa using ne2
 -- the merge
 have xl:(a.extract (sa+k) (sa+na)).toList=seg a (sa+k) (na - k):=by rw[xG,show sa+na - (sa+k)=na - k by omega]
 have yl:(a.extract (sa+na) (sa+na+q)).toList=seg a (sa+na) q:=by rw[xG,show sa+na+q - (sa+na)=q by omega]
 have xs:(a.extract (sa+k) (sa+na)).size=na - k:=by simp;omega
 have ys:(a.extract (sa+na) (sa+na+q)).size=q:=by simp;omega
 have xg:∀j,(hj:j<na - k)->(a.extract (sa+k) (sa+na))[j]'(by rw[xs];exact hj)=a[sa+k+j]'(by omega):=fun j hj=>by rw[Array.getElem_extract]
 have yg:∀j,(hj:j<q)->(a.extract (sa+na) (sa+na+q))[j]'(by rw[ys];exact hj)=a[sa+na+j]'(by omega):=fun j hj=>by rw[Array.getElem_extract]
 have tw:Two P kk (a.extract (sa+k) (sa+na)) (a.extract (sa+na) (sa+na+q)):=by
  refine⟨fun x hx=>hp x ?_,fun x hx=>hp x ?_,?_,?_,?_⟩
  ·have hx':x∈(a.extract (sa+k) (sa+na)).toList:=Array.mem_toList_iff.mpr hx
   rw[xl] at hx';exact xH hx'
  ·have hx':x∈(a.extract (sa+na) (sa+na+q)).toList:=Array.mem_toList_iff.mpr hx
   rw[yl] at hx';exact xH hx'
  ·rw[xl];have:=s1;rw[cp a sa na k hk1] at this;exact(List.pairwise_append.mp this).2.1
  ·rw[yl];have:=s2;rw[cp a (sa+na) nb q hq1] at this;exact(List.pairwise_append.mp this).1
  ·intro x hx y hy
   rw[xl] at hx
   rw[yl] at hy
   obtain⟨j,hj,j1,j2,rfl⟩:=cX (by omega) hx
   obtain⟨m,hm,m1,m2,rfl⟩:=cX (by omega) hy
   exact qM nd hj hm (by omega)
 have fin:∀(r:Array Keyed) (st2:SortSt),gQ kk (a.extract (sa+k) (sa+na)) (a.extract (sa+na) (sa+na+q)) r->dP st1 st2->∀st3:SortSt,kindOf st3=kindOf st2->failedOf st3=failedOf st2->pendingOf st3=pendingOf st2->arrOf st3=r.toList.zipIdx.foldl (fun a pj=>a.setIfInBounds (sa+k+pj.2) pj.1) (arrOf st2)->Q true st3:=by
  intro r st2 fr sm st3 g1 g2 g3 g4
  obtain⟨pr,sr⟩:=fr
  rw[xl,yl] at pr
  have hrl:r.toList.length=na - k+q:=by rw[pr.length_eq,List.length_append,cI (by omega),cI (by omega)]
  have ea:(arrOf st3).toList=a.toList.take (sa+k)++r.toList++a.toList.drop (sa+na+q):=by
   rw[g4,sm.arr,a1]
   have e0:=fD a (sa+k) (na - k+q)
   rw[show sa+k+(na - k+q)=sa+na+q by omega] at e0
   exact uf r.toList (seg a (sa+k) (na - k+q)) (a.toList.take (sa+k)) (a.toList.drop (sa+na+q)) a 0 (sa+k) e0 (by rw[cI (by omega),hrl]) (by rw[List.length_take,Array.length_toList];omega)
  have pb:=pO hk1 hq1 hn pr sr ea s1 s2 O3 O4
  exact h st3 _ (g1.trans (sm.kind.trans k1)) (g2.trans (sm.fail.trans fl1)) (g3.trans (sm.pend.trans pd1)) pb.1 pb.2.1 pb.2.2
 have lo0:kk ((a.extract (sa+na) (sa+na+q))[0]'(by omega))<kk ((a.extract (sa+k) (sa+na))[0]'(by omega)):=by
  rw[xg 0 (by omega),yg 0 (by omega)]
  exact e2 (sa+k) (by omega) (by omega) (by omega)
 have allY:∀y∈(a.extract (sa+na) (sa+na+q)).toList,kk y<kk ((a.extract (sa+k) (sa+na))[(a.extract (sa+k) (sa+na)).size - 1]'(by omega)):=by
  intro y hy
  rw[yl] at hy
  obtain⟨m,hm,m1,m2,rfl⟩:=cX (by omega) hy
  have:(a.extract (sa+k) (sa+na))[(a.extract (sa+k) (sa+na)).size - 1]'(by omega)=a[sa+na - 1]:=by
   rw[xg _ (by omega)]
   congr 1
   omega
  rw[this]
  exact f1 m hm m1 m2
 refine bo (fun _=>?_) (fun _=>?_)
 ·refine Gv.bind (v8 c tw k1 (by omega) (by omega) lo0 allY (fun r st2 fr sm=>?_))
  refine Gv.bind (Gv.qt fun st3 g=>?_)
  refine Gv.bind (Gv.get ?_)
  have g2:failedOf st3=failedOf st2:=by rw[g]
  have g3:(failedOf st3).isNone=true:=by rw[g2.trans (sm.fail.trans fl1)];rfl
  refine Gv.pure ?_
  show Q (failedOf st3).isNone st3
  rw[g3]
  exact fin r st2 fr sm st3 (by rw[g]) g2 (by rw[g]) (by rw[g])
 ·refine Gv.bind (vP c tw k1 (by omega) (by omega) (fun y hy=>?_) (allY _ (Array.mem_toList_iff.mpr (Array.getElem_mem _))) (fun r st2 fr sm=>?_))
  ·rw[xl] at hy
   obtain⟨m,hm,m1,m2,rfl⟩:=cX (by omega) hy
   rw[yg 0 (by omega)]
   exact e2 m hm (by omega) (by omega)
  refine Gv.bind (Gv.qt fun st3 g=>?_)
  refine Gv.bind (Gv.get ?_)
  have g2:failedOf st3=failedOf st2:=by rw[g]
  have g3:(failedOf st3).isNone=true:=by rw[g2.trans (sm.fail.trans fl1)];rfl
  refine Gv.pure ?_
  show Q (failedOf st3).isNone st3
  rw[g3]
  exact fin r st2 fr sm st3 (by rw[g]) g2 (by rw[g]) (by rw[g])
end
section
variable {kk:Keyed->Int} {a:Array Keyed}
theorem jh {lo n i:Nat}:(seg a lo n)[i]?=if i<n then a[lo+i]? else none:=by
 unfold seg
 rw[List.getElem?_take,List.getElem?_drop]
 split
 ·rw[Array.getElem?_toList]
 ·rfl
theorem u3 {i j:Nat} (hij:i<=j) (hj:j<=a.size):(mirror a i j ((j - i) / 2)).toList=a.toList.take i++(seg a i (j - i)).reverse++a.toList.drop j:=by
 have hsl:(seg a i (j - i)).length=j - i:=cI (by omega)
 apply List.ext_getElem?
 intro k
 rw[Array.getElem?_toList,getElem?_mirror_all hj]
 have l1:(a.toList.take i).length=i:=by rw[List.length_take,Array.length_toList];omega
 have l2:(a.toList.take i++(seg a i (j - i)).reverse).length=j:=by rw[List.length_append,l1,List.length_reverse,hsl];omega
 by_cases h1:k<i
 ·rw[if_neg (by omega),List.getElem?_append_left (by rw[l2];omega),List.getElem?_append_left (by rw[l1];exact h1),List.getElem?_take,if_pos h1,Array.getElem?_toList]
 ·by_cases h2:k<j
  ·rw[if_pos ⟨by omega,h2⟩,List.getElem?_append_left (by rw[l2];omega),List.getElem?_append_right (by rw[l1];omega),l1,List.getElem?_reverse (by rw[hsl];omega),hsl,jh,if_pos (by omega)]
   congr 1
   omega
  ·rw[if_neg (by omega),List.getElem?_append_right (by rw[l2];omega),l2,List.getElem?_drop,Array.getElem?_toList]
   congr 1
   omega
theorem vc {src dst:Nat} (hd:dst<=src) (hs:src<a.size):(bubble a src (src - dst)).toList=a.toList.take dst++(a[src]::seg a dst (src - dst))++a.toList.drop (src+1):=by
 have hsl:(seg a dst (src - dst)).length=src - dst:=cI (by omega)
 apply List.ext_getElem?
 intro k
 rw[Array.getElem?_toList,getElem?_bubble hs _ (by omega),show src - (src - dst)=dst by omega]
 have l1:(a.toList.take dst).length=dst:=by rw[List.length_take,Array.length_toList];omega
 have l2:(a.toList.take dst++(a[src]::seg a dst (src - dst))).length=src+1:=by rw[List.length_append,l1,List.length_cons,hsl];omega
 by_cases h0:k<dst
 ·rw[if_neg (by omega),if_neg (by omega),List.getElem?_append_left (by rw[l2];omega),List.getElem?_append_left (by rw[l1];exact h0),List.getElem?_take,if_pos h0,Array.getElem?_toList]
 ·by_cases h1:k=dst
  ·subst h1
   rw[if_pos rfl,List.getElem?_append_left (by rw[l2];omega),List.getElem?_append_right (by rw[l1];omega),l1,Nat.sub_self,List.getElem?_cons_zero]
   simp[hs]
  ·by_cases h2:k<=src
   ·rw[if_neg h1,if_pos ⟨by omega,h2⟩,List.getElem?_append_left (by rw[l2];omega),List.getElem?_append_right (by rw[l1];omega),l1]
    obtain⟨e,he⟩:∃e,k - dst=e+1:=⟨k - dst - 1,by omega⟩
    rw[he,List.getElem?_cons_succ,jh,if_pos (by omega)]
    congr 1
    omega
   ·rw[if_neg h1,if_neg (by omega),List.getElem?_append_right (by rw[l2];omega),l2,List.getElem?_drop,Array.getElem?_toList]
    congr 1
    omega
theorem jz {lo n:Nat} (h:lo+n<a.size):seg a lo (n+1)=seg a lo n++[a[lo+n]]:=by
 rw[cp a lo (n+1) n (by omega)]
 congr 1
 rw[show n+1 - n=1 by omega]
 apply List.ext_getElem?
 intro k
 rw[jh]
 cases k with
 | zero=>simp[h]
 | succ k=>simp
theorem yp {x:Keyed}:Srt kk [x]:=List.pairwise_singleton _ _
theorem E5 {lo:Nat} (h:lo<a.size):Srt kk (seg a lo 1):=by
 have:=jz (n:=0) (show lo+0<a.size by omega)
 rw[this]
 have e:seg a lo 0=[]:=by unfold seg;simp
 rw[e];exact yp
theorem E2 {lo n:Nat} (s:Srt kk (seg a lo n)) (h1:1<=n) (h:lo+n<a.size) (lt:kk a[lo+n - 1]<kk a[lo+n]):Srt kk (seg a lo (n+1)):=by
 rw[jz h]
 refine List.pairwise_append.mpr ⟨s,yp,fun x hx y hy=>?_⟩
 rw[List.mem_singleton] at hy;subst hy
 obtain⟨j,hj,j1,j2,rfl⟩:=cX (by omega) hx
 rcases Nat.lt_or_eq_of_le (show j<=lo+n - 1 by omega) with z | z
 ·have:=kK (by omega) s j1 z (by omega);omega
 ·subst z;exact lt
noncomputable def Dsc (kk:Keyed->Int) (l:List Keyed):Prop:=l.Pairwise fun x y=>kk y<kk x
theorem yz {lo n:Nat} (s:Dsc kk (seg a lo n)) (h1:1<=n) (h:lo+n<a.size) (lt:kk a[lo+n]<kk a[lo+n - 1]):Dsc kk (seg a lo (n+1)):=by
 rw[jz h]
 refine List.pairwise_append.mpr ⟨s,List.pairwise_singleton _ _,fun x hx y hy=>?_⟩
 rw[List.mem_singleton] at hy;subst hy
 obtain⟨j,hj,j1,j2,rfl⟩:=cX (by omega) hx
 rcases Nat.lt_or_eq_of_le (show j<=lo+n - 1 by omega) with z | z
 ·have hl:(seg a lo n).length=n:=cI (by omega)
  have:=List.pairwise_iff_getElem.mp s (j - lo) (n - 1) (by omega) (by omega) (by omega)
  rw[kM (by omega) (by omega),kM (by omega) (by omega)] at this
  have t:kk a[lo+n - 1]<kk a[j]:=by simpa [show lo+(j - lo)=j by omega,show lo+(n - 1)=lo+n - 1 by omega] using this
  omega
 ·subst z;exact lt
structure Prt (a a':Array Keyed) (lo n:Nat) (S:List Keyed):Prop where
 eq:a'.toList=a.toList.take lo++S++a.toList.drop (lo+n)
 perm:S.Perm (seg a lo n)
theorem Prt.all {a':Array Keyed} {lo n:Nat} {S:List Keyed} (p:Prt a a' lo n S):a'.toList.Perm a.toList:=by
 rw[p.eq]
 conv=>rhs;rw[fD a lo n]
 exact(p.perm.append_left _).append_right _
theorem Prt.size {a':Array Keyed} {lo n:Nat} {S:List Keyed} (p:Prt a a' lo n S):a'.size=a.size:=by
 have:=p.all.length_eq;simpa using this
theorem Prt.P {a':Array Keyed} {lo n:Nat} {S:List Keyed} {P:Keyed->Prop} (p:Prt a a' lo n S) (h:∀x∈a,P x):∀x∈a',P x:=fun x hx=>h x (by
 have:=p.all.mem_iff.mp (Array.mem_toList_iff.mpr hx);exact Array.mem_toList_iff.mp this)
theorem Prt.nd {a':Array Keyed} {lo n:Nat} {S:List Keyed} (p:Prt a a' lo n S) (h:(a.toList.map kk).Nodup):(a'.toList.map kk).Nodup:=((p.all.map kk).nodup_iff).mpr h
theorem Prt.seg {a':Array Keyed} {lo n:Nat} {S:List Keyed} (p:Prt a a' lo n S) (h:lo+n<=a.size):seg a' lo n=S:=by
 have hS:S.length=n:=by rw[p.perm.length_eq,cI h]
 unfold L2.SM.seg
 rw[p.eq,List.append_assoc,List.drop_append_of_le_length (by rw[List.length_take,Array.length_toList];omega),List.drop_of_length_le (by rw[List.length_take];omega),List.nil_append,List.take_append_of_le_length (by omega),List.take_of_length_le (by omega)]
theorem Prt.before {a':Array Keyed} {lo n:Nat} {S:List Keyed} (p:Prt a a' lo n S) (h:lo+n<=a.size) {i k:Nat} (hk:i+k<=lo):L2.SM.seg a' i k=L2.SM.seg a i k:=by
 apply List.ext_getElem?
 intro q
 rw[jh,jh]
 split
 ·rename_i hq
  rw[<- Array.getElem?_toList,<- Array.getElem?_toList,p.eq,List.append_assoc,List.getElem?_append_left (by rw[List.length_take,Array.length_toList];omega),List.getElem?_take,if_pos (by omega)]
 ·rfl
theorem Prt.refl {lo n:Nat}:Prt a a lo n (L2.SM.seg a lo n):=⟨fD a lo n,.refl _⟩
end
section
variable {prog:Program} {w:World} {A:Around} {E:Value->Shared->Prop} {s:Shared} {κ:SortKind} {P:Keyed->Prop} {kk:Keyed->Int}
theorem uq {β:Type} {f:Nat->β->StateT SortSt Sem (ForInStep β)} (I:Nat->β->SortSt->Prop) (D:β->SortSt->Prop) (hi:Nat)
  (step:∀x b st,x<hi->I x b st->Gv prog w A E s (f x b) st fun r st'=>match r with | .done b'=>D b' st' | .yield b'=>I (x+1) b' st')
  (fin:∀b st,I hi b st->D b st):∀(n lo:Nat) (b:β) (st:SortSt),lo+n=hi->I lo b st->Gv prog w A E s (forIn (List.range' lo n) b f) st D
 | 0,lo,b,st,e,h=>kasC_nil ⟨rfl,fin b st ((show lo=hi by omega) ▸ h)⟩
 | n+1,lo,b,st,e,h=>by
  have ih:=uq I D hi step fin n (lo+1)
  rw[List.range'_succ]
  refine kasC_cons (wpAny_mono (step lo b st (by omega) h) (fun r s' h'=>?_) fun _ _ e=>e)
  obtain⟨e',h'⟩:=h'
  subst e'
  revert h'
  cases r.1 with
  | done b'=>intro h';exact⟨rfl,h'⟩
  | yield b'=>intro h';exact ih b' r.2 (by omega) h'
theorem Gv.w_ {β:Type} {a b:Nat} {c:β} {f:Nat->β->StateT SortSt Sem (ForInStep β)} {Q:β->SortSt->Prop} {st:SortSt} (I:Nat->β->SortSt->Prop) (hab:a<=b) (h0:I a c st)
  (step:∀x z st,x<b->I x z st->Gv prog w A E s (f x z) st fun r st'=>match r with | .done b'=>Q b' st' | .yield b'=>I (x+1) b' st')
  (fin:∀z st,I b z st->Q z st):Gv prog w A E s (forIn [a:b] c f) st Q:=
 kasC_range (uq I Q b step fin (b - a) a c st (by omega) h0)
structure Ok (κ:SortKind) (P:Keyed->Prop) (kk:Keyed->Int) (st:SortSt):Prop where
 kind:kindOf st=κ
 fail:failedOf st=none
 all:∀x∈arrOf st,P x
 nd:((arrOf st).toList.map kk).Nodup
theorem Gv.ltAt {i j:Nat} {st:SortSt} {Q:Option Bool->SortSt->Prop} (c:Cmp prog w A s κ P kk) (o:Ok κ P kk st) (hi:i<(arrOf st).size) (hj:j<(arrOf st).size) (h:Q (some (decide (kk (arrOf st)[i]<kk (arrOf st)[j]))) st):Gv prog w A E s (ltAt' i j) st Q:=by
 rw[ltAt'_eq]
 refine Gv.bind (Gv.get ?_)
 refine Gv.bind (Gv.elem (get_some hi) ?_)
 refine Gv.bind (Gv.elem (get_some hj) ?_)
 exact Gv.ltC c (o.all _ (Array.getElem_mem hi)) (o.all _ (Array.getElem_mem hj)) o.kind h
structure Arr (st st':SortSt) (a':Array Keyed):Prop where
 kind:kindOf st'=kindOf st
 fail:failedOf st'=failedOf st
 pend:pendingOf st'=pendingOf st
 arr:arrOf st'=a'
theorem Arr.refl {st:SortSt}:Arr st st (arrOf st):=⟨rfl,rfl,rfl,rfl⟩
theorem Arr.ok {st st':SortSt} {a':Array Keyed} {lo n:Nat} {S:List Keyed} (o:Ok κ P kk st) (r:Arr st st' a') (p:Prt (arrOf st) a' lo n S):Ok κ P kk st':=⟨r.kind.trans o.kind,r.fail.trans o.fail,by rw[r.arr];exact p.P o.all,by rw[r.arr];exact p.nd o.nd⟩
theorem ur {lo nrem n0:Nat} {st:SortSt} {f:Nat->Option (Option Nat) × Nat->StateT SortSt Sem (ForInStep (Option (Option Nat) × Nat))} {R:Option (Option Nat) × Nat->SortSt->Prop} (hn:lo+nrem<=(arrOf st).size) (nd:((arrOf st).toList.map kk).Nodup) (h1:1<=n0) (h2:n0<=nrem) (s0:Srt kk (seg (arrOf st) lo n0))
  (hf:∀x n T,1<=n->(hl:lo+n<(arrOf st).size)->T (if kk (arrOf st)[lo+n]<kk ((arrOf st)[lo+n - 1]'(by omega)) then .done (none,n) else .yield (none,n+1)) st->Gv prog w A E s (f x (none,n)) st T)
  (hR:∀n,n0<=n->n<=nrem->Srt kk (seg (arrOf st) lo n)->(n<nrem->∀hl:lo+n<(arrOf st).size,kk (arrOf st)[lo+n]<kk ((arrOf st)[lo+n - 1]'(by omega)))->R (none,n) st):Gv prog w A E s (forIn [n0:nrem] (none,n0) f) st R:=by
 refine Gv.w_ (fun x z st'=>st'=st/\z=(none,x)/\n0<=x/\Srt kk (seg (arrOf st) lo x)) h2 ⟨rfl,rfl,Nat.le_refl _,s0⟩ (fun x z st' hx hz=>?_) (fun z st' hz=>?_)
 ·obtain⟨rfl,rfl,g1,g2⟩:=hz
  have hl:lo+x<(arrOf st').size:=by omega
  refine hf x x _ (by omega) hl ?_
  by_cases lt:kk (arrOf st')[lo+x]<kk ((arrOf st')[lo+x - 1]'(by omega))
  ·rw[if_pos lt]
   exact hR x g1 (by omega) g2 fun _ _=>lt
  ·rw[if_neg lt]
   have ne:=qM nd hl (show lo+x - 1<(arrOf st').size by omega) (by omega)
   exact⟨rfl,rfl,by omega,E2 g2 (by omega) hl (by omega)⟩
 ·obtain⟨rfl,rfl,g1,g2⟩:=hz
  exact hR nrem g1 (Nat.le_refl _) g2 fun h=>absurd h (Nat.lt_irrefl _)
theorem uK {lo nrem:Nat} {st:SortSt} {Q:Option Nat->SortSt->Prop} (c:Cmp prog w A s κ P kk) (o:Ok κ P kk st) (hn:lo+nrem<=(arrOf st).size) (h1:1<=nrem)
  (h:∀n a' st' S,1<=n->n<=nrem->Arr st st' a'->Prt (arrOf st) a' lo n S->Srt kk S->Q (some n) st'):Gv prog w A E s (countRun' lo nrem) st Q:=by
 have F:∀(st:SortSt),Ok κ P kk st->lo+nrem<=(arrOf st).size->∀n,1<=n->lo+n<(arrOf st).size->∀{T:Option Bool->SortSt->Prop},(∀(hl:lo+n<(arrOf st).size),T (some (decide (kk (arrOf st)[lo+n]<kk ((arrOf st)[lo+n - 1]'(by omega))))) st)->Gv prog w A E s (ltAt' (lo+n) (lo+n - 1)) st T:=fun st o hn n h1 hl T hT=>Gv.ltAt c o hl (by omega) (hT hl)
 with_unfolding_all refine Gv.bind ?_
 dsimp only
 refine ur hn o.nd (Nat.le_refl _) h1 (E5 (by omega)) (fun x n T g1 hl hT=>?_) (fun n g1 g2 g3 g4=>?_)
 ·refine Gv.bind (F st o hn n g1 hl fun hl=>?_)
  dsimp only
  by_cases lt:kk (arrOf st)[lo+n]<kk ((arrOf st)[lo+n - 1]'(by omega))
  ·rw[decide_eq_true lt,if_pos rfl];rw[if_pos lt] at hT;exact Gv.pure hT
  ·rw[decide_eq_false lt,if_neg (by decide)];rw[if_neg lt] at hT;exact Gv.pure hT
 dsimp only
 refine bo (fun e=>?_) (fun e=>?_)
 ·exact Gv.pure (h n _ st _ g1 g2 Arr.refl Prt.refl g3)
 have e':¬ n=nrem:=by simpa using e
 refine bo (fun e2=>?_) (fun e2=>?_)
 ·-- it rose
  refine Gv.bind (Gv.ltAt c o (show lo<(arrOf st).size by omega) (show lo+n - 1<(arrOf st).size by omega) ?_)
  have lt:kk (arrOf st)[lo]<kk (arrOf st)[lo+n - 1]:=kK (by omega) g3 (Nat.le_refl _) (by omega) (by omega)
  rw[decide_eq_true lt]
  dsimp only
  rw[if_pos rfl]
  exact Gv.pure (h n _ st _ g1 g2 Arr.refl Prt.refl g3)
 -- it falls
 have n1:n=1:=by omega
 subst n1
 refine Gv.bind (Gv.rule ?_)
 have d2:Dsc kk (seg (arrOf st) lo 2):=by
  have l:=g4 (by omega) (by omega)
  refine yz (n:=1) ?_ (Nat.le_refl _) (by omega) l
  rw[jz (n:=0) (by omega)]
  have e0:seg (arrOf st) lo 0=[]:=by unfold seg;simp
  rw[e0];exact List.pairwise_singleton _ _
 refine Gv.bind (Gv.mono (Q:=fun z st'=>st'=st/\∃m,z=(none,m,0)/\2<=m/\m<=nrem/\Dsc kk (seg (arrOf st) lo m)) (Gv.w_ (fun x z st'=>st'=st/\z=(none,x,0)/\2<=x/\Dsc kk (seg (arrOf st) lo x)) (by omega) ⟨rfl,rfl,by omega,d2⟩ (fun x z st' hx hz=>?_) (fun z st' hz=>?_)) (fun z st' hz=>?_))
 ·obtain⟨rfl,rfl,q1,q2⟩:=hz
  have hl:lo+x<(arrOf st').size:=by omega
  refine Gv.bind (F st' o hn x (by omega) hl fun hl=>?_)
  dsimp only
  by_cases lt:kk (arrOf st')[lo+x]<kk ((arrOf st')[lo+x - 1]'(by omega))
  ·rw[decide_eq_true lt,if_pos rfl,if_neg (by omega)]
   exact Gv.pure ⟨rfl,rfl,by omega,yz q2 (by omega) hl lt⟩
  ·rw[decide_eq_false lt,if_neg (by decide)]
   have ne:=qM o.nd hl (show lo+x - 1<(arrOf st').size by omega) (by omega)
   have gt:kk ((arrOf st')[lo+x - 1]'(by omega))<kk (arrOf st')[lo+x]:=by omega
   refine Gv.bind (Gv.ltAt c o (show lo+x - 1<(arrOf st').size by omega) hl ?_)
   rw[decide_eq_true gt]
   dsimp only
   rw[if_pos rfl]
   exact Gv.pure ⟨rfl,x,rfl,q1,by omega,q2⟩
 ·obtain⟨rfl,rfl,q1,q2⟩:=hz
  exact⟨rfl,nrem,rfl,q1,Nat.le_refl _,q2⟩
 ·obtain⟨rfl,m,rfl,q1,q2,q3⟩:=hz
  dsimp only
  rw[if_neg (by omega)]
  have pr:Prt (arrOf st') (mirror (arrOf st') lo (lo+m) ((lo+m - lo) / 2)) lo m (seg (arrOf st') lo m).reverse:=by
   refine⟨?_,List.reverse_perm _⟩
   have:=u3 (a:=arrOf st') (show lo<=lo+m by omega) (by omega)
   rwa [show lo+m - lo=m by omega] at this ⊢
  have sr:Srt kk (seg (arrOf st') lo m).reverse:=by unfold Srt;rw[List.pairwise_reverse];exact q3
  with_unfolding_all refine Gv.bind (Gv.qt fun st2 g=>?_)
  have r2:Arr st' st2 (mirror (arrOf st') lo (lo+m) ((lo+m - lo) / 2)):=⟨by rw[g],by rw[g],by rw[g],by rw[g];rfl⟩
  clear g
  have o2:=r2.ok o pr
  have hs2:(arrOf st2).size=(arrOf st').size:=by rw[r2.arr];exact pr.size
  have sg:seg (arrOf st2) lo m=(seg (arrOf st') lo m).reverse:=by rw[r2.arr];exact pr.seg (by omega)
  refine Gv.bind ?_
  refine ur (st:=st2) (lo:=lo) (n0:=m) (by omega) o2.nd (by omega) q2 (by rw[sg];exact sr) (fun x n T z1 hl hT=>?_) (fun n z1 z2 z3 z4=>?_)
  ·refine Gv.bind (F st2 o2 (by omega) n z1 hl fun hl=>?_)
   dsimp only
   by_cases lt:kk (arrOf st2)[lo+n]<kk ((arrOf st2)[lo+n - 1]'(by omega))
   ·rw[decide_eq_true lt,if_pos rfl];rw[if_pos lt] at hT;exact Gv.pure hT
   ·rw[decide_eq_false lt,if_neg (by decide)];rw[if_neg lt] at hT;exact Gv.pure hT
  ·dsimp only
   refine Gv.pure (h n _ st2 (seg (arrOf st2) lo n) (by omega) z2 r2 ?_ z3)
   rw[r2.arr]
   -- the longer part
   refine⟨?_,?_⟩
   ·have e0:=fD (mirror (arrOf st') lo (lo+m) ((lo+m - lo) / 2)) lo n
    rw[e0]
    congr 1
    ·congr 1
     rw[pr.eq,List.append_assoc,List.take_append_of_le_length (by rw[List.length_take,Array.length_toList];omega),List.take_take,Nat.min_self]
    ·rw[pr.eq]
     have hl:(List.take lo (arrOf st').toList++(seg (arrOf st') lo m).reverse).length=lo+m:=by rw[List.length_append,List.length_take,Array.length_toList,List.length_reverse,cI (by omega)];omega
     rw[List.drop_append,List.drop_of_length_le (by omega),List.nil_append,hl,List.drop_drop]
     congr 1
     omega
   ·have sp1:=cp (mirror (arrOf st') lo (lo+m) ((lo+m - lo) / 2)) lo n m z1
    have sp2:=cp (arrOf st') lo n m z1
    have sg':seg (mirror (arrOf st') lo (lo+m) ((lo+m - lo) / 2)) lo m=(seg (arrOf st') lo m).reverse:=pr.seg (by omega)
    rw[sp1,sp2,sg']
    have tl:seg (mirror (arrOf st') lo (lo+m) ((lo+m - lo) / 2)) (lo+m) (n - m)=seg (arrOf st') (lo+m) (n - m):=by
     unfold seg
     congr 1
     rw[pr.eq]
     have hl:(List.take lo (arrOf st').toList++(L2.SM.seg (arrOf st') lo m).reverse).length=lo+m:=by rw[List.length_append,List.length_take,Array.length_toList,List.length_reverse,cI (by omega)];omega
     rw[<- hl,List.drop_left]
    rw[tl]
    exact(List.reverse_perm _).append_right _
end
section
variable {prog:Program} {w:World} {A:Around} {E:Value->Shared->Prop} {s:Shared} {κ:SortKind} {P:Keyed->Prop} {kk:Keyed->Int}
theorem Prt.head {a a':Array Keyed} {i m lo:Nat} {S:List Keyed} (p:Prt a a' i m S) (h1:lo<=i) (h3:i<=a.size):a'.toList.take lo=a.toList.take lo:=by
 rw[p.eq,List.append_assoc,List.take_append_of_le_length (by rw[List.length_take,Array.length_toList];omega),List.take_take,Nat.min_eq_left h1]
theorem Prt.tail {a a':Array Keyed} {i m hi:Nat} {S:List Keyed} (p:Prt a a' i m S) (h2:i+m<=hi) (h3:i+m<=a.size):a'.toList.drop hi=a.toList.drop hi:=by
 have hS:S.length=m:=by rw[p.perm.length_eq,cI h3]
 have hl:(List.take i a.toList++S).length=i+m:=by rw[List.length_append,List.length_take,Array.length_toList,hS];omega
 rw[p.eq,List.drop_append,List.drop_of_length_le (by omega),List.nil_append,hl,List.drop_drop]
 congr 1
 omega
theorem Prt.widen {a a':Array Keyed} {i m lo n:Nat} {S:List Keyed} (p:Prt a a' i m S) (h1:lo<=i) (h2:i+m<=lo+n) (h3:lo+n<=a.size):Prt a a' lo n (L2.SM.seg a' lo n):=by
 have tk:=p.head h1 (by omega)
 have dp:=p.tail h2 (by omega)
 refine⟨by rw[<- tk,<- dp];exact fD a' lo n,?_⟩
 have e:=p.all
 rw[fD a' lo n,fD a lo n,tk,dp,List.perm_append_right_iff,List.perm_append_left_iff] at e
 exact e
theorem Prt.trans {a a' a'':Array Keyed} {lo n:Nat} {S S':List Keyed} (p:Prt a a' lo n S) (q:Prt a' a'' lo n S') (h3:lo+n<=a.size):Prt a a'' lo n S':=by
 refine⟨?_,q.perm.trans (by rw[p.seg h3];exact p.perm)⟩
 rw[q.eq,p.head (Nat.le_refl _) (by omega),p.tail (Nat.le_refl _) h3]
theorem DS {a a'':Array Keyed} {lo k l:Nat} (hk:lo+k<a.size) (hl:l<=k) (sr:Srt kk (seg a lo k)) (lt:∀i,(hi:lo+i<a.size)->i<l->kk a[lo+i]<kk a[lo+k]) (gt:∀i,(hi:lo+i<a.size)->l<=i->i<k->kk a[lo+k]<kk a[lo+i])
  (p:Prt a a'' (lo+l) (k - l+1) (a[lo+k]::seg a (lo+l) (k - l))):Srt kk (seg a'' lo (k+1)):=by
 have e1:=cp a'' lo (k+1) l (by omega)
 have e2:seg a'' lo l=seg a lo l:=p.before (by omega) (by omega)
 have e3:=p.seg (by omega)
 rw[e1,e2,show k+1 - l=k - l+1 by omega,e3]
 have s1:=sr
 rw[cp a lo k l hl] at s1
 have s2:=List.pairwise_append.mp s1
 refine List.pairwise_append.mpr ⟨s2.1,List.pairwise_cons.mpr ⟨fun y hy=>?_,s2.2.1⟩,fun x hx y hy=>?_⟩
 ·obtain⟨m,hm,m1,m2,rfl⟩:=cX (by omega) hy
  have:=gt (m - lo) (by omega) (by omega) (by omega)
  simpa [show lo+(m - lo)=m by omega] using this
 ·rcases List.mem_cons.mp hy with rfl | hy
  ·obtain⟨m,hm,m1,m2,rfl⟩:=cX (by omega) hx
   have:=lt (m - lo) (by omega) (by omega)
   simpa [show lo+(m - lo)=m by omega] using this
  ·exact s2.2.2 x hx y hy
theorem p9 {lo n ok:Nat} {st:SortSt} {Q:Bool->SortSt->Prop} (c:Cmp prog w A s κ P kk) (o:Ok κ P kk st) (hn:lo+n<=(arrOf st).size) (h1:1<=ok) (h2:ok<=n) (s0:Srt kk (seg (arrOf st) lo ok))
  (h:∀a' st',Arr st st' a'->Prt (arrOf st) a' lo n (seg a' lo n)->Srt kk (seg a' lo n)->Q true st'):Gv prog w A E s (binarySort' lo n ok) st Q:=by
 with_unfolding_all refine Gv.bind ?_
 dsimp only
 refine Gv.mono (Q:=fun z st'=>z=(none,())/\∃a',Arr st st' a'/\Prt (arrOf st) a' lo n (seg a' lo n)/\Srt kk (seg a' lo n)) (Gv.w_ (fun x z st'=>z=(none,())/\∃a',Arr st st' a'/\Prt (arrOf st) a' lo n (seg a' lo n)/\Srt kk (seg a' lo x)/\1<=x) (by omega) ⟨rfl,_,Arr.refl,Prt.refl,by rw[Nat.max_eq_left h1];exact s0,by omega⟩ (fun k z st1 hk hz=>?_) (fun z st1 hz=>?_)) (fun z st1 hz=>?_)
 ·obtain⟨rfl,a1,r1,p1,g1,g2⟩:=hz
  have o1:=r1.ok o p1
  have hs1:(arrOf st1).size=(arrOf st).size:=by rw[r1.arr];exact p1.size
  have ha1:arrOf st1=a1:=r1.arr
  have hk1:lo+k<(arrOf st1).size:=by omega
  refine Gv.bind (Gv.mono (Q:=fun z st2=>st2=st1/\∃l r,z=(none,l,r)/\l<=k/\(∀i,(hi:lo+i<(arrOf st1).size)->i<l->kk (arrOf st1)[lo+i]<kk (arrOf st1)[lo+k])/\(∀i,(hi:lo+i<(arrOf st1).size)->l<=i->i<k->kk (arrOf st1)[lo+k]<kk (arrOf st1)[lo+i])) (Gv.range (fun m z st2=>st2=st1/\∃l r,z=(none,l,r)/\l<=r/\r<=k/\r - l<=m/\(∀i,(hi:lo+i<(arrOf st1).size)->i<l->kk (arrOf st1)[lo+i]<kk (arrOf st1)[lo+k])/\(∀i,(hi:lo+i<(arrOf st1).size)->r<=i->i<k->kk (arrOf st1)[lo+k]<kk (arrOf st1)[lo+i])) ⟨rfl,0,k,rfl,Nat.zero_le _,Nat.le_refl _,by omega,fun i hi z=>absurd z (Nat.not_lt_zero _),fun i hi z1 z2=>by omega⟩ (fun x m z st2 hz=>?_) (fun z st2 hz=>?_)) (fun z st2 hz=>?_))
  ·obtain⟨rfl,l,r,rfl,b1,b2,b3,b4,b5⟩:=hz
   dsimp only
   by_cases hl:l ≥ r
   ·rw[if_pos hl]
    have:l=r:=by omega
    subst this
    exact Gv.pure ⟨rfl,l,l,rfl,b2,b4,b5⟩
   ·rw[if_neg hl]
    have hm:lo+(l+r) / 2<(arrOf st2).size:=by omega
    have sr:∀{i j:Nat},(hij:i<j)->(hj:j<k)->kk ((arrOf st2)[lo+i]'(by omega))<kk ((arrOf st2)[lo+j]'(by omega)):=fun{i j} hij hj=>by
     have g1':Srt kk (seg (arrOf st2) lo k):=by rw[ha1];exact g1
     exact kK (by omega) g1' (by omega) (by omega) (by omega)
    refine Gv.bind (Gv.ltAt c o1 hk1 hm ?_)
    dsimp only
    by_cases lt:kk (arrOf st2)[lo+k]<kk (arrOf st2)[lo+(l+r) / 2]
    ·rw[decide_eq_true lt,if_pos rfl]
     refine Gv.pure ⟨rfl,l,(l+r) / 2,rfl,by omega,by omega,by omega,b4,fun i hi z1 z2=>?_⟩
     rcases Nat.lt_or_eq_of_le z1 with z | z
     ·have:=sr z z2;omega
     ·subst z;exact lt
    ·rw[decide_eq_false lt,if_neg (by decide)]
     have ne:=qM o1.nd hk1 hm (by omega)
     refine Gv.pure ⟨rfl,(l+r) / 2+1,r,rfl,by omega,by omega,by omega,fun i hi z1=>?_,b5⟩
     rcases Nat.lt_or_eq_of_le (show i<=(l+r) / 2 by omega) with z | z
     ·have:=sr z (show(l+r) / 2<k by omega);omega
     ·subst z;omega
  ·obtain⟨rfl,l,r,rfl,b1,b2,b3,b4,b5⟩:=hz
   have:l=r:=by omega
   subst this
   exact⟨rfl,l,l,rfl,b2,b4,b5⟩
  ·obtain⟨rfl,l,r,rfl,b2,b4,b5⟩:=hz
   dsimp only
   have bl:=vc (a:=arrOf st2) (show lo+l<=lo+k by omega) hk1
   rw[show lo+k - (lo+l)=k - l by omega] at bl
   have p2:Prt (arrOf st2) (bubble (arrOf st2) (lo+k) (lo+k - (lo+l))) (lo+l) (k - l+1) ((arrOf st2)[lo+k]::seg (arrOf st2) (lo+l) (k - l)):=by
    refine⟨?_,?_⟩
    ·rw[show lo+k - (lo+l)=k - l by omega,bl,show lo+l+(k - l+1)=lo+k+1 by omega]
    ·rw[jz (by omega)]
     simp only[show lo+l+(k - l)=lo+k by omega]
     exact(List.perm_append_singleton _ _).symm
   with_unfolding_all refine Gv.bind (Gv.qt fun st3 g=>?_)
   have r3:Arr st2 st3 (bubble (arrOf st2) (lo+k) (lo+k - (lo+l))):=⟨by rw[g],by rw[g],by rw[g],by rw[g];rfl⟩
   clear g
   have p3:=p2.widen (lo:=lo) (n:=n) (by omega) (by omega) (by omega)
   rw[ha1] at p3
   have p4:=p1.trans p3 hn
   rw[<- ha1] at p4
   refine Gv.pure ⟨rfl,_,⟨r3.kind.trans r1.kind,r3.fail.trans r1.fail,r3.pend.trans r1.pend,r3.arr⟩,p4,?_,by omega⟩
   exact DS hk1 b2 (by rw[ha1];exact g1) b4 b5 p2
 ·obtain⟨rfl,a1,r1,p1,g1,g2⟩:=hz
  exact⟨rfl,a1,r1,p1,g1⟩
 ·obtain⟨rfl,a1,r1,p1,g1⟩:=hz
  dsimp only
  exact Gv.pure (h a1 st1 r1 p1 g1)
end
section
variable {prog:Program} {w:World} {A:Around} {E:Value->Shared->Prop} {s:Shared} {κ:SortKind} {P:Keyed->Prop} {kk:Keyed->Int}
theorem Prt.after {a a':Array Keyed} {i m lo n:Nat} {S:List Keyed} (p:Prt a a' i m S) (h2:i+m<=lo) (h3:i+m<=a.size):L2.SM.seg a' lo n=L2.SM.seg a lo n:=by
 unfold L2.SM.seg
 rw[p.tail h2 h3]
noncomputable def Rn (kk:Keyed->Int) (a:Array Keyed):Nat->List (Nat × Nat × Nat)->Nat->Prop
 | s,[],lo=>s=lo
 | s,x::r,lo=>x.1=s/\1<=x.2.1/\Srt kk (seg a s x.2.1)/\Rn kk a (s+x.2.1) r lo
theorem Rn.le {a:Array Keyed}:∀{L:List (Nat × Nat × Nat)} {s lo:Nat},Rn kk a s L lo->s+L.length<=lo
 | [],s,lo,h=>by have:s=lo:=h;simp;omega
 | x::r,s,lo,h=>by have:=Rn.le h.2.2.2;have:=h.2.1;rw[List.length_cons];omega
theorem Rn.app {a:Array Keyed}:∀{X Y:List (Nat × Nat × Nat)} {s lo:Nat},Rn kk a s (X++Y) lo↔∃m,Rn kk a s X m/\Rn kk a m Y lo
 | [],Y,s,lo=>⟨fun h=>⟨s,rfl,h⟩,fun⟨m,h1,h2⟩=>by have:s=m:=h1;subst this;exact h2⟩
 | x::X,Y,s,lo=>by
  constructor
  ·intro h
   obtain⟨m,h1,h2⟩:=Rn.app.mp h.2.2.2
   exact⟨m,⟨h.1,h.2.1,h.2.2.1,h1⟩,h2⟩
  ·intro⟨m,h1,h2⟩
   exact⟨h1.1,h1.2.1,h1.2.2.1,Rn.app.mpr ⟨m,h1.2.2.2,h2⟩⟩
theorem Rn.Dr {a a':Array Keyed}:∀{L:List (Nat × Nat × Nat)} {s lo:Nat},Rn kk a s L lo->(∀i k,s<=i->i+k<=lo->seg a' i k=seg a i k)->Rn kk a' s L lo
 | [],s,lo,h,_=>h
 | x::r,s,lo,h,e=>by
  have l:=Rn.le h.2.2.2
  refine⟨h.1,h.2.1,?_,Rn.Dr h.2.2.2 fun i k h1 h2=>e i k (by omega) h2⟩
  rw[e s x.2.1 (Nat.le_refl _) (by omega)];exact h.2.2.1
theorem Rn.pow {a:Array Keyed}:∀{L L':List (Nat × Nat × Nat)} {s lo:Nat},Rn kk a s L lo->L'.map (fun x=>(x.1,x.2.1))=L.map (fun x=>(x.1,x.2.1))->Rn kk a s L' lo
 | [],[],s,lo,h,_=>h
 | [],_::_,s,lo,h,e=>by simp at e
 | _::_,[],s,lo,h,e=>by simp at e
 | x::r,y::r',s,lo,h,e=>by
  simp only[List.map_cons,List.cons.injEq,Prod.mk.injEq] at e
  obtain⟨⟨e1,e2⟩,e3⟩:=e
  refine⟨e1.trans h.1,by rw[e2];exact h.2.1,by rw[e2];exact h.2.2.1,?_⟩
  rw[e2];exact Rn.pow h.2.2.2 e3
structure J (κ:SortKind) (P:Keyed->Prop) (kk:Keyed->Int) (st0 st:SortSt) (lo:Nat):Prop where
 ok:Ok κ P kk st
 perm:(arrOf st).toList.Perm (arrOf st0).toList
 runs:Rn kk (arrOf st) 0 (pendingOf st).toList lo
 le:lo<=(arrOf st).size
theorem J.size {st0 st:SortSt} {lo:Nat} (j:J κ P kk st0 st lo):(arrOf st).size=(arrOf st0).size:=by have:=j.perm.length_eq;simpa using this
theorem jC {i lo:Nat} {st0 st:SortSt} {Q:Bool->SortSt->Prop} (c:Cmp prog w A s κ P kk) (j:J κ P kk st0 st lo) (hi:i+2<=(pendingOf st).size)
  (h:∀st',J κ P kk st0 st' lo->(pendingOf st').size+1=(pendingOf st).size->(∀q k,lo<=q->seg (arrOf st') q k=seg (arrOf st) q k)->Q true st'):Gv prog w A E s (mergeAt' i) st Q:=by
 have hl:i+2<=(pendingOf st).toList.length:=by simpa using hi
 obtain⟨X,x,y,Y,e,hX⟩:∃X x y Y,(pendingOf st).toList=X++x::y::Y/\X.length=i:=by
  refine⟨(pendingOf st).toList.take i,(pendingOf st).toList[i],(pendingOf st).toList[i+1],(pendingOf st).toList.drop (i+2),?_,by rw[List.length_take];omega⟩
  rw[<- List.drop_eq_getElem_cons,<- List.drop_eq_getElem_cons,List.take_append_drop]
 have rn:=j.runs
 rw[e] at rn
 obtain⟨m,r1,r2⟩:=Rn.app.mp rn
 obtain⟨x1,x2,x3⟩:=x
 obtain⟨y1,y2,y3⟩:=y
 obtain⟨q1,q2,q3,q4,q5,q6,q7⟩:=r2
 dsimp only at q1 q2 q3 q4 q5 q6 q7
 subst q1
 subst q4
 have l7:=q7.le
 have hs:=j.le
 have p1:(pendingOf st)[i]?=some (x1,x2,x3):=by rw[<- Array.getElem?_toList,e,List.getElem?_append_right (by omega),hX,Nat.sub_self];rfl
 have p2:(pendingOf st)[i+1]?=some (x1+x2,y2,y3):=by rw[<- Array.getElem?_toList,e,List.getElem?_append_right (by omega),hX,Nat.add_sub_cancel_left];rfl
 refine wW c j.ok.kind j.ok.fail j.ok.all j.ok.nd p1 p2 q2 q5 (by omega) q3 q6 (fun st' M k1 f1 pd1 a1 pm sm=>?_)
 have pr:Prt (arrOf st) (arrOf st') x1 (x2+y2) M:=⟨by rw[<- Nat.add_assoc];exact a1,pm⟩
 have pl:(pendingOf st').toList=X++(x1,x2+y2,x3)::Y:=by
  rw[pd1]
  have e1:(((pendingOf st).setIfInBounds i (x1,x2+y2,x3)).eraseIdxIfInBounds (i+1)).toList=((pendingOf st).toList.set i (x1,x2+y2,x3)).eraseIdx (i+1):=by simp
  rw[e1,e,<- hX]
  simp[List.set_append,List.eraseIdx_append]
  intro hh;omega
 refine h st' ⟨⟨k1,f1,pr.P j.ok.all,pr.nd j.ok.nd⟩,pr.all.trans j.perm,?_,by rw[pr.size];exact hs⟩ ?_ (fun q k hq=>pr.after (by omega) (by omega))
 ·rw[pl]
  refine Rn.app.mpr ⟨x1,r1.Dr fun i k h1 h2=>pr.before (by omega) h2,rfl,by show 1<=x2+y2;omega,?_,?_⟩
  ·show Srt kk (seg (arrOf st') x1 (x2+y2))
   rw[pr.seg (by omega)];exact sm
  ·show Rn kk (arrOf st') (x1+(x2+y2)) Y lo
   rw[<- Nat.add_assoc]
   exact q7.Dr fun i k h1 h2=>pr.after (by omega) (by omega)
 ·have e1:(pendingOf st').size=(pendingOf st').toList.length:=by simp
  have e2:(pendingOf st).size=(pendingOf st).toList.length:=by simp
  rw[e1,e2,pl,e];simp;omega
end
section
variable {prog:Program} {w:World} {A:Around} {E:Value->Shared->Prop} {s:Shared} {κ:SortKind} {P:Keyed->Prop} {kk:Keyed->Int}
theorem J.part {st0 st st2:SortSt} {a2:Array Keyed} {lo n:Nat} {S:List Keyed} (j:J κ P kk st0 st lo) (r:Arr st st2 a2) (p:Prt (arrOf st) a2 lo n S) (hn:lo+n<=(arrOf st).size):J κ P kk st0 st2 lo:=by
 refine⟨r.ok j.ok p,by rw[r.arr];exact p.all.trans j.perm,?_,by rw[r.arr,p.size];exact j.le⟩
 rw[r.arr,r.pend]
 exact j.runs.Dr fun i k h1 h2=>p.before hn h2
theorem J.push {st0 st st':SortSt} {lo n:Nat} (j:J κ P kk st0 st lo) (ek:kindOf st'=kindOf st) (ef:failedOf st'=failedOf st) (ea:arrOf st'=arrOf st) (ep:(pendingOf st').toList.map (fun x=>(x.1,x.2.1))=(pendingOf st).toList.map (fun x=>(x.1,x.2.1))++[(lo,n)]) (h1:1<=n) (hn:lo+n<=(arrOf st).size) (sr:Srt kk (seg (arrOf st) lo n)):J κ P kk st0 st' (lo+n):=by
 refine⟨⟨ek.trans j.ok.kind,ef.trans j.ok.fail,by rw[ea];exact j.ok.all,by rw[ea];exact j.ok.nd⟩,by rw[ea];exact j.perm,?_,by rw[ea];exact hn⟩
 rw[ea]
 refine Rn.pow (L:=(pendingOf st).toList++[(lo,n,0)]) (Rn.app.mpr ⟨lo,j.runs,rfl,h1,sr,rfl⟩) ?_
 rw[ep];simp
theorem vA (p:Array (Nat × Nat × Nat)) (i pw lo:Nat) (n:Nat):((p.modify i fun x=>(x.1,x.2.1,pw)).push (lo,n,0)).toList.map (fun x=>(x.1,x.2.1))=p.toList.map (fun x=>(x.1,x.2.1))++[(lo,n)]:=by
 rw[Array.toList_push,List.map_append]
 congr 1
 apply List.ext_getElem?
 intro k
 rw[List.getElem?_map,List.getElem?_map,Array.getElem?_toList,Array.getElem?_toList,Array.getElem?_modify]
 split
 ·cases p[k]?<;>rfl
 ·rfl
theorem uH (p:Array (Nat × Nat × Nat)) (lo n:Nat):(p.push (lo,n,0)).toList.map (fun x=>(x.1,x.2.1))=p.toList.map (fun x=>(x.1,x.2.1))++[(lo,n)]:=by
 rw[Array.toList_push,List.map_append];rfl
theorem uh {st:SortSt} {Q:Unit->SortSt->Prop} (c:Cmp prog w A s κ P kk) (o:Ok κ P kk st) (hp:pendingOf st = #[]) (h:∀st',failedOf st'=none->(arrOf st').toList.Perm (arrOf st).toList->Srt kk (arrOf st').toList->Q () st'):Gv prog w A E s sortRuns' st Q:=by
 have j0:J κ P kk st st 0:=⟨o,.refl _,by rw[hp];rfl,Nat.zero_le _⟩
 with_unfolding_all refine Gv.bind (Gv.get ?_)
 dsimp only
 have eS:(arrOf st).size=(arrOf st).size:=rfl
 refine Gv.bind (Gv.mono (Q:=fun z st'=>∃lo,z=(none,lo)/\J κ P kk st st' (arrOf st).size) (Gv.range (fun m z st'=>∃lo,z=(none,lo)/\J κ P kk st st' lo/\(arrOf st).size<=lo+m) ⟨0,rfl,j0,by show(arrOf st).size<=0+((arrOf st).size - 0);omega⟩ (fun x m z st1 hz=>?_) (fun z st1 hz=>?_)) (fun z st1 hz=>?_))
 ·obtain⟨lo,rfl,j1,pr⟩:=hz
  have sz1:=j1.size
  have le1:=j1.le
  dsimp only
  by_cases hl:lo ≥ (arrOf st).size
  ·rw[if_pos hl]
   have:lo=(arrOf st).size:=by omega
   subst this
   exact Gv.pure ⟨_,rfl,j1⟩
  rw[if_neg hl]
  refine Gv.bind (uK c j1.ok (lo:=lo) (nrem:=(arrOf st).size - lo) (by omega) (by omega) (fun n a2 st2 S n1 n2 r2 p2 sS=>?_))
  have j2:J κ P kk st st2 lo:=j1.part r2 p2 (by omega)
  have s2:Srt kk (seg (arrOf st2) lo n):=by rw[r2.arr,p2.seg (by omega)];exact sS
  have sz2:=j2.size
  dsimp only
  generalize hmr:(minRun' (arrOf st).size (arrOf st).size 0)=mr
  by_cases lt:n<mr
  ·rw[<- hmr] at lt
   refine bo (fun lt'=>?_) (fun nl=>absurd lt nl)
   refine Gv.bind (Gv.rule ?_)
   rw[hmr] at lt
   refine Gv.bind (p9 c j2.ok (lo:=lo) (n:=min ((arrOf st).size - lo) (minRun' (arrOf st).size (arrOf st).size 0)) (ok:=n) (by omega) n1 (by rw[hmr];omega) s2 (fun a3 st3 r3 p3 s3=>?_))
   rw[if_neg (by decide)]
   have hN1:1<=(min ((arrOf st).size - lo) (minRun' (arrOf st).size (arrOf st).size 0)):=by rw[hmr];omega
   have hN2:lo+(min ((arrOf st).size - lo) (minRun' (arrOf st).size (arrOf st).size 0))<=(arrOf st).size:=by omega
   have jX:J κ P kk st st3 lo:=j2.part r3 p3 (by omega)
   have sX:Srt kk (seg (arrOf st3) lo (min ((arrOf st).size - lo) (minRun' (arrOf st).size (arrOf st).size 0))):=by rw[r3.arr];exact s3
   refine Gv.bind (Gv.get ?_)
   split
   ·refine Gv.bind (Gv.mono (Q:=fun z st4=>z=(none,())/\J κ P kk st st4 lo/\Srt kk (seg (arrOf st4) lo (min ((arrOf st).size - lo) (minRun' (arrOf st).size (arrOf st).size 0)))) (Gv.range (fun m z st4=>z=(none,())/\J κ P kk st st4 lo/\Srt kk (seg (arrOf st4) lo (min ((arrOf st).size - lo) (minRun' (arrOf st).size (arrOf st).size 0)))) ⟨rfl,jX,sX⟩ (fun x m z st4 hz=>?_) (fun z st4 hz=>hz)) (fun z st4 hz=>?_))
    ·obtain⟨rfl,j4,s4⟩:=hz
     refine Gv.bind (Gv.get ?_)
     by_cases h2:(pendingOf st4).size > 1
     ·rw[if_pos h2]
      split
      ·refine bo (fun _=>Gv.pure ⟨rfl,j4,s4⟩) (fun _=>?_)
       refine Gv.bind (jC (i:=(pendingOf st4).size - 2) c j4 (by omega) (fun st5 j5 _ e5=>?_))
       exact Gv.pure ⟨rfl,j5,by rw[e5 lo (min ((arrOf st).size - lo) (minRun' (arrOf st).size (arrOf st).size 0)) (Nat.le_refl _)];exact s4⟩
      ·exact Gv.pure ⟨rfl,j4,s4⟩
     ·rw[if_neg h2]
      exact Gv.pure ⟨rfl,j4,s4⟩
    ·obtain⟨rfl,j4,s4⟩:=hz
     dsimp only
     refine Gv.bind (Gv.qt fun st5 g5=>?_)
     refine Gv.bind (Gv.qt fun st6 g6=>?_)
     have j6:J κ P kk st st6 (lo+(min ((arrOf st).size - lo) (minRun' (arrOf st).size (arrOf st).size 0))):=by
      refine j4.push (by rw[g6,g5]) (by rw[g6,g5]) (by rw[g6,g5]) ?_ hN1 (by have:=j4.size;omega) s4
      rw[g6,g5]
      exact vA _ _ _ _ _
     exact Gv.pure ⟨lo+(min ((arrOf st).size - lo) (minRun' (arrOf st).size (arrOf st).size 0)),rfl,j6,by omega⟩
   ·refine Gv.bind (Gv.qt fun st6 g6=>?_)
    have j6:J κ P kk st st6 (lo+(min ((arrOf st).size - lo) (minRun' (arrOf st).size (arrOf st).size 0))):=by
     refine jX.push (by rw[g6]) (by rw[g6]) (by rw[g6]) ?_ hN1 (by have:=jX.size;omega) sX
     rw[g6]
     exact uH _ _ _
    exact Gv.pure ⟨lo+(min ((arrOf st).size - lo) (minRun' (arrOf st).size (arrOf st).size 0)),rfl,j6,by omega⟩
  ·rw[<- hmr] at lt
   refine bo (fun lt'=>absurd lt' lt) (fun nl=>?_)
   have jX:=j2
   have sX:=s2
   have hN1:1<=n:=n1
   have hN2:lo+n<=(arrOf st).size:=by omega
   refine Gv.bind (Gv.get ?_)
   split
   ·refine Gv.bind (Gv.mono (Q:=fun z st4=>z=(none,())/\J κ P kk st st4 lo/\Srt kk (seg (arrOf st4) lo n)) (Gv.range (fun m z st4=>z=(none,())/\J κ P kk st st4 lo/\Srt kk (seg (arrOf st4) lo n)) ⟨rfl,jX,sX⟩ (fun x m z st4 hz=>?_) (fun z st4 hz=>hz)) (fun z st4 hz=>?_))
    ·obtain⟨rfl,j4,s4⟩:=hz
     refine Gv.bind (Gv.get ?_)
     by_cases h2:(pendingOf st4).size > 1
     ·rw[if_pos h2]
      split
      ·refine bo (fun _=>Gv.pure ⟨rfl,j4,s4⟩) (fun _=>?_)
       refine Gv.bind (jC (i:=(pendingOf st4).size - 2) c j4 (by omega) (fun st5 j5 _ e5=>?_))
       exact Gv.pure ⟨rfl,j5,by rw[e5 lo n (Nat.le_refl _)];exact s4⟩
      ·exact Gv.pure ⟨rfl,j4,s4⟩
     ·rw[if_neg h2]
      exact Gv.pure ⟨rfl,j4,s4⟩
    ·obtain⟨rfl,j4,s4⟩:=hz
     dsimp only
     refine Gv.bind (Gv.qt fun st5 g5=>?_)
     refine Gv.bind (Gv.qt fun st6 g6=>?_)
     have j6:J κ P kk st st6 (lo+n):=by
      refine j4.push (by rw[g6,g5]) (by rw[g6,g5]) (by rw[g6,g5]) ?_ hN1 (by have:=j4.size;omega) s4
      rw[g6,g5]
      exact vA _ _ _ _ _
     exact Gv.pure ⟨lo+n,rfl,j6,by omega⟩
   ·refine Gv.bind (Gv.qt fun st6 g6=>?_)
    have j6:J κ P kk st st6 (lo+n):=by
     refine jX.push (by rw[g6]) (by rw[g6]) (by rw[g6]) ?_ hN1 (by have:=jX.size;omega) sX
     rw[g6]
     exact uH _ _ _
    exact Gv.pure ⟨lo+n,rfl,j6,by omega⟩
 ·obtain⟨lo,rfl,j1,pr⟩:=hz
  have:=j1.le
  have:=j1.size
  have e:lo=(arrOf st).size:=by omega
  subst e
  exact⟨_,rfl,j1⟩
 ·obtain⟨lo,rfl,j1⟩:=hz
  dsimp only
  have ps:(pendingOf st1).size<=(arrOf st).size:=by have:=j1.runs.le;simpa using this
  refine Gv.bind (Gv.mono (Q:=fun z st4=>z=(none,())/\J κ P kk st st4 (arrOf st).size/\(pendingOf st4).size<=1) (Gv.range (fun m z st4=>z=(none,())/\J κ P kk st st4 (arrOf st).size/\(pendingOf st4).size<=m+1) ⟨rfl,j1,by show(pendingOf st1).size<=(arrOf st).size - 0+1;omega⟩ (fun x m z st4 hz=>?_) (fun z st4 hz=>?_)) (fun z st4 hz=>?_))
  ·obtain⟨rfl,j4,l4⟩:=hz
   refine Gv.bind (Gv.get ?_)
   by_cases h1:(pendingOf st4).size<=1
   ·rw[if_pos h1]
    exact Gv.pure ⟨rfl,j4,h1⟩
   ·rw[if_neg h1]
    refine Gv.bind (jC c j4 ?_ (fun st5 j5 e5 _=>?_))
    ·have g:∀(c:Prop) [Decidable c],(if c then (pendingOf st4).size - 2 - 1 else (pendingOf st4).size - 2)+2<=(pendingOf st4).size:=fun c _=>by split<;>omega
     exact g _
    ·exact Gv.pure ⟨rfl,j5,by omega⟩
  ·obtain⟨rfl,j4,l4⟩:=hz
   exact⟨rfl,j4,by omega⟩
  ·obtain⟨rfl,j4,l4⟩:=hz
   dsimp only
   refine Gv.pure (h st4 j4.ok.fail j4.perm ?_)
   have rn:=j4.runs
   have sz:=j4.size
   have l5:(pendingOf st4).toList.length<=1:=by simpa using l4
   cases e:(pendingOf st4).toList with
   | nil=>
    rw[e] at rn
    have:0=(arrOf st).size:=rn
    have e2:(arrOf st4).toList=[]:=List.length_eq_zero_iff.mp (by rw[Array.length_toList];omega)
    rw[e2];exact List.Pairwise.nil
   | cons x r=>
    rw[e] at rn l5
    have:r=[]:=List.length_eq_zero_iff.mp (by rw[List.length_cons] at l5;omega)
    subst this
    obtain⟨r1,r2,r3,r4⟩:=rn
    have r4:0+x.2.1=(arrOf st).size:=r4
    have e2:seg (arrOf st4) 0 x.2.1=(arrOf st4).toList:=by
     unfold seg
     rw[List.drop_zero,List.take_of_length_le (by rw[Array.length_toList];omega)]
    rw[e2] at r3
    exact r3
end
end L2.SM
namespace L2.Srt
open PySem PySem.W PyProof.Rows PySem.Calls L2.SM
section
variable {prog:Program} {w:World} {A:Around} {E:Value->Shared->Prop} {s:Shared} {a:Addr} {vs:List Value}
theorem rY (vs:List Value):(vs.toArray.zip vs.toArray).toList=vs.map fun v=>(v,v):=by
 simp only[Array.toList_zip]
 induction vs with
 | nil=>rfl
 | cons v vs ih=>simp;exact ih
theorem qu {n:Nat} {kv:Value->Int} {P:PySem.Fin->Shared->Prop} (ho:s.heap.get? a=some (seqObj "list" vs.toArray n)) (h2:2<=vs.length) (hz:vs.length<=100000)
  (hk:wpAny (model prog w) A (keyKind' vs.toArray) (fun κ s'=>s'={ s with heap:=bZ s.heap a vs }/\Cmp prog w A { s with heap:=bZ s.heap a vs } κ (fun x=>x.1∈vs/\x.2=x.1) (fun x=>kv x.1)) (fun _ _=>False) { s with heap:=bZ s.heap a vs }) (nd:(vs.map kv).Nodup)
  (h:∀out:List Value,out.Perm vs->out.Pairwise (fun x y=>kv x<kv y)->P (.done (.ret .none)) { s with heap:=sortedHeap s.heap a vs out.toArray }) :
  wpAny (model prog w) A (Builtin.«list.sort» ⟨[.ref a],[]⟩) P E s:=by
 have ha:a<s.heap.objs.size:=Heap.lt_size ho
 obtain⟨e1,ho1⟩:∃e1,(s.heap.update a (Obj.mapSeq fun _=>(#[]:Array Value))).get? a=some (seqObj "list" #[] e1):=⟨_,get?_update_seq ho fun _=>#[]⟩
 have hm:(bZ s.heap a vs).get? a=some (seqObj "list" #[] e1):=Heap.get?_push_of_some _ (Heap.get?_push_of_some _ ho1)
 rw[list_sort_plain]
 refine wpAny_bind (listItems_at ho rfl ?_)
 refine wpAny_bind (listUpdate_at ho rfl ?_ (by rw[List.size_toArray,sizeLine_eq];omega) (Nat.zero_le _))
 refine wpAny_bind (seqEpoch_at ho1 rfl ?_)
 refine wpAny_bind (wpAny_newTuple ?_ (by show vs.length<=_;rw[sizeLine_eq];omega))
 refine wpAny_bind (wpAny_newList ?_ (Nat.zero_le _))
 refine wpAny_holding ?_
 show wpAny (model prog w) A _ P E { s with heap:=bZ s.heap a vs }
 dsimp only
 have hn2:¬ vs.toArray.size<2:=by rw[List.size_toArray];omega
 rw[if_neg hn2,if_neg hn2]
 refine wpAny_bind (wpAny_mono hk (fun κ s0 hk=>?_) fun _ _ x=>x.elim)
 obtain⟨rfl,cm⟩:=hk
 have zl:=rY vs
 have ok:Ok κ (fun x:Keyed=>x.1∈vs/\x.2=x.1) (fun x=>kv x.1) (SortSt.mk' κ (vs.toArray.zip vs.toArray) #[] 7 none):=by
  refine⟨rfl,rfl,fun x hx=>?_,?_⟩
  ·have hx:x∈(vs.toArray.zip vs.toArray).toList:=Array.mem_toList_iff.mpr hx
   rw[zl] at hx
   obtain⟨v,hv,rfl⟩:=List.mem_map.mp hx
   exact⟨hv,rfl⟩
  ·show((vs.toArray.zip vs.toArray).toList.map _).Nodup
   rw[zl,List.map_map];exact nd
 refine wpAny_bind (wpAny_mono (uh (E:=E) (Q:=fun _ st'=>failedOf st'=none/\((arrOf st').map (·.2)).toList.Perm vs/\((arrOf st').map (·.2)).toList.Pairwise (fun x y=>kv x<kv y)) cm ok rfl (fun st' f1 pm sr=>⟨f1,?_,?_⟩)) ?_ fun _ _ e=>e)
 ·have:=pm.map (fun x:Keyed=>x.2)
  rw[Array.toList_map]
  refine this.trans ?_
  show((vs.toArray.zip vs.toArray).toList.map _).Perm vs
  rw[zl,List.map_map]
  have:((fun x:Keyed=>x.2) ∘ fun v=>(v,v))=(id:Value->Value):=rfl
  rw[this,List.map_id]
 ·rw[Array.toList_map,List.pairwise_map]
  refine List.Pairwise.imp_of_mem ?_ sr
  intro x y hx hy lt
  have gx:∀z:Keyed,z∈(arrOf st').toList->z.2=z.1:=fun z hz=>by
   have hz:=pm.mem_iff.mp hz
   have hz:z∈(vs.toArray.zip vs.toArray).toList:=hz
   rw[zl] at hz
   obtain⟨v,_,rfl⟩:=List.mem_map.mp hz
   rfl
  rw[gx x hx,gx y hy];exact lt
 rintro⟨⟨⟩,st'⟩ s' ⟨rfl,hf,pm,sr⟩
 dsimp only
 have hsz:((arrOf st').map (·.2)).size=vs.length:=by have:=pm.length_eq;simpa using this
 refine wpAny_bind (seqEpoch_at hm rfl ?_)
 refine wpAny_bind (listUpdate_at hm rfl ?_ (Nat.zero_le _) (Nat.le_trans (Nat.le_of_eq hsz) (by rw[sizeLine_eq];omega)))
 rw[hf]
 simp only[bne_self_eq_false,Bool.false_eq_true,if_false]
 have:=h _ pm sr
 rw[Array.toArray_toList] at this
 exact wpAny_pure this
end
noncomputable def kT:Nat->List Int->Int
 | 0,_=>0
 | _+1,[]=>0
 | n+1,x::r=>(x+1)*100 ^ n+kT n r
noncomputable def qk:List Int->List Int->Bool
 | [],ys=>decide (0<ys.length)
 | _::_,[]=>false
 | x::xs,y::ys=>if x=y then qk xs ys else decide (x<y)
noncomputable def Bd (xs:List Int):Prop:=∀x∈xs,0<=x/\x<=98
theorem uB:∀(n:Nat) {xs:List Int},Bd xs->0<=kT n xs/\kT n xs<100 ^ n
 | 0,xs,_=>by unfold kT;exact⟨Int.le_refl _,by decide⟩
 | n+1,[],_=>by unfold kT;exact⟨Int.le_refl _,Int.pow_pos (by decide)⟩
 | n+1,x::r,b=>by
  have h:=uB n (xs:=r) fun y hy=>b y (List.mem_cons_of_mem _ hy)
  have hx:=b x List.mem_cons_self
  have p:(0:Int)<100 ^ n:=Int.pow_pos (by decide)
  unfold kT
  have q1:0<=(x+1)*100 ^ n:=Int.mul_nonneg (by omega) (by omega)
  have q2:(x+1)*100 ^ n<=99*100 ^ n:=Int.mul_le_mul_of_nonneg_right (by omega) (by omega)
  have q3:(100:Int) ^ (n+1)=100*100 ^ n:=by rw[Int.pow_succ,Int.mul_comm]
  exact⟨by omega,by omega⟩
theorem CA:∀(n:Nat) {xs ys:List Int},Bd xs->Bd ys->xs.length<=n->ys.length<=n->qk xs ys=decide (kT n xs<kT n ys)
 | n,[],[],_,_,_,_=>by cases n<;>simp[qk,kT]
 | 0,[],y::ys,_,_,_,h=>by simp at h
 | 0,x::xs,ys,_,_,h,_=>by simp at h
 | n+1,[],y::ys,_,by_,_,_=>by
  have h:=(uB n (xs:=ys) fun z hz=>by_ z (List.mem_cons_of_mem _ hz)).1
  have hy:=by_ y List.mem_cons_self
  have p:(0:Int)<100 ^ n:=Int.pow_pos (by decide)
  have q:0<(y+1)*100 ^ n:=Int.mul_pos (by omega) p
  unfold qk kT
  rw[decide_eq_true (by simp:0<(y::ys).length),decide_eq_true (by omega)]
 | n+1,x::xs,[],bx,_,_,_=>by
  have h:=(uB n (xs:=xs) fun z hz=>bx z (List.mem_cons_of_mem _ hz)).1
  have hx:=bx x List.mem_cons_self
  have p:(0:Int)<100 ^ n:=Int.pow_pos (by decide)
  have q:0<(x+1)*100 ^ n:=Int.mul_pos (by omega) p
  unfold qk kT
  rw[decide_eq_false (by omega)]
 | n+1,x::xs,y::ys,bx,by_,lx,ly=>by
  have ih:=CA n (xs:=xs) (ys:=ys) (fun z hz=>bx z (List.mem_cons_of_mem _ hz)) (fun z hz=>by_ z (List.mem_cons_of_mem _ hz)) (by simpa using lx) (by simpa using ly)
  have hX:=uB n (xs:=xs) fun z hz=>bx z (List.mem_cons_of_mem _ hz)
  have hY:=uB n (xs:=ys) fun z hz=>by_ z (List.mem_cons_of_mem _ hz)
  have p:(0:Int)<100 ^ n:=Int.pow_pos (by decide)
  unfold qk kT
  by_cases e:x=y
  ·subst e
   rw[if_pos rfl,ih]
   by_cases z:kT n xs<kT n ys
   ·rw[decide_eq_true z,decide_eq_true (by omega)]
   ·rw[decide_eq_false z,decide_eq_false (by omega)]
  ·rw[if_neg e]
   by_cases z:x<y
   ·have:(x+1+1)*100 ^ n<=(y+1)*100 ^ n:=Int.mul_le_mul_of_nonneg_right (by omega) (by omega)
    have:(x+1+1)*100 ^ n=(x+1)*100 ^ n+100 ^ n:=by rw[Int.add_mul (x+1) 1,Int.one_mul]
    rw[decide_eq_true z,decide_eq_true (by omega)]
   ·have:(y+1+1)*100 ^ n<=(x+1)*100 ^ n:=Int.mul_le_mul_of_nonneg_right (by omega) (by omega)
    have:(y+1+1)*100 ^ n=(y+1)*100 ^ n+100 ^ n:=by rw[Int.add_mul (y+1) 1,Int.one_mul]
    rw[decide_eq_false z,decide_eq_false (by omega)]
section
variable {prog:Program} {w:World} {A:Around} {E:Value->Shared->Prop} {s:Shared}
theorem vJ {fin:Bool} {Q:Bool->Shared->Prop}:∀{us vs:List Value} {xs ys:List Int} (i:Nat),IntsAre us xs->IntsAre vs ys->fin=decide (xs.length<ys.length)->Q (qk xs ys) s->KatLex prog w A true fin Q (us.zip vs) i s
 | _,_,_,_,i,.nil,.nil,e,h=>by subst e;exact kat_nil h
 | _,_,_,_,i,.nil,.cons y t r,e,h=>by subst e;exact kat_nil h
 | _,_,_,_,i,.cons x t r,.nil,e,h=>by subst e;exact kat_nil h
 | _,_,_,_,i,.cons x t r,.cons y u r',e,h=>by
  refine kat_cons (wpAny_eqBool_int (kat_go (fun e1=>kat_yes ?_) (fun e1=>kat_no ?_)))
  ·have e1:x=y:=by simpa using e1
   refine vJ (i+1) r r' ?_ ?_
   ·rw[e];simp
   ·unfold qk at h;rw[if_pos e1] at h;exact h
  ·have e1:¬ x=y:=by simpa using e1
   unfold qk at h
   rw[if_neg e1] at h
   cases i with
   | zero=>exact oneLt_int h
   | succ i=>
    have:((true&&(i+1 == 0)):Bool)=false:=by simp
    rw[this]
    exact kat_one _ _ (lt_int h)
end
inductive Tps (h:Heap):List Value->List (List Int)->Prop
 | nil:Tps h [] []
 | cons {a:Addr} {o:Obj} {k:Nat} {us:Array Value} {xs:List Int} {vs:List Value} {xss:List (List Int)}:h.get? a=some o->o.cls=.type "tuple" -> o.data=.seq us k->IntsAre us.toList xs->Tps h vs xss->Tps h (.ref a::vs) (xs::xss)
noncomputable def kvH (h:Heap):Value->Int
 | .ref a=>match h.get? a with
  | some o=>match o.data with
   | .seq us _=>kT 20 (us.toList.map numOf)
   | _=>0
  | none=>0
 | _=>0
section
variable {prog:Program} {w:World} {A:Around} {E:Value->Shared->Prop} {s:Shared} {vs:List Value} {xss:List (List Int)} {h h':Heap}
theorem Tps.len (r:Tps h vs xss):vs.length=xss.length:=by
 induction r with
 | nil=>rfl
 | cons _ _ _ _ _ ih=>simp[ih]
theorem Tps.keeps (r:Tps h vs xss) (k:∀b o,h.get? b=some o->h'.get? b=some o):Tps h' vs xss:=by
 induction r with
 | nil=>exact .nil
 | cons a b c d _ ih=>exact .cons (k _ _ a) b c d ih
theorem Tps.kv (r:Tps h vs xss):vs.map (kvH h)=xss.map (kT 20):=by
 induction r with
 | nil=>rfl
 | @cons a o k us xs vs xss ha hc hd hi r ih=>
  rw[List.map_cons,List.map_cons,ih]
  congr 1
  show kvH h (.ref a)=_
  unfold kvH
  simp only[ha,hd,hi.nums]
theorem Tps.mem (r:Tps h vs xss) {v:Value} (hv:v∈vs):∃a o k us xs,v=.ref a/\h.get? a=some o/\o.data=.seq us k/\IntsAre us.toList xs/\xs∈xss/\kvH h v=kT 20 xs:=by
 induction r with
 | nil=>cases hv
 | @cons a o k us xs vs xss ha hc hd hi r ih=>
  rcases List.mem_cons.mp hv with rfl | hv
  ·refine⟨a,o,k,us,xs,rfl,ha,hd,hi,List.mem_cons_self,?_⟩
   unfold kvH
   simp only[ha,hd,hi.nums]
  ·obtain⟨a',o',k',us',xs',e1,e2,e3,e4,e5,e6⟩:=ih hv
   exact⟨a',o',k',us',xs',e1,e2,e3,e4,List.mem_cons_of_mem _ e5,e6⟩
theorem Tps.oh (r:Tps h vs xss) (ne:∀xs∈xss,xs≠[]):∃fs,KatTups h vs fs/\fs.length=xss.length/\∀v∈fs,∃x t,v=Value.int x t:=by
 induction r with
 | nil=>exact⟨[],KatTups.nil,rfl,by simp⟩
 | @cons a o k us xs vs xss ha hc hd hi r ih=>
  obtain⟨fs,q1,q2,q3⟩:=ih fun xs hx=>ne xs (List.mem_cons_of_mem _ hx)
  obtain⟨x,t,ul,e⟩:∃x t ul,us.toList=Value.int x t::ul:=by
   have:=ne xs List.mem_cons_self
   generalize us.toList=l at hi
   cases hi with
   | nil=>exact absurd rfl this
   | cons n t r=>exact⟨n,t,_,rfl⟩
  have e0:us[0]?=some (Value.int x t):=by rw[<- Array.getElem?_toList,e];rfl
  refine⟨.int x t::fs,KatTups.cons ha hc hd e0 q1,by simp[q2],fun v hv=>?_⟩
  rcases List.mem_cons.mp hv with rfl | hv
  ·exact⟨x,t,rfl⟩
  ·exact q3 v hv
theorem Bs {β γ:Type} {f:β->γ}:∀{out m:List γ},out.Perm m->∀{l:List β},m=l.map f->∃q:List β,q.Perm l/\out=q.map f:=by
 intro out m h
 induction h with
 | nil=>intro l e;exact⟨[],by have:l=[]:=List.map_eq_nil_iff.mp e.symm;rw[this],rfl⟩
 | cons x _ ih=>
  intro l e
  cases l with
  | nil=>cases e
  | cons b l=>
   injection e with e1 e2
   obtain⟨q,hq,e3⟩:=ih e2
   exact⟨b::q,hq.cons b,by rw[e3,e1];rfl⟩
 | swap x y l'=>
  intro l e
  cases l with
  | nil=>cases e
  | cons b l=>
   cases l with
   | nil=>simp at e
   | cons c l=>
    simp only[List.map_cons,List.cons.injEq] at e
    obtain⟨e1,e2,e3⟩:=e
    exact⟨c::b::l,List.Perm.swap _ _ _,by rw[List.map_cons,List.map_cons,<- e1,<- e2,<- e3]⟩
 | trans _ _ ih1 ih2=>
  intro l e
  obtain⟨q,hq,e2⟩:=ih2 e
  obtain⟨q',hq',e3⟩:=ih1 e2
  exact⟨q',hq'.trans hq,e3⟩
theorem range_getD {β:Type} (l:List β) (d:β):l=(List.range l.length).map fun i=>l.getD i d:=by
 apply List.ext_getElem (by simp)
 intro i h1 h2
 simp[h1]
end
end L2.Srt
namespace L2
open PySem PySem.Spec PyProof.Rows L2.Srt
inductive TpV (K:PySem.W.Frag) (H:Hp):List V->List (List Int)->Prop
 | nil:TpV K H [] []
 | cons {a:Addr} {ns:List Int} {xs:List V} {xss:List (List Int)}:SqT K H a (ns.map V.int)->TpV K H xs xss->TpV K H (.ref a::xs) (ns::xss)
theorem TpV.len {K:PySem.W.Frag} {H:Hp} {xs:List V} {xss:List (List Int)} (r:TpV K H xs xss):xs.length=xss.length:=by
 induction r with
 | nil=>rfl
 | cons _ _ ih=>simp[ih]
theorem ph:∀{ns:List Int} {us:List Value},Vals (ns.map V.int) us->IntsAre us ns
 | [],_,.nil=>.nil
 | n::ns,_,.cons ⟨t,e⟩ r=>by subst e;exact .cons n t (ph r)
section
variable {X:Cx}
theorem Inv.tps {pins:List (Addr × Obj)} {σ:St} {H:Hp} {s:Shared} (I:Inv X pins σ H s) {xs:List V} {xss:List (List Int)} (r:TpV X.K H xs xss):∀{us:List Value},Vals xs us->Tps s.heap us xss:=by
 induction r with
 | nil=>intro us v;cases v;exact .nil
 | cons h _ ih=>
  intro us v
  cases v with
  | cons ru rv=>
   cases ru
   obtain⟨its,rt,pl,hz⟩:=I.tuple h
   obtain⟨o,ho,hc,n,hd⟩:=pl
   exact .cons ho hc hd (by simpa using ph rt) (ih rv)
end
end L2
namespace L2.FE
open PySem PySem.Spec PyProof.Rows L2.Srt
noncomputable def xc (x:List Int):List (List Int)->List (List Int)
 | []=>[x]
 | y::r=>if kT 20 x<=kT 20 y then x::y::r else y::xc x r
noncomputable def mK:List (List Int)->List (List Int)
 | []=>[]
 | x::r=>xc x (mK r)
theorem mq (x:List Int):∀l,(xc x l).Perm (x::l)
 | []=>.refl _
 | y::r=>by
  unfold xc
  split
  ·exact .refl _
  ·exact((mq x r).cons y).trans (.swap x y r)
theorem pF:∀l,(mK l).Perm l
 | []=>.refl _
 | x::r=>(mq x _).trans ((pF r).cons x)
theorem mV (x:List Int):∀l,l.Pairwise (fun a b=>kT 20 a<=kT 20 b)->(xc x l).Pairwise (fun a b=>kT 20 a<=kT 20 b)
 | [],_=>by simp[xc]
 | y::r,h=>by
  unfold xc
  rw[List.pairwise_cons] at h
  split
  ·rename_i hx
   refine List.pairwise_cons.mpr ⟨fun z hz=>?_,List.pairwise_cons.mpr h⟩
   rcases List.mem_cons.mp hz with rfl | hz
   ·exact hx
   ·exact Int.le_trans hx (h.1 z hz)
  ·rename_i hx
   refine List.pairwise_cons.mpr ⟨fun z hz=>?_,mV x r h.2⟩
   rcases List.mem_cons.mp ((mq x r).mem_iff.mp hz) with rfl | hz
   ·omega
   ·exact h.1 z hz
theorem lq:∀l,(mK l).Pairwise (fun a b=>kT 20 a<=kT 20 b)
 | []=>.nil
 | x::r=>mV x _ (lq r)
theorem o7:∀{xs ys:List (List Int)},xs.Perm ys->xs.Pairwise (fun a b=>kT 20 a<kT 20 b)->ys.Pairwise (fun a b=>kT 20 a<=kT 20 b)->xs=ys
 | [],ys,p,_,_=>by rw[List.Perm.eq_nil p.symm]
 | x::xs,[],p,_,_=>absurd (List.Perm.eq_nil p) (by simp)
 | x::xs,y::ys,p,hx,hy=>by
  rw[List.pairwise_cons] at hx hy
  have e:x=y:=by
   have a:x∈y::ys:=p.mem_iff.mp List.mem_cons_self
   have b:y∈x::xs:=p.mem_iff.mpr List.mem_cons_self
   rcases List.mem_cons.mp b with z | b
   ·exact z.symm
   ·have b':=hx.1 y b
    rcases List.mem_cons.mp a with z | a
    ·exact z
    ·have:=hy.1 x a;omega
  subst e
  rw[o7 (List.perm_cons x |>.mp p) hx.2 hy.2]
noncomputable def zR (ns:List Int):D:=.tup (ns.map D.int)
noncomputable def fj:List D->Option (List (List Int))
 | []=>some []
 | .tup ds::r=>match intsOf ds,fj r with
  | some ns,some xss=>some (ns::xss)
  | _,_=>none
 | _::_=>none
theorem kc:∀(xss:List (List Int)),fj (xss.map zR)=some xss
 | []=>rfl
 | ns::xss=>by
  rw[List.map_cons]
  show(match intsOf (ns.map D.int),fj (xss.map zR) with | some ns,some xss=>some (ns::xss) | _,_=>none)=_
  rw[iy,kc xss]
theorem A8 {xss:List (List Int)} {q:List Nat} (pm:q.Perm (List.range xss.length)) (up:(q.map fun i=>kT 20 (xss.getD i [])).Pairwise (· < ·)):q.map (fun i=>xss.getD i [])=mK xss:=by
 refine o7 ?_ ?_ (lq xss)
 ·have e:=L2.Srt.range_getD xss []
  have this:(q.map fun i=>xss.getD i []).Perm ((List.range xss.length).map fun i=>xss.getD i []):=pm.map _
  exact(this.trans (.of_eq e.symm)).trans (pF xss).symm
 ·rw[List.pairwise_map] at up ⊢
  exact up
section
variable {X:Cx} {g:GG} {ε:EE} {K:PySem.W.Frag}
theorem qE {α:List Addr} {H:Hp}:∀{ns:List Int} {vs:List V},aA K g α H (ns.map D.int) vs->vs=ns.map V.int
 | [],_,.nil=>rfl
 | n::ns,_,.cons r rs=>by cases r;rw[qE rs];rfl
theorem lF {α:List Addr} {H:Hp}:∀{ds:List D} {xs:List V} {xss:List (List Int)},aA K g α H ds xs->fj ds=some xss->TpV K H xs xss/\ds=xss.map zR
 | _,_,xss,.nil,e=>by cases e;exact⟨.nil,rfl⟩
 | d::ds,_,xss,.cons rd rs,e=>by
  cases rd with
  | @tup es p vs hp rs2=>
   have e:(match intsOf es,fj ds with | some ns,some xss=>some (ns::xss) | _,_=>none)=some xss:=e
   cases e1:intsOf es with
   | none=>rw[e1] at e;cases e
   | some ns=>
    cases e2:fj ds with
    | none=>rw[e1,e2] at e;cases e
    | some yss=>
     rw[e1,e2] at e
     cases e
     obtain⟨a,b⟩:=lF rs e2
     have e3:=ji e1
     subst e3
     have e4:=qE rs2
     subst e4
     exact⟨.cons (SqT.of hp) a,by rw[b];rfl⟩
  | _=>cases e
end
end L2.FE
namespace L2.ST
open PySem
noncomputable abbrev Asc (l:List Nat):Prop:=l.Pairwise (· < ·)
theorem getD_at {xs:Array Nat} {i d:Nat} (h:i<xs.size):xs.getD i d=xs.toList[i]'(by simpa using h):=by
 simp[Array.getD,h]
theorem pB (xs:Array Nat) (j:Nat) (so:Asc xs.toList):∀(f lo hi:Nat),lo<=hi->hi<=xs.size->hi - lo<=f->(∀i (h:i<xs.toList.length),i<lo->xs.toList[i]<j)->(∀i (h:i<xs.toList.length),hi<=i->j<=xs.toList[i]) →
  ∃r,SetTable.below.go xs j f lo hi=r/\r<=xs.size/\(∀i (h:i<xs.toList.length),i<r->xs.toList[i]<j)/\(∀i (h:i<xs.toList.length),r<=i->j<=xs.toList[i])
 | 0,lo,hi,h1,h2,hf,a,b=>⟨lo,rfl,by omega,a,fun i h hi'=>b i h (by omega)⟩
 | f+1,lo,hi,h1,h2,hf,a,b=>by
  unfold SetTable.below.go
  by_cases c:lo<hi
  ·rw[if_pos c]
   dsimp only
   have hm:(lo+hi) / 2<xs.size:=by omega
   have hm':(lo+hi) / 2<xs.toList.length:=by simpa using hm
   rw[getD_at hm]
   by_cases d:xs.toList[(lo+hi) / 2]<j
   ·rw[if_pos d]
    refine pB xs j so f _ hi (by omega) h2 (by omega) (fun i h hi'=>?_) b
    rcases Nat.lt_or_ge i ((lo+hi) / 2) with e | e
    ·have:=List.pairwise_iff_getElem.mp so i ((lo+hi) / 2) h hm' e
     omega
    ·have:i=(lo+hi) / 2:=by omega
     subst this;exact d
   ·rw[if_neg d]
    refine pB xs j so f lo _ (by omega) (by omega) (by omega) a (fun i h hi'=>?_)
    rcases Nat.lt_or_ge ((lo+hi) / 2) i with e | e
    ·have:=List.pairwise_iff_getElem.mp so ((lo+hi) / 2) i hm' h e
     omega
    ·have:i=(lo+hi) / 2:=by omega
     subst this;omega
  ·rw[if_neg c]
   exact⟨lo,rfl,by omega,a,fun i h hi'=>b i h (by omega)⟩
theorem lE {xs:Array Nat} (j:Nat) (so:Asc xs.toList):∃r,SetTable.below xs j=r/\r<=xs.size/\(∀i (h:i<xs.toList.length),i<r->xs.toList[i]<j)/\(∀i (h:i<xs.toList.length),r<=i->j<=xs.toList[i]):=by
 unfold SetTable.below
 exact pB xs j so xs.size 0 xs.size (by omega) (Nat.le_refl _) (by omega) (fun i h hi=>by omega) (fun i h hi=>by simp at h;omega)
theorem jZ {α:Type} (xs:Array α) (p:Nat) (x:α) (hp:p<=xs.size):(SetTable.insertAt xs p x).toList=xs.toList.take p++x::xs.toList.drop p:=by
 unfold SetTable.insertAt
 simp[Array.toList_extract,List.extract_eq_drop_take]
 rw[List.take_of_length_le (by simp)]
theorem xk {xs:Array Nat} {j:Nat} (so:Asc xs.toList) (hj:j∉xs.toList):Asc (SetTable.insertAt xs (SetTable.below xs j) j).toList:=by
 obtain⟨r,e,hr,a,b⟩:=lE j so
 rw[e,jZ _ _ _ hr]
 have s1:Asc (xs.toList.take r):=so.sublist (List.take_sublist _ _)
 have s2:Asc (xs.toList.drop r):=so.sublist (List.drop_sublist _ _)
 refine List.pairwise_append.mpr ⟨s1,List.pairwise_cons.mpr ⟨fun y hy=>?_,s2⟩,fun x hx y hy=>?_⟩
 ·obtain⟨i,hi,rfl⟩:=List.getElem_of_mem hy
  rw[List.getElem_drop]
  rw[List.length_drop] at hi
  have h1:=b (r+i) (by omega) (by omega)
  have h2:j≠xs.toList[r+i]:=fun z=>hj (z ▸ List.getElem_mem _)
  omega
 ·obtain⟨i,hi,rfl⟩:=List.getElem_of_mem hx
  rw[List.length_take] at hi
  have h1:=a i (by omega) (by omega)
  rw[List.getElem_take]
  rcases List.mem_cons.mp hy with rfl | hy
  ·exact h1
  ·obtain⟨k,hk,rfl⟩:=List.getElem_of_mem hy
   rw[List.length_drop] at hk
   rw[List.getElem_drop]
   have:=b (r+k) (by omega) (by omega)
   omega
noncomputable def okM (m:Nat):Prop:=m=7\/m=31\/m=127\/m=511
noncomputable def itr (m:Nat):Nat->Nat->Nat
 | 0,i=>i
 | b+1,i=>itr m b ((i*5+1) % (m+1))
theorem nQ (m:Nat):∀a b i,itr m (a+b) i=itr m b (itr m a i)
 | 0,b,i=>by rw[Nat.zero_add];rfl
 | a+1,b,i=>by rw[show a+1+b=(a+b)+1 by omega];exact nQ m a b _
noncomputable def Hr (m:Nat):Nat->Nat->List Nat
 | 0,_=>[]
 | b+1,i=>i::Hr m b ((i*5+1) % (m+1))
theorem yF (m:Nat):∀b i e,e∈Hr m b i->∃c,c<b/\itr m c i=e
 | 0,i,e,h=>by cases h
 | b+1,i,e,h=>by
  rcases List.mem_cons.mp h with rfl | h
  ·exact⟨0,by omega,rfl⟩
  ·obtain⟨c,h1,h2⟩:=yF m b _ e h
   exact⟨c+1,by omega,h2⟩
noncomputable def ckO (m:Nat):Bool:=(List.range (m+1)).all (fun e=>(Hr m (m+1) 0).contains e)&&(itr m (m+1) 0 == 0)
theorem ck7:ckO 7=true:=by decide +kernel
theorem K6:ckO 31=true:=by decide +kernel
theorem IC:ckO 127=true:=by decide +kernel
theorem JC:ckO 511=true:=by decide +kernel
theorem I0 {m:Nat} (h:okM m):ckO m=true:=by
 rcases h with rfl | rfl | rfl | rfl
 ·exact ck7
 ·exact K6
 ·exact IC
 ·exact JC
theorem IS {m i e:Nat} (h:okM m) (hi:i<=m) (he:e<=m):∃b,b<=m/\itr m b i=e:=by
 have q:=I0 h
 unfold ckO at q
 rw[Bool.and_eq_true,List.all_eq_true,beq_iff_eq] at q
 obtain⟨q1,q2⟩:=q
 have get:∀x,x<=m->∃c,c<m+1/\itr m c 0=x:=fun x hx=>yF m _ _ _ (by simpa using q1 x (List.mem_range.mpr (by omega)))
 obtain⟨a,ha,ea⟩:=get i hi
 obtain⟨b,hb,eb⟩:=get e he
 rcases Nat.lt_or_ge b a with c | c
 ·refine⟨m+1 - a+b,by omega,?_⟩
  rw[nQ,show itr m (m+1 - a) i=0 by rw[<- ea,<- nQ,show a+(m+1 - a)=m+1 by omega,q2],eb]
 ·refine⟨b - a,by omega,?_⟩
  rw[<- ea,<- nQ,show a+(b - a)=b by omega,eb]
noncomputable def blk (m:Nat):Nat->Nat->Nat->Nat × Nat
 | 0,i,p=>(i,p)
 | b+1,i,p=>blk m b (SetTable.leap m i p).1 (SetTable.leap m i p).2
theorem IG (m:Nat):∀b i,(blk m b i 0).1=itr m b i
 | 0,i=>rfl
 | b+1,i=>by
  show(blk m b ((i*5+1+0 / 32) % (m+1)) (0 / 32)).1=_
  rw[Nat.zero_div,Nat.add_zero,IG m b];rfl
theorem reach {m e:Nat} (h:okM m) (he:e<=m):∀c i p,p<32 ^ c->i<=m->∃b,b<=m+c/\(blk m b i p).1=e
 | 0,i,p,hp,hi=>by
  have:p=0:=by simpa using hp
  subst this
  obtain⟨b,h1,h2⟩:=IS h hi he
  exact⟨b,by omega,by rw[IG,h2]⟩
 | c+1,i,p,hp,hi=>by
  have h1:p / 32<32 ^ c:=by rw[Nat.div_lt_iff_lt_mul (by decide)];rw[Nat.pow_succ] at hp;exact hp
  have h2:(i*5+1+p / 32) % (m+1)<=m:=Nat.le_of_lt_succ (Nat.mod_lt _ (by omega))
  obtain⟨b,h3,h4⟩:=reach h he c ((i*5+1+p / 32) % (m+1)) (p / 32) h1 h2
  exact⟨b+1,by omega,h4⟩
theorem yS (h:Int):SetTable.bits h<32 ^ 13:=by
 unfold SetTable.bits
 have h1:=Int.emod_lt_of_pos h (show(0:Int)<2 ^ 64 by decide)
 have h2:=Int.emod_nonneg h (show(2 ^ 64:Int)≠0 by decide)
 have:((2:Int) ^ 64)=((2 ^ 64:Nat):Int):=by norm_cast
 have:(h % 2 ^ 64).toNat<2 ^ 64:=by omega
 exact Nat.lt_trans this (by decide)
structure Tb (t:SetTable):Prop where
 m:okM t.mask
 so:Asc t.place.toList
 le:∀x∈t.place.toList,x<=t.mask
 du:t.dummies = #[]
 sz:t.place.size<=t.mask
theorem yf (j:Nat):SetTable.has #[] j=false:=by
 unfold SetTable.has;simp
theorem DY {t:SetTable} (T:Tb t) {j:Nat} (hj:j∈t.place.toList):∃i,t.slot j=.live i/\i<t.place.size:=by
 obtain⟨r,e,hr,a,b⟩:=lE j T.so
 obtain⟨i,hi,ei⟩:=List.getElem_of_mem hj
 have h1:r<=i:=by
  rcases Nat.lt_or_ge i r with c | c
  ·have:=a i hi c;omega
  ·exact c
 have h2:i<=r:=by
  rcases Nat.lt_or_ge r i with c | c
  ·have q:=b r (by omega) (Nat.le_refl _)
   have:=List.pairwise_iff_getElem.mp T.so r i (by omega) hi c
   omega
  ·exact c
 have:i=r:=by omega
 subst this
 refine⟨i,?_,by simpa using hi⟩
 unfold SetTable.slot
 rw[e]
 have:t.place[i]?=some j:=by rw[<- Array.getElem?_toList,List.getElem?_eq_getElem hi,ei]
 simp[this]
theorem u7 {t:SetTable} (T:Tb t) {j:Nat} (hj:j∉t.place.toList):t.slot j=.empty:=by
 unfold SetTable.slot
 have:(t.place[SetTable.below t.place j]? == some j)=false:=by
  cases e:t.place[SetTable.below t.place j]? with
  | none=>rfl
  | some x=>
   have:x∈t.place.toList:=by rw[<- Array.getElem?_toList] at e;exact List.mem_of_getElem? e
   have ne:x≠j:=fun z=>hj (z ▸ this)
   simpa using ne
 simp[this,T.du,yf]
theorem wC {t:SetTable} (T:Tb t) (j:Nat):(t.slot j=.empty/\j∉t.place.toList)\/∃i,t.slot j=.live i/\i<t.place.size:=by
 by_cases h:j∈t.place.toList
 ·exact .inr (DY T h)
 ·exact .inl ⟨u7 T h,h⟩
theorem A5:∀{l l':List Nat},l.Nodup->(∀x∈l,x∈l')->l.length<=l'.length
 | [],_,_,_=>Nat.zero_le _
 | x::l,l',nd,s=>by
  obtain⟨n1,n2⟩:=List.nodup_cons.mp nd
  have:=A5 (l':=l'.erase x) n2 fun y hy=>(List.mem_erase_of_ne (fun z:y=x=>n1 (z ▸ hy))).mpr (s y (List.mem_cons_of_mem _ hy))
  have q:=s x List.mem_cons_self
  rw[List.length_erase_of_mem q] at this
  have:=List.length_pos_of_mem q
  rw[List.length_cons];omega
theorem xm {t:SetTable} (T:Tb t):∃e,e<=t.mask/\t.slot e=.empty:=by
 by_cases c:∃e,e<=t.mask/\e∉t.place.toList
 ·obtain⟨e,h1,h2⟩:=c
  exact⟨e,h1,u7 T h2⟩
 ·exfalso
  have all:∀e,e<=t.mask->e∈t.place.toList:=fun e he=>Classical.byContradiction fun z=>c ⟨e,he,z⟩
  have q:=A5 (l:=List.range (t.mask+1)) (l':=t.place.toList) List.nodup_range fun x hx=>all x (by have:=List.mem_range.mp hx;omega)
  rw[List.length_range,Array.length_toList] at q
  have:=T.sz
  omega
noncomputable def adv (t:SetTable):Nat->SetTable.Probe->SetTable.Probe
 | 0,q=>q
 | k+1,q=>adv t k (t.advance q)
theorem yb (t:SetTable):∀a b q,adv t (a+b) q=adv t b (adv t a q)
 | 0,b,q=>by rw[Nat.zero_add];rfl
 | a+1,b,q=>by rw[show a+1+b=(a+b)+1 by omega];exact yb t a b _
noncomputable abbrev pAt (t:SetTable) (i p:Nat):SetTable.Probe:={ j:=i,more:=SetTable.runEnd t.mask i - i,i:=i,perturb:=p,dummy:=none }
theorem xU (t:SetTable):∀c (q:SetTable.Probe),q.more=c->q.dummy=none->adv t (c+1) q=pAt t (SetTable.leap t.mask q.i q.perturb).1 (SetTable.leap t.mask q.i q.perturb).2
 | 0,q,h,hd=>by
  show t.advance q=_
  unfold SetTable.advance
  rw[if_neg (by omega)]
  obtain⟨j,mo,i,p,d⟩:=q
  subst hd
  rfl
 | c+1,q,h,hd=>by
  show adv t (c+1) (t.advance q)=_
  have e:t.advance q={ q with j:=q.j+1,more:=q.more - 1 }:=by unfold SetTable.advance;rw[if_pos (by omega)]
  rw[e];exact xU t c _ (by show q.more - 1=c;omega) hd
theorem GB (m i:Nat):SetTable.runEnd m i - i<=9:=by unfold SetTable.runEnd;split<;>omega
theorem yI (t:SetTable):∀b i p,∃k,k<=10*b/\adv t k (pAt t i p)=pAt t (blk t.mask b i p).1 (blk t.mask b i p).2
 | 0,i,p=>⟨0,by omega,rfl⟩
 | b+1,i,p=>by
  obtain⟨k,h1,h2⟩:=yI t b (SetTable.leap t.mask i p).1 (SetTable.leap t.mask i p).2
  refine⟨SetTable.runEnd t.mask i - i+1+k,by have:=GB t.mask i;omega,?_⟩
  rw[yb,xU t _ (pAt t i p) rfl rfl,h2]
  rfl
theorem CZ (t:SetTable) (h:Int):(t.probeStart h).j+(t.probeStart h).more<=t.mask:=by
 show SetTable.bits h % (t.mask+1)+(SetTable.runEnd t.mask (SetTable.bits h % (t.mask+1)) - SetTable.bits h % (t.mask+1))<=_
 have:SetTable.bits h % (t.mask+1)<=t.mask:=Nat.le_of_lt_succ (Nat.mod_lt _ (by omega))
 unfold SetTable.runEnd
 split<;>omega
theorem HE {t:SetTable} (q:SetTable.Probe) (h:q.j+q.more<=t.mask):(t.advance q).j+(t.advance q).more<=t.mask:=by
 unfold SetTable.advance
 split
 ·show q.j+1+(q.more - 1)<=_;omega
 ·show(SetTable.leap t.mask q.i q.perturb).1+(SetTable.runEnd t.mask (SetTable.leap t.mask q.i q.perturb).1 - (SetTable.leap t.mask q.i q.perturb).1)<=t.mask
  have:(SetTable.leap t.mask q.i q.perturb).1<=t.mask:=Nat.le_of_lt_succ (Nat.mod_lt _ (by omega))
  unfold SetTable.runEnd
  split<;>omega
noncomputable def Rch (t:SetTable) (k:Nat) (q:SetTable.Probe):Prop:=q.dummy=none/\q.j+q.more<=t.mask/\t.slot (adv t k q).j=.empty
theorem zJ {t:SetTable} (T:Tb t) (h:Int):∃k,k+1<10*SetTable.turns t.mask/\Rch t k (t.probeStart h):=by
 obtain⟨e,he,ee⟩:=xm T
 obtain⟨b,h1,h2⟩:=reach T.m he 13 (SetTable.bits h % (t.mask+1)) (SetTable.bits h) (yS h) (Nat.le_of_lt_succ (Nat.mod_lt _ (by omega)))
 obtain⟨k,h3,h4⟩:=yI t b (SetTable.bits h % (t.mask+1)) (SetTable.bits h)
 refine⟨k,by unfold SetTable.turns;omega,rfl,CZ t h,?_⟩
 show t.slot (adv t k (pAt t (SetTable.bits h % (t.mask+1)) (SetTable.bits h))).j=.empty
 rw[h4]
 show t.slot (blk t.mask b (SetTable.bits h % (t.mask+1)) (SetTable.bits h)).1=.empty
 rw[h2,ee]
theorem Aj (t:SetTable) (q:SetTable.Probe):(t.advance q).dummy=q.dummy:=by unfold SetTable.advance;split<;>rfl
theorem Bn {t:SetTable} (T:Tb t) (ha:Nat->Int) (h:Int):∀k fuel q,k<fuel->Rch t k q →
  (∃j,SetTable.probe.go t ha h fuel q=some (.empty j none)/\j∉t.place.toList/\j<=t.mask)\/(∃j i k' q',SetTable.probe.go t ha h fuel q=some (.candidate j i q')/\t.slot j=.live i/\i<t.place.size/\ha i=h/\k'<k/\Rch t k' q')
 | k,0,q,hf,_=>by omega
 | k,f+1,q,hf,R=>by
  unfold SetTable.probe.go
  rcases wC T q.j with⟨e,hn⟩ | ⟨i,e,hi⟩
  ·rw[e]
   exact .inl ⟨q.j,by show some (SetTable.Met.empty q.j q.dummy)=_;rw[R.1],hn,by have:=R.2.1;omega⟩
  ·rw[e]
   cases k with
   | zero=>have:=R.2.2;rw[show adv t 0 q=q from rfl,e] at this;cases this
   | succ k=>
    have R':Rch t k (t.advance q):=⟨by rw[Aj];exact R.1,HE q R.2.1,R.2.2⟩
    by_cases c:(ha i == h)=true
    ·refine .inr ⟨q.j,i,k,t.advance q,?_,e,hi,by simpa using c,by omega,R'⟩
     show(if (ha i == h)=true then _ else _)=_
     rw[if_pos c]
    ·show(∃j,(if (ha i == h)=true then _ else _)=_/\_)\/(∃j i' k' q',(if (ha i == h)=true then _ else _)=_/\_)
     rw[if_neg c]
     rcases Bn T ha h k f (t.advance q) (by omega) R' with⟨j,h1,h2,h3⟩ | ⟨j,i',k',q',h1,h2,h3,h4,h5,h6⟩
     ·exact .inl ⟨j,h1,h2,h3⟩
     ·exact .inr ⟨j,i',k',q',h1,h2,h3,h4,by omega,h6⟩
theorem vI {m:Nat} (owner:Array (Option Nat)) {e:Nat} (he:(owner.getD e (some 0)).isNone=true):∀b fuel i p,b<fuel->(blk m b i p).1=e →
  ∃j,SetTable.layClean.free m owner fuel i p=some j/\(owner.getD j (some 0)).isNone=true
 | b,0,i,p,h,_=>by omega
 | b,f+1,i,p,h,hb=>by
  unfold SetTable.layClean.free
  cases c:(List.range (SetTable.runEnd m i+1 - i)).find? fun k=>(owner.getD (i+k) (some 0)).isNone with
  | some k=>exact⟨i+k,rfl,by simpa using List.find?_some c⟩
  | none=>
   cases b with
   | zero=>
    exfalso
    have hr:SetTable.runEnd m i ≥ i:=by unfold SetTable.runEnd;split<;>omega
    have:=List.find?_eq_none.mp c 0 (List.mem_range.mpr (by omega))
    rw[show i+0=e from hb] at this
    exact this he
   | succ b=>exact vI owner he b f _ _ (by omega) hb
noncomputable def i8 (l:List (Option Nat)):List Nat:=l.filterMap id
theorem vz:∀{l:List (Option Nat)},(i8 l).length<l.length->∃j:Nat,l[j]?=some none
 | [],h=>by simp[i8] at h
 | none::l,_=>⟨0,rfl⟩
 | some x::l,h=>by
  obtain⟨j,e⟩:=vz (l:=l) (by simp[i8] at h ⊢;omega)
  exact⟨j+1,e⟩
theorem tF {k:Nat}:∀{l:List (Option Nat)} {j:Nat},l[j]?=some none->(i8 (l.set j (some k))).Perm (k::i8 l)
 | none::l,0,_=>by simp[i8]
 | some x::l,0,h=>by cases h
 | none::l,j+1,h=>by simpa [i8] using tF (l:=l) h
 | some x::l,j+1,h=>by
  have:=tF (k:=k) (l:=l) h
  simp only[i8,List.set_cons_succ,List.filterMap_cons,id] at this ⊢
  exact(this.cons x).trans (.swap _ _ _)
noncomputable def nZ (m:Nat) (acc:Option (Array (Option Nat) × Nat)) (h:Int):Option (Array (Option Nat) × Nat):=do
 let (owner,k) ← acc
 let j ← SetTable.layClean.free m owner (SetTable.turns m) (SetTable.bits h % (m+1)) (SetTable.bits h)
 pure (owner.setIfInBounds j (some k),k+1)
theorem uN {m:Nat} (hm:okM m):∀(hs:List Int) (owner:Array (Option Nat)) (k:Nat),owner.size=m+1->(i8 owner.toList).Perm (List.range k)->k+hs.length<=m+1 →
  ∃owner',hs.foldl (nZ m) (some (owner,k))=some (owner',k+hs.length)/\owner'.size=m+1/\(i8 owner'.toList).Perm (List.range (k+hs.length))
 | [],owner,k,hs,hp,_=>⟨owner,rfl,hs,hp⟩
 | h::r,owner,k,hs,hp,hk=>by
  rw[List.length_cons] at hk
  have hl:(i8 owner.toList).length<owner.toList.length:=by rw[hp.length_eq,List.length_range,Array.length_toList];omega
  obtain⟨e,ee⟩:=vz hl
  rw[Array.getElem?_toList] at ee
  have he:(owner.getD e (some 0)).isNone=true:=by simp[Array.getD_eq_getD_getElem?,ee]
  have hle:e<=m:=by have:=(Array.getElem?_eq_some_iff.mp ee).1;omega
  obtain⟨b,h1,h2⟩:=reach hm hle 13 (SetTable.bits h % (m+1)) (SetTable.bits h) (yS h) (Nat.le_of_lt_succ (Nat.mod_lt _ (by omega)))
  obtain⟨j,h3,h4⟩:=vI (m:=m) owner he b (SetTable.turns m) _ _ (by unfold SetTable.turns;omega) h2
  have hj:owner[j]?=some none:=by
   rw[Array.getD_eq_getD_getElem?] at h4
   cases c:owner[j]? with
   | none=>rw[c] at h4;simp at h4
   | some x=>rw[c] at h4;simp at h4;rw[h4]
  have hp2:(i8 (owner.setIfInBounds j (some k)).toList).Perm (List.range (k+1)):=by
   rw[Array.toList_setIfInBounds]
   refine(tF (by rw[Array.getElem?_toList];exact hj)).trans ((hp.cons k).trans ?_)
   rw[List.range_succ]
   exact(List.perm_append_singleton k (List.range k)).symm
  obtain⟨o',q1,q2,q3⟩:=uN hm r (owner.setIfInBounds j (some k)) (k+1) (by simpa using hs) hp2 (by omega)
  refine⟨o',?_,q2,?_⟩
  ·rw[List.foldl_cons,show nZ m (some (owner,k)) h=some (owner.setIfInBounds j (some k),k+1) by unfold nZ;simp[h3],q1,List.length_cons]
   congr 2;omega
  ·rw[List.length_cons,show k+(r.length+1)=k+1+r.length by omega];exact q3
theorem Hd {m:Nat} (hm:okM m) (hs:Array Int) (hl:hs.size<=m+1):∃owner,SetTable.layClean m hs=some owner/\owner.size=m+1/\(i8 owner.toList).Perm (List.range hs.size):=by
 obtain⟨o',q1,q2,q3⟩:=uN hm hs.toList (Array.replicate (m+1) none) 0 (by simp) (by simp[i8]) (by rw[Array.length_toList];omega)
 refine⟨o',?_,q2,by rw[Nat.zero_add,Array.length_toList] at q3;exact q3⟩
 show(hs.foldl (nZ m) (some (Array.replicate (m+1) none,0))).map (·.1)=_
 rw[<- Array.foldl_toList,q1];rfl
theorem kI (g:Nat->Option Nat):∀l:List Nat,(l.filterMap fun j=>(g j).map (j,·)).map (·.1)=l.filter fun j=>(g j).isSome
 | []=>rfl
 | j::l=>by
  rw[List.filterMap_cons,List.filter_cons]
  cases e:g j with
  | none=>simpa [e] using kI g l
  | some x=>simpa [e] using kI g l
theorem kU (g:Nat->Option Nat):∀l:List Nat,(l.filterMap fun j=>(g j).map (j,·)).map (·.2)=l.filterMap g
 | []=>rfl
 | j::l=>by
  rw[List.filterMap_cons,List.filterMap_cons]
  cases e:g j with
  | none=>simpa [e] using kU g l
  | some x=>simpa [e] using kU g l
theorem qI (o:Array (Option Nat)):(List.range o.size).filterMap (fun j=>o.getD j none)=i8 o.toList:=by
 have e:(List.range o.size).map (fun j=>o.getD j none)=o.toList:=by
  apply List.ext_getElem
  ·simp
  ·intro i h1 h2
   simp at h1
   simp[Array.getD,h1]
 rw[i8,<- e,List.filterMap_map];rfl
theorem Eb {m f mv:Nat} {ld pl:Bool} (hm:okM m) (hs:Array Int) (hl:hs.size<=m):∃t order,SetTable.laid m f mv ld pl hs=some (t,order)/\Tb t/\t.mask=m/\t.led=ld/\t.plain=pl/\t.place.size=hs.size/\order.toList.Perm (List.range hs.size):=by
 obtain⟨o,q1,q2,q3⟩:=Hd hm hs (by omega)
 refine⟨{ mask:=m,place:=((List.range (m+1)).filter fun j=>(o.getD j none).isSome).toArray,dummies:=#[],finger:=f,led:=ld,moves:=mv,plain:=pl },(i8 o.toList).toArray,?_,?_⟩
 ·unfold SetTable.laid
  rw[q1]
  show some _=some _
  congr 2
  ·congr 2
   exact kI (fun j=>o.getD j none) _
  ·rw[kU (fun j=>o.getD j none),<- q2,qI]
 ·have len:((List.range (m+1)).filter fun j=>(o.getD j none).isSome).length=hs.size:=by
   rw[<- kI,List.length_map,<- List.length_map (f:=(·.2)),kU,<- q2,qI,q3.length_eq,List.length_range]
  refine⟨⟨hm,?_,?_,rfl,?_⟩,rfl,rfl,rfl,?_,?_⟩
  ·show Asc (List.toArray _).toList
   exact List.Pairwise.filter _ List.pairwise_lt_range
  ·intro x hx
   have:=List.mem_range.mp (List.mem_filter.mp hx).1
   show x<=m;omega
  ·show(List.toArray _).size<=m
   rw[List.size_toArray,len];exact hl
  ·show(List.toArray _).size=_
   rw[List.size_toArray,len]
  ·exact q3
theorem F7 {t:SetTable} (T:Tb t) {j:Nat} (hj:j∉t.place.toList) (hm:j<=t.mask) (hs:t.place.size+1<=t.mask):Tb (t.put j).1/\(t.put j).1.mask=t.mask/\(t.put j).1.led=t.led/\(t.put j).1.plain=t.plain/\(t.put j).1.place.size=t.place.size+1/\(t.put j).2<=t.place.size:=by
 obtain⟨r,e,hr,_⟩:=lE j T.so
 have il:=jZ t.place r j hr
 have sz:(SetTable.insertAt t.place (SetTable.below t.place j) j).size=t.place.size+1:=by
  rw[e,<- Array.length_toList,il,List.length_append,List.length_cons,List.length_take,List.length_drop,Array.length_toList];omega
 have du:(t.put j).1.dummies = #[]:=by
  show(if SetTable.has t.dummies j=true then _ else t.dummies)=_
  rw[T.du,yf];rfl
 refine⟨⟨T.m,xk T.so hj,?_,du,?_⟩,rfl,rfl,rfl,sz,by show SetTable.below t.place j<=_;rw[e];exact hr⟩
 ·intro x hx
  have hx:x∈(SetTable.insertAt t.place (SetTable.below t.place j) j).toList:=hx
  rw[e,il] at hx
  show x<=t.mask
  rcases List.mem_append.mp hx with h | h
  ·exact T.le x (List.mem_of_mem_take h)
  ·rcases List.mem_cons.mp h with rfl | h
   ·exact hm
   ·exact T.le x (List.mem_of_mem_drop h)
 ·show(SetTable.insertAt t.place (SetTable.below t.place j) j).size<=t.mask
  rw[sz];exact hs
structure Gd (bt:Bool) (t:SetTable) (n:Nat):Prop where
 tb:Tb t
 sz:t.place.size=n
 led:t.led = !bt
 pl:t.plain=true
 rng:(t.mask=7/\n<=4)\/(t.mask=31/\5<=n/\n<=18)\/(t.mask=127/\19<=n/\n<=76)\/(t.mask=511/\77<=n/\n<=306)
theorem Gd.fits {bt:Bool} {t:SetTable} {n:Nat} (g:Gd bt t n):t.fits n=true:=by
 unfold SetTable.fits SetTable.fill
 rw[g.sz,g.tb.du]
 have:=g.tb.sz
 rw[g.sz] at this
 simp;exact this
theorem Ht (bt:Bool):Gd bt (.fresh 0 0 (!bt)) 0:=⟨⟨.inl rfl,by simp[SetTable.fresh,Asc],by simp[SetTable.fresh],rfl,by simp[SetTable.fresh]⟩,rfl,rfl,rfl,.inl ⟨rfl,by omega⟩⟩
structure Pre (bt:Bool) (t:SetTable) (n:Nat):Prop where
 tb:Tb t
 sz:t.place.size=n
 led:t.led = !bt
 pl:t.plain=true
 fits:t.fits n=true
 no:t.tooFull=false->Gd bt t n
 yes:t.tooFull=true->∃m,SetTable.sizeAbove (SetTable.grown n)=m+1/\m<=511/\∀hs:Array Int,hs.size=n->∃t' order,t.relaid hs (SetTable.grown n)=some (t',order)/\Gd bt t' n/\order.toList.Perm (List.range n)
theorem Gj {bt:Bool} {t:SetTable} {n:Nat} (g:Gd bt t n) (hn:n<306) {j:Nat} (hj:j∉t.place.toList) (hm:j<=t.mask):Pre bt (t.put j).1 (n+1)/\(t.put j).2<=n:=by
 have hs:t.place.size+1<=t.mask:=by rw[g.sz];rcases g.rng with h | h | h | h<;>omega
 obtain⟨T,e1,e2,e3,e4,e5⟩:=F7 g.tb hj hm hs
 rw[g.sz] at e4 e5
 have ft:(t.put j).1.fits (n+1)=true:=by
  unfold SetTable.fits SetTable.fill
  have:=T.sz
  rw[e4] at this
  rw[e4,T.du];simp;exact this
 have tf:(t.put j).1.tooFull=decide ((n+1)*5 ≥ t.mask*3):=by
  unfold SetTable.tooFull SetTable.fill
  rw[e4,T.du,e1];simp
 refine⟨⟨T,e4,by rw[e2];exact g.led,by rw[e3];exact g.pl,ft,fun c=>⟨T,e4,by rw[e2];exact g.led,by rw[e3];exact g.pl,?_⟩,fun c=>?_⟩,e5⟩
 ·rw[tf] at c
  have c:=of_decide_eq_false c
  rw[e1]
  rcases g.rng with h | h | h | h
  ·exact .inl ⟨h.1,by omega⟩
  ·exact .inr (.inl ⟨h.1,by omega,by omega⟩)
  ·exact .inr (.inr (.inl ⟨h.1,by omega,by omega⟩))
  ·exact .inr (.inr (.inr ⟨h.1,by omega,by omega⟩))
 ·rw[tf] at c
  have c:=of_decide_eq_true c
  have key:∀m,okM m->SetTable.sizeAbove (SetTable.grown (n+1))=m+1->m<=511->n+1<=m->((m=7/\n+1<=4)\/(m=31/\5<=n+1/\n+1<=18)\/(m=127/\19<=n+1/\n+1<=76)\/(m=511/\77<=n+1/\n+1<=306)) →
    ∃m,SetTable.sizeAbove (SetTable.grown (n+1))=m+1/\m<=511/\∀hs:Array Int,hs.size=n+1->∃t' order,(t.put j).1.relaid hs (SetTable.grown (n+1))=some (t',order)/\Gd bt t' (n+1)/\order.toList.Perm (List.range (n+1)):=by
   intro m om hsz h5 hle hr
   refine⟨m,hsz,h5,fun hs hh=>?_⟩
   unfold SetTable.relaid
   rw[hsz,show m+1 - 1=m by omega]
   obtain⟨t',order,a1,a2,a3,a4,a5,a6,a7⟩:=Eb (m:=m) (f:=(t.put j).1.finger) (mv:=(t.put j).1.movedTo m) (ld:=(t.put j).1.led) (pl:=(t.put j).1.plain) om hs (by omega)
   rw[hh] at a6 a7
   exact⟨t',order,a1,⟨a2,a6,by rw[a4,e2];exact g.led,by rw[a5,e3];exact g.pl,by rw[a3];exact hr⟩,a7⟩
  rcases g.rng with h | h | h | h
  ·have:n+1=5:=by omega
   exact key 31 (.inr (.inl rfl)) (by rw[this];decide) (by omega) (by omega) (.inr (.inl ⟨rfl,by omega,by omega⟩))
  ·have:n+1=19:=by omega
   exact key 127 (.inr (.inr (.inl rfl))) (by rw[this];decide) (by omega) (by omega) (.inr (.inr (.inl ⟨rfl,by omega,by omega⟩)))
  ·have:n+1=77:=by omega
   exact key 511 (.inr (.inr (.inr rfl))) (by rw[this];decide) (by omega) (by omega) (.inr (.inr (.inr ⟨rfl,by omega,by omega⟩)))
  ·exfalso;omega
end L2.ST
namespace L2.ST
open PySem PySem.Spec PyProof.Rows
noncomputable abbrev byT (w:World):Bool:=w.params.followText "set-order"
noncomputable def HI (w:World) (h:Heap) (S:Addr) (es:Array (Int × Value)):Prop:=∃o ep t,h.get? S=some o/\o.ExactSet/\o.data=.set es ep t/\Gd (byT w) t es.size
theorem AO {α:Type} (xs:Array α) (p:Nat) (x:α):(SetTable.insertAt xs p x).size=xs.size+1:=by
 have:=(SetTable.insertAt_perm xs p x).length_eq
 simpa using this
theorem Ab {α:Type} {es:Array α} {order:Array Nat} (p:order.toList.Perm (List.range es.size)):(order.filterMap (es[·]?)).toList.Perm es.toList:=by
 rw[Array.toList_filterMap]
 exact(p.filterMap _).trans (by rw[filterMap_getElem?_range])
section
variable {prog:Program} {w:World} {A:Around} {E:Value->Shared->Prop} {s:Shared} {S:Addr} {es:Array (Int × Value)}
theorem xM {h:Heap} {o:Obj} {ep:Nat} {t:SetTable} (ho:h.get? S=some o) (hd:o.data=.set es ep t) (es':Array (Int × Value)) (t':SetTable) :
  (h.update S (Obj.putSet es' t')).get? S=some { o with data:=.set es' (ep+1) t' }:=by
 have:=Heap.get?_update_self (Obj.putSet es' t') ho (by rw[putSet_of es' t' hd];rfl)
 rw[putSet_of es' t' hd] at this;exact this
theorem vn {n:Nat} (h:n<=306):n<=sizeLine:=Nat.le_trans h (by decide)
end
section
variable {prog:Program} {w:World} {A:Around} {E:Value->Shared->Prop} {s:Shared} {S:Addr} {es:Array (Int × Value)}
noncomputable abbrev TK (prog:Program) (w:World) (h:Heap) (ks:List Int) (a:Addr):Prop:=IsTupleKey (intKind prog w) h ks a
noncomputable def FP (prog:Program) (w:World) (h:Heap) (es:List (Int × Value)) (x:List Int):Prop:=∀e∈es,∃ks a,e.2=.ref a/\TK prog w h ks a/\ks≠x
theorem HA {k:Int} {v:Value} (h:(intKind prog w).is k v=true):∃t,v=.int k t:=by
 cases v<;>simp[intKind,Value.isInt] at h
 subst h;exact⟨_,rfl⟩
theorem items_int {ks:List Int} {vs:List Value} (h:ItemsAre (intKind prog w) ks vs):∀v∈vs,∃n t,v=.int n t:=by
 induction h with
 | nil=>intro v hv;cases hv
 | cons h1 _ ih=>
  intro v hv
  rcases List.mem_cons.mp hv with rfl | hv
  ·obtain⟨t,e⟩:=HA h1;exact⟨_,t,e⟩
  ·exact ih v hv
theorem qJ {ks:List Int} {a:Addr} {Q:Bool->Shared->Prop} (hk:TK prog w s.heap ks a) (h:Q false s):wpAny (model prog w) A (ofAClassStatement 8 (.ref a)) Q E s:=by
 have hT:=hk.typeIs
 obtain⟨o,items,n,ho,_,hd,hi⟩:=hk
 unfold ofAClassStatement
 refine wpAny_bind (wpAny_typeOf hT ?_)
 dsimp only
 refine wpAny_bind (wpAny_pure ?_)
 simp only[Bool.not_true,Bool.false_eq_true,if_false]
 refine wpAny_bind (wpAny_seqItems ho hd ?_)
 dsimp only
 refine wpAny_bind ?_
 rw[<- Array.forIn_toList]
 refine wpAny_forIn_list _ (fun rest r s'=>r.1=none/\s'=s/\∀v∈rest,∃n t,v=.int n t) _ ?_ ?_ _ _ ⟨rfl,rfl,items_int hi⟩
 ·rintro v rest r s' ⟨hr,rfl,hall⟩
  obtain⟨n,t,rfl⟩:=hall v List.mem_cons_self
  refine wpAny_bind ?_
  unfold ofAClassStatement
  refine wpAny_pure ?_
  simp only[Bool.false_eq_true,if_false]
  exact wpAny_pure ⟨rfl,rfl,fun u hu'=>hall u (List.mem_cons_of_mem _ hu')⟩
 ·rintro⟨r1,r2⟩ s' ⟨hr,rfl,_⟩
  simp only at hr
  subst hr
  exact wpAny_pure h
theorem EU {x:List Int} {a:Addr} {Q:Bool->Shared->Prop} (hk:TK prog w s.heap x a) {l:List Value} (hl:∀v∈l,∃ks b,v=.ref b/\TK prog w s.heap ks b) (h:Q false s):wpAny (model prog w) A (searchCouldBeSeen (.ref a) l) Q E s:=by
 unfold searchCouldBeSeen
 refine wpAny_bind ?_
 refine wpAny_forIn_list _ (fun rest r s'=>r.1=none/\s'=s/\∀v∈rest,∃ks b,v=.ref b/\TK prog w s.heap ks b) _ ?_ ?_ _ _ ⟨rfl,rfl,hl⟩
 ·rintro v rest r s' ⟨hr,rfl,hall⟩
  obtain⟨ks,b,rfl,hb⟩:=hall v List.mem_cons_self
  dsimp only
  have nx:∀u∈rest,∃ks b,u=.ref b/\TK prog w s'.heap ks b:=fun u hu'=>hall u (List.mem_cons_of_mem _ hu')
  refine wpAny_ite_split (fun _=>wpAny_pure ⟨rfl,rfl,nx⟩) fun _=>?_
  refine wpAny_bind (wpAny_eqIsQuiet_tuple hk ?_)
  simp only[Bool.not_true,Bool.false_eq_true,if_false]
  refine wpAny_bind (wpAny_eqIsQuiet_tuple hb ?_)
  simp only[Bool.not_true,Bool.false_eq_true,if_false]
  refine wpAny_bind (qJ hk ?_)
  simp only[Bool.false_eq_true,if_false]
  refine wpAny_bind (qJ hb ?_)
  simp only[Bool.false_eq_true,if_false]
  exact wpAny_pure ⟨rfl,rfl,nx⟩
 ·rintro⟨r1,r2⟩ s' ⟨hr,rfl,_⟩
  simp only at hr
  subst hr
  exact wpAny_pure h
theorem Jd {t:SetTable} (T:Tb t):t.gaveWay=false:=by
 unfold SetTable.gaveWay
 rcases T.m with h | h | h | h<;>rw[h]<;>rfl
theorem El {ks:List Int} {a:Addr} {Q:Bool->Shared->Prop} (hk:TK prog w s.heap ks a) (h:Q true s):wpAny (model prog w) A (hashByValue 8 (.ref a)) Q E s:=by
 have hT:=hk.typeIs
 obtain⟨o,items,n,ho,_,hd,hi⟩:=hk
 unfold hashByValue
 refine wpAny_bind (wpAny_specialOf hT F.slot_tuple_hash.lookup ?_)
 show wpAny _ _ (seqItems? (.ref a) >>= _) _ _ s
 refine wpAny_bind (wpAny_seqItems ho hd ?_)
 refine wpAny_bind ?_
 show wpAny _ _ (forIn items _ _) _ _ s
 rw[<- Array.forIn_toList]
 refine wpAny_forIn_list _ (fun rest r s'=>r.1=none/\s'=s/\∀v∈rest,∃n t,v=.int n t) _ ?_ ?_ _ _ ⟨rfl,rfl,items_int hi⟩
 ·rintro v rest r s' ⟨hr,rfl,hall⟩
  obtain⟨n,t,rfl⟩:=hall v List.mem_cons_self
  refine wpAny_bind ?_
  unfold hashByValue
  refine wpAny_pure ?_
  simp only[Bool.not_true,Bool.false_eq_true,if_false]
  exact wpAny_pure ⟨rfl,rfl,fun u hu'=>hall u (List.mem_cons_of_mem _ hu')⟩
 ·rintro⟨r1,r2⟩ s' ⟨hr,rfl,_⟩
  simp only at hr
  subst hr
  exact wpAny_pure h
theorem zL {x:List Int} {a:Addr} {h:Int} {o:Obj} {ep:Nat} {t:SetTable} {Q:SetFound->Shared->Prop} (ho:s.heap.get? S=some o) (hd:o.data=.set es ep t) (T:Tb t) (hsz:t.place.size=es.size) (hf:t.fits es.size=true) (hu:A.units<cLine)
  (hk:TK prog w s.heap x a) (hes:FP prog w s.heap es.toList x) (hQ:∀j,j∉t.place.toList->j<=t.mask->Q (.free j false) s) :
  ∀k fuel stand,k<fuel->k<10*SetTable.turns t.mask->Rch t k (stand.getD (t.probeStart h))->wpAny (model prog w) A (setSearchFrom S (.ref a) h true fuel stand) Q E s:=by
 intro k
 induction k using Nat.strongRecOn with
 | _ k ih=>
  intro fuel stand hfu hk2 R
  cases fuel with
  | zero=>omega
  | succ fuel=>
   unfold setSearchFrom
   refine wpAny_bind (wpAny_setState_of ho hd hf ?_)
   dsimp only
   rw[Jd T]
   simp only[Bool.false_eq_true,if_false]
   generalize hp:t.probe _ h (stand.getD (t.probeStart h))=mt
   have key:∀ha,t.probe ha h (stand.getD (t.probeStart h))=mt->_:=fun ha e=>(e ▸ Bn T ha h k (10*SetTable.turns t.mask) _ hk2 R:(∃j,mt=some (.empty j none)/\j∉t.place.toList/\j<=t.mask)\/(∃j i k' q',mt=some (.candidate j i q')/\t.slot j=.live i/\i<t.place.size/\ha i=h/\k'<k/\Rch t k' q'))
   rcases key _ hp with⟨j,rfl,j1,j2⟩ | ⟨j,i,k',q',rfl,j1,j2,_,j4,j5⟩
   ·exact wpAny_pure (hQ j j1 j2)
   ·dsimp only
    have hi:i<es.size:=by omega
    obtain⟨ks,b,e1,e2,e3⟩:=hes es[i] (Array.getElem_mem_toList hi)
    have hei:es[i]?=some (es[i].1,.ref b):=by rw[Array.getElem?_eq_getElem hi,<- e1]
    have rest:wpAny (model prog w) A (do
      let some (_,y):=es[i]? | unsupported "internal:set-entry"
      let equal ← holding [y] (eqBool y (.ref a))
      let (es',_,t') ← setState S
      if true&&equal then return SetFound.there none
      let some same:=t'.sameMemory t.moves t.mask | unsupported "set.changed-during-lookup:is-the-new-block-at-the-old-address"
      let still ← match (if same then t'.slot j else .empty) with
       | .live i'=>match es'[i']? with
        | some (_,y')=>do pure (if ← isSame y' y then some i' else none)
        | none=>pure none
       | _=>pure none
      match still with
      | none=>rule "set.search.anew"; setSearchFrom S (.ref a) h true fuel none
      | some i'=>if equal then return SetFound.there (some i') else setSearchFrom S (.ref a) h true fuel (some q')) Q E s:=by
     rw[hei]
     dsimp only
     refine wpAny_bind (wpAny_holding (wpAny_eqBool_tuple hu e2 hk ?_))
     rw[decide_eq_false e3]
     refine wpAny_bind (wpAny_setState_of ho hd hf ?_)
     simp only[Bool.and_false,Bool.false_eq_true,if_false]
     have sm:t.sameMemory t.moves t.mask=some true:=by unfold SetTable.sameMemory;simp
     rw[sm]
     simp only[if_true]
     rw[j1]
     dsimp only
     rw[hei]
     dsimp only
     refine wpAny_bind (wpAny_isSame_ref_self (wpAny_bind (wpAny_pure ?_)))
     simp only[if_true]
     exact ih k' j4 fuel (some q') (by omega) (by omega) j5
    refine wpAny_ite_split (fun _=>?_) fun _=>?_
    ·refine wpAny_bind (EU hk (fun v hv=>?_) ?_)
     ·obtain⟨e,he,rfl⟩:=List.mem_map.mp hv
      obtain⟨ks',b',q1,q2,_⟩:=hes e (by rw[Array.toList_filter] at he;exact(List.mem_filter.mp he).1)
      exact⟨ks',b',q1,q2⟩
     ·simp only[Bool.false_eq_true,if_false]
      exact rest
    ·exact rest
end
section
variable {prog:Program} {w:World} {A:Around} {E:Value->Shared->Prop} {s:Shared} {S:Addr} {es:Array (Int × Value)}
theorem EZ {x:List Int} {a:Addr} {hs:Int} {Q:Bool->Shared->Prop} (hS:HI w s.heap S es) (hn:es.size<306) (hu:A.units<cLine) (hk:TK prog w s.heap x a) (hes:FP prog w s.heap es.toList x)
  (h1:∀h' es',Heap.SameBut S s.heap h'->HI w h' S es'->es'.toList.Perm (es.toList++[(hs,.ref a)])->Q true { s with heap:=h' }) :
  wpAny (model prog w) A (setAddHashed S (.ref a) hs) Q E s:=by
 obtain⟨o,ep,t,ho,hex,hd,g⟩:=hS
 have hf:=g.fits
 unfold setAddHashed setAddHashedIn
 refine wpAny_holding (wpAny_bind (wpAny_setState_of ho hd hf ?_))
 dsimp only
 rw[show byScan (.ref a) es=false by unfold byScan Value.scannable;rfl]
 simp only[Bool.false_eq_true,if_false]
 obtain⟨k,k1,R⟩:=zJ g.tb hs
 unfold setSearch
 refine wpAny_bind (zL ho hd g.tb g.sz hf hu hk hes (fun j jn jl=>?_) k 100000 none ?_ (by omega) R)
 ·dsimp only
  refine wpAny_bind (wpAny_setState_of ho hd hf ?_)
  dsimp only
  obtain⟨P,pl⟩:=Gj g hn jn jl
  have sz:(SetTable.insertAt es (t.put j).2 (hs,Value.ref a)).size=es.size+1:=AO _ _ _
  have pm:=SetTable.insertAt_perm es (t.put j).2 (hs,Value.ref a)
  rw[Array.toList_push] at pm
  generalize he1:SetTable.insertAt es (t.put j).2 (hs,Value.ref a)=es1 at sz pm
  generalize ht1:(t.put j).1=t1 at P
  rw[P.pl]
  simp only[if_true]
  refine wpAny_bind (El hk ?_)
  simp only[if_true]
  refine wpAny_bind (wpAny_storeSet_of ho hd ?_ (vn (by omega)))
  have e1:=xM ho hd es1 t1
  by_cases c:t1.tooFull=true
  ·rw[c]
   simp only[Bool.not_false,Bool.and_self,if_true]
   obtain⟨m,m1,m2,q⟩:=P.yes c
   obtain⟨t',order,a1,a2,a3⟩:=q (es1.map (·.1)) (by rw[Array.size_map,sz])
   rw[<- sz] at a3
   have pm2:=Ab a3
   have sz2:(order.filterMap (es1[·]?)).size=es.size+1:=by rw[<- Array.length_toList,pm2.length_eq,Array.length_toList,sz]
   refine wpAny_bind ?_
   unfold setRelay
   refine wpAny_bind (wpAny_setState_of e1 rfl (by rw[sz];exact P.fits) ?_)
   dsimp only
   rw[if_neg (by rw[m1];have:512<=sizeLine:=by decide
                 omega)]
   rw[a1]
   show wpAny _ _ ((if ((order.filterMap (es1[·]?)).size != es1.size)=true then unsupported "internal:set-table-lost-an-element" else pure PUnit.unit >>= fun _=>pure (order.filterMap (es1[·]?),t')) >>= _) _ _ _
   rw[if_neg (by rw[sz2,sz];simp)]
   refine wpAny_bind (wpAny_bind (wpAny_pure (wpAny_pure ?_)))
   dsimp only
   refine wpAny_storeSet_of e1 rfl ?_ (vn (by omega))
   exact wpAny_pure (h1 _ _ ((Heap.SameBut.update _ _ _).trans (Heap.SameBut.update _ _ _)) ⟨_,_,t',xM e1 rfl _ t',hex,rfl,by rw[sz2];exact a2⟩ (pm2.trans pm))
  ·rw[Bool.not_eq_true] at c
   rw[c]
   simp only[Bool.and_false,Bool.false_eq_true,if_false]
   exact wpAny_pure (h1 _ es1 (Heap.SameBut.update _ _ _) ⟨_,_,t1,e1,hex,rfl,by rw[sz];exact P.no c⟩ pm)
 ·have:t.mask<=511:=by rcases g.tb.m with h | h | h | h<;>omega
  unfold SetTable.turns at k1
  omega
end
section
variable {prog:Program} {w:World} {A:Around} {R:Result->Shared->Prop} {I:Addr} {fp wr:List Addr} {n:Nat} {P:Nat->Value->Prop} {St:Nat->Heap->Prop}
theorem E8 (W:Walks prog w A.in1 I fp wr n P St) (S:Addr) (hSf:S∉fp) (J:Nat->Heap->Prop)
  (keep:∀i h h',J i h->(∀b o,b∉wr->h.get? b=some o->h'.get? b=some o)->J i h')
  (step:∀i v (s:Shared) (Q:Bool->Shared->Prop) (E:Value->Shared->Prop),i<n->P i v->J i s.heap->(∀b h' tk,Heap.SameBut S s.heap h'->J (i+1) h'->Q b { s with heap:=h',toks:=tk })->wpAny (model prog w) A.in1 (setAdd S v) Q E s) :
  ∀(k i:Nat) (s:Shared),n - i=k->i<=n->St i s.heap->J i s.heap →
   (∀h' tk,(∀b o,b∉S::wr->s.heap.get? b=some o->h'.get? b=some o)->J n h'->R (.ok (.ret .none)) { s with heap:=h',toks:=tk }) →
   codeAny (model prog w) A (.builtin "set.update.loop" ⟨[.ref S,.ref I],[]⟩) R s:=by
 intro k
 induction k with
 | zero=>
  intro i s hk hi hst hJ hR
  have hin:i=n:=by omega
  subst hin
  refine codeAny_builtin F.entry_set_update_loop ?_
  rw[Around.under_plainId F.plain_set_update_loop _]
  show wpAny _ A.in1 (pyNext (.ref I) >>= _) _ _ s
  refine wpAny_bind (W.done s _ _ hst fun h' tk hm=>?_)
  show wpAny _ A.in1 (ret Value.none) _ _ _
  exact wpAny_pure (hR _ _ (fun b o hb e=>hm b o (fun z=>hb (List.mem_cons_of_mem _ z)) e) (keep _ _ _ hJ hm))
 | succ k ih=>
  intro i s hk hi hst hJ hR
  have hlt:i<n:=by omega
  refine codeAny_builtin F.entry_set_update_loop ?_
  rw[Around.under_plainId F.plain_set_update_loop _]
  show wpAny _ A.in1 (pyNext (.ref I) >>= _) _ _ s
  refine wpAny_bind (W.item i s _ _ hlt hst fun v h' tk hP hst' hm=>?_)
  show wpAny _ A.in1 (holding [v] (setAdd S v) >>= _) _ _ _
  refine wpAny_bind (wpAny_holding (step i v _ _ _ hlt hP (keep _ _ _ hJ hm) fun b h2 tk2 sb J2=>?_))
  refine wpAny_pure ⟨plainId_quiet F.plain_set_update_loop _,ih (i+1) _ (by omega) hlt (W.frame _ _ _ hst' fun b hb o e=>?_) J2 fun h3 tk3 m3 J3=>?_⟩
  ·rw[sb.2 b (fun z:b=S=>hSf (z ▸ hb))];exact e
  ·refine hR h3 tk3 (fun b o hb e=>m3 b o hb ?_) J3
   show h2.get? b=some o
   rw[sb.2 b (fun z:b=S=>hb (by rw[z];exact List.mem_cons_self))]
   exact hm b o (fun z=>hb (List.mem_cons_of_mem _ z)) e
end
theorem GQ {prog:Program} {w:World} {A:Around} {E:Value->Shared->Prop} {s:Shared} (a:Value) {Q₁:Value->Shared->Prop}
  (h:Q₁ (.ref s.heap.objs.size) { s with heap:=s.heap.push { cls:=.type "set", dict:=none,data:=.set #[] 0 (.fresh 0 0 (!byT w)) } }) :
  codeAny (model prog w) A (.call (.builtin "set.__new__") ⟨[.type "set", a],[]⟩) (wants Q₁ E) s:=by
 refine codeAny_of_tree ?_
 show wpAny _ A.in1 (do checkBuiltinCall "set.__new__" ⟨[.type "set", a],[]⟩;again (.builtin "set.__new__" ⟨[.type "set", a],[]⟩)) _ _ s
 refine wpAny_bind (wpAny_of_eq (F.newCall_set_1 a) (wpAny_pure ⟨plainId_quiet F.plain_set_new _,codeAny_builtin F.entry_set_new ?_⟩))
 rw[Around.under_plainId F.plain_set_new _]
 unfold Builtin.«set.__new__» Builtin.Frozenset.newClass
 have hsub:=sub_set_self
 obtain⟨hp,g,d,tk,os⟩:=s
 dsimp only
 wp_walk
 refine wpAny_askSetting (wpAny_pure ?_)
 dsimp only
 simp only[newObj]
 refine wpAny_bind (wpAny_alloc (wpAny_pure ?_))
 exact wpAny_pure h
noncomputable abbrev pE (w:World):Obj:={ cls:=.type "set", dict:=none,data:=.set #[] 0 (.fresh 0 0 (!byT w)) }
structure Src (prog:Program) (w:World) (T:String) (a:Addr) (n:Nat) (P:Nat->Value->Prop) (OK:Heap->Prop):Prop where
 obj:∀h,OK h->∃o,h.get? a=some o/\o.cls=.type T
 keep:∀h h':Heap,OK h->(∀o,h.get? a=some o->h'.get? a=some o)->OK h'
 iter:∀(A:Around) (s:Shared),A.handled=none->OK s.heap->∃(oI:Obj) (St:Nat->Heap->Prop),
  (∀(E:Value->Shared->Prop) (Q:Value->Shared->Prop),Q (.ref s.heap.objs.size) { s with heap:=s.heap.push oI }->wpAny (model prog w) A (pyIter (.ref a)) Q E s) ∧
  (∀A':Around,A'.handled=none->Walks prog w A' s.heap.objs.size [s.heap.objs.size,a] [s.heap.objs.size] n P St)/\St 0 (s.heap.push oI)
 s1:isSubtype (.type T) (.type "set")=pure false
 s2:isSubtype (.type T) (.type "frozenset")=pure false
 nd:(Value.type T == Value.type "dict")=false
set_option maxHeartbeats 3200000 in
theorem F4 {prog:Program} {w:World} {B:Around} {Er:Value->Shared->Prop} {z:Shared} {T:String} {a:Addr} {n:Nat} {P:Nat->Value->Prop} {OK:Heap->Prop} {Q:Value->Shared->Prop} (K:Src prog w T a n P OK)
  (hh:B.handled=none) (hok:OK z.heap) (J:Nat->Heap->Prop) (j0:∀h,h.get? z.heap.objs.size=some (pE w)->(∀b o,z.heap.get? b=some o->h.get? b=some o)->J 0 h)
  (keep:∀i h h',J i h->(∀b o,b≠z.heap.objs.size+1->h.get? b=some o->h'.get? b=some o)->J i h')
  (step:∀(A:Around) i v (s:Shared) (Q:Bool->Shared->Prop) (E:Value->Shared->Prop),A.units<=B.units+20->i<n->P i v->J i s.heap->(∀b h' tk,Heap.SameBut z.heap.objs.size s.heap h'->J (i+1) h'->Q b { s with heap:=h',toks:=tk })->wpAny (model prog w) A (setAdd z.heap.objs.size v) Q E s)
  (fin:∀(g':Heap) (tk:Nat),J n g'->(∀b o,b<z.heap.objs.size->z.heap.get? b=some o->g'.get? b=some o)->Q (.ref z.heap.objs.size) { z with heap:=g',toks:=tk }) :
  wpAny (model prog w) B (call (.type "set") [.ref a]) Q Er z:=by
 obtain⟨_,_,_⟩:=F.called_set.mro
 have:=F.called_set.made
 have:=F.called_set.sub
 refine wpAny_call (codeAny_of_tree ?_)
 show wpAny _ _ (callAny (.type "set") _) _ _ _
 refine wpAny_pure ⟨Code.quiet_builtin _ (by decide +kernel),codeAny_builtin F.entry_type_call ?_⟩
 rw[Around.under_plain (weight_type_call_type "set" [.ref a] []) rfl]
 have:=F.called_set.notType
 have:=F.called_set.canCreate
 have:=F.typeCall_set_1 (.ref a)
 repeat (any_goals (first | assumption | wp_step))
 refine codeAny_mono (GQ (.ref a) (E:=Er) (Q₁:=fun v y=>v=.ref z.heap.objs.size/\y={ z with heap:=z.heap.push (pE w) }) ⟨rfl,rfl⟩) fun r y hr=>?_
 cases r with
 | error e=>exact hr
 | ok fl=>
  cases fl with
  | ret v=>
   obtain⟨rfl,rfl⟩:=hr
   have hS:(z.heap.push (pE w)).get? z.heap.objs.size=some (pE w):=Heap.get?_push_size _ rfl
   have hT:Shared.TypeIs { z with heap:=z.heap.push (pE w) } (.ref z.heap.objs.size) "set" := ⟨_,hS,rfl⟩
   have:=F.called_set.init.lookup
   have:=F.called_set.init.bind (.ref z.heap.objs.size)
   repeat (any_goals (first | assumption | wp_step))
   refine codeAny_mono (codeAny_call_builtin (R:=wants (fun r y=>r=.none/\∃g' tk,y={ z with heap:=g',toks:=tk }/\J n g' ∧
     (∀b o,b<z.heap.objs.size->z.heap.get? b=some o->g'.get? b=some o)) Er) F.called_set.init.plain F.entry_set_init (check_set_init_1 hT ?_)) fun r₂ y₂ hr₂=>?_
   ·obtain⟨ol,hol,hcl⟩:=K.obj _ hok
    have hlS:a<z.heap.objs.size:=Heap.lt_size hol
    obtain⟨oc,od,oda,osl⟩:=ol
    simp only at hcl
    subst hcl
    have hol':(z.heap.push (pE w)).get? a=some { cls:=.type T,dict:=od,data:=oda,slots:=osl }:=Heap.get?_push_of_some _ hol
    have:=K.s1
    have:=K.s2
    have:=K.nd
    have ok1:OK (z.heap.push (pE w)):=K.keep _ _ hok fun o e=>Heap.get?_push_of_some _ e
    unfold Builtin.«set.__init__» noKeywords Builtin.Frozenset.updateFrom
    generalize hPI:pyIter=PI
    wp_walk
    subst hPI
    obtain⟨oI,St,hit,W,st⟩:=K.iter B.in1.in1 { z with heap:=z.heap.push (pE w) } hh ok1
    refine hit _ _ ?_
    refine wpAny_bind (wpAny_runValue ?_)
    have sz:(z.heap.push (pE w)).objs.size=z.heap.objs.size+1:=Heap.size_push _ _
    have W':=W B.in1.in1.in1 hh
    rw[show({ z with heap:=z.heap.push (pE w) }:Shared).heap.objs.size=z.heap.objs.size+1 from sz] at W'
    show codeAny _ _ (.builtin "set.update.loop" ⟨[.ref z.heap.objs.size,.ref (z.heap.push (pE w)).objs.size],[]⟩) _ _
    rw[sz]
    refine E8 W' z.heap.objs.size ?hSf J (fun i h h' j k=>keep i h h' j fun b o hb e=>k b o (by simpa using hb) e) (fun i v s Q E hi hp hj hq=>step _ i v s Q E ?un hi hp hj hq) (n - 0) 0 _ (by omega) (Nat.zero_le _) st ?hJ0 ?hR
    case hSf=>simp only[List.mem_cons,List.not_mem_nil,or_false,not_or];exact⟨Nat.ne_of_lt (Nat.lt_succ_self _),Nat.ne_of_gt hlS⟩
    case un=>show B.units+3<=_;omega
    case hJ0=>exact j0 _ (Heap.get?_push_of_some _ hS) fun b o e=>Heap.get?_push_of_some _ (Heap.get?_push_of_some _ e)
    case hR=>
     intro h' tk hm hJ
     show wpAny _ _ _ _ _ _
     refine wpAny_pure ?_
     show wpAny _ _ (ret Value.none) _ _ _
     refine wpAny_pure ⟨rfl,h',tk,rfl,hJ,fun b o hb e=>hm b o ?_ (Heap.get?_push_of_some _ (Heap.get?_push_of_some _ e))⟩
     simp only[List.mem_cons,List.not_mem_nil,or_false,not_or]
     exact⟨Nat.ne_of_lt hb,Nat.ne_of_lt (Nat.lt_succ_of_lt hb)⟩
   ·cases r₂ with
    | error e=>exact hr₂
    | ok fl₂=>
     cases fl₂ with
     | ret r=>
      obtain⟨rfl,g',tk,rfl,hS',hk'⟩:=hr₂
      repeat (any_goals (first | assumption | wp_step))
      exact fin _ _ hS' hk'
     | _=>exact hr₂.elim
  | _=>exact hr.elim
theorem yD {α:Type} (next:Nat->Nat):∀(f k:Nat) (l:List α) (out:Array α),l.length=f->(pickOrder.go next f k l out).toList.Perm (out.toList++l)
 | 0,k,l,out,h=>by
  have:l=[]:=List.length_eq_zero_iff.mp h
  subst this
  unfold pickOrder.go;simp
 | f+1,k,l,out,h=>by
  unfold pickOrder.go
  have hl:next k % l.length<l.length:=Nat.mod_lt _ (by omega)
  rw[List.getElem?_eq_getElem hl]
  refine(yD next f (k+1) _ _ (by rw[List.length_eraseIdx_of_lt hl,h];rfl)).trans ?_
  rw[Array.toList_push,List.append_assoc]
  refine List.Perm.append_left _ ?_
  generalize next k % l.length=i at hl
  clear h
  induction l generalizing i with
  | nil=>simp at hl
  | cons a r ih=>
   cases i with
   | zero=>simp
   | succ i=>
    simp only[List.getElem_cons_succ,List.eraseIdx_cons_succ]
    exact(List.Perm.swap _ _ _).trans ((ih i (by simpa using hl)).cons a)
theorem Al {α:Type} (next:Nat->Nat) (xs:Array α):(pickOrder next xs).toList.Perm xs.toList:=by
 unfold pickOrder
 simpa using yD next xs.size 0 xs.toList #[] (by simp)
noncomputable def iU (w:World) (S:Addr) (ep:Nat) (es:Array (Int × Value)):Array (Int × Value):=if byT w then pickOrder (w.params.setOrder S ep) es else es
theorem rm (w:World) (S:Addr) (ep:Nat) (es:Array (Int × Value)):(iU w S ep es).toList.Perm es.toList:=by
 unfold iU;split
 ·exact Al _ _
 ·exact .refl _
noncomputable def plF (t:SetTable):Nat->Nat
 | 0=>0
 | j+1=>t.place.getD j 0+1
noncomputable def slW (w:World) (t:SetTable) (j:Nat):Nat:=if byT w then 0 else plF t j
theorem vU {t:SetTable} (T:Tb t) {j:Nat} (hj:j<=t.place.size):SetTable.below t.place (plF t j)=j:=by
 have key:∀x,(∀i (h:i<t.place.toList.length),i<j->t.place.toList[i]<x)->(∀i (h:i<t.place.toList.length),j<=i->x<=t.place.toList[i])->SetTable.below t.place x=j:=by
  intro x a b
  obtain⟨r,e,hr,a',b'⟩:=lE x T.so
  rw[e]
  rcases Nat.lt_trichotomy r j with c | c | c
  ·have h:r<t.place.toList.length:=by rw[Array.length_toList];omega
   have:=a r h c
   have:=b' r h (Nat.le_refl _)
   omega
  ·exact c
  ·have h:j<t.place.toList.length:=by rw[Array.length_toList];omega
   have:=a' j h c
   have:=b j h (Nat.le_refl _)
   omega
 cases j with
 | zero=>exact key 0 (fun i h c=>by omega) (fun i h c=>Nat.zero_le _)
 | succ j=>
  have hl:j<t.place.toList.length:=by rw[Array.length_toList];omega
  have e:t.place.getD j 0=t.place.toList[j]:=getD_at (by omega)
  show SetTable.below t.place (t.place.getD j 0+1)=j+1
  rw[e]
  refine key _ (fun i h c=>?_) (fun i h c=>?_)
  ·rcases Nat.lt_or_ge i j with d | d
   ·have:=List.pairwise_iff_getElem.mp T.so i j h hl d;omega
   ·have:i=j:=by omega
    subst this;omega
  ·have:=List.pairwise_iff_getElem.mp T.so j i hl h (by omega);omega
theorem slot_next:Slot "set_iterator" "__next__" "set_iterator.__next__" :=
 .of (owner:="set_iterator") (n:="__next__") (by rw[typeLookup_type,builtinLookup_eq_fast];kernel_rfl) (by decide +kernel) (by decide +kernel) (by decide +kernel)
  (by first | exact .inl (by decide +kernel) | exact .inr (by decide +kernel)) (by rw[isSubtype_type];kernel_rfl)
theorem qK:Slot "set_iterator" "__iter__" "set_iterator.__iter__" :=
 .of (owner:="set_iterator") (n:="__iter__") (by rw[typeLookup_type,builtinLookup_eq_fast];kernel_rfl) (by decide +kernel) (by decide +kernel) (by decide +kernel)
  (by first | exact .inl (by decide +kernel) | exact .inr (by decide +kernel)) (by rw[isSubtype_type];kernel_rfl)
theorem entry_next:entryFor table "set_iterator.__next__" = some Builtin.«set_iterator.__next__»:=entryFor_of_tree (by kernel_rfl)
theorem vq:entryFor table "set_iterator.__iter__" = some Builtin.«dict_keyiterator.__iter__»:=
 entryFor_alias (id':="dict_keyiterator.__iter__") (by kernel_rfl) rfl (by decide +kernel) (by kernel_rfl)
theorem v_:entryFor table "set.__iter__" = some Builtin.«frozenset.__iter__»:=
 entryFor_alias (id':="frozenset.__iter__") (by kernel_rfl) rfl (by decide +kernel) (by kernel_rfl)
theorem uv:Manifest.owners.lookup (String.ofList ['r','o','t','a','r','e','t','i','_','t','e','s'].reverse)=some Manifest.sig_set_iterator:=by kernel_rfl
theorem args_next (a:Value):argsOk "set_iterator.__next__" ⟨[a],[]⟩:=by
 unfold argsOk;rw[signature?_of (id:="set_iterator.__next__") (n:=['_','_','t','x','e','n','_','_']) (o:=['r','o','t','a','r','e','t','i','_','t','e','s']) (by kernel_rfl) uv];kernel_rfl
theorem zy (a:Value):argsOk "set_iterator.__iter__" ⟨[a],[]⟩:=by
 unfold argsOk;rw[signature?_of (id:="set_iterator.__iter__") (n:=['_','_','r','e','t','i','_','_']) (o:=['r','o','t','a','r','e','t','i','_','t','e','s']) (by kernel_rfl) uv];kernel_rfl
noncomputable def fX (h:Heap) (S:Addr) (es:Array (Int × Value)) (ep:Nat) (t:SetTable):Prop:=∃o,h.get? S=some o/\o.ExactSet/\o.data=.set es ep t
noncomputable def uE (h:Heap) (I S:Addr) (sl i n ep:Nat):Prop:=h.get? I=some { cls:=.type "set_iterator", data:=.fields #[rawInt sl,rawInt i,.ref S,rawInt n,rawInt ep] }
section
variable {prog:Program} {w:World} {A:Around} {E:Value->Shared->Prop} {s:Shared} {S I:Addr} {es:Array (Int × Value)} {ep:Nat} {t:SetTable}
theorem fX.typeIs (x:fX s.heap S es ep t):s.TypeIs (.ref S) "set" := let ⟨o,a,b,_⟩:=x;⟨o,a,b.1⟩
theorem fX.keep {h h':Heap} (x:fX h S es ep t) (k:∀o,h.get? S=some o->h'.get? S=some o):fX h' S es ep t:=let ⟨o,a,b⟩:=x;⟨o,k o a,b⟩
theorem CI (g:Gd (byT w) t es.size) (x:fX s.heap S es ep t) {Q:Bool->Shared->Prop} (h:Q false s):wpAny (model prog w) A (setDrawn S) Q E s:=by
 obtain⟨o,a,b,c⟩:=x
 unfold setDrawn
 refine wpAny_bind (wpAny_setState_of a c g.fits ?_)
 dsimp only
 refine wpAny_bind ?_
 unfold setsByText
 refine wpAny_bind (wpAny_askSetting (wpAny_pure ?_))
 show wpAny _ _ (pure (!_&&(!t.plain&&_))) _ _ _
 rw[g.pl]
 simp only[Bool.not_true,Bool.false_and,Bool.and_false]
 exact wpAny_pure h
theorem C4 (g:Gd (byT w) t es.size) (x:fX s.heap S es ep t) {Q:Value->Shared->Prop}
  (hQ:Q (.ref s.heap.objs.size) { s with heap:=s.heap.push { cls:=.type "set_iterator", data:=.fields #[rawInt 0,rawInt 0,.ref S,rawInt es.size,rawInt ep] } }):wpAny (model prog w) A (pyIter (.ref S)) Q E s:=by
 have T:=x.typeIs
 refine wpAny_pyIter_slot T F.slot_set_iter (wpAny_call_entry F.slot_set_iter T v_ ?_ (F.args_set_iter_1 _))
 obtain⟨o,a,b,c⟩:=id x
 unfold Builtin.«frozenset.__iter__» Builtin.Frozenset.slot0 slotArgs
 simp only[List.isEmpty_nil,Bool.not_true,Bool.false_eq_true,↓reduceIte,bind_assoc,List.length_nil,bne_self_eq_false]
 unfold Builtin.Frozenset.addrOf Builtin.Frozenset.sizeOf
 refine wpAny_bind (wpAny_pure ?_)
 try dsimp only
 refine wpAny_bind (wpAny_pure ?_)
 refine wpAny_bind (wpAny_bind (wpAny_setEntries_of a c g.fits (wpAny_pure ?_)))
 refine wpAny_bind (CI g x ?_)
 simp only[Bool.false_eq_true,if_false]
 refine wpAny_bind (wpAny_pure ?_)
 refine wpAny_bind (wpAny_setEpoch_of a c g.fits ?_)
 unfold newFields
 refine wpAny_bind (wpAny_newObj_type (wpAny_pure ⟨_,rfl,"set_iterator", _,⟨_,Heap.get?_push_size _ rfl,rfl⟩,slot_next.lookup,?_⟩))
 exact hQ
theorem yu (g:Gd (byT w) t es.size) (x:fX s.heap S es ep t) {j:Nat} (hj:j<=es.size) {Q:Option (Value × Nat)->Shared->Prop}
  (h:Q (((iU w S ep es)[j]?).map fun e=>(e.2,slW w t (j+1))) s):wpAny (model prog w) A (setNext S (slW w t j) j ep) Q E s:=by
 obtain⟨o,a,b,c⟩:=id x
 unfold setNext
 refine wpAny_bind (wpAny_setState_of a c g.fits ?_)
 dsimp only
 refine wpAny_bind ?_
 unfold setsByText
 refine wpAny_bind (wpAny_askSetting (wpAny_pure ?_))
 unfold iU slW at h
 by_cases hb:byT w=true
 ·rw[if_pos hb] at h
  show wpAny _ _ (if byT w=true then _ else _) _ _ _
  rw[if_pos hb,if_neg (by simp)]
  refine wpAny_bind ?_
  unfold setWalk
  refine wpAny_bind (wpAny_setState_of a c g.fits ?_)
  dsimp only
  refine wpAny_bind ?_
  unfold setsByText
  refine wpAny_bind (wpAny_askSetting (wpAny_pure ?_))
  show wpAny _ _ (if byT w=true then _ else _) _ _ _
  rw[if_pos hb]
  refine wpAny_bind (wpAny_askSetting (wpAny_pure (wpAny_pure ?_)))
  unfold slW
  simp only[if_pos hb] at h ⊢
  exact h
 ·simp only[if_neg hb] at h
  show wpAny _ _ (if byT w=true then _ else _) _ _ _
  rw[if_neg hb]
  show wpAny _ _ (if (!t.plain&&decide (es.size > 1))=true then _ else _) _ _ _
  rw[g.pl]
  simp only[Bool.not_true,Bool.false_and,Bool.false_eq_true,if_false]
  show wpAny _ _ ((if (!t.led&&!es.isEmpty)=true then unsupported "set:maker-not-led" else pure PUnit.unit) >>= _) _ _ _
  rw[show t.led=true by rw[g.led];simpa using hb]
  simp only[Bool.not_true,Bool.false_and,Bool.false_eq_true,if_false]
  refine wpAny_bind (wpAny_pure ?_)
  have e:SetTable.below t.place (slW w t j)=j:=by
   unfold slW;rw[if_neg hb];exact vU g.tb (by rw[g.sz];exact hj)
  rw[e]
  refine wpAny_pure ?_
  cases q:es[j]? with
  | none=>rw[q] at h;exact h
  | some v=>
   rw[q] at h
   have hl:j<t.place.size:=by rw[g.sz];exact(Array.getElem?_eq_some_iff.mp q).1
   rw[Array.getElem?_eq_getElem hl]
   simp only[Option.map_some,plF,Array.getD,hl] at h
   exact h
theorem my:(iU w S ep es).size=es.size:=by rw[<- Array.length_toList,(rm w S ep es).length_eq,Array.length_toList]
theorem yL {j:Nat} (g:Gd (byT w) t es.size) (hi:uE s.heap I S (slW w t j) j es.size ep) (x:fX s.heap S es ep t) {P:PySem.Fin->Shared->Prop}
  (h:wpAny (model prog w) A (do
   match ← setNext S (slW w t j) j ep with
   | some (x,next)=>
    setField (.ref I) 0 (rawInt next)
    setField (.ref I) 1 (rawInt ((j:Int)+1))
    ret x
   | none=>setField (.ref I) 2 .none;raiseNew (← newExc (.type "StopIteration") [])) P E s) :
  wpAny (model prog w) A (Builtin.«set_iterator.__next__» ⟨[.ref I],[]⟩) P E s:=by
 obtain⟨o,a,b,c⟩:=id x
 unfold Builtin.«set_iterator.__next__» slotArgs
 simp only[List.isEmpty_nil,Bool.not_true,Bool.false_eq_true,↓reduceIte,List.length_nil,bne_self_eq_false]
 refine wpAny_bind (wpAny_pure ?_)
 refine wpAny_bind (wpAny_fieldsOf hi rfl ?_)
 simp only[rawInt]
 refine wpAny_bind (wpAny_setEntries_of a c g.fits ?_)
 rw[if_neg (by simp)]
 simp only[Int.toNat_natCast]
 exact h
end
section
variable {prog:Program} {w:World} {A:Around} {E:Value->Shared->Prop} {s:Shared} {S I:Addr} {es:Array (Int × Value)} {ep:Nat} {t:SetTable}
theorem uE.typeIs {sl j n:Nat} (hi:uE s.heap I S sl j n ep):s.TypeIs (.ref I) "set_iterator" := ⟨_,hi,rfl⟩
theorem next_item {j:Nat} (g:Gd (byT w) t es.size) (hi:uE s.heap I S (slW w t j) j es.size ep) (x:fX s.heap S es ep t) (hj:j<es.size) {Q:Option Value->Shared->Prop}
  (hQ:∀h' e,(iU w S ep es)[j]?=some e->uE h' I S (slW w t (j+1)) (j+1) es.size ep->Heap.SameBut I s.heap h'->Q (some e.2) { s with heap:=h' }):wpAny (model prog w) A (pyNext (.ref I)) Q E s:=by
 unfold pyNext
 refine wpAny_bind (wpAny_attempt (wpAny_callSpecial?_slot (name:=Str.ofString "__next__") hi.typeIs slot_next (wpAny_call_entry slot_next hi.typeIs entry_next (yL g hi x ?_) (args_next _))))
 have hl:j<(iU w S ep es).size:=by rw[my];exact hj
 refine wpAny_bind (yu g x (Nat.le_of_lt hj) ?_)
 rw[Array.getElem?_eq_getElem hl]
 dsimp only[Option.map_some]
 refine wpAny_bind (wpAny_setField_rec hi (by simp) fun h1 e1 s1=>?_)
 refine wpAny_bind (wpAny_setField_rec e1 (by simp) fun h2 e2 s2=>?_)
 refine wpAny_pure ⟨_,rfl,wpAny_pure (hQ h2 _ (Array.getElem?_eq_getElem hl) ?_ (s1.trans s2))⟩
 exact e2
theorem next_end {j:Nat} (hh:A.handled=none) (g:Gd (byT w) t es.size) (hi:uE s.heap I S (slW w t j) j es.size ep) (x:fX s.heap S es ep t) (hj:j=es.size) {Q:Option Value->Shared->Prop}
  (hQ:∀h',Heap.ExtBut I s.heap h'->Q none { s with heap:=h' }):wpAny (model prog w) A (pyNext (.ref I)) Q E s:=by
 unfold pyNext
 refine wpAny_bind (wpAny_attempt (wpAny_callSpecial?_slot (name:=Str.ofString "__next__") hi.typeIs slot_next (wpAny_call_entry slot_next hi.typeIs entry_next (yL g hi x ?_) (args_next _))))
 refine wpAny_bind (yu g x (by omega) ?_)
 rw[Array.getElem?_eq_none (by rw[my];omega)]
 dsimp only[Option.map_none]
 refine wpAny_bind (wpAny_setField_rec hi (by simp) fun h1 e1 s1=>?_)
 show wpAny _ _ (newExc (.type "StopIteration") [] >>= _) _ _ _;refine wpAny_bind ?_;simp only[newExc,newTuple]
 refine wpAny_bind (wpAny_newObj_type (wpAny_bind (m:=firstArgMember _ _) (wpAny_of_eq (a:=Value.none) (by first | rfl | (simp only[firstArgMember];rfl)) (wpAny_newObj_type ?_ (by size_fits)))) (by size_fits))
 simp only[raiseNew];refine wpAny_bind (wpAny_handled ?_);rw[show A.in1.handled=none from hh]
 refine wpAny_bind (wpAny_pure (wpAny_throw ?_));refine wpAny_bind (wpAny_isInstance (T:="StopIteration") (b:=true) ⟨_,Heap.get?_push_size _ rfl,rfl⟩ isSubtype_stop ?_)
 exact wpAny_pure (hQ _ ((s1.extBut.push _).push _))
theorem zu (hh:A.handled=none) (I:Addr) (ne:S≠I) (g:Gd (byT w) t es.size):Walks prog w A I [I,S] [I] es.size (fun j v=>∃e,(iU w S ep es)[j]?=some e/\v=e.2) (fun j h=>uE h I S (slW w t j) j es.size ep/\fX h S es ep t) where
 sub:=fun b hb=>by simp at hb;simp[hb]
 frame:=fun _ _ _ st hk=>⟨hk I (by simp) _ st.1,st.2.keep fun o e=>hk S (by simp) o e⟩
 item:=fun j s Q E hj st hQ=>next_item g st.1 st.2 hj fun h' e he a b=>hQ _ h' s.toks ⟨e,he,rfl⟩ ⟨a,st.2.keep fun o e=>b.extBut S o ne e⟩ fun c o hc e=>b.extBut c o (fun z=>hc (by simp[z])) e
 done:=fun s Q E st hQ=>next_end hh g st.1 st.2 rfl fun h' a=>hQ h' s.toks fun c o hc e=>a c o (fun z=>hc (by simp[z])) e
 self:=fun _ _ _ _ st hQ=>wpAny_pyIter_slot st.1.typeIs qK (wpAny_call_entry qK st.1.typeIs vq (wpAny_pure ⟨_,rfl,"set_iterator", _,st.1.typeIs,slot_next.lookup,hQ⟩) (zy _))
theorem Bk {Q:Bool->Shared->Prop} (hT:s.TypeIs (.ref S) "set") (h:Q false s):wpAny (model prog w) A (Builtin.List.listLengthHint (.ref S)) Q E s:=by
 unfold Builtin.List.listLengthHint
 refine wpAny_bind (wpAny_specialOf hT F.slot_set_len.lookup ?_)
 generalize hid:("set.__len__" : String)=id0
 wp_delta
 rw[show splitId id0=some ("set", "__len__") from by subst hid;decide +kernel]
 subst hid
 refine wpAny_bind (wpAny_isInstance (T:="set") (b:=true) hT (by rw[isSubtype_type];kernel_rfl) ?_)
 refine wpAny_ite_split (fun hab=>absurd hab (by decide)) (fun _=>?_)
 refine wpAny_ite_split (fun _=>?_) (fun hab=>absurd (by decide +kernel) hab)
 refine wpAny_bind (wpAny_typeOf hT ?_)
 exact wpAny_pure h
theorem fX.lt {h:Heap} (x:fX h S es ep t):S<h.objs.size:=let ⟨_,a,_⟩:=x;Heap.lt_size a
theorem DJ (g:Gd (byT w) t es.size):PySem.W.KdlSrc prog w "set" S S es.size (fun j v=>∃e,(iU w S ep es)[j]?=some e/\v=e.2) (fun h=>fX h S es ep t) where
 type:=fun _ x=>x.typeIs
 there:=fun _ x=>⟨x.lt,x.lt⟩
 keep:=fun _ _ x k=>x.keep fun o e=>k S (.inl rfl) o e
 notList:=by decide
 notTuple:=by decide
 hint:=fun _ _ _ _ x hq=>Bk x.typeIs hq
 iter:=fun _ s hh x=>⟨_,_,(fun _ _ hq=>C4 g x hq),zu hh _ (Nat.ne_of_lt x.lt) g,⟨by
  have:slW w t 0=0:=by unfold slW;split<;>rfl
  unfold uE
  rw[this]
  exact Heap.get?_push_size _ rfl,x.keep fun o e=>Heap.get?_push_of_some _ e⟩⟩
end
section
variable {prog:Program} {w:World} {A:Around} {E:Value->Shared->Prop} {s:Shared}
theorem ud {T:String} {r d:Addr} {n:Nat} {P:Nat->Value->Prop} {OK:Heap->Prop} (K:PySem.W.KdlSrc prog w T r d n P OK) (hh:A.handled=none) (hok:OK s.heap) (hn:n<=sizeLine) {Q:List Value->Shared->Prop}
  (h:∀(h':Heap) tk (acc:Array Value),s.heap.objs.size<=h'.objs.size->(∀b o,s.heap.get? b=some o->h'.get? b=some o)->ItemsOf P acc n->Q acc.toList { s with heap:=h',toks:=tk }):wpAny (model prog w) A (collect (.ref r)) Q E s:=by
 unfold collect
 refine wpAny_bind (wpAny_runValue (codeAny_builtin entry_proto_collect' ?_))
 show wpAny _ _ (do again (.builtin "list.__iadd__" ⟨[<- newList [],.ref r],[]⟩)) _ _ s
 refine wpAny_bind (wpAny_newList (wpAny_pure ⟨Code.quiet_builtin _ (by decide +kernel),codeAny_builtin entry_list_iadd' ?_⟩))
 show wpAny _ _ (Builtin.List.listExtendWith (.ref s.heap.objs.size) (.ref r) (.ref s.heap.objs.size)) _ _ { s with heap:=s.heap.push (seqObj "list" #[] 0) }
 have hlt:=K.there _ hok
 rw[Around.under_plainId (show plainId "list.__iadd__" = true by decide +kernel) _]
 refine PySem.W.kdl_extend (A:=A) (R:=fun r s'=>match r with
  | .ok (.ret v)=>wpAny (model prog w) A (match v with
   | .ref a=>do
    match (← load a).data with
    | .seq xs _=>pure xs.toList
    | _=>unsupported "internal:collect"
   | _=>unsupported "internal:collect") Q E s'
  | .ok _=>False
  | .error e=>E e s') (s:={ s with heap:=s.heap.push (seqObj "list" #[] 0) }) K hh (K.keep _ _ hok fun b _ o e=>Heap.get?_push_of_some _ e) _ (Nat.ne_of_gt hlt.1) (Nat.ne_of_gt hlt.2) _ 0 (Heap.get?_push_size _ rfl) (fun h' tk acc c kp e hi=>?_) hn
 show wpAny (model prog w) A (do
   let o ← load s.heap.objs.size
   match o.data with
   | .seq xs _=>pure xs.toList
   | _=>unsupported "internal:collect") Q E { s with heap:=h',toks:=tk }
 refine wpAny_bind (wpAny_load e ?_)
 exact wpAny_pure (h h' tk acc (Nat.le_of_lt (Heap.lt_size e)) (fun b o q=>kp b o (Nat.ne_of_lt (Heap.lt_size q)) (Heap.get?_push_of_some _ q)) hi)
theorem xq {T:String} {r d:Addr} {n:Nat} {P:Nat->Value->Prop} {OK:Heap->Prop} (K:PySem.W.KdlSrc prog w T r d n P OK) (hh:A.handled=none) (hok:OK s.heap) (hn:n<=sizeLine) {Q:Value->Shared->Prop}
  (h:∀(h':Heap) tk (acc:Array Value),s.heap.objs.size<=h'.objs.size->(∀b o,s.heap.get? b=some o->h'.get? b=some o)->ItemsOf P acc n →
   wpAny (model prog w) A.in1.in1 (Builtin.«list.sort» ⟨[.ref h'.objs.size],[]⟩) (fun fin s'=>∃v,fin=.done (.ret v)/\Q (.ref h'.objs.size) s') E { s with heap:=h'.push (seqObj "list" acc.toList.toArray 0),toks:=tk }) :
  wpAny (model prog w) A (call (.builtin "sorted") [.ref r]) Q E s:=by
 refine Calls.call_function_entry kind_sorted plain_sorted entry_sorted (args_sorted1 _) ?_
 unfold Builtin.«sorted»
 refine wpAny_bind (m:=checkCount "sorted" 1 1 _) (wpAny_pure ?_)
 refine wpAny_bind (ud (A:=A.in1) K hh hok hn fun h' tk acc le kp hi=>?_)
 refine wpAny_bind (wpAny_newList ?_ (by rw[Array.length_toList,hi.1];exact hn))
 refine wpAny_bind (wpAny_holding (wpAny_call_entry slot_list_sort ⟨_,Heap.get?_push_size _ rfl,rfl⟩ entry_list_sort ?_ (args_list_sort _)))
 refine wpAny_mono (h h' tk acc le kp hi) (fun fin s' ⟨v,e,q⟩=>⟨v,e,wpAny_pure ⟨_,rfl,q⟩⟩) fun _ _ x=>x
theorem zC {S:Addr} {es:Array (Int × Value)} {ep:Nat} {acc:Array Value} (hi:ItemsOf (fun j v=>∃e,(iU w S ep es)[j]?=some e/\v=e.2) acc es.size):acc.toList.Perm (es.toList.map (·.2)):=by
 have e:acc.toList=(iU w S ep es).toList.map (·.2):=by
  apply List.ext_getElem?
  intro j
  rw[List.getElem?_map,Array.getElem?_toList,Array.getElem?_toList]
  cases q:acc[j]? with
  | none=>
   have:(iU w S ep es)[j]?=none:=by
    rw[Array.getElem?_eq_none_iff] at q ⊢
    rw[my,<- hi.1];exact q
   rw[this];rfl
  | some v=>
   obtain⟨e,h1,h2⟩:=hi.2 j v q
   rw[h1,h2];rfl
 rw[e]
 exact(rm w S ep es).map _
end
end L2.ST
namespace L2.FE
open PySem PySem.Spec PyProof.Rows L2.ST
section
variable {X:Cx} {g:GG} {ε:EE} {e:Expr} {es:List Expr} {pos pos1:Pos} {mr:MA} {K:PySem.W.Frag}
theorem uA {id T:String} {x y:Str} {p q:Pos} {f:List D->Hh->R D} {r1 r2:List V->Hp->VK->Prop} (hc2:bY X (.builtin id) r2) (hc1:bY X (.type T) r1) (im:nu X.K g ε f (fun vs H Q=>r1 vs H (fun v H1=>r2 [v] H1 Q)))
  (hg:Gl X x) (hm:X.mg x=none) (hv:bootBuiltins x=some (.builtin id)) (hg1:Gl X y) (hm1:X.mg y=none) (hv1:bootBuiltins y=some (.type T)) (ha:PA X (e::es) (tMA X.K g ε mr)) (hn:x≠"__name__" := by decide) (hdb:(x == ("__debug__" : Str))=false:=by decide) (hn1:y≠"__name__" := by decide) (hdb1:(y == ("__debug__" : Str))=false:=by decide)
  (he1:starEach (e::es) X.env=(false,eval e X.env)::starEach es X.env:=by rfl) (hpl1:(backTo pos1 (starEach es X.env)).any (·.1)=false:=by rfl)
  (he:starEach [Expr.Call (.Name y q) (e::es) [] pos1] X.env=(false,eval (Expr.Call (.Name y q) (e::es) [] pos1) X.env)::starEach [] X.env:=by rfl) (hpl:(backTo pos (starEach [] X.env)).any (·.1)=false:=by rfl) :
  PE X (.Call (.Name x p) [.Call (.Name y q) (e::es) [] pos1] [] pos) (tM X.K g ε (ai f mr)):=
 PE.imp (o6 hc2 hg hm hv (lJ (rA hc1 hg1 hm1 hv1 ha hn1 hdb1 he1 hpl1) t6 he) hn hdb he hpl) fun _ _ _ t=>wK im t
end
end L2.FE
namespace L2.ST
open PySem PySem.W PySem.Spec PyProof.Rows PySem.Calls L2.Srt L2.SM
section
variable {prog:Program} {w:World} {A:Around} {E:Value->Shared->Prop} {s:Shared} {vs us:List Value} {xss:List (List Int)} {h h':Heap}
theorem B7 (p:vs.Perm us):∀{xss},Tps h us xss->∃yss,Tps h vs yss/\yss.Perm xss:=by
 induction p with
 | nil=>intro xss r;exact⟨xss,r,.refl _⟩
 | cons x _ ih=>
  intro xss r
  cases r with
  | cons a b c d r=>
   obtain⟨yss,q,pm⟩:=ih r
   exact⟨_,.cons a b c d q,pm.cons _⟩
 | swap x y l=>
  intro xss r
  cases r with
  | cons a b c d r=>
   cases r with
   | cons a2 b2 c2 d2 r=>exact⟨_,.cons a2 b2 c2 d2 (.cons a b c d r),.swap _ _ _⟩
 | trans _ _ ih1 ih2=>
  intro xss r
  obtain⟨y1,q1,p1⟩:=ih2 r
  obtain⟨y2,q2,p2⟩:=ih1 q1
  exact⟨y2,q2,p2.trans p1⟩
theorem zZ {a:Addr} {n:Nat} {P:PySem.Fin->Shared->Prop} (ho:s.heap.get? a=some (seqObj "list" vs.toArray n)) (hz:vs.length<=306) (r:Tps s.heap vs xss) (bd:∀xs∈xss,Bd xs/\xs.length<=20) (nd:(xss.map (kT 20)).Nodup) (ne:∀xs∈xss,xs≠[])
  (hP:∀out:List Value,out.Perm vs->out.Pairwise (fun x y=>kvH s.heap x<kvH s.heap y)->P (.done (.ret .none)) { s with heap:=sortedHeap s.heap a vs out.toArray }) :
  wpAny (model prog w) A (Builtin.«list.sort» ⟨[.ref a],[]⟩) P E s:=by
 have len:=r.len
 by_cases h2:vs.length<2
 ·refine p8 ho h2 (hP vs (.refl _) ?_)
  rcases vs with _ | ⟨x,_ | ⟨y,l⟩⟩
  ·exact .nil
  ·exact List.pairwise_singleton _ _
  ·exact absurd h2 (by simp)
 ·have keep:∀b o,b≠a->s.heap.get? b=some o->(bZ s.heap a vs).get? b=some o:=fun b o hb q=>D6 hb q
  have ta:∀{us:List Value} {zss:List (List Int)},Tps s.heap us zss->Tps (bZ s.heap a vs) us zss:=by
   intro us zss r
   induction r with
   | nil=>exact .nil
   | @cons b o k us' xs vs' xss' e1 e2 e3 e4 _ ih=>
    refine .cons (keep b o (fun z=>?_) e1) e2 e3 e4 ih
    subst z
    rw[ho] at e1
    cases e1
    exact absurd e2 (by show ¬ (Value.type "list" = Value.type "tuple");decide)
  have r1:=ta r
  obtain⟨fs,t,fl,fi⟩:=r1.oh ne
  have kk:∀v∈vs,kvH (bZ s.heap a vs) v=kvH s.heap v:=List.map_inj_left.mp (r1.kv.trans r.kv.symm)
  refine qu (kv:=kvH (bZ s.heap a vs)) ho (by omega) (by omega) ?_ (by rw[r1.kv];exact nd) (fun out pm sr=>hP out pm (List.Pairwise.imp_of_mem (fun hx hy lt=>by rw[kk _ (pm.mem_iff.mp hx),kk _ (pm.mem_iff.mp hy)] at lt;exact lt) sr))
  refine kat_kind (T:=.type "int") t (by omega) (fun v hv=>?_) (by decide +kernel) ?_
  ·obtain⟨x,tk,rfl⟩:=fi v hv
   exact .now
  ·rw[show(Value.type "int" != Value.type "tuple")=true by decide +kernel]
   refine⟨rfl,fun x y hx hy C hc=>?_⟩
   obtain⟨a',oa,ka,ua,xa,e1,ga,da,ia,ma,va⟩:=r1.mem hx.1
   obtain⟨b,ob,kb,ub,xb,e2,gb,db,ib,mb,vb⟩:=r1.mem hy.1
   have hd:decide (kvH (bZ s.heap a vs) x.1<kvH (bZ s.heap a vs) y.1)=qk xa xb:=by
    simp only[va,vb]
    exact(CA 20 (bd _ ma).1 (bd _ mb).1 (bd _ ma).2 (bd _ mb).2).symm
   replace hc:C (decide (kvH (bZ s.heap a vs) x.1<kvH (bZ s.heap a vs) y.1)) _:=hc
   rw[hd] at hc
   rw[e1,e2]
   refine kat_lt ga da gb db (vJ 0 ia ib ?_ hc)
   have l1:ua.size=xa.length:=by rw[<- ia.nums,List.length_map,Array.length_toList]
   have l2:ub.size=xb.length:=by rw[<- ib.nums,List.length_map,Array.length_toList]
   rw[l1,l2]
theorem oG:∀{us:List Value} {xs:List Int},IntsAre us xs->PySem.ItemsAre (intKind prog w) xs us
 | _,_,.nil=>.nil
 | _,_,.cons n t r=>.cons (intKind_is _ _ _ _) (oG r)
theorem Bq (r:Tps h us xss):∀(i:Nat) (v:Value),us[i]?=some v->∃a xs,v=.ref a/\xss[i]?=some xs/\TK prog w h xs a:=by
 induction r with
 | nil=>intro i v e;simp at e
 | @cons a o k us xs vs xss e1 e2 e3 e4 _ ih=>
  intro i v e
  cases i with
  | zero=>
   simp at e
   subst e
   exact⟨a,xs,rfl,rfl,o,us,k,e1,e2,e3,oG e4⟩
  | succ i=>simpa using ih i v (by simpa using e)
theorem EH (a:Addr) (its:Array Value):Src prog w "list" a its.size (fun i v=>its[i]?=some v) (fun h=>h.IsList a its) where
 obj:=fun h ⟨o,a,b,_⟩=>⟨o,a,b⟩
 keep:=fun h h' ⟨o,a,b⟩ k=>⟨o,k o a,b⟩
 iter:=fun A s hh x=>⟨_,_,(fun E Q hq=>wpAny_pyIter_list x hq),(fun A' hh'=>Walks.list hh' _ a (by obtain⟨o,e,_⟩:=x;exact Nat.ne_of_lt (Heap.lt_size e)) its),⟨⟨_,Heap.get?_push_size _ rfl,rfl,rfl⟩,by obtain⟨o,e,r⟩:=x;exact⟨o,Heap.get?_push_of_some _ e,r⟩⟩⟩
 s1:=F.sub_list_set
 s2:=F.sub_list_frozenset
 nd:=by decide
noncomputable def WSt (w:World) (o:Obj) (us:List Value):Prop:=∃es ep t,o.ExactSet/\o.data=.set es ep t/\Gd (byT w) t es.size/\(es.toList.map (·.2)).Perm us
theorem Bo {B:Around} {Er:Value->Shared->Prop} {z:Shared} {a:Addr} {its:Array Value} {xss:List (List Int)} {Q:Value->Shared->Prop}
  (hh:B.handled=none) (hu:B.units+20<cLine) (ht:z.heap.IsList a its) (hi:Tps z.heap its.toList xss) (nd:xss.Nodup) (hb:its.size<=306)
  (fin:∀(g':Heap) (tk:Nat) o,g'.get? z.heap.objs.size=some o->WSt w o its.toList->(∀b o,b<z.heap.objs.size->z.heap.get? b=some o->g'.get? b=some o)->Q (.ref z.heap.objs.size) { z with heap:=g',toks:=tk }) :
  wpAny (model prog w) B (call (.type "set") [.ref a]) Q Er z:=by
 have hl:=hi.len
 rw[Array.length_toList] at hl
 refine F4 (EH a its) hh ht (fun i h=>(∀b o,b<z.heap.objs.size->z.heap.get? b=some o->h.get? b=some o)/\∃es,HI w h z.heap.objs.size es/\(es.toList.map (·.2)).Perm (its.toList.take i)) ?_ ?_ ?_ ?_
 ·intro h e k
  exact⟨fun b o _ q=>k b o q,#[],⟨_,_,_,e,⟨rfl,rfl,rfl⟩,rfl,Ht _⟩,by simp⟩
 ·rintro i h h' ⟨kp,es,⟨o,ep,t,e,r⟩,q⟩ k
  exact⟨fun b o hb e=>k b o (Nat.ne_of_lt (Nat.lt_succ_of_lt hb)) (kp b o hb e),es,⟨o,ep,t,k _ o (Nat.ne_of_lt (Nat.lt_succ_self _)) e,r⟩,q⟩
 ·rintro A i v s Q E hu' hi' hp ⟨kp,es,hS,pm⟩ hq
  have hit:its.toList[i]?=some v:=by rw[Array.getElem?_toList];exact hp
  have hi2:Tps s.heap its.toList xss:=hi.keeps fun b o q=>kp b o (Heap.lt_size q) q
  obtain⟨b,xs,rfl,ex,tk⟩:=Bq (prog:=prog) (w:=w) hi2 i v hit
  have sz:es.size=i:=by
   have:=pm.length_eq
   rw[List.length_map,Array.length_toList,List.length_take,Array.length_toList] at this
   omega
  have tu:FP prog w s.heap es.toList xs:=fun e he=>by
   have m:=pm.mem_iff.mp (List.mem_map.mpr ⟨e,he,rfl⟩)
   obtain⟨j,hj,ej⟩:=List.getElem_of_mem m
   rw[List.length_take,Array.length_toList] at hj
   have:its.toList[j]?=some e.2:=by
    rw[<- ej,List.getElem_take,List.getElem?_eq_getElem]
   obtain⟨b',ys,e1,e2,e3⟩:=Bq (prog:=prog) (w:=w) hi2 j e.2 this
   refine⟨ys,b',e1,e3,fun z=>?_⟩
   subst z
   have hx:i<xss.length:=by omega
   have hy:j<xss.length:=by omega
   rw[List.getElem?_eq_getElem hx] at ex
   rw[List.getElem?_eq_getElem hy] at e2
   have:=(List.getElem_inj nd).mp (show xss[i]=xss[j] by rw[Option.some.inj ex,Option.some.inj e2])
   omega
  unfold setAdd
  refine wpAny_holding ?_
  have hA:A.units<cLine:=by omega
  refine wpAny_bind (wpAny_pyHash_tuple hA tk ?_)
  refine EZ (s:={ s with toks:=s.toks+(xs.length+1) }) hS (by omega) hA tk tu fun h' es' sb hS' pm'=>?_
  refine hq true h' _ sb ⟨fun b o hb e=>?_,es',hS',?_⟩
  ·rw[sb.2 b (Nat.ne_of_lt hb)];exact kp b o hb e
  ·have:=pm'.map fun e=>e.2
   rw[List.map_append] at this
   refine this.trans ?_
   rw[List.take_succ,hit]
   exact List.Perm.append_right _ pm
 ·rintro g' tk ⟨_,es,⟨o,ep,t,e,hx,hd,g⟩,pm⟩ kp
  rw[List.take_of_length_le (by rw[Array.length_toList];exact Nat.le_refl _)] at pm
  exact fin g' tk o e ⟨es,ep,t,hx,hd,g,pm⟩ kp
end
end L2.ST
namespace L2
open PySem PySem.Spec PyProof.Rows L2.ST L2.Srt
structure OkV (xss:List (List Int)):Prop where
 hz:xss.length<=306
 bd:∀xs∈xss,Bd xs/\xs.length<=20
 nd:(xss.map (kT 20)).Nodup
 ne:∀xs∈xss,xs≠[]
theorem rj {α β:Type} {f:α->β}:∀{l:List α},(l.map f).Nodup->l.Nodup
 | [],_=>.nil
 | x::l,h=>by
  rw[List.map_cons] at h
  obtain⟨a,b⟩:=List.nodup_cons.mp h
  exact List.nodup_cons.mpr ⟨fun z=>a (List.mem_map.mpr ⟨x,z,rfl⟩),rj b⟩
section
variable {X:Cx}
theorem qG (hc:X.calm=true) (hu:X.A.units+64<cLine):bY X (.type "set") (fun vs H Q=>∃(p:Addr) (xs:List V) (xss:List (List Int)),vs=[.ref p]/\SqL X.K H p xs/\TpV X.K H xs xss/\OkV xss/\∀l o us,H l=none->WSt X.w o us->Vals xs us->Q (.ref l) (upd H l (FE.AtO l o))):=by
 intro pins s σ H xs0 us0 Q I r h
 obtain⟨p,xs,xss,rfl,hq,pr,ok,q⟩:=h
 obtain⟨u,rfl,rx⟩:=vals1 r
 cases rx
 obtain⟨its,rv,pl,hz⟩:=I.list hq
 have lx:=pr.len
 have li:=rv.length
 have h0:=ok.hz
 refine Bo (I.ok.hd hc) (by omega) pl.isList (xss:=xss) (by simpa using I.tps pr rv) (rj ok.nd) (by rw[List.size_toArray];omega) fun g' tk o e hW hk=>?_
 exact⟨.ref s.heap.objs.size,_,I.laid (t':=tk) (fun b o e=>hk b o (Heap.lt_size e) e) (Nat.le_refl _) (Jp e),rfl,q _ _ its (I.hok.fresh (Nat.le_refl _)) (by simpa using hW) rv⟩
theorem vV:bY X (.builtin "len") (fun vs H Q=>∃p o us,vs=[.ref p]/\H p=some (FE.AtO p o)/\WSt X.w o us/\Q (.int us.length) H):=by
 intro pins s σ H xs us0 Q I r h
 obtain⟨p,o,us,rfl,hp,⟨es,ep,t,hx,hd,g,pm⟩,q⟩:=h
 obtain⟨u,rfl,rx⟩:=vals1 r
 cases rx
 have ho:s.heap.get? p=some o:=(I.hok p _ hp).1
 have hl:us.length=es.size:=by rw[<- pm.length_eq,List.length_map,Array.length_toList]
 have hb:(es.size:Int)<2 ^ 63:=by
  have:es.size<=306:=by rcases g.rng with h | h | h | h<;>omega
  omega
 rw[hl] at q
 exact PySem.call_len_set ho hx hd g.fits hb ⟨.int es.size,H,I.tok _,⟨_,rfl⟩,q⟩
theorem u6 (hc:X.calm=true):bY X (.builtin "sorted") (fun vs H Q=>∃(p:Addr) (o:Obj) (us:List Value) (xs:List V) (xss:List (List Int)),vs=[.ref p]/\H p=some (FE.AtO p o)/\WSt X.w o us/\Vals xs us/\TpV X.K H xs xss/\OkV xss ∧
  ∀(l:Addr) (q:List Nat),q.Perm (List.range xss.length)->(q.map fun i=>kT 20 (xss.getD i [])).Pairwise (· < ·)->H l=none->Q (.ref l) (upd H l (.lst (q.map fun i=>xs.getD i .non)))):=by
 intro pins s σ H xs0 us0 Q I r h
 obtain⟨p,o,us,xs,xss,rfl,hp,⟨es,ep,t,hx,hd,g,pm⟩,rv,pr,ok,q⟩:=h
 obtain⟨u,rfl,rx⟩:=vals1 r
 cases rx
 have ho:s.heap.get? p=some o:=(I.hok p _ hp).1
 have tp:=I.tps pr rv
 have h0:=ok.hz
 have lx:=pr.len
 have lu:=rv.length
 have hes:es.size=us.length:=by rw[<- pm.length_eq,List.length_map,Array.length_toList]
 have h64:306<=sizeLine:=by decide
 refine xq (DJ (es:=es) (ep:=ep) g) (I.ok.hd hc) ⟨o,ho,hx,hd⟩ (by omega) fun h' tk acc hle kp hi=>?_
 have va:acc.toList.Perm us:=(zC hi).trans pm
 have kp2:∀b o,s.heap.get? b=some o->(h'.push (seqObj "list" acc.toList.toArray 0)).get? b=some o:=fun b o e=>Heap.get?_push_of_some _ (kp b o e)
 obtain⟨yss,ta,py⟩:=B7 va (tp.keeps kp2)
 refine zZ (s:={ s with heap:=h'.push (seqObj "list" acc.toList.toArray 0),toks:=tk }) (Heap.get?_push_size _ rfl) (by rw[va.length_eq];omega) ta (fun xs hx=>ok.bd xs (py.mem_iff.mp hx)) ((py.map _).nodup_iff.mpr ok.nd) (fun xs hx=>ok.ne xs (py.mem_iff.mp hx)) fun out po so=>⟨_,rfl,?_⟩
 have pu:out.Perm us:=po.trans va
 obtain⟨qs,hqs,e⟩:=Bs pu (range_getD us Value.none)
 rw[show us.length=xss.length by omega] at hqs
 have kq:∀i∈qs,kvH (h'.push (seqObj "list" acc.toList.toArray 0)) (us.getD i Value.none)=kT 20 (xss.getD i []):=fun i hi=>by
  have hi':i<xss.length:=by have:=hqs.mem_iff.mp hi;simpa using this
  have hv:i<us.length:=by omega
  have kk:=(tp.keeps kp2).kv
  have e1:(us.map (kvH (h'.push (seqObj "list" acc.toList.toArray 0))))[i]'(by simpa using hv)=(xss.map (kT 20))[i]'(by simpa using hi'):=by simp only[kk]
  simpa [hv,hi'] using e1
 have up:(qs.map fun i=>kT 20 (xss.getD i [])).Pairwise (· < ·):=by
  rw[e,List.pairwise_map] at so
  rw[List.pairwise_map]
  refine List.Pairwise.imp_of_mem ?_ so
  intro i j hi hj lt
  rw[kq i hi,kq j hj] at lt
  exact lt
 obtain⟨k,hk⟩:=sortedHeap_at (h:=h'.push (seqObj "list" acc.toList.toArray 0)) (a:=h'.objs.size) (vs:=acc.toList) (n:=0) (out:=out.toArray) (Heap.get?_push_size _ rfl)
 have hn:H h'.objs.size=none:=I.hok.fresh hle
 have ql:qs.length=xss.length:=by rw[hqs.length_eq,List.length_range]
 have len:(qs.map fun i=>xs.getD i V.non).length<=sizeLine:=by rw[List.length_map,ql];omega
 have vp:=qY rv qs (fun i hi=>by
  have:=hqs.mem_iff.mp hi
  have:i<xss.length:=by simpa using this
  omega)
 refine⟨.ref h'.objs.size,upd H h'.objs.size (.lst (qs.map fun i=>xs.getD i .non)),I.laid (t':=tk) (fun b o z=>?_) hle ⟨len,qs.map fun i=>us.getD i Value.none,k,vp,?_⟩,rfl,q _ qs hqs up hn⟩
 ·have z':=kp b o z
  rw[sortedHeap_old (Nat.ne_of_lt (Heap.lt_size z')) (by rw[size_push'];exact Nat.lt_succ_of_lt (Heap.lt_size z'))]
  exact Heap.get?_push_of_some _ z'
 ·rw[hk,e]
end
end L2
namespace L2.FE
open PySem PySem.Spec PyProof.Rows L2.ST L2.Srt
noncomputable def okV (xss:List (List Int)):Bool:=decide (xss.length<=306)&&xss.all (fun xs=>!xs.isEmpty&&decide (xs.length<=20)&&xs.all fun x=>decide (0<=x/\x<=98))&&decide ((xss.map (kT 20)).Nodup)
theorem wJ {xss:List (List Int)} (e:okV xss=true):OkV xss:=by
 unfold okV at e
 simp only[Bool.and_eq_true,decide_eq_true_eq,List.all_eq_true] at e
 obtain⟨⟨hz,al⟩,nd⟩:=e
 refine⟨hz,fun xs hx=>⟨fun x hx'=>(al xs hx).2 x hx',(al xs hx).1.2⟩,nd,fun xs hx z=>?_⟩
 have:=(al xs hx).1.1
 rw[z] at this;simp at this
noncomputable def jd (nl:NL):List D->Hh->R D:=fun ds h=>match ds with
 | [d]=>match iO d h with
  | some xs=>match fj xs with
   | some xss=>if okV xss=true then nl ((mK xss).map zR) h else .bad
   | none=>.bad
  | none=>.bad
 | _=>.bad
noncomputable def mL:List D->Hh->R D:=fun ds h=>match ds with
 | [d]=>match iO d h with
  | some xs=>match fj xs with
   | some xss=>if okV xss=true then .ok (.int xss.length) h else .bad
   | none=>.bad
  | none=>.bad
 | _=>.bad
section
variable {K:PySem.W.Frag} {g:GG} {ε:EE} {w:World}
theorem xF {α:List Addr} {H:Hp} {h:Hh} {d:D} {x:V} {ds:List D} (r:aZ K g α H h) (rd:aP K g α H d x) (e:iO d h=some ds):∃p vs,x=.ref p/\SqL K H p vs/\aA K g α H ds vs:=by
 unfold iO at e
 cases rd with
 | frl hq rs=>cases e;exact⟨_,_,rfl,hq.sq,rs⟩
 | ref hp=>obtain⟨vs,hv,rs⟩:=r.lst e hp;exact⟨_,vs,rfl,SqL.of hv,rs⟩
 | _=>cases e
theorem DU:nu K g ε mL (fun vs H Q=>∃(p:Addr) (xs:List V) (xss:List (List Int)),vs=[.ref p]/\SqL K H p xs/\TpV K H xs xss/\OkV xss/\∀l o us,H l=none->WSt w o us->Vals xs us →
  ∃p' o' us',[V.ref l]=[V.ref p']/\upd H l (AtO l o) p'=some (AtO p' o')/\WSt w o' us'/\Q (.int us'.length) (upd H l (AtO l o))):=by
 intro α H h a x Q r ra w
 cases ra with
 | nil=>exact w.elim
 | cons rd rr=>
  cases rr with
  | cons _ _=>exact w.elim
  | nil=>
   unfold mL at w
   dsimp only at w
   cases e0:iO _ h with
   | none=>rw[e0] at w;exact w.elim
   | some ds=>
    rw[e0] at w
    dsimp only at w
    obtain⟨p,vs,rfl,hq,rs⟩:=xF r rd e0
    cases e:fj ds with
    | none=>rw[e] at w;exact w.elim
    | some xss=>
     rw[e] at w
     obtain⟨ok,w⟩:=WQ.f6 w
     obtain⟨pr,rfl⟩:=lF rs e
     refine⟨p,vs,xss,rfl,hq,pr,wJ ok,fun l o us hl hW rv=>⟨l,o,us,rfl,a9,hW,?_⟩⟩
     have:us.length=xss.length:=by rw[<- rv.length,pr.len]
     rw[this]
     exact(show aX K g α H Q _ _ from w) _ _ α (Ext.fresh hl) (r.grow hl) (.int _)
theorem BV {nl:NL} [jJ nl]:nu K g ε (jd nl) (fun vs H Q=>∃(p:Addr) (xs:List V) (xss:List (List Int)),vs=[.ref p]/\SqL K H p xs/\TpV K H xs xss/\OkV xss/\∀l o us,H l=none->WSt w o us->Vals xs us →
  ∃(p':Addr) (o':Obj) (us':List Value) (xs':List V) (xss':List (List Int)),[V.ref l]=[V.ref p']/\upd H l (AtO l o) p'=some (AtO p' o')/\WSt w o' us'/\Vals xs' us'/\TpV K (upd H l (AtO l o)) xs' xss'/\OkV xss' ∧
  ∀(l':Addr) (q:List Nat),q.Perm (List.range xss'.length)->(q.map fun i=>kT 20 (xss'.getD i [])).Pairwise (· < ·)->upd H l (AtO l o) l'=none->jc Q (.ref l') (upd (upd H l (AtO l o)) l' (.lst (q.map fun i=>xs'.getD i .non)))):=by
 intro α H h a x Q r ra w
 cases ra with
 | nil=>exact w.elim
 | cons rd rr=>
  cases rr with
  | cons _ _=>exact w.elim
  | nil=>
   unfold jd at w
   dsimp only at w
   cases e0:iO _ h with
   | none=>rw[e0] at w;exact w.elim
   | some ds=>
    rw[e0] at w
    dsimp only at w
    obtain⟨p,vs,rfl,hq,rs⟩:=xF r rd e0
    cases e:fj ds with
    | none=>rw[e] at w;exact w.elim
    | some xss=>
     rw[e] at w
     obtain⟨ok,w⟩:=WQ.f6 w
     obtain⟨pr,ee0⟩:=lF rs e
     refine⟨p,vs,xss,rfl,hq,pr,wJ ok,fun l o us hl hW rv=>?_⟩
     have ex:Ext K α H α (upd H l (AtO l o)):=Ext.fresh hl
     have rs2:=rs.ext ex
     obtain⟨pr2,_⟩:=lF rs2 e
     refine⟨l,o,us,vs,xss,rfl,a9,hW,rv,pr2,wJ ok,fun l' q pm up hl'=>?_⟩
     subst ee0
     have lt:∀i∈q,i<xss.length:=fun i hi=>by
      have:=pm.mem_iff.mp hi
      simpa using this
     have rp:=uu rs2 q (fun i hi=>by rw[List.length_map];exact lt i hi)
     have ee:(q.map fun i=>(xss.map zR).getD i .non)=(mK xss).map zR:=by
      rw[<- A8 pm up,List.map_map]
      refine List.map_congr_left fun i hi=>?_
      have:=lt i hi
      simp[this]
     rw[ee] at rp
     exact NL.post (w.post ex) (r.grow hl) rp hl'
end
end L2.FE
namespace FC
open PySem L2 L2.FE
noncomputable def bS:MF:=cB 2 (aI (cO (aT asB (ao dLt (ag 1) (ai eP (aa (ag 0) ak)))) (bB (ao dIx (ag 0) (ag 1))) bC)
  (bB (cC (.int 0))))
noncomputable def b_:MF:=cB 2 (aI (bh 1 (ai Ce (aa (ag 0) (aa (ao eR (cC (.int 0)) (ag 0)) ak))))
  (bB (ai (iZ zt) (aa (ag 1) (aa (ai BE (aa (ao dGe (ag 1) (ao E9 (cC (.int 10)) (cC (.int 18)))) ak)) (aa (ao h_ (ag 1) (cC (.int 1000003))) ak))))))
noncomputable def dI:MF:=cB 1 (aI (bh 0 (ao h_ (ao (bj aF) (ag 0) (cC (.int 7919))) (cC (.int 2147483647))))
  (bB (ao h_ (ao (bj aF) (ao (bj aF) (ao (bJ aF) (ag 0) (ag 0)) (ao (bJ aF) (cC (.int 48271)) (ag 0))) (cC (.int 12345))) (cC (.int 2147483629)))))
noncomputable def aG:MF:=cB 3 (aI (cO (Cw (aT asB (ao dEq (ao dIx (ag 0) (cC (.int 1))) (cC (.int 1)))) (aT asB (ao dGt (ao dIx (ag 0) (cC (.int 0))) (cC (.int 0))))) (aI (bh 2 (ao h_ (ao dIx (ag 0) (cC (.int 0))) (ag 1)))
  (aI (sH iz (ag 0) (cC (.int 0)) (ao lL (ao dIx (ag 0) (cC (.int 0))) (ag 1)))
  (bB (ag 2)))) bC)
  (aI (sH iz (ag 0) (cC (.int 2)) (ai dI (aa (ao (bj aF) (ai dI (aa (ao dIx (ag 0) (cC (.int 2))) ak)) (cC (.int 7))) ak)))
  (bB (ao h_ (ao lL (ao dIx (ag 0) (cC (.int 2))) (cC (.int 64))) (ag 1)))))
noncomputable def fT:MF:=cB 1 (bB (xO (cUn (sL "int") (ag 0)) (BB (cUn (sL "bool") (ag 0)))))
noncomputable def cy:MF:=cB 3 (bB (xO (ai fT (aa (ag 0) ak)) (kF dLe dLe (ag 1) (ag 0) (ag 2))))
noncomputable def az:MF:=cB 3 (cO (mO (aT n_ (ai cy (aa (ag 0) (aa (ag 1) (aa (ag 2) ak)))))) wt bC)
noncomputable def cH:MF:=cB 3 (aI (cw (ai az (aa (ag 0) (aa (cC (.int 1)) (aa (cC (.int 8)) ak)))))
  (aI (cw (ai az (aa (ag 1) (aa (cC (.int 1)) (aa (cC (.int 20)) ak)))))
  (cw (ai az (aa (ag 2) (aa (cC (.int 0)) (aa (cC (.int 8)) ak)))))))
noncomputable def cz:MF:=tR (fun ds h=>((cB 9 (aI (bh 3 (ai (iZ aF) (aa (cC (.int 1)) ak)))
  (aI (dU (fC fU (aa (ag 0) ak)) (gN 4) (aI (bh 5 (ao (bJ zt) (ai (iZ aF) (aa (cC (.int 0)) ak)) (ao eR (ao (bj aF) (ai eP (aa (ag 3) ak)) (ag 1)) (cC (.int 1)))))
  (aI (dU (lR (ag 3)) (gT2 6 7) (dU (fC fU (aa (ag 1) ak)) (gN 8) (rE (ag 5) (ao (bj aF) (ag 6) (ag 8)) (ag 7))))
  (bh 3 (ag 5)))))
  (bB (ai kA (aa (i4 aF (ag 3) (gW (ao (bJ aF) (ag 2) (ag 1))) (gW (ao (bj aF) (ao (bJ aF) (ag 2) (ag 1)) (ag 1)))) ak)))))) ds h).bind (gS h))
noncomputable def bp:MF:=cB 3 (aI (cw (ai cH (aa (ag 0) (aa (ag 1) (aa (ag 2) ak)))))
  (bB (ai cz (aa (ag 0) (aa (ag 1) (aa (ag 2) ak))))))
noncomputable def cE:MF:=cB 4 (aI (bh 2 (cC (.int 1)))
  (aI (dU (fC fU (aa (ag 1) ak)) (gN 3) (bh 2 (ao (bJ aF) (ag 2) (ag 0))))
  (bB (ag 2))))
noncomputable def cA:MF:=cB 4 (aI (jL 2 3 (aa (ag 1) (aa (ai zG (aa (ag 0) ak)) ak)))
  (aI (pU 400 (aT asB (ao dGt (ag 3) (cC (.int 0)))) (jL 2 3 (aa (ag 3) (aa (ao h_ (ag 2) (ag 3)) ak))))
  (bB (ai bU (aa (ao lL (ag 0) (ag 2)) (aa (ao lL (ag 1) (ag 2)) ak))))))
noncomputable def dn:MF:=cB 4 (aI (cO (nj (mO (aT n_ (cUn (sL "tuple") (ag 1)))) (aT asB (ao dNe (ai eP (aa (ag 1) ak)) (cC (.int 2))))) wt bC)
  (aI (oP 2 3 (ag 1))
  (aI (cw (ai az (aa (ag 3) (aa (cC (.int 1)) (aa (cC (.int 1000)) ak)))))
  (aI (cw (ai az (aa (ag 2) (aa (cC (.int 0)) (aa (ao (bJ aF) (ag 0) (ag 3)) ak)))))
  (cO (aT asB (ao dNe (ai cA (aa (ag 2) (aa (ag 3) ak))) (ag 1))) wt bC)))))
noncomputable def eJ:MF:=cB 4 (aI (bh 2 (cC (.int 1)))
  (aI (dU (fC fU (aa (ag 1) ak)) (gN 3) (bh 2 (ao lL (ao (bJ aF) (ag 2) (ao eR (ag 0) (ag 3))) (ao (bj aF) (ag 3) (cC (.int 1))))))
  (bB (ag 2))))
noncomputable def dD:MF:=cB 4 (aI (bh 2 (cC (.int 1)))
  (aI (dU (fC fU (aa (ag 1) ak)) (gN 3) (uY 2 pf (ag 0)))
  (bB (ag 2))))
noncomputable def bT:MF:=cB 3 (aI (bh 1 (cC (.int 1)))
  (aI (dU (fC fU (aa (ag 0) ak)) (gN 2) (uY 1 pf (ao (bj aF) (ag 2) (cC (.int 1)))))
  (bB (ag 1))))
noncomputable def a8:MF:=cB 7 (aI (cw (ai az (aa (ag 0) (aa (cC (.int 1)) (aa (cC (.int 12)) ak)))))
  (aI (cw (ai dn (aa (ag 0) (aa (ag 1) ak))))
  (aI (oP 2 3 (ag 1))
  (aI (bh 4 (cC (.int 0)))
  (aI (dU (fC fU (aa (ao (bj aF) (ao lL (ag 2) (ag 3)) (cC (.int 1))) ak)) (gN 5) (aI (bh 6 (ao (bJ aF) (ai eJ (aa (ag 0) (aa (ag 5) ak))) (ai dD (aa (ao eR (ag 2) (ao (bJ aF) (ag 5) (ag 3))) (aa (ag 0) ak)))))
  (uY 4 oy (cIf (aT asB (ao dEq (ao h_ (ag 5) (cC (.int 2))) (cC (.int 1)))) (cUn vN (ag 6)) (ag 6)))))
  (bB (ai cA (aa (ag 4) (aa (ao (bJ aF) (ai bT (aa (ag 0) ak)) (ai dD (aa (ag 3) (aa (ag 0) ak)))) ak)))))))))
noncomputable def dq:MF:=cB 2 (aI (pU 400 (aT n_ (ag 1)) (jL 0 1 (aa (ag 1) (aa (ao h_ (ag 0) (ag 1)) ak))))
  (bB (ag 0)))
noncomputable def aR:MF:=cB 3 (aI (bh 2 (ai dq (aa (ai zG (aa (ag 0) ak)) (aa (ag 1) ak))))
  (bB (ai bU (aa (ao lL (ag 0) (ag 2)) (aa (ao lL (ag 1) (ag 2)) ak)))))
noncomputable def df:MF:=cB 2 (aI (cw (ai az (aa (ag 0) (aa (cC (.int 1)) (aa (cC (.int 30)) ak)))))
  (cw (ai az (aa (ag 1) (aa (cC (.int 0)) (aa (cC (.int 30)) ak))))))
noncomputable def c_:MF:=cB 3 (aI (bh 1 (ao (bj aF) (ai eP (aa (ag 0) ak)) (cC (.int 1))))
  (aI (bh 2 (ao (bj aF) (ao (bj aF) (ai (iZ aF) (aa (cC (.int 0)) ak)) (ag 0)) (ai (iZ aF) (aa (cC (.int 0)) ak))))
  (bB (dX aF (fC fU (aa (ag 1) ak)) [2,1] tt1 (ao (bj aF) (ao (bJ aF) (ao (bj aF) (ag 0) (cC (.int 1))) (ao dIx (ag 1) (ao (bj aF) (ag 0) (cC (.int 1))))) (ao (bJ aF) (ao eR (ag 2) (ag 0)) (ao dIx (ag 1) (ag 0))))))))
noncomputable def jy:MF:=cB 2 (aI (cw (ai az (aa (ag 0) (aa (cC (.int 1)) (aa (cC (.int 30)) ak)))))
  (aI (bh 1 (ai (iZ aF) (aa (cC (.int 1)) ak)))
  (aI (pU 400 (aT asB (ao dLt (ai eP (aa (ag 1) ak)) (ag 0))) (bh 1 (ai c_ (aa (ag 1) ak))))
  (bB (ag 1)))))
noncomputable def cM:MF:=cB 2 (aI (cw (ai df (aa (ag 0) (aa (ag 1) ak))))
  (bB (ai kA (aa (i4 aF (ai jy (aa (ag 0) ak)) (gW (ag 1)) (gW (ao (bj aF) (ag 1) (cC (.int 1))))) ak))))
noncomputable def dG:MF:=cB 2 (aI (cw (ai az (aa (ag 0) (aa (cC (.int 1)) (aa (cC (.int 12)) ak)))))
  (aI (cw (ai az (aa (ag 1) (aa (cC (.int 0)) (aa (cC (.int 12)) ak)))))
  (bB (ai cA (aa (ai cM (aa (ag 0) (aa (ag 1) ak))) (aa (ai bT (aa (ag 0) ak)) ak))))))
noncomputable def cW:MF:=cB 3 (aI (bh 1 (cC (.int 1)))
  (aI (dU (fC Hg (aa (cC (.int 2)) (aa (ao (bj aF) (ag 0) (cC (.int 1))) ak))) (gN 2) (bh 1 (ao (bJ aF) (ag 1) (ag 2))))
  (bB (ag 1))))
noncomputable def gE:MF:=cB 1 (cO (aT asB (ao dGt (ag 0) (cC (.int 300)))) wt bC)
noncomputable def aJ:MF:=tR (fun ds h=>((cB 8 (aI (cw (ai cH (aa (ag 0) (aa (ag 1) (aa (ag 2) ak)))))
  (aI (cw (ai gE (aa (ai cz (aa (ag 0) (aa (ag 1) (aa (ag 2) ak)))) ak)))
  (aI (bh 3 (ai (iZ aF) (aa (ai bU ak) ak)))
  (aI (dU (fC AE (aa (ao eR (ag 0) (cC (.int 1))) (aa (cUn vN (cC (.int 1))) (aa (cUn vN (cC (.int 1))) ak)))) (gN 4) (aI (bh 5 (ao eR (ao (bJ aF) (ag 2) (ag 1)) (ao (bJ aF) (ag 4) (ao eR (ag 1) (cC (.int 1))))))
  (aI (bh 6 (ao eR (ao (bj aF) (ao (bJ aF) (ag 2) (ag 1)) (ag 1)) (cC (.int 1))))
  (aI (bh 7 (sU (f_ (ag 3)) [1] (fC fU (aa (ag 2) ak)) (ao (bj aF) (ag 0) (ai bU (aa (ag 1) ak)))))
  (bh 3 (dX aF (f_ (ag 7)) [5,6] (aT asB (kF dLe dLe (ag 1) (ai kA (aa (ag 0) ak)) (ag 2))) (ag 0)))))))
  (bB (ag 3))))))) ds h).bind (gS h))
noncomputable def ba:MF:=cB 3 (aI (cw (ai az (aa (ag 0) (aa (cC (.int 1)) (aa (cC (.int 20)) ak)))))
  (aI (cO (nj (mO (aT n_ (cUn (sL "tuple") (ag 1)))) (mO (aT asB (kF dLe dLe (cC (.int 1)) (ai eP (aa (ag 1) ak)) (cC (.int 8)))))) wt bC)
  (dU (f_ (ag 1)) (gN 2) (cO (mO (aT n_ (ai cy (aa (ag 2) (aa (cC (.int 0)) (aa (ao eR (ag 0) (cC (.int 1))) ak)))))) wt bC))))
noncomputable def iV:MF:=tR (fun ds h=>((cB 5 (aI (cw (ai ba (aa (ag 0) (aa (ag 1) ak))))
  (aI (bh 2 (ai (iZ zt) ak))
  (aI (bh 3 (cC (.int 0)))
  (aI (dU (f_ (ag 1)) (gN 4) (aI (bh 3 (ao h_ (ao (bj aF) (ag 3) (ag 4)) (ag 0)))
  (cw (oM fu (ag 2) (aa (ag 3) ak)))))
  (bB (ai gy (aa (ag 2) ak)))))))) ds h).bind (gS h))
noncomputable def fF:MF:=cB 2 (aI (cw (ai ba (aa (ag 0) (aa (ag 1) ak))))
  (bB (ao lL (ai kA (aa (ag 1) ak)) (ag 0))))
noncomputable def fO:MF:=cB 1 (bB (ai gy (aa (dX aF (fC fU (aa (ao eR (ai eP (aa (ag 0) ak)) (cC (.int 1))) ak)) [0] (aT asB (ao dGt (ao dIx (ag 1) (ag 0)) (ao dIx (ag 1) (ao (bj aF) (ag 0) (cC (.int 1)))))) (ag 0)) ak)))
noncomputable def eH:MF:=cB 2 (aI (cw (ai ba (aa (ag 0) (aa (ag 1) ak))))
  (bB (ai eP (aa (ai fO (aa (ag 1) ak)) ak))))
noncomputable def eC:MF:=cB 3 (aI (cw (ai ba (aa (ag 0) (aa (ag 1) ak))))
  (aI (bh 2 (ao (bj aF) (ai bU (aa (cC (.int 0)) ak)) (i4 aF (ag 1) r8 (gW (cUn vN (cC (.int 1)))))))
  (bB (ai gy (aa (dX aF (CQ (aa (ag 1) (aa (ag 2) ak))) [0] (unp tt1) (unp (ao h_ (ao eR (ag 0) (ag 1)) (ag 2)))) ak)))))
noncomputable def pM:MF:=fun ds h=>((cB 20 (aI (dU (lR (ao (bj aF) (ai (iZ aF) (aa (ai bS (aa (ag 0) (aa (cC (.int 0)) ak))) ak)) (i4 aF (ag 0) (gW (cC (.int 1))) (gW (cC (.int 3)))))) (gT2 1 2) (aI (bh 3 (ai b_ (aa (ag 2) ak)))
  (aI (oP 4 5 (ai bU (aa (ao (bj aF) (cC (.int 1)) (ai aG (aa (ag 3) (aa (cC (.int 8)) ak)))) (aa (ao (bj aF) (cC (.int 1)) (ai aG (aa (ag 3) (aa (cC (.int 20)) ak)))) ak))))
  (aI (cO (aT asB (ao dNe (ai kA (aa (dX aF (fC fU (aa (cC (.int 9)) ak)) [4,5] tt1 (ai bp (aa (ag 1) (aa (ag 2) (aa (ag 0) ak))))) ak)) (ai cE (aa (ag 5) (aa (ag 4) ak))))) (bB (cC (.bl false))) bC)
  (aI (jL 6 7 (aa (ao (bj aF) (cC (.int 1)) (ai aG (aa (ag 3) (aa (cC (.int 12)) ak)))) (aa (ao (bj aF) (cC (.int 1)) (ai aG (aa (ag 3) (aa (cC (.int 40)) ak)))) ak)))
  (aI (bh 8 (ai aG (aa (ag 3) (aa (ao (bj aF) (ao (bJ aF) (ag 6) (ag 7)) (cC (.int 1))) ak))))
  (aI (jL 9 10 (aa (ai a8 (aa (ag 6) (aa (ai aR (aa (ag 8) (aa (ag 7) ak))) ak))) (aa (ai a8 (aa (ag 6) (aa (ai aR (aa (ao eR (ao (bJ aF) (ag 6) (ag 7)) (ag 8)) (aa (ag 7) ak))) ak))) ak)))
  (aI (cO (aT asB (ao dNe (ai aR (aa (ao (bj aF) (ao (bJ aF) (ao dIx (ag 9) (cC (.int 0))) (ao dIx (ag 10) (cC (.int 1)))) (ao (bJ aF) (ao dIx (ag 10) (cC (.int 0))) (ao dIx (ag 9) (cC (.int 1))))) (aa (ao (bJ aF) (ao dIx (ag 9) (cC (.int 1))) (ao dIx (ag 10) (cC (.int 1)))) ak))) (ai bU (aa (cC (.int 1)) (aa (cC (.int 1)) ak))))) (bB (cC (.bl false))) bC)
  (aI (dU (fC fU (aa (ag 6) ak)) (gN 11) (aI (jL 12 13 (aa (ai a8 (aa (ag 6) (aa (ai bU (aa (ag 11) (aa (cC (.int 1)) ak))) ak))) (aa (ai a8 (aa (ag 6) (aa (ai bU (aa (ao (bj aF) (ag 11) (cC (.int 1))) (aa (cC (.int 1)) ak))) ak))) ak)))
  (aI (bh 14 (ai dG (aa (ag 6) (aa (ag 11) ak))))
  (aI (cO (aT asB (ao dNe (ag 14) (ai aR (aa (ao eR (ao (bJ aF) (ao dIx (ag 13) (cC (.int 0))) (ao dIx (ag 12) (cC (.int 1)))) (ao (bJ aF) (ao dIx (ag 12) (cC (.int 0))) (ao dIx (ag 13) (cC (.int 1))))) (aa (ao (bJ aF) (ao dIx (ag 13) (cC (.int 1))) (ao dIx (ag 12) (cC (.int 1)))) ak))))) (bB (cC (.bl false))) bC)
  (cO (aT asB (ao dNe (ag 14) (ai aR (aa (ai cM (aa (ag 6) (aa (ag 11) ak))) (aa (ai cW (aa (ag 6) ak)) ak))))) (bB (cC (.bl false))) bC)))))
  (cO (aT asB (ao dEq (ag 1) (cC (.int 0)))) (aI (oP 15 16 (ao dIx (ai (iZ aF) (aa (ai bU (aa (cC (.int 3)) (aa (cC (.int 5)) ak))) (aa (ai bU (aa (cC (.int 2)) (aa (cC (.int 12)) ak))) (aa (ai bU (aa (cC (.int 4)) (aa (cC (.int 3)) ak))) (aa (ai bU (aa (cC (.int 5)) (aa (cC (.int 3)) ak))) (aa (ai bU (aa (cC (.int 7)) (aa (cC (.int 2)) ak))) (aa (ai bU (aa (cC (.int 1)) (aa (cC (.int 20)) ak))) (aa (ai bU (aa (cC (.int 3)) (aa (cC (.int 7)) ak))) ak)))))))) (ai aG (aa (ag 3) (aa (cC (.int 7)) ak)))))
  (aI (bh 11 (ai aG (aa (ag 3) (aa (ag 15) ak))))
  (aI (bh 17 (ai aJ (aa (ag 15) (aa (ag 16) (aa (ag 11) ak)))))
  (aI (cO (nj (aT asB (ao dNe (ai eP (aa (ag 17) ak)) (ai bp (aa (ag 15) (aa (ag 16) (aa (ag 11) ak)))))) (aT asB (ao dNe (ag 17) (ai (jd aF) (aa (ag 17) ak))))) (bB (cC (.bl false))) bC)
  (aI (dU (f_ (ag 17)) (gN 18) (aI (bh 19 (ai iV (aa (ag 16) (aa (ag 18) ak))))
  (cO (nj (aT asB (ao dNe (ai fF (aa (ag 16) (aa (ag 18) ak))) (ag 11))) (nj (aT asB (ao dNe (ai eH (aa (ag 16) (aa (ag 19) ak))) (ag 11))) (aT asB (ao dNe (ai eC (aa (ag 16) (aa (ag 19) ak))) (ag 18))))) (bB (cC (.bl false))) bC)))
  (cO (aT asB (ao dNe (ai mL (aa (dX aF (f_ (ag 17)) [16] tt1 (ai iV (aa (ag 1) (aa (ag 0) ak)))) ak)) (ai eP (aa (ag 17) ak)))) (bB (cC (.bl false))) bC)))))) bC))))))))))
  (bB (cC (.bl true))))) ds h).bind (gS h)
noncomputable def aL (i:Nat):Stmt:=PySem.Challenge.pw_fallcounts_k55_whole_boxes.main.body.getD i (.Pass ⟨0,0,0,0⟩)
structure Blt (mg:Str->Option Value):Prop where
 abs:mg "abs" = none
 bool:mg "bool" = none
 enumerate:mg "enumerate" = none
 int:mg "int" = none
 isinstance:mg "isinstance" = none
 len:mg "len" = none
 max:mg "max" = none
 range:mg "range" = none
 set:mg "set" = none
 sorted:mg "sorted" = none
 sum:mg "sum" = none
 tuple:mg "tuple" = none
 zip:mg "zip" = none
section
variable {P:Program} {w:World} {K:PySem.W.Frag} {mg:Str->Option Value} {base:Heap} {g:GG}
theorem m_:aQ ["_law_script", "_law_k"] ["_law_script", "_law_k"] (ay (aL 42)):=⟨rfl,rfl,rfl,by decide +kernel,rfl,by decide +kernel,by decide +kernel⟩
theorem lP (D:aO K mg "_law_cell_at" (aL 42)) (T:Blt mg):Has P w K mg base g "_law_cell_at" 1 ["_law_script", "_law_k"] bS:=by
 obtain⟨f,fd,hm,F⟩:=D
 refine⟨f,fd,cY F m_ (fun cdv A outer s H E hr=>?_),F.kp,F.binds (fun _ _ _ _ _ _ us hl=>iY hl fun _ _=>rfl),hm,aU F⟩
 exact(@ar _ _ _ _ _ _ _ (@jK _ _ _ _ _ _ _ _ _ _ (@cg _ _ _ _ _ _ _ _ _ _ _ Fj FG (af 1) (bu gu gH rfl T.len PySem.boot_len (@ae _ _ _ _ _ _ _ (af 0) aj rfl)) (bV _)) (@aH _ _ _ _ _ (@br _ _ _ _ _ _ (@cJ _ _ _ _ _ _ _ _ _ _ bN cK (af 0) (af 1) (fun _ _=>rfl)))) cn)
   (@aH _ _ _ _ _ (@br _ _ _ _ _ _ aq)))
theorem jA:aQ ["_law_cell", "_law_left"] ["_law_cell"] (ay (aL 44)):=⟨rfl,rfl,rfl,by decide +kernel,rfl,by decide +kernel,by decide +kernel⟩
theorem nv (D:aO K mg "_law_pen_of" (aL 44)) (T:Blt mg):Has P w K mg base g "_law_pen_of" 1 ["_law_cell"] b_:=by
 obtain⟨f,fd,hm,F⟩:=D
 refine⟨f,fd,cY F jA (fun cdv A outer s H E hr=>?_),F.kp,F.binds (fun _ _ _ _ _ _ us hl=>qw hl fun _=>rfl),hm,aU F⟩
 exact(@ar _ _ _ _ _ _ _ (@bE _ _ _ _ _ _ 1 _ _ jA.nd rfl (by first | exact Or.inl rfl | exact Or.inr rfl) (bu (zc rfl) Dq rfl T.max PyProof.Rows.boot_max (@ae _ _ _ _ _ _ _ (af 0) (@ae _ _ _ _ _ _ _ (@au _ _ _ _ _ _ _ _ _ _ _ dW dJ aq (af 0)) aj rfl) rfl)) rfl (.inl rfl))
   (@aH _ _ _ _ _ (@br _ _ _ _ _ _ (@gJ _ _ _ _ _ _ _ _ (@ae _ _ _ _ _ _ _ (af 1) (@ae _ _ _ _ _ _ _ (jG zq FW rfl T.int PyProof.Rows.boot_int (@ae _ _ _ _ _ _ _ (@FZ _ _ _ _ _ _ _ _ _ _ _ Ij Jn (af 1) (@au _ _ _ _ _ _ _ _ _ _ _ Ey F1 aq aq) (bV _)) aj rfl)) (@ae _ _ _ _ _ _ _ (@au _ _ _ _ _ _ _ _ _ _ _ gw gG (af 1) aq) aj rfl) rfl) rfl)))))
theorem kS:aQ ["_law_seed"] ["_law_seed"] (ay (aL 43)):=⟨rfl,rfl,rfl,by decide +kernel,rfl,by decide +kernel,by decide +kernel⟩
theorem qm (D:aO K mg "_law_next" (aL 43)) (T:Blt mg):Has P w K mg base g "_law_next" 1 ["_law_seed"] dI:=by
 obtain⟨f,fd,hm,F⟩:=D
 refine⟨f,fd,cY F kS (fun cdv A outer s H E hr=>?_),F.kp,F.binds (fun _ _ _ _ _ _ us hl=>qw hl fun _=>rfl),hm,aU F⟩
 exact(@ar _ _ _ _ _ _ _ (@bE _ _ _ _ _ _ 0 _ _ kS.nd rfl (by first | exact Or.inl rfl | exact Or.inr rfl) (@au _ _ _ _ _ _ _ _ _ _ _ gw gG (@au _ _ _ _ _ _ _ _ _ _ _ bf bg (af 0) aq) aq) rfl (.inl rfl))
   (@aH _ _ _ _ _ (@br _ _ _ _ _ _ (@au _ _ _ _ _ _ _ _ _ _ _ gw gG (@au _ _ _ _ _ _ _ _ _ _ _ bf bg (@au _ _ _ _ _ _ _ _ _ _ _ bf bg (@au _ _ _ _ _ _ _ _ _ _ _ bL bK (af 0) (af 0)) (@au _ _ _ _ _ _ _ _ _ _ _ bL bK aq (af 0))) aq) aq))))
theorem kO:aQ ["_law_pen", "_law_many", "_law_found"] ["_law_pen", "_law_many"] (ay (aL 45)):=⟨rfl,rfl,rfl,by decide +kernel,rfl,by decide +kernel,by decide +kernel⟩
theorem qy (D:aO K mg "_law_draw" (aL 45)) (T:Blt mg) (gF:Has P w K mg base g "_law_next" 1 ["_law_seed"] dI):Has P w K mg base g "_law_draw" 2 ["_law_pen", "_law_many"] aG:=by
 obtain⟨f,fd,hm,F⟩:=D
 obtain⟨Df,AF,jV,j3,j9,j7,_⟩:=gF
 refine⟨f,fd,cY F kO (fun cdv A outer s H E hr=>?_),F.kp,F.binds (fun _ _ _ _ _ _ us hl=>iY hl fun _ _=>rfl),hm,aU F⟩
 exact(@ar _ _ _ _ _ _ _ (@jK _ _ _ _ _ _ _ _ _ _ (PW.pt (@GZ _ _ _ _ _ _ _ _ _ (@cg _ _ _ _ _ _ _ _ _ _ _ (wc hr.units) Bm (@cJ _ _ _ _ _ _ _ _ _ _ bN cK (af 0) aq (fun _ _=>rfl)) aq (bV _)) (@DK _ _ _ _ _ _ (@cg _ _ _ _ _ _ _ _ _ _ _ xA x9 (@cJ _ _ _ _ _ _ _ _ _ _ bN cK (af 0) aq (fun _ _=>rfl)) aq (bV _))))) (@ar _ _ _ _ _ _ _ (@bE _ _ _ _ _ _ 2 _ _ kO.nd rfl (by first | exact Or.inl rfl | exact Or.inr rfl) (@au _ _ _ _ _ _ _ _ _ _ _ gw gG (@cJ _ _ _ _ _ _ _ _ _ _ bN cK (af 0) aq (fun _ _=>rfl)) (af 1)) rfl (.inl rfl))
   (@ar _ _ _ _ _ _ _ (xx (@au _ _ _ _ _ _ _ _ _ _ _ ec iQ (@cJ _ _ _ _ _ _ _ _ _ _ bN cK (af 0) aq (fun _ _=>rfl)) (af 1)) (af 0) aq set_list o_)
   (@aH _ _ _ _ _ (@br _ _ _ _ _ _ (af 2))))) cn)
   (@ar _ _ _ _ _ _ _ (xx (av (jV.mono (by decide)) hr rfl j7 j3 j9 (@ae _ _ _ _ _ _ _ (@au _ _ _ _ _ _ _ _ _ _ _ bf bg (av (jV.mono (by decide)) hr rfl j7 j3 j9 (@ae _ _ _ _ _ _ _ (@cJ _ _ _ _ _ _ _ _ _ _ bN cK (af 0) aq (fun _ _=>rfl)) aj rfl) (ah aw)) aq) aj rfl) (ah aw)) (af 0) aq set_list o_)
   (@aH _ _ _ _ _ (@br _ _ _ _ _ _ (@au _ _ _ _ _ _ _ _ _ _ _ gw gG (@au _ _ _ _ _ _ _ _ _ _ _ ec iQ (@cJ _ _ _ _ _ _ _ _ _ _ bN cK (af 0) aq (fun _ _=>rfl)) aq) (af 1))))))
theorem uQ:aQ ["thing"] ["thing"] (ay (aL 6)):=⟨rfl,rfl,rfl,by decide +kernel,rfl,by decide +kernel,by decide +kernel⟩
theorem rQ (D:aO K mg "is_whole" (aL 6)) (T:Blt mg):Has P w K mg base g "is_whole" 1 ["thing"] fT:=by
 obtain⟨f,fd,hm,F⟩:=D
 refine⟨f,fd,cY F uQ (fun cdv A outer s H E hr=>?_),F.kp,F.binds (fun _ _ _ _ _ _ us hl=>qw hl fun _=>rfl),hm,aU F⟩
 exact(@aH _ _ _ _ _ (@br _ _ _ _ _ _ (@C2 _ _ _ _ _ _ _ _ _ (tO (af 0) rfl T.isinstance rfl T.int PyProof.Rows.boot_int) (@CJ _ _ _ _ _ _ _ (@Hc _ _ _ _ _ _ (tO (af 0) rfl T.isinstance rfl T.bool PyProof.Rows.boot_bool))))))
theorem sy:aQ ["thing", "least", "most"] ["thing", "least", "most"] (ay (aL 7)):=⟨rfl,rfl,rfl,by decide +kernel,rfl,by decide +kernel,by decide +kernel⟩
theorem qf (D:aO K mg "is_within" (aL 7)) (T:Blt mg) (iR:Has P w K mg base g "is_whole" 1 ["thing"] fT):Has P w K mg base g "is_within" 2 ["thing", "least", "most"] cy:=by
 obtain⟨f,fd,hm,F⟩:=D
 obtain⟨D9,Dl,sN,sj,si,tS,_⟩:=iR
 refine⟨f,fd,cY F sy (fun cdv A outer s H E hr=>?_),F.kp,F.binds (fun _ _ _ _ _ _ us hl=>yV hl fun _ _ _=>rfl),hm,aU F⟩
 exact(@aH _ _ _ _ _ (@br _ _ _ _ _ _ (@C2 _ _ _ _ _ _ _ _ _ (av (sN.mono (by decide)) hr rfl tS sj si (@ae _ _ _ _ _ _ _ (af 0) aj rfl) (ah aw)) (@CJ _ _ _ _ _ _ _ (C5 qH qH rl rl (af 1) (af 0) (af 2))))))
theorem mE:aQ ["thing", "least", "most"] ["thing", "least", "most"] (ay (aL 8)):=⟨rfl,rfl,rfl,by decide +kernel,rfl,by decide +kernel,by decide +kernel⟩
theorem k_ (D:aO K mg "number_needed" (aL 8)) (T:Blt mg) (cG:Has P w K mg base g "is_within" 2 ["thing", "least", "most"] cy):Has P w K mg base g "number_needed" 3 ["thing", "least", "most"] az:=by
 obtain⟨f,fd,hm,F⟩:=D
 obtain⟨qb,pq,gR,gK,gP,gr,_⟩:=cG
 refine⟨f,fd,cY F mE (fun cdv A outer s H E hr=>?_),F.kp,F.binds (fun _ _ _ _ _ _ us hl=>yV hl fun _ _ _=>rfl),hm,aU F⟩
 exact(@aH _ _ _ _ _ (@jK _ _ _ _ _ _ _ _ _ _ (@oJ _ _ _ _ _ _ (@i_ _ _ _ _ _ _ pI (av (gR.mono (by decide)) hr rfl gr gK gP (@ae _ _ _ _ _ _ _ (af 0) (@ae _ _ _ _ _ _ _ (af 1) (@ae _ _ _ _ _ _ _ (af 2) aj rfl) rfl) rfl) (ah (ah (ah aw)))) (fun _=>rfl))) (@aH _ _ _ _ _ (PS.imp hG fun E σ H ⟨α,env,h,s,w⟩=>w.elim)) cn))
theorem oA:aQ ["n", "m", "k"] ["n", "m", "k"] (ay (aL 36)):=⟨rfl,rfl,rfl,by decide +kernel,rfl,by decide +kernel,by decide +kernel⟩
theorem nN (D:aO K mg "slab_needed" (aL 36)) (T:Blt mg) {f9:Tok} (cS:mg "MOST_LONG" = some (.int 8 f9)) {gh:Tok} (dF:mg "MOST_WIDE" = some (.int 20 gh)) (ax:Has P w K mg base g "number_needed" 3 ["thing", "least", "most"] az):Has P w K mg base g "slab_needed" 4 ["n", "m", "k"] cH:=by
 obtain⟨f,fd,hm,F⟩:=D
 obtain⟨bD,bz,aC,aB,aD,aE,_⟩:=ax
 refine⟨f,fd,cY F oA (fun cdv A outer s H E hr=>?_),F.kp,F.binds (fun _ _ _ _ _ _ us hl=>yV hl fun _ _ _=>rfl),hm,aU F⟩
 exact(@ar _ _ _ _ _ _ _ (bW (av (aC.mono (by decide)) hr rfl aE aB aD (@ae _ _ _ _ _ _ _ (af 0) (@ae _ _ _ _ _ _ _ aq (@ae _ _ _ _ _ _ _ (cv rfl cS) aj rfl) rfl) rfl) (ah (ah (ah aw)))))
   (@ar _ _ _ _ _ _ _ (bW (av (aC.mono (by decide)) hr rfl aE aB aD (@ae _ _ _ _ _ _ _ (af 1) (@ae _ _ _ _ _ _ _ aq (@ae _ _ _ _ _ _ _ (cv rfl dF) aj rfl) rfl) rfl) (ah (ah (ah aw)))))
   (@aH _ _ _ _ _ (bW (av (aC.mono (by decide)) hr rfl aE aB aD (@ae _ _ _ _ _ _ _ (af 2) (@ae _ _ _ _ _ _ _ aq (@ae _ _ _ _ _ _ _ (cv rfl cS) aj rfl) rfl) rfl) (ah (ah (ah aw))))))))
theorem bO:aQ ["n", "m", "k", "counts", "place", "longer", "total", "many", "number"] ["n", "m", "k"] (ay (aL 37)):=⟨rfl,rfl,rfl,by decide +kernel,rfl,by decide +kernel,by decide +kernel⟩
theorem oZ (D:aO K mg "slab_count" (aL 37)) (T:Blt mg):Has P w K mg base g "slab_count" 1 ["n", "m", "k"] cz:=by
 obtain⟨f,fd,hm,F⟩:=D
 refine⟨f,fd,wL (n9 (cY F bO (fun cdv A outer s H E hr=>?_))),F.kp,F.binds (fun _ _ _ _ _ _ us hl=>yV hl fun _ _ _=>rfl),hm,aU F⟩
 exact(@ar _ _ _ _ _ _ _ (@bE _ _ _ _ _ _ 3 _ _ bO.nd rfl (by first | exact Or.inl rfl | exact Or.inr rfl) (@gJ _ _ _ _ _ _ _ _ (@ae _ _ _ _ _ _ _ aq aj rfl)) rfl (.inl rfl))
   (@ar _ _ _ _ _ _ _ (fQ PassesOwn.never rfl (dA rfl T.range (@ae _ _ _ _ _ _ _ (af 0) aj rfl)) (bb (i:=4) bO.nd rfl (by first | exact Or.inl rfl | exact Or.inr rfl)) cZ (@ar _ _ _ _ _ _ _ (@bE _ _ _ _ _ _ 5 _ _ bO.nd rfl (by first | exact Or.inl rfl | exact Or.inr rfl) (@au _ _ _ _ _ _ _ _ _ _ _ bL bK (@gJ _ _ _ _ _ _ _ _ (@ae _ _ _ _ _ _ _ aq aj rfl)) (@au _ _ _ _ _ _ _ _ _ _ _ dW dJ (@au _ _ _ _ _ _ _ _ _ _ _ bf bg (bu gu gH rfl T.len PySem.boot_len (@ae _ _ _ _ _ _ _ (af 3) aj rfl)) (af 1)) aq)) rfl (.inl rfl))
   (@ar _ _ _ _ _ _ _ (fQ PassesOwn.never rfl (yH rfl T.enumerate (af 3)) (t_ rfl (eV (bb (i:=6) bO.nd rfl (by first | exact Or.inl rfl | exact Or.inr rfl)) (eV (bb (i:=7) bO.nd rfl (by first | exact Or.inl rfl | exact Or.inr rfl)) n6))) xt (@aH _ _ _ _ _ (fQ PassesOwn.never rfl (dA rfl T.range (@ae _ _ _ _ _ _ _ (af 1) aj rfl)) (bb (i:=8) bO.nd rfl (by first | exact Or.inl rfl | exact Or.inr rfl)) cZ (@aH _ _ _ _ _ (DL (af 5) (@au _ _ _ _ _ _ _ _ _ _ _ bf bg (af 6) (af 8)) (af 7))))))
   (@aH _ _ _ _ _ (@bE _ _ _ _ _ _ 3 _ _ bO.nd rfl (by first | exact Or.inl rfl | exact Or.inr rfl) (af 5) rfl (.inl rfl))))))
   (@aH _ _ _ _ _ (@br _ _ _ _ _ _ (bu (g9 rfl) oN rfl T.sum PyProof.Rows.boot_sum (@ae _ _ _ _ _ _ _ (kW (af 3) (@iB _ _ _ _ _ (@au _ _ _ _ _ _ _ _ _ _ _ bL bK (af 2) (af 1))) (@iB _ _ _ _ _ (@au _ _ _ _ _ _ _ _ _ _ _ bf bg (@au _ _ _ _ _ _ _ _ _ _ _ bL bK (af 2) (af 1)) (af 1)))) aj rfl))))))
theorem tT:aQ ["n", "m", "k"] ["n", "m", "k"] (ay (aL 34)):=⟨rfl,rfl,rfl,by decide +kernel,rfl,by decide +kernel,by decide +kernel⟩
theorem qC (D:aO K mg "slab_many" (aL 34)) (T:Blt mg) (bX:Has P w K mg base g "slab_needed" 4 ["n", "m", "k"] cH) (cu:Has P w K mg base g "slab_count" 1 ["n", "m", "k"] cz):Has P w K mg base g "slab_many" 5 ["n", "m", "k"] bp:=by
 obtain⟨f,fd,hm,F⟩:=D
 obtain⟨nc,mj,fc,eY,eX,eZ,_⟩:=bX
 obtain⟨ow,nB,fP,fK,fH,fM,_⟩:=cu
 refine⟨f,fd,cY F tT (fun cdv A outer s H E hr=>?_),F.kp,F.binds (fun _ _ _ _ _ _ us hl=>yV hl fun _ _ _=>rfl),hm,aU F⟩
 exact(@ar _ _ _ _ _ _ _ (bW (av (fc.mono (by decide)) hr rfl eZ eY eX (@ae _ _ _ _ _ _ _ (af 0) (@ae _ _ _ _ _ _ _ (af 1) (@ae _ _ _ _ _ _ _ (af 2) aj rfl) rfl) rfl) (ah (ah (ah aw)))))
   (@aH _ _ _ _ _ (@br _ _ _ _ _ _ (av (fP.mono (by decide)) hr rfl fM fK fH (@ae _ _ _ _ _ _ _ (af 0) (@ae _ _ _ _ _ _ _ (af 1) (@ae _ _ _ _ _ _ _ (af 2) aj rfl) rfl) rfl) (ah (ah (ah aw)))))))
theorem eN:aQ ["_law_x", "_law_n", "_law_found", "_law_turn"] ["_law_x", "_law_n"] (ay (aL 46)):=⟨rfl,rfl,rfl,by decide +kernel,rfl,by decide +kernel,by decide +kernel⟩
theorem oD (D:aO K mg "_law_power" (aL 46)) (T:Blt mg):Has P w K mg base g "_law_power" 1 ["_law_x", "_law_n"] cE:=by
 obtain⟨f,fd,hm,F⟩:=D
 refine⟨f,fd,cY F eN (fun cdv A outer s H E hr=>?_),F.kp,F.binds (fun _ _ _ _ _ _ us hl=>iY hl fun _ _=>rfl),hm,aU F⟩
 exact(@ar _ _ _ _ _ _ _ (@bE _ _ _ _ _ _ 2 _ _ eN.nd rfl (by first | exact Or.inl rfl | exact Or.inr rfl) aq rfl (.inl rfl))
   (@ar _ _ _ _ _ _ _ (fQ PassesOwn.never rfl (dA rfl T.range (@ae _ _ _ _ _ _ _ (af 1) aj rfl)) (bb (i:=3) eN.nd rfl (by first | exact Or.inl rfl | exact Or.inr rfl)) cZ (@aH _ _ _ _ _ (@bE _ _ _ _ _ _ 2 _ _ eN.nd rfl (by first | exact Or.inl rfl | exact Or.inr rfl) (@au _ _ _ _ _ _ _ _ _ _ _ bL bK (af 2) (af 0)) rfl (.inl rfl))))
   (@aH _ _ _ _ _ (@br _ _ _ _ _ _ (af 2)))))
theorem jD:aQ ["top", "bottom", "common", "rest"] ["top", "bottom"] (ay (aL 12)):=⟨rfl,rfl,rfl,by decide +kernel,rfl,by decide +kernel,by decide +kernel⟩
theorem tq (D:aO K mg "share_of" (aL 12)) (T:Blt mg):Has P w K mg base g "share_of" 1 ["top", "bottom"] cA:=by
 obtain⟨f,fd,hm,F⟩:=D
 refine⟨f,fd,cY F jD (fun cdv A outer s H E hr=>?_),F.kp,F.binds (fun _ _ _ _ _ _ us hl=>iY hl fun _ _=>rfl),hm,aU F⟩
 exact(@ar _ _ _ _ _ _ _ (lU (i:=2) (j:=3) rfl jD.nd rfl rfl (by decide) (@ae _ _ _ _ _ _ _ (af 1) (@ae _ _ _ _ _ _ _ (bu uL BU rfl T.abs PyProof.Rows.boot_abs (@ae _ _ _ _ _ _ _ (af 0) aj rfl)) aj rfl) rfl))
   (@ar _ _ _ _ _ _ _ (@tB _ _ _ _ _ _ _ _ 400 PassesOwn.never (@cg _ _ _ _ _ _ _ _ _ _ _ xA x9 (af 3) aq (bV _)) (@aH _ _ _ _ _ (lU (i:=2) (j:=3) rfl jD.nd rfl rfl (by decide) (@ae _ _ _ _ _ _ _ (af 3) (@ae _ _ _ _ _ _ _ (@au _ _ _ _ _ _ _ _ _ _ _ gw gG (af 2) (af 3)) aj rfl) rfl))))
   (@aH _ _ _ _ _ (@br _ _ _ _ _ _ (@dg _ _ _ _ _ _ _ (@ae _ _ _ _ _ _ _ (@au _ _ _ _ _ _ _ _ _ _ _ ec iQ (af 0) (af 2)) (@ae _ _ _ _ _ _ _ (@au _ _ _ _ _ _ _ _ _ _ _ ec iQ (af 1) (af 2)) aj rfl) rfl))))))
theorem i9:aQ ["n", "thing", "top", "bottom"] ["n", "thing"] (ay (aL 40)):=⟨rfl,rfl,rfl,by decide +kernel,rfl,by decide +kernel,by decide +kernel⟩
theorem nI (D:aO K mg "upto_needed" (aL 40)) (T:Blt mg) {j8:Tok} (gv:mg "MOST_BOTTOM" = some (.int 1000 j8)) (ax:Has P w K mg base g "number_needed" 3 ["thing", "least", "most"] az) (bM:Has P w K mg base g "share_of" 1 ["top", "bottom"] cA):Has P w K mg base g "upto_needed" 4 ["n", "thing"] dn:=by
 obtain⟨f,fd,hm,F⟩:=D
 obtain⟨bD,bz,aC,aB,aD,aE,_⟩:=ax
 obtain⟨lA,jU,dM,dN,dS,dO,_⟩:=bM
 refine⟨f,fd,cY F i9 (fun cdv A outer s H E hr=>?_),F.kp,F.binds (fun _ _ _ _ _ _ us hl=>iY hl fun _ _=>rfl),hm,aU F⟩
 exact(@ar _ _ _ _ _ _ _ (@jK _ _ _ _ _ _ _ _ _ _ (PW.pt (@vH _ _ _ _ _ _ _ _ _ (@oJ _ _ _ _ _ _ (@i_ _ _ _ _ _ _ pI (tO (af 1) rfl T.isinstance rfl T.tuple PyProof.Rows.boot_tuple) (fun _=>rfl))) (@sF _ _ _ _ _ _ (@cg _ _ _ _ _ _ _ _ _ _ _ (fm hr.units) iW (bu gu gH rfl T.len PySem.boot_len (@ae _ _ _ _ _ _ _ (af 1) aj rfl)) aq (bV _))))) (@aH _ _ _ _ _ (PS.imp hG fun E σ H ⟨α,env,h,s,w⟩=>w.elim)) cn)
   (@ar _ _ _ _ _ _ _ (yd (i:=2) (j:=3) rfl i9.nd rfl rfl (af 1))
   (@ar _ _ _ _ _ _ _ (bW (av (aC.mono (by decide)) hr rfl aE aB aD (@ae _ _ _ _ _ _ _ (af 3) (@ae _ _ _ _ _ _ _ aq (@ae _ _ _ _ _ _ _ (cv rfl gv) aj rfl) rfl) rfl) (ah (ah (ah aw)))))
   (@ar _ _ _ _ _ _ _ (bW (av (aC.mono (by decide)) hr rfl aE aB aD (@ae _ _ _ _ _ _ _ (af 2) (@ae _ _ _ _ _ _ _ aq (@ae _ _ _ _ _ _ _ (@au _ _ _ _ _ _ _ _ _ _ _ bL bK (af 0) (af 3)) aj rfl) rfl) rfl) (ah (ah (ah aw)))))
   (@aH _ _ _ _ _ (@jK _ _ _ _ _ _ _ _ _ _ (@cg _ _ _ _ _ _ _ _ _ _ _ (fm hr.units) iW (av (dM.mono (by decide)) hr rfl dO dN dS (@ae _ _ _ _ _ _ _ (af 2) (@ae _ _ _ _ _ _ _ (af 3) aj rfl) rfl) (ah (ah aw))) (af 1) (bV _)) (@aH _ _ _ _ _ (PS.imp hG fun E σ H ⟨α,env,h,s,w⟩=>w.elim)) cn))))))
theorem gi:aQ ["many", "taken", "ways", "index"] ["many", "taken"] (ay (aL 11)):=⟨rfl,rfl,rfl,by decide +kernel,rfl,by decide +kernel,by decide +kernel⟩
theorem rN (D:aO K mg "ways_out" (aL 11)) (T:Blt mg):Has P w K mg base g "ways_out" 1 ["many", "taken"] eJ:=by
 obtain⟨f,fd,hm,F⟩:=D
 refine⟨f,fd,cY F gi (fun cdv A outer s H E hr=>?_),F.kp,F.binds (fun _ _ _ _ _ _ us hl=>iY hl fun _ _=>rfl),hm,aU F⟩
 exact(@ar _ _ _ _ _ _ _ (@bE _ _ _ _ _ _ 2 _ _ gi.nd rfl (by first | exact Or.inl rfl | exact Or.inr rfl) aq rfl (.inl rfl))
   (@ar _ _ _ _ _ _ _ (fQ PassesOwn.never rfl (dA rfl T.range (@ae _ _ _ _ _ _ _ (af 1) aj rfl)) (bb (i:=3) gi.nd rfl (by first | exact Or.inl rfl | exact Or.inr rfl)) cZ (@aH _ _ _ _ _ (@bE _ _ _ _ _ _ 2 _ _ gi.nd rfl (by first | exact Or.inl rfl | exact Or.inr rfl) (@au _ _ _ _ _ _ _ _ _ _ _ ec iQ (@au _ _ _ _ _ _ _ _ _ _ _ bL bK (af 2) (@au _ _ _ _ _ _ _ _ _ _ _ dW dJ (af 0) (af 3))) (@au _ _ _ _ _ _ _ _ _ _ _ bf bg (af 3) aq)) rfl (.inl rfl))))
   (@aH _ _ _ _ _ (@br _ _ _ _ _ _ (af 2)))))
theorem gk:aQ ["base", "exponent", "power", "step"] ["base", "exponent"] (ay (aL 9)):=⟨rfl,rfl,rfl,by decide +kernel,rfl,by decide +kernel,by decide +kernel⟩
theorem tK (D:aO K mg "power_of" (aL 9)) (T:Blt mg):Has P w K mg base g "power_of" 1 ["base", "exponent"] dD:=by
 obtain⟨f,fd,hm,F⟩:=D
 refine⟨f,fd,cY F gk (fun cdv A outer s H E hr=>?_),F.kp,F.binds (fun _ _ _ _ _ _ us hl=>iY hl fun _ _=>rfl),hm,aU F⟩
 exact(@ar _ _ _ _ _ _ _ (@bE _ _ _ _ _ _ 2 _ _ gk.nd rfl (by first | exact Or.inl rfl | exact Or.inr rfl) aq rfl (.inl rfl))
   (@ar _ _ _ _ _ _ _ (fQ PassesOwn.never rfl (dA rfl T.range (@ae _ _ _ _ _ _ _ (af 1) aj rfl)) (bb (i:=3) gk.nd rfl (by first | exact Or.inl rfl | exact Or.inr rfl)) cZ (@aH _ _ _ _ _ (C8 (i:=2) gk.nd rfl (by first | exact Or.inl rfl | exact Or.inr rfl) (af 0) xv BX)))
   (@aH _ _ _ _ _ (@br _ _ _ _ _ _ (af 2)))))
theorem dy:aQ ["many", "ways", "step"] ["many"] (ay (aL 10)):=⟨rfl,rfl,rfl,by decide +kernel,rfl,by decide +kernel,by decide +kernel⟩
theorem mC (D:aO K mg "factorial_of" (aL 10)) (T:Blt mg):Has P w K mg base g "factorial_of" 1 ["many"] bT:=by
 obtain⟨f,fd,hm,F⟩:=D
 refine⟨f,fd,cY F dy (fun cdv A outer s H E hr=>?_),F.kp,F.binds (fun _ _ _ _ _ _ us hl=>qw hl fun _=>rfl),hm,aU F⟩
 exact(@ar _ _ _ _ _ _ _ (@bE _ _ _ _ _ _ 1 _ _ dy.nd rfl (by first | exact Or.inl rfl | exact Or.inr rfl) aq rfl (.inl rfl))
   (@ar _ _ _ _ _ _ _ (fQ PassesOwn.never rfl (dA rfl T.range (@ae _ _ _ _ _ _ _ (af 0) aj rfl)) (bb (i:=2) dy.nd rfl (by first | exact Or.inl rfl | exact Or.inr rfl)) cZ (@aH _ _ _ _ _ (C8 (i:=1) dy.nd rfl (by first | exact Or.inl rfl | exact Or.inr rfl) (@au _ _ _ _ _ _ _ _ _ _ _ bf bg (af 2) aq) xv BX)))
   (@aH _ _ _ _ _ (@br _ _ _ _ _ _ (af 1)))))
theorem dH:aQ ["n", "upto", "top", "bottom", "much", "beyond", "part"] ["n", "upto"] (ay (aL 38)):=⟨rfl,rfl,rfl,by decide +kernel,rfl,by decide +kernel,by decide +kernel⟩
theorem sM (D:aO K mg "cut_upto" (aL 38)) (T:Blt mg) {fE:Tok} (cD:mg "MOST_SIDES" = some (.int 12 fE)) (ax:Has P w K mg base g "number_needed" 3 ["thing", "least", "most"] az) (e_:Has P w K mg base g "upto_needed" 4 ["n", "thing"] dn) (iE:Has P w K mg base g "ways_out" 1 ["many", "taken"] eJ) (iu:Has P w K mg base g "power_of" 1 ["base", "exponent"] dD) (bM:Has P w K mg base g "share_of" 1 ["top", "bottom"] cA) (bQ:Has P w K mg base g "factorial_of" 1 ["many"] bT):Has P w K mg base g "cut_upto" 5 ["n", "upto"] a8:=by
 obtain⟨f,fd,hm,F⟩:=D
 obtain⟨bD,bz,aC,aB,aD,aE,_⟩:=ax
 obtain⟨Au,Ac,ny,ni,nF,nM,_⟩:=e_
 obtain⟨EJ,Dh,rJ,rK,rT,tE,_⟩:=iE
 obtain⟨Ec,Dd,kP,kY,lI,kN,_⟩:=iu
 obtain⟨lA,jU,dM,dN,dS,dO,_⟩:=bM
 obtain⟨mn,lD,eF,eI,eK,eM,_⟩:=bQ
 refine⟨f,fd,cY F dH (fun cdv A outer s H E hr=>?_),F.kp,F.binds (fun _ _ _ _ _ _ us hl=>iY hl fun _ _=>rfl),hm,aU F⟩
 exact(@ar _ _ _ _ _ _ _ (bW (av (aC.mono (by decide)) hr rfl aE aB aD (@ae _ _ _ _ _ _ _ (af 0) (@ae _ _ _ _ _ _ _ aq (@ae _ _ _ _ _ _ _ (cv rfl cD) aj rfl) rfl) rfl) (ah (ah (ah aw)))))
   (@ar _ _ _ _ _ _ _ (bW (av (ny.mono (by decide)) hr rfl nM ni nF (@ae _ _ _ _ _ _ _ (af 0) (@ae _ _ _ _ _ _ _ (af 1) aj rfl) rfl) (ah (ah aw))))
   (@ar _ _ _ _ _ _ _ (yd (i:=2) (j:=3) rfl dH.nd rfl rfl (af 1))
   (@ar _ _ _ _ _ _ _ (@bE _ _ _ _ _ _ 4 _ _ dH.nd rfl (by first | exact Or.inl rfl | exact Or.inr rfl) aq rfl (.inl rfl))
   (@ar _ _ _ _ _ _ _ (fQ PassesOwn.never rfl (dA rfl T.range (@ae _ _ _ _ _ _ _ (@au _ _ _ _ _ _ _ _ _ _ _ bf bg (@au _ _ _ _ _ _ _ _ _ _ _ ec iQ (af 2) (af 3)) aq) aj rfl)) (bb (i:=5) dH.nd rfl (by first | exact Or.inl rfl | exact Or.inr rfl)) cZ (@ar _ _ _ _ _ _ _ (@bE _ _ _ _ _ _ 6 _ _ dH.nd rfl (by first | exact Or.inl rfl | exact Or.inr rfl) (@au _ _ _ _ _ _ _ _ _ _ _ bL bK (av (rJ.mono (by decide)) hr rfl tE rK rT (@ae _ _ _ _ _ _ _ (af 0) (@ae _ _ _ _ _ _ _ (af 5) aj rfl) rfl) (ah (ah aw))) (av (kP.mono (by decide)) hr rfl kN kY lI (@ae _ _ _ _ _ _ _ (@au _ _ _ _ _ _ _ _ _ _ _ dW dJ (af 2) (@au _ _ _ _ _ _ _ _ _ _ _ bL bK (af 5) (af 3))) (@ae _ _ _ _ _ _ _ (af 0) aj rfl) rfl) (ah (ah aw)))) rfl (.inl rfl))
   (@aH _ _ _ _ _ (C8 (i:=4) dH.nd rfl (by first | exact Or.inl rfl | exact Or.inr rfl) (@CY _ _ _ _ _ _ _ _ _ _ (@cg _ _ _ _ _ _ _ _ _ _ _ (wc hr.units) Bm (@au _ _ _ _ _ _ _ _ _ _ _ gw gG (af 5) aq) aq (bV _)) (@xw _ _ _ _ _ _ _ _ _ t7 sG (af 6)) (af 6)) C3 BQ))))
   (@aH _ _ _ _ _ (@br _ _ _ _ _ _ (av (dM.mono (by decide)) hr rfl dO dN dS (@ae _ _ _ _ _ _ _ (af 4) (@ae _ _ _ _ _ _ _ (@au _ _ _ _ _ _ _ _ _ _ _ bL bK (av (eF.mono (by decide)) hr rfl eM eI eK (@ae _ _ _ _ _ _ _ (af 0) aj rfl) (ah aw)) (av (kP.mono (by decide)) hr rfl kN kY lI (@ae _ _ _ _ _ _ _ (af 3) (@ae _ _ _ _ _ _ _ (af 0) aj rfl) rfl) (ah (ah aw)))) aj rfl) rfl) (ah (ah aw))))))))))
theorem i6:aQ ["_law_one", "_law_other"] ["_law_one", "_law_other"] (ay (aL 48)):=⟨rfl,rfl,rfl,by decide +kernel,rfl,by decide +kernel,by decide +kernel⟩
theorem nA (D:aO K mg "_law_common" (aL 48)) (T:Blt mg):Has P w K mg base g "_law_common" 1 ["_law_one", "_law_other"] dq:=by
 obtain⟨f,fd,hm,F⟩:=D
 refine⟨f,fd,cY F i6 (fun cdv A outer s H E hr=>?_),F.kp,F.binds (fun _ _ _ _ _ _ us hl=>iY hl fun _ _=>rfl),hm,aU F⟩
 exact(@ar _ _ _ _ _ _ _ (@tB _ _ _ _ _ _ _ _ 400 PassesOwn.never (@i_ _ _ _ _ _ _ pI (af 1) (fun _=>rfl)) (@aH _ _ _ _ _ (lU (i:=0) (j:=1) rfl i6.nd rfl rfl (by decide) (@ae _ _ _ _ _ _ _ (af 1) (@ae _ _ _ _ _ _ _ (@au _ _ _ _ _ _ _ _ _ _ _ gw gG (af 0) (af 1)) aj rfl) rfl))))
   (@aH _ _ _ _ _ (@br _ _ _ _ _ _ (af 0))))
theorem jY:aQ ["_law_top", "_law_bottom", "_law_both"] ["_law_top", "_law_bottom"] (ay (aL 49)):=⟨rfl,rfl,rfl,by decide +kernel,rfl,by decide +kernel,by decide +kernel⟩
theorem pQ (D:aO K mg "_law_share" (aL 49)) (T:Blt mg) (fe:Has P w K mg base g "_law_common" 1 ["_law_one", "_law_other"] dq):Has P w K mg base g "_law_share" 2 ["_law_top", "_law_bottom"] aR:=by
 obtain⟨f,fd,hm,F⟩:=D
 obtain⟨Aq,za,nE,nJ,nG,ng,_⟩:=fe
 refine⟨f,fd,cY F jY (fun cdv A outer s H E hr=>?_),F.kp,F.binds (fun _ _ _ _ _ _ us hl=>iY hl fun _ _=>rfl),hm,aU F⟩
 exact(@ar _ _ _ _ _ _ _ (@bE _ _ _ _ _ _ 2 _ _ jY.nd rfl (by first | exact Or.inl rfl | exact Or.inr rfl) (av (nE.mono (by decide)) hr rfl ng nJ nG (@ae _ _ _ _ _ _ _ (bu uL BU rfl T.abs PyProof.Rows.boot_abs (@ae _ _ _ _ _ _ _ (af 0) aj rfl)) (@ae _ _ _ _ _ _ _ (af 1) aj rfl) rfl) (ah (ah aw))) rfl (.inl rfl))
   (@aH _ _ _ _ _ (@br _ _ _ _ _ _ (@dg _ _ _ _ _ _ _ (@ae _ _ _ _ _ _ _ (@au _ _ _ _ _ _ _ _ _ _ _ ec iQ (af 0) (af 2)) (@ae _ _ _ _ _ _ _ (@au _ _ _ _ _ _ _ _ _ _ _ ec iQ (af 1) (af 2)) aj rfl) rfl)))))
theorem k6:aQ ["n", "k"] ["n", "k"] (ay (aL 23)):=⟨rfl,rfl,rfl,by decide +kernel,rfl,by decide +kernel,by decide +kernel⟩
theorem kD (D:aO K mg "numbers_needed" (aL 23)) (T:Blt mg) {gf:Tok} (cP:mg "MOST_ROWS" = some (.int 30 gf)) (ax:Has P w K mg base g "number_needed" 3 ["thing", "least", "most"] az):Has P w K mg base g "numbers_needed" 4 ["n", "k"] df:=by
 obtain⟨f,fd,hm,F⟩:=D
 obtain⟨bD,bz,aC,aB,aD,aE,_⟩:=ax
 refine⟨f,fd,cY F k6 (fun cdv A outer s H E hr=>?_),F.kp,F.binds (fun _ _ _ _ _ _ us hl=>iY hl fun _ _=>rfl),hm,aU F⟩
 exact(@ar _ _ _ _ _ _ _ (bW (av (aC.mono (by decide)) hr rfl aE aB aD (@ae _ _ _ _ _ _ _ (af 0) (@ae _ _ _ _ _ _ _ aq (@ae _ _ _ _ _ _ _ (cv rfl cP) aj rfl) rfl) rfl) (ah (ah (ah aw)))))
   (@aH _ _ _ _ _ (bW (av (aC.mono (by decide)) hr rfl aE aB aD (@ae _ _ _ _ _ _ _ (af 1) (@ae _ _ _ _ _ _ _ aq (@ae _ _ _ _ _ _ _ (cv rfl cP) aj rfl) rfl) rfl) (ah (ah (ah aw)))))))
theorem gq:aQ ["row", "n", "edged"] ["row"] (ay (aL 20)):=⟨rfl,rfl,rfl,by decide +kernel,rfl,by decide +kernel,by decide +kernel⟩
theorem pA (D:aO K mg "longer_row" (aL 20)) (T:Blt mg):Has P w K mg base g "longer_row" 1 ["row"] c_:=by
 obtain⟨f,fd,hm,F⟩:=D
 refine⟨f,fd,cY F gq (fun cdv A outer s H E hr=>?_),F.kp,F.binds (fun _ _ _ _ _ _ us hl=>qw hl fun _=>rfl),hm,aU F⟩
 exact(@ar _ _ _ _ _ _ _ (@bE _ _ _ _ _ _ 1 _ _ gq.nd rfl (by first | exact Or.inl rfl | exact Or.inr rfl) (@au _ _ _ _ _ _ _ _ _ _ _ bf bg (bu gu gH rfl T.len PySem.boot_len (@ae _ _ _ _ _ _ _ (af 0) aj rfl)) aq) rfl (.inl rfl))
   (@ar _ _ _ _ _ _ _ (@bE _ _ _ _ _ _ 2 _ _ gq.nd rfl (by first | exact Or.inl rfl | exact Or.inr rfl) (@au _ _ _ _ _ _ _ _ _ _ _ bf bg (@au _ _ _ _ _ _ _ _ _ _ _ bf bg (@gJ _ _ _ _ _ _ _ _ (@ae _ _ _ _ _ _ _ aq aj rfl)) (af 0)) (@gJ _ _ _ _ _ _ _ _ (@ae _ _ _ _ _ _ _ aq aj rfl))) rfl (.inl rfl))
   (@aH _ _ _ _ _ (@br _ _ _ _ _ _ (kQ (osc:=ay (aL 20)) [2,1] ["k", "edged", "n"] rfl rfl rfl rfl (by decide +kernel) ⟨by decide +kernel,by decide +kernel,rfl,by decide +kernel,rfl,by decide +kernel⟩ (dA rfl T.range (@ae _ _ _ _ _ _ _ (af 1) aj rfl))
    (fun cl C aK aN fp=>sZ) (fun cl C aK aN fp=>(@au _ _ _ _ _ _ _ _ _ _ _ bf bg (@au _ _ _ _ _ _ _ _ _ _ _ bL bK (@au _ _ _ _ _ _ _ _ _ _ _ bf bg (af 0) aq) (@cJ _ _ _ _ _ _ _ _ _ _ bN cK (af 1) (@au _ _ _ _ _ _ _ _ _ _ _ bf bg (af 0) aq) (fun _ _=>rfl))) (@au _ _ _ _ _ _ _ _ _ _ _ bL bK (@au _ _ _ _ _ _ _ _ _ _ _ dW dJ (af 2) (af 0)) (@cJ _ _ _ _ _ _ _ _ _ _ bN cK (af 1) (af 0) (fun _ _=>rfl))))))))))
theorem mz:aQ ["n", "row"] ["n"] (ay (aL 21)):=⟨rfl,rfl,rfl,by decide +kernel,rfl,by decide +kernel,by decide +kernel⟩
theorem wz (D:aO K mg "row_of" (aL 21)) (T:Blt mg) {gf:Tok} (cP:mg "MOST_ROWS" = some (.int 30 gf)) (ax:Has P w K mg base g "number_needed" 3 ["thing", "least", "most"] az) (fV:Has P w K mg base g "longer_row" 1 ["row"] c_):Has P w K mg base g "row_of" 4 ["n"] jy:=by
 obtain⟨f,fd,hm,F⟩:=D
 obtain⟨bD,bz,aC,aB,aD,aE,_⟩:=ax
 obtain⟨BA,Ao,oE,ou,pK,pD,_⟩:=fV
 refine⟨f,fd,cY F mz (fun cdv A outer s H E hr=>?_),F.kp,F.binds (fun _ _ _ _ _ _ us hl=>qw hl fun _=>rfl),hm,aU F⟩
 exact(@ar _ _ _ _ _ _ _ (bW (av (aC.mono (by decide)) hr rfl aE aB aD (@ae _ _ _ _ _ _ _ (af 0) (@ae _ _ _ _ _ _ _ aq (@ae _ _ _ _ _ _ _ (cv rfl cP) aj rfl) rfl) rfl) (ah (ah (ah aw)))))
   (@ar _ _ _ _ _ _ _ (@bE _ _ _ _ _ _ 1 _ _ mz.nd rfl (by first | exact Or.inl rfl | exact Or.inr rfl) (@gJ _ _ _ _ _ _ _ _ (@ae _ _ _ _ _ _ _ aq aj rfl)) rfl (.inl rfl))
   (@ar _ _ _ _ _ _ _ (@tB _ _ _ _ _ _ _ _ 400 PassesOwn.never (@cg _ _ _ _ _ _ _ _ _ _ _ Fj FG (bu gu gH rfl T.len PySem.boot_len (@ae _ _ _ _ _ _ _ (af 1) aj rfl)) (af 0) (bV _)) (@aH _ _ _ _ _ (@bE _ _ _ _ _ _ 1 _ _ mz.nd rfl (by first | exact Or.inl rfl | exact Or.inr rfl) (av (oE.mono (by decide)) hr rfl pD ou pK (@ae _ _ _ _ _ _ _ (af 1) aj rfl) (ah aw)) rfl (.inl rfl))))
   (@aH _ _ _ _ _ (@br _ _ _ _ _ _ (af 1))))))
theorem vk:aQ ["n", "k"] ["n", "k"] (ay (aL 22)):=⟨rfl,rfl,rfl,by decide +kernel,rfl,by decide +kernel,by decide +kernel⟩
theorem tJ (D:aO K mg "count_of" (aL 22)) (T:Blt mg) (dC:Has P w K mg base g "numbers_needed" 4 ["n", "k"] df) (kC:Has P w K mg base g "row_of" 4 ["n"] jy):Has P w K mg base g "count_of" 5 ["n", "k"] cM:=by
 obtain⟨f,fd,hm,F⟩:=D
 obtain⟨wV,vO,kB,kj,ke,ki,_⟩:=dC
 obtain⟨GR,Fo,vR,xn,v9,vX,_⟩:=kC
 refine⟨f,fd,cY F vk (fun cdv A outer s H E hr=>?_),F.kp,F.binds (fun _ _ _ _ _ _ us hl=>iY hl fun _ _=>rfl),hm,aU F⟩
 exact(@ar _ _ _ _ _ _ _ (bW (av (kB.mono (by decide)) hr rfl ki kj ke (@ae _ _ _ _ _ _ _ (af 0) (@ae _ _ _ _ _ _ _ (af 1) aj rfl) rfl) (ah (ah aw))))
   (@aH _ _ _ _ _ (@br _ _ _ _ _ _ (bu (g9 rfl) oN rfl T.sum PyProof.Rows.boot_sum (@ae _ _ _ _ _ _ _ (kW (av (vR.mono (by decide)) hr rfl vX xn v9 (@ae _ _ _ _ _ _ _ (af 0) aj rfl) (ah aw)) (@iB _ _ _ _ _ (af 1)) (@iB _ _ _ _ _ (@au _ _ _ _ _ _ _ _ _ _ _ bf bg (af 1) aq))) aj rfl)))))
theorem tj:aQ ["n", "k"] ["n", "k"] (ay (aL 39)):=⟨rfl,rfl,rfl,by decide +kernel,rfl,by decide +kernel,by decide +kernel⟩
theorem pY (D:aO K mg "cut_share" (aL 39)) (T:Blt mg) {fE:Tok} (cD:mg "MOST_SIDES" = some (.int 12 fE)) (ax:Has P w K mg base g "number_needed" 3 ["thing", "least", "most"] az) (bM:Has P w K mg base g "share_of" 1 ["top", "bottom"] cA) (de:Has P w K mg base g "count_of" 5 ["n", "k"] cM) (bQ:Has P w K mg base g "factorial_of" 1 ["many"] bT):Has P w K mg base g "cut_share" 6 ["n", "k"] dG:=by
 obtain⟨f,fd,hm,F⟩:=D
 obtain⟨bD,bz,aC,aB,aD,aE,_⟩:=ax
 obtain⟨lA,jU,dM,dN,dS,dO,_⟩:=bM
 obtain⟨tQ,qA,iS,iK,iw,ic,_⟩:=de
 obtain⟨mn,lD,eF,eI,eK,eM,_⟩:=bQ
 refine⟨f,fd,cY F tj (fun cdv A outer s H E hr=>?_),F.kp,F.binds (fun _ _ _ _ _ _ us hl=>iY hl fun _ _=>rfl),hm,aU F⟩
 exact(@ar _ _ _ _ _ _ _ (bW (av (aC.mono (by decide)) hr rfl aE aB aD (@ae _ _ _ _ _ _ _ (af 0) (@ae _ _ _ _ _ _ _ aq (@ae _ _ _ _ _ _ _ (cv rfl cD) aj rfl) rfl) rfl) (ah (ah (ah aw)))))
   (@ar _ _ _ _ _ _ _ (bW (av (aC.mono (by decide)) hr rfl aE aB aD (@ae _ _ _ _ _ _ _ (af 1) (@ae _ _ _ _ _ _ _ aq (@ae _ _ _ _ _ _ _ (cv rfl cD) aj rfl) rfl) rfl) (ah (ah (ah aw)))))
   (@aH _ _ _ _ _ (@br _ _ _ _ _ _ (av (dM.mono (by decide)) hr rfl dO dN dS (@ae _ _ _ _ _ _ _ (av (iS.mono (by decide)) hr rfl ic iK iw (@ae _ _ _ _ _ _ _ (af 0) (@ae _ _ _ _ _ _ _ (af 1) aj rfl) rfl) (ah (ah aw))) (@ae _ _ _ _ _ _ _ (av (eF.mono (by decide)) hr rfl eM eI eK (@ae _ _ _ _ _ _ _ (af 0) aj rfl) (ah aw)) aj rfl) rfl) (ah (ah aw)))))))
theorem dz:aQ ["_law_n", "_law_found", "_law_number"] ["_law_n"] (ay (aL 47)):=⟨rfl,rfl,rfl,by decide +kernel,rfl,by decide +kernel,by decide +kernel⟩
theorem l8 (D:aO K mg "_law_product" (aL 47)) (T:Blt mg):Has P w K mg base g "_law_product" 1 ["_law_n"] cW:=by
 obtain⟨f,fd,hm,F⟩:=D
 refine⟨f,fd,cY F dz (fun cdv A outer s H E hr=>?_),F.kp,F.binds (fun _ _ _ _ _ _ us hl=>qw hl fun _=>rfl),hm,aU F⟩
 exact(@ar _ _ _ _ _ _ _ (@bE _ _ _ _ _ _ 1 _ _ dz.nd rfl (by first | exact Or.inl rfl | exact Or.inr rfl) aq rfl (.inl rfl))
   (@ar _ _ _ _ _ _ _ (fQ PassesOwn.never rfl (EG rfl T.range (@ae _ _ _ _ _ _ _ aq (@ae _ _ _ _ _ _ _ (@au _ _ _ _ _ _ _ _ _ _ _ bf bg (af 0) aq) aj rfl) rfl)) (bb (i:=2) dz.nd rfl (by first | exact Or.inl rfl | exact Or.inr rfl)) cZ (@aH _ _ _ _ _ (@bE _ _ _ _ _ _ 1 _ _ dz.nd rfl (by first | exact Or.inl rfl | exact Or.inr rfl) (@au _ _ _ _ _ _ _ _ _ _ _ bL bK (af 1) (af 2)) rfl (.inl rfl))))
   (@aH _ _ _ _ _ (@br _ _ _ _ _ _ (af 1)))))
theorem oq:aQ ["many"] ["many"] (ay (aL 17)):=⟨rfl,rfl,rfl,by decide +kernel,rfl,by decide +kernel,by decide +kernel⟩
theorem mZ (D:aO K mg "told_needed" (aL 17)) (T:Blt mg) {mJ:Tok} (js:mg "MOST_TOLD" = some (.int 300 mJ)):Has P w K mg base g "told_needed" 1 ["many"] gE:=by
 obtain⟨f,fd,hm,F⟩:=D
 refine⟨f,fd,cY F oq (fun cdv A outer s H E hr=>?_),F.kp,F.binds (fun _ _ _ _ _ _ us hl=>qw hl fun _=>rfl),hm,aU F⟩
 exact(@aH _ _ _ _ _ (@jK _ _ _ _ _ _ _ _ _ _ (@cg _ _ _ _ _ _ _ _ _ _ _ xA x9 (af 0) (cv rfl js) (bV _)) (@aH _ _ _ _ _ (PS.imp hG fun E σ H ⟨α,env,h,s,w⟩=>w.elim)) cn))
theorem cU:aQ ["n", "m", "k", "cells", "left", "least", "most", "longer"] ["n", "m", "k"] (ay (aL 35)):=⟨rfl,rfl,rfl,by decide +kernel,rfl,by decide +kernel,by decide +kernel⟩
theorem rP (D:aO K mg "slab_all" (aL 35)) (T:Blt mg) (bX:Has P w K mg base g "slab_needed" 4 ["n", "m", "k"] cH) (fq:Has P w K mg base g "told_needed" 1 ["many"] gE) (cu:Has P w K mg base g "slab_count" 1 ["n", "m", "k"] cz):Has P w K mg base g "slab_all" 5 ["n", "m", "k"] aJ:=by
 obtain⟨f,fd,hm,F⟩:=D
 obtain⟨nc,mj,fc,eY,eX,eZ,_⟩:=bX
 obtain⟨Ar,yW,nr,nP,m9,nz,_⟩:=fq
 obtain⟨ow,nB,fP,fK,fH,fM,_⟩:=cu
 refine⟨f,fd,wL (n9 (cY F cU (fun cdv A outer s H E hr=>?_))),F.kp,F.binds (fun _ _ _ _ _ _ us hl=>yV hl fun _ _ _=>rfl),hm,aU F⟩
 exact(@ar _ _ _ _ _ _ _ (bW (av (fc.mono (by decide)) hr rfl eZ eY eX (@ae _ _ _ _ _ _ _ (af 0) (@ae _ _ _ _ _ _ _ (af 1) (@ae _ _ _ _ _ _ _ (af 2) aj rfl) rfl) rfl) (ah (ah (ah aw)))))
   (@ar _ _ _ _ _ _ _ (bW (av (nr.mono (by decide)) hr rfl nz nP m9 (@ae _ _ _ _ _ _ _ (av (fP.mono (by decide)) hr rfl fM fK fH (@ae _ _ _ _ _ _ _ (af 0) (@ae _ _ _ _ _ _ _ (af 1) (@ae _ _ _ _ _ _ _ (af 2) aj rfl) rfl) rfl) (ah (ah (ah aw)))) aj rfl) (ah aw)))
   (@ar _ _ _ _ _ _ _ (@bE _ _ _ _ _ _ 3 _ _ cU.nd rfl (by first | exact Or.inl rfl | exact Or.inr rfl) (@gJ _ _ _ _ _ _ _ _ (@ae _ _ _ _ _ _ _ (@dg _ _ _ _ _ _ _ aj) aj rfl)) rfl (.inl rfl))
   (@ar _ _ _ _ _ _ _ (fQ PassesOwn.never rfl (Fc rfl T.range (@ae _ _ _ _ _ _ _ (@au _ _ _ _ _ _ _ _ _ _ _ dW dJ (af 0) aq) (@ae _ _ _ _ _ _ _ (@xw _ _ _ _ _ _ _ _ _ t7 sG aq) (@ae _ _ _ _ _ _ _ (@xw _ _ _ _ _ _ _ _ _ t7 sG aq) aj rfl) rfl) rfl)) (bb (i:=4) cU.nd rfl (by first | exact Or.inl rfl | exact Or.inr rfl)) cZ (@ar _ _ _ _ _ _ _ (@bE _ _ _ _ _ _ 5 _ _ cU.nd rfl (by first | exact Or.inl rfl | exact Or.inr rfl) (@au _ _ _ _ _ _ _ _ _ _ _ dW dJ (@au _ _ _ _ _ _ _ _ _ _ _ bL bK (af 2) (af 1)) (@au _ _ _ _ _ _ _ _ _ _ _ bL bK (af 4) (@au _ _ _ _ _ _ _ _ _ _ _ dW dJ (af 1) aq))) rfl (.inl rfl))
   (@ar _ _ _ _ _ _ _ (@bE _ _ _ _ _ _ 6 _ _ cU.nd rfl (by first | exact Or.inl rfl | exact Or.inr rfl) (@au _ _ _ _ _ _ _ _ _ _ _ dW dJ (@au _ _ _ _ _ _ _ _ _ _ _ bf bg (@au _ _ _ _ _ _ _ _ _ _ _ bL bK (af 2) (af 1)) (af 1)) aq) rfl (.inl rfl))
   (@ar _ _ _ _ _ _ _ (w8 (osc:=ay (aL 35)) [1] ["cell", "number", "m"] rfl rfl rfl rfl (by decide +kernel) ⟨by decide +kernel,by decide +kernel,rfl,by decide +kernel,by decide +kernel⟩ (@l_ _ _ _ _ _ _ (af 3)) (fun cl C aK aN fp=>⟨Or.inl rfl,rfl⟩) (fun cl C aK aN fp=>⟨Or.inl rfl,rfl⟩)
    (fun cl C aK aN fp=>(dA rfl T.range (@ae _ _ _ _ _ _ _ (af 2) aj rfl))) (fun cl C aK aN fp=>(@au _ _ _ _ _ _ _ _ _ _ _ bf bg (af 0) (@dg _ _ _ _ _ _ _ (@ae _ _ _ _ _ _ _ (af 1) aj rfl)))) (i:=7) cU.nd rfl)
   (@aH _ _ _ _ _ (wH (osc:=ay (aL 35)) [5,6] ["cell", "least", "most"] rfl rfl rfl rfl (by decide +kernel) ⟨by decide +kernel,by decide +kernel,rfl,by decide +kernel,rfl,by decide +kernel⟩ (@l_ _ _ _ _ _ _ (af 7))
    (fun cl C aK aN fp=>(Cg (vE qH qH rl rl (af 1) (bu (g9 rfl) oN rfl T.sum PyProof.Rows.boot_sum (@ae _ _ _ _ _ _ _ (af 0) aj rfl)) (af 2)))) (fun cl C aK aN fp=>(af 0)) (i:=3) cU.nd rfl))))))
   (@aH _ _ _ _ _ (@br _ _ _ _ _ _ (af 3)))))))
theorem ja:aQ ["m", "thing", "number"] ["m", "thing"] (ay (aL 33)):=⟨rfl,rfl,rfl,by decide +kernel,rfl,by decide +kernel,by decide +kernel⟩
theorem nO (D:aO K mg "cell_needed" (aL 33)) (T:Blt mg) {f9:Tok} (cS:mg "MOST_LONG" = some (.int 8 f9)) {gh:Tok} (dF:mg "MOST_WIDE" = some (.int 20 gh)) (ax:Has P w K mg base g "number_needed" 3 ["thing", "least", "most"] az) (cG:Has P w K mg base g "is_within" 2 ["thing", "least", "most"] cy):Has P w K mg base g "cell_needed" 4 ["m", "thing"] ba:=by
 obtain⟨f,fd,hm,F⟩:=D
 obtain⟨bD,bz,aC,aB,aD,aE,_⟩:=ax
 obtain⟨qb,pq,gR,gK,gP,gr,_⟩:=cG
 refine⟨f,fd,cY F ja (fun cdv A outer s H E hr=>?_),F.kp,F.binds (fun _ _ _ _ _ _ us hl=>iY hl fun _ _=>rfl),hm,aU F⟩
 exact(@ar _ _ _ _ _ _ _ (bW (av (aC.mono (by decide)) hr rfl aE aB aD (@ae _ _ _ _ _ _ _ (af 0) (@ae _ _ _ _ _ _ _ aq (@ae _ _ _ _ _ _ _ (cv rfl dF) aj rfl) rfl) rfl) (ah (ah (ah aw)))))
   (@ar _ _ _ _ _ _ _ (@jK _ _ _ _ _ _ _ _ _ _ (PW.pt (@vH _ _ _ _ _ _ _ _ _ (@oJ _ _ _ _ _ _ (@i_ _ _ _ _ _ _ pI (tO (af 1) rfl T.isinstance rfl T.tuple PyProof.Rows.boot_tuple) (fun _=>rfl))) (@sF _ _ _ _ _ _ (@oJ _ _ _ _ _ _ (vE qH qH rl rl aq (bu gu gH rfl T.len PySem.boot_len (@ae _ _ _ _ _ _ _ (af 1) aj rfl)) (cv rfl cS)))))) (@aH _ _ _ _ _ (PS.imp hG fun E σ H ⟨α,env,h,s,w⟩=>w.elim)) cn)
   (@aH _ _ _ _ _ (fQ PassesOwn.never rfl (@l_ _ _ _ _ _ _ (af 1)) (bb (i:=2) ja.nd rfl (by first | exact Or.inl rfl | exact Or.inr rfl)) cZ (@aH _ _ _ _ _ (@jK _ _ _ _ _ _ _ _ _ _ (@oJ _ _ _ _ _ _ (@i_ _ _ _ _ _ _ pI (av (gR.mono (by decide)) hr rfl gr gK gP (@ae _ _ _ _ _ _ _ (af 2) (@ae _ _ _ _ _ _ _ aq (@ae _ _ _ _ _ _ _ (@au _ _ _ _ _ _ _ _ _ _ _ dW dJ (af 0) aq) aj rfl) rfl) rfl) (ah (ah (ah aw)))) (fun _=>rfl))) (@aH _ _ _ _ _ (PS.imp hG fun E σ H ⟨α,env,h,s,w⟩=>w.elim)) cn))))))
theorem pk:aQ ["m", "cell", "sums", "total", "number"] ["m", "cell"] (ay (aL 30)):=⟨rfl,rfl,rfl,by decide +kernel,rfl,by decide +kernel,by decide +kernel⟩
theorem E1 (D:aO K mg "led" (aL 30)) (T:Blt mg) (aV:Has P w K mg base g "cell_needed" 4 ["m", "thing"] ba):Has P w K mg base g "led" 5 ["m", "cell"] iV:=by
 obtain⟨f,fd,hm,F⟩:=D
 obtain⟨fh,eG,bG,bH,bF,bI,_⟩:=aV
 refine⟨f,fd,wL (n9 (cY F pk (fun cdv A outer s H E hr=>?_))),F.kp,F.binds (fun _ _ _ _ _ _ us hl=>iY hl fun _ _=>rfl),hm,aU F⟩
 exact(@ar _ _ _ _ _ _ _ (bW (av (bG.mono (by decide)) hr rfl bI bH bF (@ae _ _ _ _ _ _ _ (af 0) (@ae _ _ _ _ _ _ _ (af 1) aj rfl) rfl) (ah (ah aw))))
   (@ar _ _ _ _ _ _ _ (@bE _ _ _ _ _ _ 2 _ _ pk.nd rfl (by first | exact Or.inl rfl | exact Or.inr rfl) (@gJ _ _ _ _ _ _ _ _ aj) rfl (.inl rfl))
   (@ar _ _ _ _ _ _ _ (@bE _ _ _ _ _ _ 3 _ _ pk.nd rfl (by first | exact Or.inl rfl | exact Or.inr rfl) aq rfl (.inl rfl))
   (@ar _ _ _ _ _ _ _ (fQ PassesOwn.never rfl (@l_ _ _ _ _ _ _ (af 1)) (bb (i:=4) pk.nd rfl (by first | exact Or.inl rfl | exact Or.inr rfl)) cZ (@ar _ _ _ _ _ _ _ (@bE _ _ _ _ _ _ 3 _ _ pk.nd rfl (by first | exact Or.inl rfl | exact Or.inr rfl) (@au _ _ _ _ _ _ _ _ _ _ _ gw gG (@au _ _ _ _ _ _ _ _ _ _ _ bf bg (af 3) (af 4)) (af 0)) rfl (.inl rfl))
   (@aH _ _ _ _ _ (bW (Ho PySem.F.slot_list_append PySem.F.type_list_append lZ yX (af 2) (@ae _ _ _ _ _ _ _ (af 3) aj rfl))))))
   (@aH _ _ _ _ _ (@br _ _ _ _ _ _ (jG gL pT rfl T.tuple PyProof.Rows.boot_tuple (@ae _ _ _ _ _ _ _ (af 2) aj rfl))))))))
theorem we:aQ ["m", "cell"] ["m", "cell"] (ay (aL 29)):=⟨rfl,rfl,rfl,by decide +kernel,rfl,by decide +kernel,by decide +kernel⟩
theorem vB (D:aO K mg "slab_of" (aL 29)) (T:Blt mg) (aV:Has P w K mg base g "cell_needed" 4 ["m", "thing"] ba):Has P w K mg base g "slab_of" 5 ["m", "cell"] fF:=by
 obtain⟨f,fd,hm,F⟩:=D
 obtain⟨fh,eG,bG,bH,bF,bI,_⟩:=aV
 refine⟨f,fd,cY F we (fun cdv A outer s H E hr=>?_),F.kp,F.binds (fun _ _ _ _ _ _ us hl=>iY hl fun _ _=>rfl),hm,aU F⟩
 exact(@ar _ _ _ _ _ _ _ (bW (av (bG.mono (by decide)) hr rfl bI bH bF (@ae _ _ _ _ _ _ _ (af 0) (@ae _ _ _ _ _ _ _ (af 1) aj rfl) rfl) (ah (ah aw))))
   (@aH _ _ _ _ _ (@br _ _ _ _ _ _ (@au _ _ _ _ _ _ _ _ _ _ _ ec iQ (bu (g9 rfl) oN rfl T.sum PyProof.Rows.boot_sum (@ae _ _ _ _ _ _ _ (af 1) aj rfl)) (af 0)))))
theorem uS:aQ ["numbers"] ["numbers"] (ay (aL 14)):=⟨rfl,rfl,rfl,by decide +kernel,rfl,by decide +kernel,by decide +kernel⟩
theorem tZ (D:aO K mg "falls_in" (aL 14)) (T:Blt mg):Has P w K mg base g "falls_in" 1 ["numbers"] fO:=by
 obtain⟨f,fd,hm,F⟩:=D
 refine⟨f,fd,cY F uS (fun cdv A outer s H E hr=>?_),F.kp,F.binds (fun _ _ _ _ _ _ us hl=>qw hl fun _=>rfl),hm,aU F⟩
 exact(@aH _ _ _ _ _ (@br _ _ _ _ _ _ (jG gL pT rfl T.tuple PyProof.Rows.boot_tuple (@ae _ _ _ _ _ _ _ (kQ (osc:=ay (aL 14)) [0] ["place", "numbers"] rfl rfl rfl rfl (by decide +kernel) ⟨by decide +kernel,by decide +kernel,rfl,by decide +kernel,rfl,by decide +kernel⟩ (dA rfl T.range (@ae _ _ _ _ _ _ _ (@au _ _ _ _ _ _ _ _ _ _ _ dW dJ (bu gu gH rfl T.len PySem.boot_len (@ae _ _ _ _ _ _ _ (af 0) aj rfl)) aq) aj rfl))
    (fun cl C aK aN fp=>(Cg (@cg _ _ _ _ _ _ _ _ _ _ _ xA x9 (@cJ _ _ _ _ _ _ _ _ _ _ bN cK (af 1) (af 0) (fun _ _=>rfl)) (@cJ _ _ _ _ _ _ _ _ _ _ bN cK (af 1) (@au _ _ _ _ _ _ _ _ _ _ _ bf bg (af 0) aq) (fun _ _=>rfl)) (bV _)))) (fun cl C aK aN fp=>(af 0))) aj rfl))))
theorem uP:aQ ["m", "cell"] ["m", "cell"] (ay (aL 32)):=⟨rfl,rfl,rfl,by decide +kernel,rfl,by decide +kernel,by decide +kernel⟩
theorem rC (D:aO K mg "wraps_of" (aL 32)) (T:Blt mg) (aV:Has P w K mg base g "cell_needed" 4 ["m", "thing"] ba) (ir:Has P w K mg base g "falls_in" 1 ["numbers"] fO):Has P w K mg base g "wraps_of" 5 ["m", "cell"] eH:=by
 obtain⟨f,fd,hm,F⟩:=D
 obtain⟨fh,eG,bG,bH,bF,bI,_⟩:=aV
 obtain⟨Dm,Dg,sJ,rD,rH,rL,_⟩:=ir
 refine⟨f,fd,cY F uP (fun cdv A outer s H E hr=>?_),F.kp,F.binds (fun _ _ _ _ _ _ us hl=>iY hl fun _ _=>rfl),hm,aU F⟩
 exact(@ar _ _ _ _ _ _ _ (bW (av (bG.mono (by decide)) hr rfl bI bH bF (@ae _ _ _ _ _ _ _ (af 0) (@ae _ _ _ _ _ _ _ (af 1) aj rfl) rfl) (ah (ah aw))))
   (@aH _ _ _ _ _ (@br _ _ _ _ _ _ (bu gu gH rfl T.len PySem.boot_len (@ae _ _ _ _ _ _ _ (av (sJ.mono (by decide)) hr rfl rL rD rH (@ae _ _ _ _ _ _ _ (af 1) aj rfl) (ah aw)) aj rfl)))))
theorem mH:aQ ["m", "cell", "ahead"] ["m", "cell"] (ay (aL 31)):=⟨rfl,rfl,rfl,by decide +kernel,rfl,by decide +kernel,by decide +kernel⟩
theorem tY (D:aO K mg "led_back" (aL 31)) (T:Blt mg) (aV:Has P w K mg base g "cell_needed" 4 ["m", "thing"] ba):Has P w K mg base g "led_back" 5 ["m", "cell"] eC:=by
 obtain⟨f,fd,hm,F⟩:=D
 obtain⟨fh,eG,bG,bH,bF,bI,_⟩:=aV
 refine⟨f,fd,cY F mH (fun cdv A outer s H E hr=>?_),F.kp,F.binds (fun _ _ _ _ _ _ us hl=>iY hl fun _ _=>rfl),hm,aU F⟩
 exact(@ar _ _ _ _ _ _ _ (bW (av (bG.mono (by decide)) hr rfl bI bH bF (@ae _ _ _ _ _ _ _ (af 0) (@ae _ _ _ _ _ _ _ (af 1) aj rfl) rfl) (ah (ah aw))))
   (@ar _ _ _ _ _ _ _ (@bE _ _ _ _ _ _ 2 _ _ mH.nd rfl (by first | exact Or.inl rfl | exact Or.inr rfl) (@au _ _ _ _ _ _ _ _ _ _ _ bf bg (@dg _ _ _ _ _ _ _ (@ae _ _ _ _ _ _ _ aq aj rfl)) (kW (af 1) DB (@iB _ _ _ _ _ (@xw _ _ _ _ _ _ _ _ _ t7 sG aq)))) rfl (.inl rfl))
   (@aH _ _ _ _ _ (@br _ _ _ _ _ _ (jG gL pT rfl T.tuple PyProof.Rows.boot_tuple (@ae _ _ _ _ _ _ _ (Cq (osc:=ay (aL 31)) [0] ["number", "before", "m"] rfl rfl rfl rfl (by decide +kernel) ⟨by decide +kernel,by decide +kernel,rfl,by decide +kernel,by decide +kernel⟩ (EF rfl T.zip (@ae _ _ _ _ _ _ _ (af 1) (@ae _ _ _ _ _ _ _ (af 2) aj rfl) rfl)) (fun cl C aK aN fp=>⟨Or.inl rfl,rfl⟩) (fun cl C aK aN fp=>⟨Or.inl rfl,rfl⟩)
    (fun cl C aK aN fp=>sZ) (fun cl C aK aN fp=>(@au _ _ _ _ _ _ _ _ _ _ _ gw gG (@au _ _ _ _ _ _ _ _ _ _ _ dW dJ (af 0) (af 1)) (af 2)))) aj rfl))))))
theorem di:aQ ["_law_script", "_law_at", "_law_cell", "_law_pen", "_law_n", "_law_m", "_law_sides", "_law_bottom", "_law_top", "_law_one", "_law_other", "_law_k", "_law_low", "_law_high", "_law_part", "_law_few", "_law_small", "_law_cells", "_law_box", "_law_later"] ["_law_script"] (ay (aL 50)):=⟨rfl,rfl,rfl,by decide +kernel,rfl,by decide +kernel,by decide +kernel⟩
theorem Eh (D:aO K mg "law" (aL 50)) (T:Blt mg) (eL:Has P w K mg base g "_law_cell_at" 1 ["_law_script", "_law_k"] bS) (fk:Has P w K mg base g "_law_pen_of" 1 ["_law_cell"] b_) (gB:Has P w K mg base g "_law_draw" 2 ["_law_pen", "_law_many"] aG) (gn:Has P w K mg base g "slab_many" 5 ["n", "m", "k"] bp) (fI:Has P w K mg base g "_law_power" 1 ["_law_x", "_law_n"] cE) (iG:Has P w K mg base g "cut_upto" 5 ["n", "upto"] a8) (fS:Has P w K mg base g "_law_share" 2 ["_law_top", "_law_bottom"] aR) (gM:Has P w K mg base g "cut_share" 6 ["n", "k"] dG) (de:Has P w K mg base g "count_of" 5 ["n", "k"] cM) (eE:Has P w K mg base g "_law_product" 1 ["_law_n"] cW) (iN:Has P w K mg base g "slab_all" 5 ["n", "m", "k"] aJ) (uc:Has P w K mg base g "led" 5 ["m", "cell"] iV) (jw:Has P w K mg base g "slab_of" 5 ["m", "cell"] fF) (iA:Has P w K mg base g "wraps_of" 5 ["m", "cell"] eH) (iH:Has P w K mg base g "led_back" 5 ["m", "cell"] eC):Has P w K mg base g "law" 7 ["_law_script"] pM:=by
 obtain⟨f,fd,hm,F⟩:=D
 obtain⟨zm,xu,lO,mw,lM,lN,_⟩:=eL
 obtain⟨Ap,zg,mY,nK,nh,nq,_⟩:=fk
 obtain⟨C9,AS,b9,cj,cf,ck,_⟩:=gB
 obtain⟨Dc,C6,jQ,jP,jO,jS,_⟩:=gn
 obtain⟨BK,As,pP,oU,pW,oj,_⟩:=fI
 obtain⟨Dx,Di,fA,fv,fw,fB,_⟩:=iG
 obtain⟨A4,An,cV,cN,cT,cL,_⟩:=fS
 obtain⟨Dk,Cj,p_,qd,qe,qD,_⟩:=gM
 obtain⟨tQ,qA,iS,iK,iw,ic,_⟩:=de
 obtain⟨zk,xR,lW,l9,lS,mB,_⟩:=eE
 obtain⟨DI,De,sV,rG,sD,rF,_⟩:=iN
 obtain⟨JR,Iz,yQ,xP,yk,xY,_⟩:=uc
 obtain⟨Fd,E_,uZ,vF,uz,uG,_⟩:=jw
 obtain⟨DQ,C_,tG,tP,sE,r_,_⟩:=iA
 obtain⟨EA,Dj,rV,tI,rS,rX,_⟩:=iH
 refine⟨f,fd,n9 (cY F di (fun cdv A outer s H E hr=>?_)),F.kp,F.binds (fun _ _ _ _ _ _ us hl=>qw hl fun _=>rfl),hm,aU F⟩
 exact(@ar _ _ _ _ _ _ _ (fQ PassesOwn.never rfl (yH rfl T.enumerate (@au _ _ _ _ _ _ _ _ _ _ _ bf bg (@gJ _ _ _ _ _ _ _ _ (@ae _ _ _ _ _ _ _ (av (lO.mono (by decide)) hr rfl lN mw lM (@ae _ _ _ _ _ _ _ (af 0) (@ae _ _ _ _ _ _ _ aq aj rfl) rfl) (ah (ah aw))) aj rfl)) (kW (af 0) (@iB _ _ _ _ _ aq) (@iB _ _ _ _ _ aq)))) (t_ rfl (eV (bb (i:=1) di.nd rfl (by first | exact Or.inl rfl | exact Or.inr rfl)) (eV (bb (i:=2) di.nd rfl (by first | exact Or.inl rfl | exact Or.inr rfl)) n6))) xt (@ar _ _ _ _ _ _ _ (@bE _ _ _ _ _ _ 3 _ _ di.nd rfl (by first | exact Or.inl rfl | exact Or.inr rfl) (av (mY.mono (by decide)) hr rfl nq nK nh (@ae _ _ _ _ _ _ _ (af 2) aj rfl) (ah aw)) rfl (.inl rfl))
   (@ar _ _ _ _ _ _ _ (yd (i:=4) (j:=5) rfl di.nd rfl rfl (@dg _ _ _ _ _ _ _ (@ae _ _ _ _ _ _ _ (@au _ _ _ _ _ _ _ _ _ _ _ bf bg aq (av (b9.mono (by decide)) hr rfl ck cj cf (@ae _ _ _ _ _ _ _ (af 3) (@ae _ _ _ _ _ _ _ aq aj rfl) rfl) (ah (ah aw)))) (@ae _ _ _ _ _ _ _ (@au _ _ _ _ _ _ _ _ _ _ _ bf bg aq (av (b9.mono (by decide)) hr rfl ck cj cf (@ae _ _ _ _ _ _ _ (af 3) (@ae _ _ _ _ _ _ _ aq aj rfl) rfl) (ah (ah aw)))) aj rfl) rfl)))
   (@ar _ _ _ _ _ _ _ (@jK _ _ _ _ _ _ _ _ _ _ (@cg _ _ _ _ _ _ _ _ _ _ _ (fm hr.units) iW (bu (g9 rfl) oN rfl T.sum PyProof.Rows.boot_sum (@ae _ _ _ _ _ _ _ (kQ (osc:=ay (aL 50)) [4,5] ["_law_k", "_law_n", "_law_m"] rfl rfl rfl rfl (by decide +kernel) ⟨by decide +kernel,by decide +kernel,rfl,by decide +kernel,rfl,by decide +kernel⟩ (dA rfl T.range (@ae _ _ _ _ _ _ _ aq aj rfl))
    (fun cl C aK aN fp=>sZ) (fun cl C aK aN fp=>(av (jQ.mono (by decide)) hr rfl jS jP jO (@ae _ _ _ _ _ _ _ (af 1) (@ae _ _ _ _ _ _ _ (af 2) (@ae _ _ _ _ _ _ _ (af 0) aj rfl) rfl) rfl) (ah (ah (ah aw)))))) aj rfl)) (av (pP.mono (by decide)) hr rfl oj oU pW (@ae _ _ _ _ _ _ _ (af 5) (@ae _ _ _ _ _ _ _ (af 4) aj rfl) rfl) (ah (ah aw))) (bV _)) (@aH _ _ _ _ _ (@br _ _ _ _ _ _ mQ)) cn)
   (@ar _ _ _ _ _ _ _ (lU (i:=6) (j:=7) rfl di.nd rfl rfl (by decide) (@ae _ _ _ _ _ _ _ (@au _ _ _ _ _ _ _ _ _ _ _ bf bg aq (av (b9.mono (by decide)) hr rfl ck cj cf (@ae _ _ _ _ _ _ _ (af 3) (@ae _ _ _ _ _ _ _ aq aj rfl) rfl) (ah (ah aw)))) (@ae _ _ _ _ _ _ _ (@au _ _ _ _ _ _ _ _ _ _ _ bf bg aq (av (b9.mono (by decide)) hr rfl ck cj cf (@ae _ _ _ _ _ _ _ (af 3) (@ae _ _ _ _ _ _ _ aq aj rfl) rfl) (ah (ah aw)))) aj rfl) rfl))
   (@ar _ _ _ _ _ _ _ (@bE _ _ _ _ _ _ 8 _ _ di.nd rfl (by first | exact Or.inl rfl | exact Or.inr rfl) (av (b9.mono (by decide)) hr rfl ck cj cf (@ae _ _ _ _ _ _ _ (af 3) (@ae _ _ _ _ _ _ _ (@au _ _ _ _ _ _ _ _ _ _ _ bf bg (@au _ _ _ _ _ _ _ _ _ _ _ bL bK (af 6) (af 7)) aq) aj rfl) rfl) (ah (ah aw))) rfl (.inl rfl))
   (@ar _ _ _ _ _ _ _ (lU (i:=9) (j:=10) rfl di.nd rfl rfl (by decide) (@ae _ _ _ _ _ _ _ (av (fA.mono (by decide)) hr rfl fB fv fw (@ae _ _ _ _ _ _ _ (af 6) (@ae _ _ _ _ _ _ _ (av (cV.mono (by decide)) hr rfl cL cN cT (@ae _ _ _ _ _ _ _ (af 8) (@ae _ _ _ _ _ _ _ (af 7) aj rfl) rfl) (ah (ah aw))) aj rfl) rfl) (ah (ah aw))) (@ae _ _ _ _ _ _ _ (av (fA.mono (by decide)) hr rfl fB fv fw (@ae _ _ _ _ _ _ _ (af 6) (@ae _ _ _ _ _ _ _ (av (cV.mono (by decide)) hr rfl cL cN cT (@ae _ _ _ _ _ _ _ (@au _ _ _ _ _ _ _ _ _ _ _ dW dJ (@au _ _ _ _ _ _ _ _ _ _ _ bL bK (af 6) (af 7)) (af 8)) (@ae _ _ _ _ _ _ _ (af 7) aj rfl) rfl) (ah (ah aw))) aj rfl) rfl) (ah (ah aw))) aj rfl) rfl))
   (@ar _ _ _ _ _ _ _ (@jK _ _ _ _ _ _ _ _ _ _ (@cg _ _ _ _ _ _ _ _ _ _ _ (fm hr.units) iW (av (cV.mono (by decide)) hr rfl cL cN cT (@ae _ _ _ _ _ _ _ (@au _ _ _ _ _ _ _ _ _ _ _ bf bg (@au _ _ _ _ _ _ _ _ _ _ _ bL bK (@cJ _ _ _ _ _ _ _ _ _ _ bN cK (af 9) aq (fun _ _=>rfl)) (@cJ _ _ _ _ _ _ _ _ _ _ bN cK (af 10) aq (fun _ _=>rfl))) (@au _ _ _ _ _ _ _ _ _ _ _ bL bK (@cJ _ _ _ _ _ _ _ _ _ _ bN cK (af 10) aq (fun _ _=>rfl)) (@cJ _ _ _ _ _ _ _ _ _ _ bN cK (af 9) aq (fun _ _=>rfl)))) (@ae _ _ _ _ _ _ _ (@au _ _ _ _ _ _ _ _ _ _ _ bL bK (@cJ _ _ _ _ _ _ _ _ _ _ bN cK (af 9) aq (fun _ _=>rfl)) (@cJ _ _ _ _ _ _ _ _ _ _ bN cK (af 10) aq (fun _ _=>rfl))) aj rfl) rfl) (ah (ah aw))) (@dg _ _ _ _ _ _ _ (@ae _ _ _ _ _ _ _ aq (@ae _ _ _ _ _ _ _ aq aj rfl) rfl)) (bV _)) (@aH _ _ _ _ _ (@br _ _ _ _ _ _ mQ)) cn)
   (@ar _ _ _ _ _ _ _ (fQ PassesOwn.never rfl (dA rfl T.range (@ae _ _ _ _ _ _ _ (af 6) aj rfl)) (bb (i:=11) di.nd rfl (by first | exact Or.inl rfl | exact Or.inr rfl)) cZ (@ar _ _ _ _ _ _ _ (lU (i:=12) (j:=13) rfl di.nd rfl rfl (by decide) (@ae _ _ _ _ _ _ _ (av (fA.mono (by decide)) hr rfl fB fv fw (@ae _ _ _ _ _ _ _ (af 6) (@ae _ _ _ _ _ _ _ (@dg _ _ _ _ _ _ _ (@ae _ _ _ _ _ _ _ (af 11) (@ae _ _ _ _ _ _ _ aq aj rfl) rfl)) aj rfl) rfl) (ah (ah aw))) (@ae _ _ _ _ _ _ _ (av (fA.mono (by decide)) hr rfl fB fv fw (@ae _ _ _ _ _ _ _ (af 6) (@ae _ _ _ _ _ _ _ (@dg _ _ _ _ _ _ _ (@ae _ _ _ _ _ _ _ (@au _ _ _ _ _ _ _ _ _ _ _ bf bg (af 11) aq) (@ae _ _ _ _ _ _ _ aq aj rfl) rfl)) aj rfl) rfl) (ah (ah aw))) aj rfl) rfl))
   (@ar _ _ _ _ _ _ _ (@bE _ _ _ _ _ _ 14 _ _ di.nd rfl (by first | exact Or.inl rfl | exact Or.inr rfl) (av (p_.mono (by decide)) hr rfl qD qd qe (@ae _ _ _ _ _ _ _ (af 6) (@ae _ _ _ _ _ _ _ (af 11) aj rfl) rfl) (ah (ah aw))) rfl (.inl rfl))
   (@ar _ _ _ _ _ _ _ (@jK _ _ _ _ _ _ _ _ _ _ (@cg _ _ _ _ _ _ _ _ _ _ _ (fm hr.units) iW (af 14) (av (cV.mono (by decide)) hr rfl cL cN cT (@ae _ _ _ _ _ _ _ (@au _ _ _ _ _ _ _ _ _ _ _ dW dJ (@au _ _ _ _ _ _ _ _ _ _ _ bL bK (@cJ _ _ _ _ _ _ _ _ _ _ bN cK (af 13) aq (fun _ _=>rfl)) (@cJ _ _ _ _ _ _ _ _ _ _ bN cK (af 12) aq (fun _ _=>rfl))) (@au _ _ _ _ _ _ _ _ _ _ _ bL bK (@cJ _ _ _ _ _ _ _ _ _ _ bN cK (af 12) aq (fun _ _=>rfl)) (@cJ _ _ _ _ _ _ _ _ _ _ bN cK (af 13) aq (fun _ _=>rfl)))) (@ae _ _ _ _ _ _ _ (@au _ _ _ _ _ _ _ _ _ _ _ bL bK (@cJ _ _ _ _ _ _ _ _ _ _ bN cK (af 13) aq (fun _ _=>rfl)) (@cJ _ _ _ _ _ _ _ _ _ _ bN cK (af 12) aq (fun _ _=>rfl))) aj rfl) rfl) (ah (ah aw))) (bV _)) (@aH _ _ _ _ _ (@br _ _ _ _ _ _ mQ)) cn)
   (@aH _ _ _ _ _ (@jK _ _ _ _ _ _ _ _ _ _ (@cg _ _ _ _ _ _ _ _ _ _ _ (fm hr.units) iW (af 14) (av (cV.mono (by decide)) hr rfl cL cN cT (@ae _ _ _ _ _ _ _ (av (iS.mono (by decide)) hr rfl ic iK iw (@ae _ _ _ _ _ _ _ (af 6) (@ae _ _ _ _ _ _ _ (af 11) aj rfl) rfl) (ah (ah aw))) (@ae _ _ _ _ _ _ _ (av (lW.mono (by decide)) hr rfl mB l9 lS (@ae _ _ _ _ _ _ _ (af 6) aj rfl) (ah aw)) aj rfl) rfl) (ah (ah aw))) (bV _)) (@aH _ _ _ _ _ (@br _ _ _ _ _ _ mQ)) cn))))))
   (@aH _ _ _ _ _ (@jK _ _ _ _ _ _ _ _ _ _ (@cg _ _ _ _ _ _ _ _ _ _ _ (wc hr.units) Bm (af 1) aq (bV _)) (@ar _ _ _ _ _ _ _ (by refine yd (i:=15) (j:=16) ?hc ?hN ?hi ?hj ?he (hx:=?hx) (hy:=?hy) (fx:=?fx) (fy:=?fy) (hs:=?hs) (hw:=?hw);(case hc=>rfl);(case hN=>exact di.nd);(case hi=>rfl);(case hj=>rfl);(case hx=>first | exact Or.inl rfl | exact Or.inr rfl);(case hy=>first | exact Or.inl rfl | exact Or.inr rfl);(case fx=>first | exact Or.inl rfl | exact Or.inr rfl);(case fy=>first | exact Or.inl rfl | exact Or.inr rfl);(case hs=>kernel_rfl);(case hw=>kernel_rfl);(case he=>exact(@cJ _ _ _ _ _ _ _ _ _ _ bN cK (@gJ _ _ _ _ _ _ _ _ (@ae _ _ _ _ _ _ _ (@dg _ _ _ _ _ _ _ (@ae _ _ _ _ _ _ _ aq (@ae _ _ _ _ _ _ _ aq aj rfl) rfl)) (@ae _ _ _ _ _ _ _ (@dg _ _ _ _ _ _ _ (@ae _ _ _ _ _ _ _ aq (@ae _ _ _ _ _ _ _ aq aj rfl) rfl)) (@ae _ _ _ _ _ _ _ (@dg _ _ _ _ _ _ _ (@ae _ _ _ _ _ _ _ aq (@ae _ _ _ _ _ _ _ aq aj rfl) rfl)) (@ae _ _ _ _ _ _ _ (@dg _ _ _ _ _ _ _ (@ae _ _ _ _ _ _ _ aq (@ae _ _ _ _ _ _ _ aq aj rfl) rfl)) (@ae _ _ _ _ _ _ _ (@dg _ _ _ _ _ _ _ (@ae _ _ _ _ _ _ _ aq (@ae _ _ _ _ _ _ _ aq aj rfl) rfl)) (@ae _ _ _ _ _ _ _ (@dg _ _ _ _ _ _ _ (@ae _ _ _ _ _ _ _ aq (@ae _ _ _ _ _ _ _ aq aj rfl) rfl)) (@ae _ _ _ _ _ _ _ (@dg _ _ _ _ _ _ _ (@ae _ _ _ _ _ _ _ aq (@ae _ _ _ _ _ _ _ aq aj rfl) rfl)) aj rfl) rfl) rfl) rfl) rfl) rfl) rfl)) (av (b9.mono (by decide)) hr rfl ck cj cf (@ae _ _ _ _ _ _ _ (af 3) (@ae _ _ _ _ _ _ _ aq aj rfl) rfl) (ah (ah aw))) (fun _ _=>rfl))))
   (@ar _ _ _ _ _ _ _ (@bE _ _ _ _ _ _ 11 _ _ di.nd rfl (by first | exact Or.inl rfl | exact Or.inr rfl) (av (b9.mono (by decide)) hr rfl ck cj cf (@ae _ _ _ _ _ _ _ (af 3) (@ae _ _ _ _ _ _ _ (af 15) aj rfl) rfl) (ah (ah aw))) rfl (.inl rfl))
   (@ar _ _ _ _ _ _ _ (@bE _ _ _ _ _ _ 17 _ _ di.nd rfl (by first | exact Or.inl rfl | exact Or.inr rfl) (av (sV.mono (by decide)) hr rfl rF rG sD (@ae _ _ _ _ _ _ _ (af 15) (@ae _ _ _ _ _ _ _ (af 16) (@ae _ _ _ _ _ _ _ (af 11) aj rfl) rfl) rfl) (ah (ah (ah aw)))) rfl (.inl rfl))
   (@ar _ _ _ _ _ _ _ (@jK _ _ _ _ _ _ _ _ _ _ (PW.pt (@vH _ _ _ _ _ _ _ _ _ (@cg _ _ _ _ _ _ _ _ _ _ _ (fm hr.units) iW (bu gu gH rfl T.len PySem.boot_len (@ae _ _ _ _ _ _ _ (af 17) aj rfl)) (av (jQ.mono (by decide)) hr rfl jS jP jO (@ae _ _ _ _ _ _ _ (af 15) (@ae _ _ _ _ _ _ _ (af 16) (@ae _ _ _ _ _ _ _ (af 11) aj rfl) rfl) rfl) (ah (ah (ah aw)))) (bV _)) (@sF _ _ _ _ _ _ (@cg _ _ _ _ _ _ _ _ _ _ _ (fm hr.units) iW (af 17) (uA (bY.frz (u6 rfl)) (qG rfl hr.units) BV rfl T.sorted PyProof.Rows.boot_sorted rfl T.set PyProof.Rows.boot_set (@ae _ _ _ _ _ _ _ (af 17) aj rfl)) (bV _))))) (@aH _ _ _ _ _ (@br _ _ _ _ _ _ mQ)) cn)
   (@ar _ _ _ _ _ _ _ (fQ PassesOwn.never rfl (@l_ _ _ _ _ _ _ (af 17)) (bb (i:=18) di.nd rfl (by first | exact Or.inl rfl | exact Or.inr rfl)) cZ (@ar _ _ _ _ _ _ _ (@bE _ _ _ _ _ _ 19 _ _ di.nd rfl (by first | exact Or.inl rfl | exact Or.inr rfl) (av (yQ.mono (by decide)) hr rfl xY xP yk (@ae _ _ _ _ _ _ _ (af 16) (@ae _ _ _ _ _ _ _ (af 18) aj rfl) rfl) (ah (ah aw))) rfl (.inl rfl))
   (@aH _ _ _ _ _ (@jK _ _ _ _ _ _ _ _ _ _ (PW.pt (@vH _ _ _ _ _ _ _ _ _ (@cg _ _ _ _ _ _ _ _ _ _ _ (fm hr.units) iW (av (uZ.mono (by decide)) hr rfl uG vF uz (@ae _ _ _ _ _ _ _ (af 16) (@ae _ _ _ _ _ _ _ (af 18) aj rfl) rfl) (ah (ah aw))) (af 11) (bV _)) (@vH _ _ _ _ _ _ _ _ _ (@cg _ _ _ _ _ _ _ _ _ _ _ (fm hr.units) iW (av (tG.mono (by decide)) hr rfl r_ tP sE (@ae _ _ _ _ _ _ _ (af 16) (@ae _ _ _ _ _ _ _ (af 19) aj rfl) rfl) (ah (ah aw))) (af 11) (bV _)) (@sF _ _ _ _ _ _ (@cg _ _ _ _ _ _ _ _ _ _ _ (fm hr.units) iW (av (rV.mono (by decide)) hr rfl rX tI rS (@ae _ _ _ _ _ _ _ (af 16) (@ae _ _ _ _ _ _ _ (af 19) aj rfl) rfl) (ah (ah aw))) (af 18) (bV _)))))) (@aH _ _ _ _ _ (@br _ _ _ _ _ _ mQ)) cn))))
   (@aH _ _ _ _ _ (@jK _ _ _ _ _ _ _ _ _ _ (@cg _ _ _ _ _ _ _ _ _ _ _ (fm hr.units) iW (uA (vV) (qG rfl hr.units) DU rfl T.len PySem.boot_len rfl T.set PyProof.Rows.boot_set (@ae _ _ _ _ _ _ _ (kQ (osc:=ay (aL 50)) [16] ["_law_box", "_law_small"] rfl rfl rfl rfl (by decide +kernel) ⟨by decide +kernel,by decide +kernel,rfl,by decide +kernel,rfl,by decide +kernel⟩ (@l_ _ _ _ _ _ _ (af 17))
    (fun cl C aK aN fp=>sZ) (fun cl C aK aN fp=>(av (yQ.mono (by decide)) hr rfl xY xP yk (@ae _ _ _ _ _ _ _ (af 1) (@ae _ _ _ _ _ _ _ (af 0) aj rfl) rfl) (ah (ah aw))))) aj rfl)) (bu gu gH rfl T.len PySem.boot_len (@ae _ _ _ _ _ _ _ (af 17) aj rfl)) (bV _)) (@aH _ _ _ _ _ (@br _ _ _ _ _ _ mQ)) cn))))))) cn)))))))))))
   (@aH _ _ _ _ _ (@br _ _ _ _ _ _ mQ)))
end
structure Text (K:PySem.W.Frag):Prop where
 fW:bA K "_law_cell_at" (aL 42)
 gD:bA K "_law_pen_of" (aL 44)
 jb:bA K "_law_next" (aL 43)
 i3:bA K "_law_draw" (aL 45)
 kh:bA K "is_whole" (aL 6)
 jf:bA K "is_within" (aL 7)
 fo:bA K "number_needed" (aL 8)
 gA:bA K "slab_needed" (aL 36)
 iP:bA K "slab_count" (aL 37)
 jr:bA K "slab_many" (aL 34)
 iM:bA K "_law_power" (aL 46)
 kn:bA K "share_of" (aL 12)
 gm:bA K "upto_needed" (aL 40)
 ko:bA K "ways_out" (aL 11)
 kz:bA K "power_of" (aL 9)
 fN:bA K "factorial_of" (aL 10)
 kg:bA K "cut_upto" (aL 38)
 gz:bA K "_law_common" (aL 48)
 iC:bA K "_law_share" (aL 49)
 eD:bA K "numbers_needed" (aL 23)
 iD:bA K "longer_row" (aL 20)
 o8:bA K "row_of" (aL 21)
 kf:bA K "count_of" (aL 22)
 jE:bA K "cut_share" (aL 39)
 fJ:bA K "_law_product" (aL 47)
 gC:bA K "told_needed" (aL 17)
 kr:bA K "slab_all" (aL 35)
 gO:bA K "cell_needed" (aL 33)
 BY:bA K "led" (aL 30)
 mD:bA K "slab_of" (aL 29)
 kx:bA K "falls_in" (aL 14)
 kE:bA K "wraps_of" (aL 32)
 ky:bA K "led_back" (aL 31)
 Cd:bA K "law" (aL 50)
 Bc:PySem.W.nsIn K mainGlobals "abs" = some none
 wF:PySem.W.nsIn K mainGlobals "bool" = some none
 i5:PySem.W.nsIn K mainGlobals "enumerate" = some none
 Co:PySem.W.nsIn K mainGlobals "int" = some none
 iJ:PySem.W.nsIn K mainGlobals "isinstance" = some none
 B6:PySem.W.nsIn K mainGlobals "len" = some none
 CN:PySem.W.nsIn K mainGlobals "max" = some none
 sI:PySem.W.nsIn K mainGlobals "range" = some none
 Bx:PySem.W.nsIn K mainGlobals "set" = some none
 oo:PySem.W.nsIn K mainGlobals "sorted" = some none
 AG:PySem.W.nsIn K mainGlobals "sum" = some none
 t5:PySem.W.nsIn K mainGlobals "tuple" = some none
 A0:PySem.W.nsIn K mainGlobals "zip" = some none
 dv:∃t,PySem.W.nsIn K mainGlobals "MOST_BOTTOM" = some (some (Value.int 1000 t))
 eQ:∃t,PySem.W.nsIn K mainGlobals "MOST_LONG" = some (some (Value.int 8 t))
 eU:∃t,PySem.W.nsIn K mainGlobals "MOST_ROWS" = some (some (Value.int 30 t))
 dY:∃t,PySem.W.nsIn K mainGlobals "MOST_SIDES" = some (some (Value.int 12 t))
 eW:∃t,PySem.W.nsIn K mainGlobals "MOST_TOLD" = some (some (Value.int 300 t))
 eO:∃t,PySem.W.nsIn K mainGlobals "MOST_WIDE" = some (some (Value.int 20 t))
theorem all_mk {P:Program} {w:World} {K:PySem.W.Frag} {h:Heap} {mg:Str->Option Value} {fa:Addr} (X:K.In h) (G:h.Ns mainGlobals mg) (hfa:mg "law" = some (.ref fa)) (t:Text K) :
  ∃fd:FuncData,(∀(s:Shared) (v:Value),BindsTo s fd ⟨[v],[]⟩ [("_law_script", v)])/\∀base:Heap,K.In base->base.Ns mainGlobals mg->fL P w K mg base CX0 7 fa fd ["_law_script"] (spM K (gOf mg) 1 pM):=by
 have T:Blt mg:=⟨PySem.W.mg_none_of X G t.Bc,PySem.W.mg_none_of X G t.wF,PySem.W.mg_none_of X G t.i5,PySem.W.mg_none_of X G t.Co,PySem.W.mg_none_of X G t.iJ,PySem.W.mg_none_of X G t.B6,PySem.W.mg_none_of X G t.CN,PySem.W.mg_none_of X G t.sI,PySem.W.mg_none_of X G t.Bx,PySem.W.mg_none_of X G t.oo,PySem.W.mg_none_of X G t.AG,PySem.W.mg_none_of X G t.t5,PySem.W.mg_none_of X G t.A0⟩
 obtain⟨j8,dv⟩:=t.dv
 have gv:=PySem.W.mg_of X G dv
 obtain⟨f9,eQ⟩:=t.eQ
 have cS:=PySem.W.mg_of X G eQ
 obtain⟨gf,eU⟩:=t.eU
 have cP:=PySem.W.mg_of X G eU
 obtain⟨fE,dY⟩:=t.dY
 have cD:=PySem.W.mg_of X G dY
 obtain⟨mJ,eW⟩:=t.eW
 have js:=PySem.W.mg_of X G eW
 obtain⟨gh,eO⟩:=t.eO
 have dF:=PySem.W.mg_of X G eO
 have og:=aO.of X G t.fW
 have qc:=aO.of X G t.gD
 have u_:=aO.of X G t.jb
 have um:=aO.of X G t.i3
 have wa:=aO.of X G t.kh
 have ug:=aO.of X G t.jf
 have nD:=aO.of X G t.fo
 have qx:=aO.of X G t.gA
 have tL:=aO.of X G t.iP
 have u4:=aO.of X G t.jr
 have sd:=aO.of X G t.iM
 have wZ:=aO.of X G t.kn
 have qo:=aO.of X G t.gm
 have wO:=aO.of X G t.ko
 have wB:=aO.of X G t.kz
 have oH:=aO.of X G t.fN
 have xr:=aO.of X G t.kg
 have qB:=aO.of X G t.gz
 have sY:=aO.of X G t.iC
 have l6:=aO.of X G t.eD
 have s_:=aO.of X G t.iD
 have Cb:=aO.of X G t.o8
 have wU:=aO.of X G t.kf
 have ue:=aO.of X G t.jE
 have pv:=aO.of X G t.fJ
 have pX:=aO.of X G t.gC
 have vZ:=aO.of X G t.kr
 have qj:=aO.of X G t.gO
 have Io:=aO.of X G t.BY
 have zX:=aO.of X G t.mD
 have wb:=aO.of X G t.kx
 have vY:=aO.of X G t.kE
 have wy:=aO.of X G t.ky
 have Jm:=aO.of X G t.Cd
 obtain⟨f,fd,hm,F⟩:=Jm
 have e:=hfa.symm.trans hm
 cases e
 refine⟨fd,?_,fun base _ _=>?_⟩
 ·obtain⟨oc,od,kV,doc,pm,an,cdv,ct,osl,rfl,lk,hcd⟩:=F.ex
  exact fun s v=>.of_eq rfl
 ·have eL:=lP (P:=P) (w:=w) (base:=base) (g:=gOf mg) og T
  have fk:=nv (P:=P) (w:=w) (base:=base) (g:=gOf mg) qc T
  have gF:=qm (P:=P) (w:=w) (base:=base) (g:=gOf mg) u_ T
  have gB:=qy (P:=P) (w:=w) (base:=base) (g:=gOf mg) um T gF
  have iR:=rQ (P:=P) (w:=w) (base:=base) (g:=gOf mg) wa T
  have cG:=qf (P:=P) (w:=w) (base:=base) (g:=gOf mg) ug T iR
  have ax:=k_ (P:=P) (w:=w) (base:=base) (g:=gOf mg) nD T cG
  have bX:=nN (P:=P) (w:=w) (base:=base) (g:=gOf mg) qx T cS dF ax
  have cu:=oZ (P:=P) (w:=w) (base:=base) (g:=gOf mg) tL T
  have gn:=qC (P:=P) (w:=w) (base:=base) (g:=gOf mg) u4 T bX cu
  have fI:=oD (P:=P) (w:=w) (base:=base) (g:=gOf mg) sd T
  have bM:=tq (P:=P) (w:=w) (base:=base) (g:=gOf mg) wZ T
  have e_:=nI (P:=P) (w:=w) (base:=base) (g:=gOf mg) qo T gv ax bM
  have iE:=rN (P:=P) (w:=w) (base:=base) (g:=gOf mg) wO T
  have iu:=tK (P:=P) (w:=w) (base:=base) (g:=gOf mg) wB T
  have bQ:=mC (P:=P) (w:=w) (base:=base) (g:=gOf mg) oH T
  have iG:=sM (P:=P) (w:=w) (base:=base) (g:=gOf mg) xr T cD ax e_ iE iu bM bQ
  have fe:=nA (P:=P) (w:=w) (base:=base) (g:=gOf mg) qB T
  have fS:=pQ (P:=P) (w:=w) (base:=base) (g:=gOf mg) sY T fe
  have dC:=kD (P:=P) (w:=w) (base:=base) (g:=gOf mg) l6 T cP ax
  have fV:=pA (P:=P) (w:=w) (base:=base) (g:=gOf mg) s_ T
  have kC:=wz (P:=P) (w:=w) (base:=base) (g:=gOf mg) Cb T cP ax fV
  have de:=tJ (P:=P) (w:=w) (base:=base) (g:=gOf mg) wU T dC kC
  have gM:=pY (P:=P) (w:=w) (base:=base) (g:=gOf mg) ue T cD ax bM de bQ
  have eE:=l8 (P:=P) (w:=w) (base:=base) (g:=gOf mg) pv T
  have fq:=mZ (P:=P) (w:=w) (base:=base) (g:=gOf mg) pX T js
  have iN:=rP (P:=P) (w:=w) (base:=base) (g:=gOf mg) vZ T bX fq cu
  have aV:=nO (P:=P) (w:=w) (base:=base) (g:=gOf mg) qj T cS dF ax cG
  have uc:=E1 (P:=P) (w:=w) (base:=base) (g:=gOf mg) Io T aV
  have jw:=vB (P:=P) (w:=w) (base:=base) (g:=gOf mg) zX T aV
  have ir:=tZ (P:=P) (w:=w) (base:=base) (g:=gOf mg) wb T
  have iA:=rC (P:=P) (w:=w) (base:=base) (g:=gOf mg) vY T aV ir
  have iH:=tY (P:=P) (w:=w) (base:=base) (g:=gOf mg) wy T aV
  have EK:=Eh (P:=P) (w:=w) (base:=base) (g:=gOf mg) ⟨_,_,hm,F⟩ T eL fk gB gn fI iG fS gM de eE iN uc jw iA iH
  exact Gq F hm EK
theorem walk {l:PySem.W.OpenLaw} {q:Program} {loose:List Str} {XP:(Str->Option Value)->Heap->Prop} {YP:World->Heap->Prop} {d:DefRec} {K:Params->PySem.W.Frag} (hn:l.most=some 63) (hdf:d.params.defaults=[])
  (hY:∀(w:World) (h:Heap),YP w h->(K w.params).In h)
  (ok:∀ns:List Int,ns.length<=63->∃h,pM [.scr (ns.map D.int)] []=.ok (.bl true) h)
  (F:∀(w:World) (mg:Str->Option Value) (fa:Addr) (h:Heap),(K w.params).In h->h.Ns mainGlobals mg->mg d.name=some (.ref fa) →
   ∃fd:FuncData,(∀(s:Shared) (u:Value),BindsTo s fd ⟨[u],[]⟩ [("_law_script", u)])/\∀base:Heap,(K w.params).In base->base.Ns mainGlobals mg->fL l.prog w (K w.params) mg base CX0 7 fa fd ["_law_script"] (spM (K w.params) (gOf mg) 1 pM)) :
  PySem.W.WalkO q loose XP YP l.row.toRowW d [] (fun f vs=>PySem.call f vs):=
 Ga (k:=7) hn hdf ⟨rfl,by decide,by decide,rfl⟩ hY ok F
theorem aW {i:Int} (h1:-(10 ^ 30)<=i) (h2:i<=10 ^ 30):sml i=true:=kl (Nat.le_trans (show i.natAbs<=10 ^ 30 by omega) (by decide +kernel))
theorem Bb {h:Hh} {n:Nat} {ds:List D} (e:aM h n=some ds):n<h.length:=by
 unfold aM at e
 by_cases hl:n<h.length
 ·exact hl
 ·rw[List.getElem?_eq_none (by omega)] at e;cases e
theorem yc {h:Hh} {n:Nat} {ds es:List D} (e:aM h n=some ds):aM (h.set n (.lst es)) n=some es:=by
 unfold aM;rw[List.getElem?_set_self (Bb e)]
theorem Fb {h t:Hh} {n:Nat} {ds:List D} (e:aM h n=some ds):aM (h++t) n=some ds:=by
 have:=Bb e
 unfold aM at e ⊢;rw[List.getElem?_append_left this];exact e
structure Pen where
 a:Int
 b:Int
 s:Int
noncomputable abbrev dQ (p:Pen):List D:=[.int p.a,.int p.b,.int p.s]
noncomputable def nxt (x:Int):Int:=((x+7919) % 2147483647*((x+7919) % 2147483647)+48271*((x+7919) % 2147483647)+12345) % 2147483629
noncomputable def ju (p:Pen) (m:Int):Int:=if p.b=1/\0<p.a then p.a % m else nxt (nxt p.s+7) / 64 % m
noncomputable def bc (p:Pen) (m:Int):Pen:=if p.b=1/\0<p.a then ⟨p.a / m,p.b,p.s⟩ else ⟨p.a,p.b,nxt (nxt p.s+7)⟩
theorem Em (p:Pen) {m:Int} (h:0<m):0<=ju p m:=by unfold ju;split<;>exact Int.emod_nonneg _ (by omega)
theorem AU (p:Pen) {m:Int} (h:0<m):ju p m<m:=by unfold ju;split<;>exact Int.emod_lt_of_pos _ h
@[simp] theorem Lp {x:Int} {h:Hh}:dI [.int x] h=.ok (.int (nxt x)) h:=by
 have h1:0<=(x+7919) % 2147483647:=Int.emod_nonneg _ (by decide)
 have h2:(x+7919) % 2147483647<2147483647:=Int.emod_lt_of_pos _ (by decide)
 have s1:sml ((x+7919) % 2147483647)=true:=aW (by omega) (by omega)
 have s2:sml 48271=true:=by decide +kernel
 simp[dI,bP,s1,s2,nxt]
theorem Hi {p:Pen} {m:Int} {h:Hh} {n:Nat} (e:aM h n=some (dQ p)) (hm:0<m) (hm2:m<=10 ^ 20):aG [.ref n,.int m] h=.ok (.int (ju p m)) (h.set n (.lst (dQ (bc p m)))):=by
 have s1:sml m=true:=aW (by omega) (by omega)
 have s2:sml 64=true:=by decide +kernel
 have i2:∀(x y z:Int) (h:Hh),ixK [D.int x,.int y,.int z] 2 h=.ok (.int z) h:=fun _ _ _ _=>rfl
 have n0:ixN (dQ p).length 0=some 0:=rfl
 have n2:ixN (dQ p).length 2=some 2:=rfl
 by_cases c:p.b=1
 ·by_cases c2:0<p.a
  ·simp[aG,bP,rk e,c,c2,hm,s1,nV e n0,ju,bc]
  ·simp[aG,bP,rk e,c,c2,i2,nV e n2,rk (yc e),s1,s2,hm,ju,bc]
 ·simp[aG,bP,rk e,c,i2,nV e n2,rk (yc e),s1,s2,hm,ju,bc]
@[simp] theorem ie {p:Pen} {m:Int} {h t:Hh} (hm:0<m/\m<=10 ^ 20):aG [.ref h.length,.int m] (h++.lst (dQ p)::t)=.ok (.int (ju p m)) (h++.lst (dQ (bc p m))::t):=by
 rw[Hi n4 hm.1 hm.2,tN]
noncomputable def d_ (c:Int):Pen:=⟨max c (0 - c),if max c (0 - c) ≥ 10 ^ 18 then 1 else 0,max c (0 - c) % 1000003⟩
@[simp] theorem Lw {c:Int} {h:Hh}:b_ [.int c] h=.ok (.ref h.length) (h++[.lst (dQ (d_ c))]):=by
 have s1:sml 10=true:=by decide +kernel
 simp[b_,bP,s1,d_]
@[simp] theorem K3 {ns:List Int} {h:Hh}:bS [.scr (ns.map D.int),.int 0] h=.ok (.int (ns.headD 0)) h:=by
 cases ns with
 | nil=>simp[bS,bP]
 | cons c r=>simp[bS,bP]
@[simp] theorem J0 {i:Int} {h:Hh}:fT [.int i] h=.ok (.bl true) h:=by simp[fT,bP]
@[simp] theorem I_ {i a b:Int} {h:Hh}:cy [.int i,.int a,.int b] h=.ok (.bl (decide (a<=i/\i<=b))) h:=by
 by_cases z:a<=i<;>simp[cy,bP,z]
@[simp] theorem dw {i a b:Int} {h:Hh} (hi:a<=i/\i<=b):az [.int i,.int a,.int b] h=.ok .non h:=by
 simp[az,bP,hi]
noncomputable def k7 {X:Type} (xs:List X) (lo hi:Option Int):List X:=(xs.drop (HT.sIx xs.length 0 lo)).take (HT.sIx xs.length xs.length hi - HT.sIx xs.length 0 lo)
theorem oX {X:Type} (f:X->D) (xs:List X) (lo hi:Option Int):cutD (xs.map f) lo hi=(k7 xs lo hi).map f:=by
 unfold cutD k7
 rw[List.length_map,List.map_take,List.map_drop]
theorem DP {i:Int} (h0:0<=i) (h:i<=1000000):sml i=true:=aW (by omega) (by omega)
noncomputable def sx (xs:List Int):List Nat:=(List.range (xs.length - 1)).filter fun i=>decide (gI xs (i+1)<gI xs i)
noncomputable def kH (xs:List Int):List Int:=(sx xs).map fun(i:Nat)=>(i:Int)
theorem zT {xs:List Int} {h:Hh} {d:D} (hd:∀(i:Int),dIx d (.int i) h=ixK (xs.map D.int) i h):eB (aT asB (ao dGt (ao dIx (ag 1) (ag 0)) (ao dIx (ag 1) (ao (bj aF) (ag 0) (cC (.int 1)))))) (ag 0) (fun x=>[some x,some d]) (eT 0 (xs.length - 1)) h=.ok ((kH xs).map D.int) h:=by
 rw[Ax (fun i=>decide (gI xs (i+1)<gI xs i)) (fun i=>D.int i)]
 ·simp[kH,sx,List.map_map]
 ·intro i hi
  have e1:ixK (xs.map D.int) (i:Int) h=.ok (.int (gI xs i)) h:=k9 rfl (by omega)
  have e2:ixK (xs.map D.int) ((i:Int)+1) h=.ok (.int (gI xs (i+1))) h:=k9 (by omega) (by omega)
  simp[hd,e1,e2]
theorem Gz {h:Hh} (w:Wf h) (p:Pen):Wf (h++[.lst (dQ p)]):=w.app rfl
theorem oR (p:Pen) (m:Int) (h:0<m):∃k:Nat,ju p m=(k:Int)/\(k:Int)<m:=by
 have h0:=Em p h
 have h1:=AU p h
 exact⟨(ju p m).toNat,by omega,by omega⟩
theorem qR (ns:List Int) (lo hi:Option Int):cutD (ns.map D.int) lo hi=(k7 ns lo hi).map D.int:=oX _ _ _ _
theorem D7 {X:Type} (xs:List X) (lo hi:Option Int):(k7 xs lo hi).length<=xs.length:=by
 unfold k7;rw[List.length_take,List.length_drop];omega
theorem vQ {xs:List Int} {h:Hh} (hl:xs.length<=1000) (h1:1<=xs.length):fO [.tup (xs.map D.int)] h=.ok (.tup ((kH xs).map D.int)) h:=by
 have z1:((xs.length:Int) - 1).natAbs<=1000000:=by omega
 have z2:((xs.length:Int) - 1).toNat=xs.length - 1:=by omega
 have z3:xs.length - 1<=1000000:=by omega
 have q:=zT (xs:=xs) (h:=h) (d:=.tup (xs.map D.int)) (fun i=>Jx)
 simp[fO,bP,z1,z2,z3,q]
noncomputable def ux (xs:List Int):List Int:=(List.range (xs.length+1)).map fun(k:Nat)=>((k:Int)+1)*gI (0::xs++[0]) (k+1)+((xs.length:Int)+1 - (k:Int))*gI (0::xs++[0]) k
noncomputable def qz:Nat->List Int
 | 0=>[1]
 | n+1=>ux (qz n)
theorem zh:∀n,n<31->(qz n).length=n+1/\∀x∈qz n,x.natAbs<=10 ^ 40:=by decide +kernel
theorem zB (xs:List Int):(ux xs).length=xs.length+1:=by simp[ux]
theorem k8:∀n,(qz n).length=n+1
 | 0=>rfl
 | n+1=>by rw[qz,zB,k8 n]
theorem Gi {x:Int} (h:x.natAbs<=10 ^ 40):sml x=true:=kl (Nat.le_trans h (by decide +kernel))
theorem Cp {xs:List Int} {b:Nat} (h:∀x∈xs,x.natAbs<=b) (k:Nat):(gI xs k).natAbs<=b:=by
 by_cases hk:k<xs.length
 ·exact h _ (F0 hk)
 ·unfold gI;rw[List.getD_eq_getElem?_getD,List.getElem?_eq_none (by omega)];simp
theorem Bl {xs:List Int} {h:Hh} (hl:xs.length<=100) (hb:∀x∈xs,x.natAbs<=10 ^ 40):c_ [.frl (xs.map D.int)] h=.ok (.frl ((ux xs).map D.int)) h:=by
 have hb':∀k,sml (gI (0::xs++[0]) k)=true:=fun k=>Gi (Cp (fun y hy=>by
  simp at hy
  rcases hy with rfl | hy | rfl
  ·decide
  ·exact hb y hy
  ·decide) k)
 have z1:((xs.length:Int)+1).natAbs<=1000000:=by omega
 have z2:((xs.length:Int)+1).toNat=xs.length+1:=by omega
 have z3:xs.length+1<=1000000:=by omega
 have z4:1+xs.length<=1000000:=by omega
 have z5:xs.length+1+1<=1000000:=by omega
 have q:=qZ (h:=h) (n:=xs.length+1) (te:=ao (bj aF) (ao (bJ aF) (ao (bj aF) (ag 0) (cC (.int 1))) (ao dIx (ag 1) (ao (bj aF) (ag 0) (cC (.int 1))))) (ao (bJ aF) (ao eR (ag 2) (ag 0)) (ao dIx (ag 1) (ag 0))))
  (ee:=fun d=>[some d,some (.frl (D.int 0::(xs.map D.int++[D.int 0]))),some (.int ((xs.length:Int)+1))]) (fun(k:Nat)=>D.int (((k:Int)+1)*gI (0::xs++[0]) (k+1)+((xs.length:Int)+1 - (k:Int))*gI (0::xs++[0]) k)) (fun i hi=>by
   have t1:ixK (D.int 0::(xs.map D.int++[D.int 0])) ((i:Int)+1) h=.ok (.int (gI (0::xs++[0]) (i+1))) h:=by
    have:=k9 (h:=h) (ns:=0::xs++[0]) (i:=(i:Int)+1) (j:=i+1) (by omega) (by simp;omega)
    simpa using this
   have t2:ixK (D.int 0::(xs.map D.int++[D.int 0])) (i:Int) h=.ok (.int (gI (0::xs++[0]) i)) h:=by
    have:=k9 (h:=h) (ns:=0::xs++[0]) (i:=(i:Int)) (j:=i) (by omega) (by simp;omega)
    simpa using this
   have s1:sml ((i:Int)+1)=true:=aW (by omega) (by omega)
   have s2:sml ((xs.length:Int)+1 - (i:Int))=true:=aW (by omega) (by omega)
   simp[t1,t2,s1,s2]
   simp only[List.cons_append] at hb'
   simp[hb'])
 simp[c_,bP,z1,z2,z3,z4,z5,q,ux]
theorem IP {n:Nat} {h:Hh} (hn:n<30):jy [.int ((n:Int)+1)] h=.ok (.frl ((qz n).map D.int)) h:=by
 have q:=wQ (c:=aT asB (ao dLt (ai eP (aa (ag 1) ak)) (ag 0))) (b:=bh 1 (ai c_ (aa (ag 1) ak))) n (fun i=>[some (.int ((n:Int)+1)),some (.frl ((qz i).map D.int))]) (fun _=>h) (fun i hi=>by
   simp[k8];omega) (fun i hi=>by
   have:=Bl (h:=h) (xs:=qz i) (by rw[k8];omega) (zh i (by omega)).2
   simp[this];rfl) (by simp[k8]) 400 (by omega)
 have z:1<=(n:Int)+1/\(n:Int)+1<=30:=by omega
 simp only[qz,List.map_cons,List.map_nil] at q
 simp[jy,bP,z,q]
noncomputable def ch:Nat->Nat->Nat
 | _,0=>1
 | 0,_+1=>0
 | n+1,k+1=>ch n k+ch n (k+1)
theorem CK (n:Nat):ch n 0=1:=by cases n<;>rfl
theorem o9:∀{n k:Nat},n<k->ch n k=0
 | 0,k+1,_=>rfl
 | n+1,k+1,h=>by rw[ch,o9 (by omega),o9 (by omega)]
theorem kX:∀(n i:Nat),ch n (i+1)*(i+1)=ch n i*(n - i)
 | 0,0=>rfl
 | 0,i+1=>by simp[ch]
 | n+1,0=>by
  have:=kX n 0
  rw[CK] at this
  show(ch n 0+ch n (0+1))*(0+1)=ch (n+1) 0*(n+1 - 0)
  rw[CK,CK]
  omega
 | n+1,i+1=>by
  by_cases h:i<=n
  ·have a:=kX n (i+1)
   have b:=kX n i
   rw[show ch (n+1) (i+1+1)=ch n (i+1)+ch n (i+1+1) from rfl,show ch (n+1) (i+1)=ch n i+ch n (i+1) from rfl]
   rw[Nat.add_mul,a,Nat.add_mul,show n+1 - (i+1)=n - i by omega,<- b]
   by_cases h2:i+1<=n
   ·rw[<- Nat.mul_add,<- Nat.mul_add]
    congr 1
    omega
   ·have:n=i:=by omega
    subst this
    rw[o9 (show n<n+1 by omega)]
    simp
  ·rw[o9 (show n+1<i+1 by omega),o9 (show n+1<i+1+1 by omega)];simp
theorem FJ (n:Nat):∀i,ch n i<=(n+1) ^ i
 | 0=>by rw[CK];simp
 | i+1=>by
  have a:=kX n i
  have b:=FJ n i
  have c:ch n (i+1)<=ch n (i+1)*(i+1):=Nat.le_mul_of_pos_right _ (by omega)
  have d:ch n i*(n - i)<=(n+1) ^ i*(n+1):=Nat.mul_le_mul b (by omega)
  rw[Nat.pow_succ]
  omega
theorem AZ {n i:Nat} (hn:n<=1000100) (hi:i<=40):sml (ch n i:Int)=true:=by
 refine kl ?_
 rw[Int.natAbs_natCast]
 refine Nat.le_trans (FJ n i) (Nat.le_trans (Nat.pow_le_pow_left (show n+1<=10 ^ 7 by omega) i) (Nat.le_trans (Nat.pow_le_pow_right (by decide) hi) (by decide +kernel)))
theorem GS {x n:Nat} {h:Hh} (hx:x<=1000100) (hn:n<=40):eJ [.int x,.int n] h=.ok (.int (ch x n)) h:=by
 obtain⟨q,e⟩:=jI (tg:=gN 3) (body:=bh 2 (ao lL (ao (bJ aF) (ag 2) (ao eR (ag 0) (ag 3))) (ao (bj aF) (ag 3) (cC (.int 1))))) n
  (fun(s:Nat × Option D)=>[some (.int x),some (.int n),some (.int (ch x s.1)),s.2]) (fun _=>h) (fun _ i=>(i+1,some (.int (i:Nat)))) (fun i s=>s.1=i) (0,none) rfl (fun i s hi hs=>⟨rfl,.inl (by
   subst hs
   have s1:=AZ hx (show s.1<=40 by omega)
   have s2:sml ((x:Int) - s.1)=true:=aW (by omega) (by omega)
   have s3:sml ((s.1:Int)+1)=true:=aW (by omega) (by omega)
   have z:(0:Int)<(s.1:Int)+1:=by omega
   have key:(ch x s.1:Int)*((x:Int) - s.1) / ((s.1:Int)+1)=(ch x (s.1+1):Int):=by
    have a:=kX x s.1
    have b:(ch x s.1:Int)*((x:Int) - s.1)=(ch x (s.1+1):Int)*((s.1:Int)+1):=by
     by_cases hl:s.1<=x
     ·have a':((ch x (s.1+1)*(s.1+1):Nat):Int)=((ch x s.1*(x - s.1):Nat):Int):=by rw[a]
      rw[Int.natCast_mul,Int.natCast_mul,Int.natCast_sub hl] at a'
      simpa using a'.symm
     ·rw[o9 (show x<s.1 by omega),o9 (show x<s.1+1 by omega)];simp
    rw[b,Int.mul_ediv_cancel _ (by omega)]
   simp[s1,s2,s3,z,key])⟩)
 generalize List.foldl (fun(_:Nat × Option D) i=>(i+1,some (D.int (i:Nat)))) (0,none) (List.range n)=s9 at q e
 subst e
 have z1:s9.1<=1000000:=by omega
 rw[CK] at q
 simp[eJ,bP,z1] at q ⊢
 simp[q]
theorem pS (k:Nat) (h:Hh):∀xs ys:List Int,xs.length=ys.length->eqL (eqD (k+1) h) (xs.map D.int) (ys.map D.int)=some (decide (xs=ys))
 | [],[],_=>rfl
 | x::xs,y::ys,e=>by
  have ih:=pS k h xs ys (by simpa using e)
  have e1:eqD (k+1) h (.int x) (.int y)=some (x == y):=rfl
  simp only[List.map_cons,eqL,e1,ih]
  by_cases a:x=y<;>by_cases b:xs=ys<;>simp[a,b]
theorem xN {h:Hh} {xs:List Int}:dNe (.tup (xs.map D.int)) (.tup (xs.map D.int)) h=.ok (.bl false) h:=by
 have:eqD eqN h (.tup (xs.map D.int)) (.tup (xs.map D.int))=some true:=by
  show eqL (eqD (10+1) h) (xs.map D.int) (xs.map D.int)=some true
  rw[pS _ _ _ _ rfl];simp
 simp only[dNe,this];rfl
theorem CC {b r:Nat} (h0:0<r) (h:r<b):2*(b % r)<b:=by
 have a:=Nat.mod_lt b h0
 have c:=Nat.div_add_mod b r
 have d:1<=b / r:=(Nat.le_div_iff_mul_le h0).mpr (by omega)
 have e:r*1<=r*(b / r):=Nat.mul_le_mul_left r d
 omega
theorem euc {c:MT} {b:MS} {h:Hh} (E:Nat->Nat->En) (hc:∀x y,c (E x y) h=.ok (decide (0<y)) h) (hb:∀x y,0<y->b (E x y) h=.ok (.nx (E y (x % y))) h) :
  ∀(k x y f:Nat),y<2 ^ k->2*k<f->dh c b f (E x y) h=.ok (.nx (E (Nat.gcd x y) 0)) h:=by
 have stop:∀(x f:Nat),0<f->dh c b f (E x 0) h=.ok (.nx (E x 0)) h:=by
  intro x f hf
  obtain⟨f,rfl⟩:∃g,f=g+1:=⟨f - 1,by omega⟩
  rw[dh,hc];rfl
 have go:∀(x y f:Nat),0<y->dh c b (f+1) (E x y) h=dh c b f (E y (x % y)) h:=by
  intro x y f hy
  rw[dh,hc,decide_eq_true hy]
  simp only[bq,if_true,hb x y hy]
 intro k
 induction k with
 | zero=>
  intro x y f hy hf
  have:y=0:=by simp at hy;exact hy
  subst this
  rw[stop x f (by omega),Nat.gcd_zero_right]
 | succ k ih=>
  intro x y f hy hf
  rw[Nat.pow_succ] at hy
  obtain⟨f,rfl⟩:∃g,f=g+2:=⟨f - 2,by omega⟩
  rcases Nat.eq_zero_or_pos y with rfl | hp
  ·rw[stop x _ (by omega),Nat.gcd_zero_right]
  ·rw[go x y _ hp]
   rcases Nat.eq_zero_or_pos (x % y) with e | hr
   ·rw[e,stop y _ (by omega)]
    have:Nat.gcd x y=y:=by rw[Nat.gcd_comm,Nat.gcd_rec,e];exact Nat.gcd_zero_left y
    rw[this]
   ·rw[go y (x % y) _ hr,ih _ _ f (by have:=CC hr (Nat.mod_lt x hp);omega) (by omega)]
    have:Nat.gcd x y=Nat.gcd (x % y) (y % (x % y)):=by
     rw[Nat.gcd_comm x y,Nat.gcd_rec y x,Nat.gcd_comm (x % y) y,Nat.gcd_comm (x % y) (y % (x % y)),<- Nat.gcd_rec,Nat.gcd_comm]
    rw[this]
noncomputable def shr (t:Int) (b:Nat):List Int:=[t / (Nat.gcd t.natAbs b:Nat),(b:Int) / (Nat.gcd t.natAbs b:Nat)]
theorem xX {t:Int} {b:Nat} (hb:0<b) (hb2:b<2 ^ 190):0<Nat.gcd t.natAbs b/\sml (Nat.gcd t.natAbs b:Int)=true:=by
 have a:=Nat.gcd_le_right t.natAbs hb
 refine⟨Nat.gcd_pos_of_pos_right _ hb,kl ?_⟩
 rw[Int.natAbs_natCast]
 exact Nat.le_trans (Nat.le_trans a (Nat.le_of_lt hb2)) (by decide +kernel)
theorem BN {x y:Nat} {h:Hh} (hy:y<2 ^ 190):dq [.int x,.int y] h=.ok (.int (Nat.gcd x y)) h:=by
 have q:=euc (c:=aT n_ (ag 1)) (b:=jL 0 1 (aa (ag 1) (aa (ao h_ (ag 0) (ag 1)) ak))) (h:=h) (fun x y=>[some (.int (x:Nat)),some (.int (y:Nat))]) (fun x y=>by
   rcases Nat.eq_zero_or_pos y with rfl | hp
   ·simp
   ·have:(y:Int)≠0:=by omega
    simp[this,hp];omega) (fun x y hp=>by
   have:(0:Int)<(y:Int):=by omega
   simp[this,hp]) 190 x y 400 hy (by decide)
 simp[dq,bP,q]
theorem kR {t:Int} {b:Nat} {h:Hh} (hb:0<b) (hb2:b<2 ^ 190):aR [.int t,.int b] h=.ok (.tup ((shr t b).map D.int)) h:=by
 obtain⟨g1,g2⟩:=xX (t:=t) hb hb2
 have g3:(0:Int)<(Nat.gcd t.natAbs b:Int):=by omega
 have q:=BN (x:=t.natAbs) (y:=b) (h:=h) hb2
 unfold shr
 generalize Nat.gcd t.natAbs b=g at *
 simp[aR,bP,q,g2,g3,g1]
theorem rR {t:Int} {b:Nat} {h:Hh} (hb:0<b) (hb2:b<2 ^ 190) (ht:t.natAbs<2 ^ 190):cA [.int t,.int b] h=.ok (.tup ((shr t b).map D.int)) h:=by
 obtain⟨g1,g2⟩:=xX (t:=t) hb hb2
 have g3:(0:Int)<(Nat.gcd t.natAbs b:Int):=by omega
 have q:=euc (c:=aT asB (ao dGt (ag 3) (cC (.int 0)))) (b:=jL 2 3 (aa (ag 3) (aa (ao h_ (ag 2) (ag 3)) ak))) (h:=h) (fun x y=>[some (.int t),some (.int b),some (.int (x:Nat)),some (.int (y:Nat))]) (fun x y=>by
   simp) (fun x y hp=>by
   have:(0:Int)<(y:Int):=by omega
   simp[this,hp]) 190 b t.natAbs 400 ht (by decide)
 rw[Nat.gcd_comm] at q
 unfold shr
 generalize Nat.gcd t.natAbs b=g at *
 simp[cA,bP,q,g2,g3,g1]
noncomputable def fac:Nat->Nat
 | 0=>1
 | t+1=>fac t*(t+1)
theorem nR:∀t,0<fac t
 | 0=>by decide
 | t+1=>Nat.mul_pos (nR t) (by omega)
theorem wd:∀t,t<=13->fac t<=10 ^ 10:=by decide +kernel
theorem xI {t:Nat} (ht:t<=13):sml (fac t:Int)=true:=by
 refine kl ?_
 rw[Int.natAbs_natCast]
 exact Nat.le_trans (wd t ht) (by decide +kernel)
theorem lh {x:Int} {n:Nat} (hx:x.natAbs<=12000) (hn:n<=13):sml (x ^ n)=true:=by
 refine kl ?_
 rw[Int.natAbs_pow]
 refine Nat.le_trans (Nat.pow_le_pow_left hx n) (Nat.le_trans (Nat.pow_le_pow_right (by decide) hn) (by decide +kernel))
theorem yB {x:Int} {n:Nat} {h:Hh} (hx:x.natAbs<=12000) (hn:n<=12):dD [.int x,.int n] h=.ok (.int (x ^ n)) h:=by
 obtain⟨q,e⟩:=jI (tg:=gN 3) (body:=uY 2 pf (ag 0)) n
  (fun(s:Nat × Option D)=>[some (.int x),some (.int n),some (.int (x ^ s.1)),s.2]) (fun _=>h) (fun _ i=>(i+1,some (.int (i:Nat)))) (fun i s=>s.1=i) (0,none) rfl (fun i s hi hs=>⟨rfl,.inl (by
   subst hs
   have s1:=lh hx (show s.1<=13 by omega)
   have s2:sml x=true:=aW (by omega) (by omega)
   simp[s1,s2,Int.pow_succ])⟩)
 generalize List.foldl (fun(_:Nat × Option D) i=>(i+1,some (D.int (i:Nat)))) (0,none) (List.range n)=s9 at q e
 subst e
 have z1:s9.1<=1000000:=by omega
 simp[dD,bP,z1] at q ⊢
 simp[q]
theorem Fv {n:Nat} {h:Hh} (hn:n<=12):bT [.int n] h=.ok (.int (fac n)) h:=by
 obtain⟨q,e⟩:=jI (tg:=gN 2) (body:=uY 1 pf (ao (bj aF) (ag 2) (cC (.int 1)))) n
  (fun(s:Nat × Option D)=>[some (.int n),some (.int (fac s.1)),s.2]) (fun _=>h) (fun _ i=>(i+1,some (.int (i:Nat)))) (fun i s=>s.1=i) (0,none) rfl (fun i s hi hs=>⟨rfl,.inl (by
   subst hs
   have s1:=xI (show s.1<=13 by omega)
   have s2:sml ((s.1:Int)+1)=true:=aW (by omega) (by omega)
   simp[s1,s2,fac])⟩)
 generalize List.foldl (fun(_:Nat × Option D) i=>(i+1,some (D.int (i:Nat)))) (0,none) (List.range n)=s9 at q e
 subst e
 have z1:s9.1<=1000000:=by omega
 simp only[fac] at q
 simp[bT,bP,z1] at q ⊢
 simp[q]
theorem Ah (h:Hh):∀n:Nat,n<=12->cW [.int n] h=.ok (.int (fac n)) h:=by
 intro n hn
 match n,hn with
 | 0,_ | 1,_ | 2,_ | 3,_ | 4,_ | 5,_ | 6,_ | 7,_ | 8,_ | 9,_ | 10,_ | 11,_ | 12,_=>kernel_rfl
noncomputable def H (r q:Int):List Int->Int
 | []=>0
 | d::ds=>d*r ^ ds.length+q*H r q ds
noncomputable def ml (a:Int):Int->List Int->List Int
 | p,[]=>[a*p]
 | p,d::ds=>(d+a*p)::ml a d ds
theorem xo (a:Int):∀(p:Int) (ds:List Int),(ml a p ds).length=ds.length+1
 | _,[]=>rfl
 | _,_::ds=>by rw[ml,List.length_cons,xo a _ ds,List.length_cons]
theorem JH (r q a:Int):∀(p:Int) (ds:List Int),H r q (ml a p ds)=a*p*r ^ ds.length+(r+a*q)*H r q ds
 | p,[]=>by simp[ml,H]
 | p,d::ds=>by
  rw[ml,H,JH r q a d ds,xo,H,List.length_cons,Int.pow_succ]
  grind
noncomputable def pwl (a:Int):Nat->List Int
 | 0=>[1]
 | n+1=>ml a 0 (pwl a n)
theorem tV (a:Int):∀n,(pwl a n).length=n+1
 | 0=>rfl
 | n+1=>by rw[pwl,xo,tV a n]
theorem Fu (r q a:Int):∀n,H r q (pwl a n)=(r+a*q) ^ n
 | 0=>by simp[pwl,H]
 | n+1=>by rw[pwl,JH,Fu r q a n,Int.pow_succ];grind
noncomputable def adl (c:Int):List Int->List Int->List Int
 | x::xs,y::ys=>(x+c*y)::adl c xs ys
 | _,_=>[]
theorem sR (c:Int):∀(xs ys:List Int),xs.length=ys.length->(adl c xs ys).length=xs.length
 | [],[],_=>rfl
 | x::xs,y::ys,e=>by rw[adl,List.length_cons,sR c xs ys (by simpa using e),List.length_cons]
theorem Ff (r q c:Int):∀(xs ys:List Int),xs.length=ys.length->H r q (adl c xs ys)=H r q xs+c*H r q ys
 | [],[],_=>by simp[adl,H]
 | x::xs,y::ys,e=>by
  have e:xs.length=ys.length:=by simpa using e
  rw[adl,H,Ff r q c xs ys e,sR c xs ys e,H,H,e]
  grind
noncomputable def sgn (n b:Nat):Int:=if b % 2=1 then -(ch n b:Int) else (ch n b:Int)
noncomputable def sgL (n:Nat) (s:Int):Nat->List Int
 | 0=>List.replicate (n+1) 0
 | k+1=>adl (sgn n k) (sgL n s k) (pwl (s - k) n)
theorem sT (n:Nat) (s:Int):∀k,(sgL n s k).length=n+1
 | 0=>by simp[sgL]
 | k+1=>by rw[sgL,sR _ _ _ (by rw[sT n s k,tV]),sT n s k]
theorem Cf (r q:Int):∀n,H r q (List.replicate n 0)=0
 | 0=>rfl
 | n+1=>by rw[List.replicate_succ,H,Cf r q n];simp
noncomputable def cQ (n:Nat) (p q:Int):Nat->Int
 | 0=>0
 | k+1=>cQ n p q k+sgn n k*(p - k*q) ^ n
theorem Fn (n:Nat) (s p q:Int):∀k,H (p - s*q) q (sgL n s k)=cQ n p q k
 | 0=>by rw[sgL,Cf,cQ]
 | k+1=>by
  rw[sgL,Ff _ _ _ _ _ (by rw[sT,tV]),Fn n s p q k,Fu,cQ]
  congr 3
  grind
noncomputable def iT (n p q:Nat):Nat:=min (p / q) (n - 1)
theorem CU {n q:Nat} (hn:n<=12) (hq:q<=1000):q ^ n*fac n<2 ^ 190:=
 Nat.lt_of_le_of_lt (Nat.mul_le_mul (Nat.le_trans (Nat.pow_le_pow_left hq n) (Nat.pow_le_pow_right (by decide) hn)) (wd n (by omega))) (by decide +kernel)
theorem den_pos {n q:Nat} (hq:1<=q):0<q ^ n*fac n:=Nat.mul_pos (Nat.pow_pos (by omega)) (nR n)
theorem BW:∀n,n<13->∀b,b<14->ch n b<=1000:=by decide +kernel
theorem Hk {n b:Nat} (hn:n<13) (hb:b<14):(sgn n b).natAbs<=1000:=by
 have:=BW n hn b hb
 unfold sgn
 split<;>omega
theorem xT {n p q:Nat} (hn:n<=12) (hq:q<=1000) (hp:p<=12000):∀k,k<=13->k*q<=p+q->(cQ n p q k).natAbs<=k*(1000*12000 ^ 12)
 | 0,_,_=>by simp[cQ]
 | k+1,hk,hkq=>by
  have hkq':k*q<=p:=by rw[Nat.add_mul,Nat.one_mul] at hkq;omega
  have ih:=xT hn hq hp k (by omega) (by omega)
  have b1:=Hk (n:=n) (b:=k) (by omega) (by omega)
  have b2:((p:Int) - (k:Int)*(q:Int)).natAbs<=12000:=by
   have:((k*q:Nat):Int)=(k:Int)*(q:Int):=by rw[Int.natCast_mul]
   omega
  have b3:(((p:Int) - (k:Int)*(q:Int)) ^ n).natAbs<=12000 ^ 12:=by
   rw[Int.natAbs_pow]
   exact Nat.le_trans (Nat.pow_le_pow_left b2 n) (Nat.pow_le_pow_right (by decide) hn)
  rw[cQ]
  refine Nat.le_trans (Int.natAbs_add_le _ _) ?_
  rw[Int.natAbs_mul,Nat.add_mul,Nat.one_mul]
  exact Nat.add_le_add ih (Nat.mul_le_mul b1 b3)
theorem sO {n p q k:Nat} (hn:n<=12) (hq:q<=1000) (hp:p<=12000) (hk:k<=13) (hkq:k*q<=p+q):(cQ n p q k).natAbs<2 ^ 190:=
 Nat.lt_of_le_of_lt (Nat.le_trans (xT hn hq hp k hk hkq) (Nat.mul_le_mul_right _ hk)) (by decide +kernel)
theorem oV {n p q:Nat} (h1:1<=n) (hq:1<=q) (hp:p<=n*q):cQ n p q (p / q+1)=cQ n p q (iT n p q+1):=by
 unfold iT
 by_cases hl:p / q<=n - 1
 ·rw[Nat.min_eq_left hl]
 ·have le:p / q<=n:=by
   have:=Nat.div_le_div_right (c:=q) hp
   rwa [Nat.mul_div_cancel _ (by omega)] at this
  have e:p / q=n:=by omega
  have g:n*q<=p:=by
   have:=Nat.div_mul_le_self p q
   rwa [e] at this
  have e2:p=n*q:=by omega
  have hm:min n (n - 1)=n - 1:=by omega
  rw[e,hm,Nat.sub_add_cancel h1,cQ]
  have z:(p:Int) - (n:Int)*(q:Int)=0:=by rw[e2,Int.natCast_mul];omega
  rw[z,Int.zero_pow (by omega),Int.mul_zero,Int.add_zero]
theorem CO {n p q:Nat} {h:Hh} (h1:1<=n) (h2:n<=12) (hq:1<=q) (hq2:q<=1000) (hp:p<=n*q) (hc:Nat.gcd p q=1) :
  a8 [.int n,.tup [.int p,.int q]] h=.ok (.tup ((shr (cQ n p q (iT n p q+1)) (q ^ n*fac n)).map D.int)) h:=by
 have hp2:p<=12000:=Nat.le_trans hp (Nat.mul_le_mul h2 hq2)
 rw[<- oV h1 hq hp]
 have le:p / q<=n:=by
  have:=Nat.div_le_div_right (c:=q) hp
  rwa [Nat.mul_div_cancel _ (by omega)] at this
 have hd:=Nat.div_mul_le_self p q
 have hR:(p:Int) / (q:Int)+1=((p / q+1:Nat):Int):=by rw[<- Int.natCast_ediv,Int.natCast_add,Int.natCast_one]
 have mlt:(cQ n p q (p / q+1)).natAbs<2 ^ 190:=sO h2 hq2 hp2 (by omega) (by rw[Nat.add_mul,Nat.one_mul];omega)
 generalize p / q=m at le hd hR mlt
 have ss:shr (p:Nat) q=[(p:Int),(q:Int)]:=by unfold shr;rw[Int.natAbs_natCast,hc];simp
 have sh:=rR (t:=(p:Nat)) (b:=q) (h:=h) (by omega) (Nat.lt_of_le_of_lt hq2 (by decide +kernel)) (by rw[Int.natAbs_natCast];exact Nat.lt_of_le_of_lt hp2 (by decide +kernel))
 rw[ss] at sh
 have ne:=xN (h:=h) (xs:=[(p:Int),(q:Int)])
 simp only[List.map_cons,List.map_nil] at sh ne
 have z1:1<=(n:Int)/\(n:Int)<=12:=by omega
 have z2:1<=(q:Int)/\(q:Int)<=1000:=by omega
 have z3:0<=(p:Int)/\(p:Int)<=(n:Int)*(q:Int):=by
  have:((n*q:Nat):Int)=(n:Int)*(q:Int):=by rw[Int.natCast_mul]
  omega
 have sn:sml (n:Int)=true:=aW (by omega) (by omega)
 have sq:sml (q:Int)=true:=aW (by omega) (by omega)
 have q0:(0:Int)<(q:Int):=by omega
 have q1:0<q:=hq
 have up:dn [.int n,.tup [.int p,.int q]] h=.ok .non h:=by
  simp[dn,bP,dw z2,dw z3,sn,sq,sh,ne]
 obtain⟨Q,e⟩:=jI (tg:=gN 5) (body:=aI (bh 6 (ao (bJ aF) (ai eJ (aa (ag 0) (aa (ag 5) ak))) (ai dD (aa (ao eR (ag 2) (ao (bJ aF) (ag 5) (ag 3))) (aa (ag 0) ak))))) (uY 4 oy (cIf (aT asB (ao dEq (ao h_ (ag 5) (cC (.int 2))) (cC (.int 1)))) (cUn vN (ag 6)) (ag 6)))) (m+1)
  (fun(s:Nat × Option D × Option D)=>[some (.int n),some (.tup [.int p,.int q]),some (.int p),some (.int q),some (.int (cQ n p q s.1)),s.2.1,s.2.2]) (fun _=>h) (fun _ i=>(i+1,some (.int (i:Nat)),some (.int ((ch n i:Int)*((p:Int) - (i:Int)*(q:Int)) ^ n)))) (fun i s=>s.1=i) (0,none,none) rfl (fun i s hi hs=>⟨rfl,.inl (by
   subst hs
   obtain⟨i,o1,o2⟩:=s
   have hi:i<m+1:=hi
   have c1:=GS (x:=n) (n:=i) (h:=h) (by omega) (by omega)
   have iq:i*q<=p:=Nat.le_trans (Nat.mul_le_mul_right q (by omega)) hd
   have b2:((p:Int) - (i:Int)*(q:Int)).natAbs<=12000:=by
    have:((i*q:Nat):Int)=(i:Int)*(q:Int):=by rw[Int.natCast_mul]
    omega
   have c2:=yB (x:=(p:Int) - (i:Int)*(q:Int)) (n:=n) (h:=h) b2 h2
   have s1:=AZ (n:=n) (i:=i) (by omega) (by omega)
   have s2:=lh (x:=(p:Int) - (i:Int)*(q:Int)) (n:=n) b2 (by omega)
   have s3:sml (i:Int)=true:=aW (by omega) (by omega)
   by_cases ev:i % 2=1
   ·have ev2:(i:Int) % 2=1:=by omega
    simp[c1,c2,s1,s2,s3,sq,ev2,cQ,sgn,ev,Int.neg_mul]
   ·have ev2:¬ (i:Int) % 2=1:=by omega
    simp[c1,c2,s1,s2,s3,sq,ev2,cQ,sgn,ev])⟩)
 generalize List.foldl (fun(_:Nat × Option D × Option D) i=>(i+1,some (D.int (i:Nat)),some (D.int ((ch n i:Int)*((p:Int) - (i:Int)*(q:Int)) ^ n)))) (0,none,none) (List.range (m+1))=s9 at Q e
 obtain⟨s9,o1,o2⟩:=s9
 have e:s9=m+1:=e
 subst e
 dsimp only[cQ] at Q
 have L:=rR (t:=cQ n p q (m+1)) (b:=q ^ n*fac n) (h:=h) (den_pos hq) (CU h2 hq2) mlt
 rw[Int.natCast_mul,Int.natCast_pow,Int.mul_comm] at L
 have fa:=Fv (n:=n) (h:=h) h2
 have pw:=yB (x:=(q:Int)) (n:=n) (h:=h) (by omega) h2
 have sf:=xI (show n<=13 by omega)
 have sp:sml ((q:Int) ^ n)=true:=lh (by omega) (by omega)
 have t1:(m+1)<=1000000:=by omega
 have t2:((m+1:Nat):Int).natAbs<=1000000:=by omega
 have t3:((m+1:Nat):Int).toNat=m+1:=by omega
 simp only[cQ] at L ⊢
 simp[a8,bP,dw z1,up,sq,q0,q1,hR,t1,t2,t3,Q,fa,pw,sf,sp,L,-Int.natCast_add]
theorem yE {n p q:Nat} (h2:n<=12):iT n p q+1<=13/\(iT n p q+1)*q<=p+q:=by
 have:=Nat.le_trans (Nat.mul_le_mul_right q (Nat.min_le_left (p / q) (n - 1))) (Nat.div_mul_le_self p q)
 unfold iT
 refine⟨by omega,?_⟩
 rw[Nat.add_mul,Nat.one_mul]
 omega
noncomputable def loV (n k:Nat):List Int:=shr (cQ n k (1:Nat) (iT n k 1+1)) (1 ^ n*fac n)
noncomputable def mX (n k:Nat):Int:=(k7 (qz (n - 1)) (some (k:Int)) (some ((k:Int)+1))).sum
noncomputable def F_ (n k:Nat):List Int:=if k<n then shr (gI (loV n (k+1)) 0*gI (loV n k) 1 - gI (loV n k) 0*gI (loV n (k+1)) 1) (gI (loV n (k+1)) 1*gI (loV n k) 1).toNat else [0,1]
noncomputable def okK (n k:Nat):Bool:=F_ n k == shr (mX n k) (fac n)&&decide ((mX n k).natAbs<=10 ^ 20)&&([gI (loV n k) 0,gI (loV n k) 1].all fun x=>decide (x.natAbs<=10 ^ 20))&&decide (0<gI (loV n k) 1)
theorem F9:∀n,n<13->1<=n->∀k,k<14->okK n k=true:=by decide +kernel
theorem yx {n k:Nat} {h:Hh} (h1:1<=n) (h2:n<=12) (hk:k<=12):cM [.int n,.int k] h=.ok (.int (mX n k)) h:=by
 have r:=IP (n:=n - 1) (h:=h) (by omega)
 have e:((n - 1:Nat):Int)+1=(n:Int):=by omega
 rw[e] at r
 have z1:1<=(n:Int)/\(n:Int)<=30:=by omega
 have z2:0<=(k:Int)/\(k:Int)<=30:=by omega
 simp[cM,df,bP,dw z1,dw z2,r,qR,mX]
theorem BP {n k:Nat} (h1:1<=n) (h2:n<=12) (hk:k<=13):F_ n k=shr (mX n k) (fac n)/\(mX n k).natAbs<=10 ^ 20/\(gI (loV n k) 0).natAbs<=10 ^ 20/\(gI (loV n k) 1).natAbs<=10 ^ 20/\0<gI (loV n k) 1:=by
 have:=F9 n (by omega) h1 k (by omega)
 simp only[okK,Bool.and_eq_true,beq_iff_eq,decide_eq_true_eq,List.all_cons,List.all_nil,and_true] at this
 obtain⟨⟨⟨a,b⟩,c,d⟩,e⟩:=this
 exact⟨a,b,c,d,e⟩
theorem Ct {n:Nat} (h2:n<=12):fac n<2 ^ 190:=Nat.lt_of_le_of_lt (wd n (by omega)) (by decide +kernel)
theorem AK {n k:Nat} {h:Hh} (h1:1<=n) (h2:n<=12) (hk:k<=12):dG [.int n,.int k] h=.ok (.tup ((shr (mX n k) (fac n)).map D.int)) h:=by
 obtain⟨_,b,_⟩:=BP h1 h2 (show k<=13 by omega)
 have z1:1<=(n:Int)/\(n:Int)<=12:=by omega
 have z2:0<=(k:Int)/\(k:Int)<=12:=by omega
 have L:=rR (t:=mX n k) (b:=fac n) (h:=h) (nR n) (Ct h2) (Nat.lt_of_le_of_lt b (by decide +kernel))
 simp[dG,bP,dw z1,dw z2,yx (h:=h) h1 h2 hk,Fv (h:=h) h2,L]
theorem Ay (r q c:Int):∀n,H r q (List.replicate n 0++[c])=c*q ^ n
 | 0=>by simp[H]
 | n+1=>by
  rw[List.replicate_succ,List.cons_append,H,Ay r q c n,Int.pow_succ]
  grind
theorem HL:∀n,n<13->1<=n->sgL n (0:Nat) (n+1)=List.replicate n 0++[(fac n:Int)]:=by decide +kernel
theorem B3 {n:Nat} (h1:1<=n) (h2:n<=12) (p q:Int):cQ n p q (n+1)=(fac n:Int)*q ^ n:=by
 have a:=Fn n ((0:Nat):Int) p q (n+1)
 rw[HL n (by omega) h1,Ay] at a
 exact a.symm
theorem Gr:∀n,n<13->∀m,m<=n->ch n (n - m)=ch n m:=by decide +kernel
theorem BG (x:Int):∀n:Nat,(-x) ^ n=if n % 2=1 then -(x ^ n) else x ^ n
 | 0=>by simp
 | n+1=>by
  rw[Int.pow_succ,BG x n,Int.pow_succ]
  by_cases c:n % 2=1
  ·rw[if_pos c,if_neg (by omega)];grind
  ·rw[if_neg c,if_pos (by omega)];grind
theorem Gh {n m:Nat} (h2:n<=12) (hm:m<=n) (x:Int):sgn n (n - m)*(-x) ^ n=sgn n m*x ^ n:=by
 have e:=Gr n (by omega) m hm
 unfold sgn
 rw[e,BG]
 by_cases a:n % 2=1<;>by_cases b:m % 2=1
 ·rw[if_pos a,if_pos b,if_neg (by omega)];grind
 ·rw[if_pos a,if_neg b,if_pos (by omega)];grind
 ·rw[if_neg a,if_pos b,if_pos (by omega)]
 ·rw[if_neg a,if_neg b,if_neg (by omega)]
theorem lY {n:Nat} (h2:n<=12) (p p' q:Int) (hp:p+p'=n*q):∀m,m<=n+1->cQ n p q (n+1)=cQ n p q (n+1 - m)+cQ n p' q m
 | 0,_=>by simp[cQ]
 | m+1,hm=>by
  rw[lY h2 p p' q hp m (by omega),show n+1 - m=(n - m)+1 by omega,show n+1 - (m+1)=n - m by omega,cQ,cQ]
  have x:p - ((n - m:Nat):Int)*q=-(p' - m*q):=by
   rw[show((n - m:Nat):Int)=(n:Int) - m by omega,Int.sub_mul];omega
  rw[x,Gh h2 (by omega)]
  omega
theorem Av {n p p' q:Nat} (h1:1<=n) (h2:n<=12) (hq:1<=q) (hp:p+p'=n*q):cQ n p q (iT n p q+1)+cQ n p' q (iT n p' q+1)=((q ^ n*fac n:Nat):Int):=by
 rw[<- oV h1 hq (show p<=n*q by omega),<- oV h1 hq (show p'<=n*q by omega)]
 have al:=B3 h1 h2 p q
 have hpI:(p:Int)+(p':Int)=(n:Int)*q:=by rw[<- Int.natCast_mul];omega
 have fin:((q ^ n*fac n:Nat):Int)=(fac n:Int)*(q:Int) ^ n:=by rw[Int.natCast_mul,Int.natCast_pow,Int.mul_comm]
 rw[fin,<- al]
 have d1:=Nat.div_add_mod p q
 have d2:=Nat.div_add_mod p' q
 have m1:=Nat.mod_lt p (show 0<q by omega)
 have m2:=Nat.mod_lt p' (show 0<q by omega)
 have le:p / q<=n:=by
  have:=Nat.div_le_div_right (c:=q) (show p<=n*q by omega)
  rwa [Nat.mul_div_cancel _ (by omega)] at this
 have le':p' / q<=n:=by
  have:=Nat.div_le_div_right (c:=q) (show p'<=n*q by omega)
  rwa [Nat.mul_div_cancel _ (by omega)] at this
 generalize p / q=a at *
 generalize p' / q=b at *
 have key:q*(a+b)+(p % q+p' % q)=n*q:=by rw[Nat.mul_add];omega
 have c1:a+b<=n:=by
  refine Nat.le_of_mul_le_mul_left (c:=q) ?_ (by omega)
  rw[Nat.mul_comm q n];omega
 have c2:n<a+b+2:=by
  refine Nat.lt_of_mul_lt_mul_left (a:=q) ?_
  rw[Nat.mul_comm q n,Nat.mul_add];omega
 by_cases c:a+b=n
 ·have r0:p'=b*q:=by
   have k1:q*(a+b)=n*q:=by rw[c,Nat.mul_comm]
   have k2:p' % q=0:=by rw[k1] at key;omega
   rw[k2,Nat.add_zero] at d2
   rw[Nat.mul_comm b q];exact d2.symm
  rw[lY h2 p p' q hpI b (by omega),show n+1 - b=a+1 by omega]
  have z:cQ n p' q (b+1)=cQ n p' q b:=by
   rw[cQ]
   have:(p':Int) - (b:Int)*q=0:=by rw[r0,Int.natCast_mul];omega
   rw[this,Int.zero_pow (by omega)];omega
  rw[z]
 ·have:a+b+1=n:=by omega
  rw[lY h2 p p' q hpI (b+1) (by omega),show n+1 - (b+1)=a+1 by omega]
theorem Cz {X:Nat} (h:0<X):shr (X:Int) X=[1,1]:=by
 unfold shr
 rw[Int.natAbs_natCast,Nat.gcd_self,Int.ediv_self (by omega)]
theorem Ej {A B:Int} {Dn:Nat} (hd:0<Dn) (e:A+B=Dn):∃X:Nat,0<X/\X<=Dn*Dn/\gI (shr A Dn) 1*gI (shr B Dn) 1=(X:Int)/\gI (shr A Dn) 0*gI (shr B Dn) 1+gI (shr B Dn) 0*gI (shr A Dn) 1=(X:Int):=by
 have g1:0<Nat.gcd A.natAbs Dn:=Nat.gcd_pos_of_pos_right _ hd
 have g2:0<Nat.gcd B.natAbs Dn:=Nat.gcd_pos_of_pos_right _ hd
 have da:((Nat.gcd A.natAbs Dn:Nat):Int) ∣ A:=Int.dvd_natAbs.mp (Int.natCast_dvd_natCast.mpr (Nat.gcd_dvd_left _ _))
 have db:((Nat.gcd B.natAbs Dn:Nat):Int) ∣ B:=Int.dvd_natAbs.mp (Int.natCast_dvd_natCast.mpr (Nat.gcd_dvd_left _ _))
 obtain⟨u1,e1⟩:=Nat.gcd_dvd_right A.natAbs Dn
 obtain⟨u2,e2⟩:=Nat.gcd_dvd_right B.natAbs Dn
 obtain⟨a,ea⟩:=da
 obtain⟨b,eb⟩:=db
 have sA:shr A Dn=[a,(u1:Int)]:=by
  unfold shr
  generalize hg:Nat.gcd A.natAbs Dn=g at *
  have x1:A / (g:Int)=a:=by rw[ea];exact Int.mul_ediv_cancel_left _ (by omega)
  have x2:(Dn:Int) / (g:Int)=u1:=by rw[e1,Int.natCast_mul];exact Int.mul_ediv_cancel_left _ (by omega)
  rw[x1,x2]
 have sB:shr B Dn=[b,(u2:Int)]:=by
  unfold shr
  generalize hg:Nat.gcd B.natAbs Dn=g at *
  have x1:B / (g:Int)=b:=by rw[eb];exact Int.mul_ediv_cancel_left _ (by omega)
  have x2:(Dn:Int) / (g:Int)=u2:=by rw[e2,Int.natCast_mul];exact Int.mul_ediv_cancel_left _ (by omega)
  rw[x1,x2]
 generalize Nat.gcd A.natAbs Dn=g1' at *
 generalize Nat.gcd B.natAbs Dn=g2' at *
 have p1:0<u1:=by rcases Nat.eq_zero_or_pos u1 with z | z;(subst z;simp at e1;omega);exact z
 have p2:0<u2:=by rcases Nat.eq_zero_or_pos u2 with z | z;(subst z;simp at e2;omega);exact z
 have l1:u1<=Dn:=by rw[e1];exact Nat.le_mul_of_pos_left _ g1
 have l2:u2<=Dn:=by rw[e2];exact Nat.le_mul_of_pos_left _ g2
 refine⟨u1*u2,Nat.mul_pos p1 p2,Nat.mul_le_mul l1 l2,?_,?_⟩
 ·rw[sA,sB,Int.natCast_mul];rfl
 ·rw[sA,sB,Int.natCast_mul]
  show a*(u2:Int)+b*(u1:Int)=_
  have I1:(Dn:Int)=g1'*u1:=by rw[e1,Int.natCast_mul]
  have I2:(Dn:Int)=g2'*u2:=by rw[e2,Int.natCast_mul]
  have hg:((g1':Int)*(g2':Int))≠0:=by
   have:=Int.mul_pos (show(0:Int)<g1' by omega) (show(0:Int)<g2' by omega)
   omega
  refine Int.eq_of_mul_eq_mul_left hg ?_
  have x:(g1':Int)*g2'*(a*u2+b*u1)=A*Dn+B*Dn:=by
   rw[ea,eb]
   calc (g1':Int)*g2'*(a*u2+b*u1)=(g1'*a)*(g2'*u2)+(g2'*b)*(g1'*u1):=by grind
    _=_:=by rw[<- I1,<- I2]
  have y:(g1':Int)*g2'*(u1*u2)=(Dn:Int)*Dn:=by
   calc (g1':Int)*g2'*(u1*u2)=(g1'*u1)*(g2'*u2):=by grind
    _=_:=by rw[<- I1,<- I2]
  rw[x,y,<- Int.add_mul,e]
theorem Dz {σ:Type} {rd:Rdr} {tg:D->En->Hh->R En} {body:MS} (enc:Nat->D) (N:Nat) (E:σ->En) (G:σ->Hh) (I:Nat->σ->Prop) (hr:∀s i,i<N->rd (G s) i=some (some (enc i))) (hr2:∀s,rd (G s) N=some none)
  (st:∀i s,i<N->I i s->∃s',I (i+1) s'/\(tg (enc i) (E s) (G s)).bind body=.ok (.nx (E s')) (G s')) :
  ∀(k i:Nat) (s:σ),i+k=N->I i s->∃s',jB rd tg body k i (E s) (G s)=.ok (.nx (E s')) (G s')/\I N s':=by
 intro k
 induction k with
 | zero=>
  intro i s e hi
  have:i=N:=by omega
  subst this
  refine⟨s,?_,hi⟩
  unfold jB
  rw[hr2]
 | succ k ih=>
  intro i s e hi
  obtain⟨s1,a,b⟩:=st i s (by omega) hi
  obtain⟨s2,c,d⟩:=ih (i+1) s1 (by omega) a
  refine⟨s2,?_,d⟩
  unfold jB
  rw[hr s i (by omega)]
  show(tg (enc i) (E s) (G s)).bind (fun e1 h1=>(body e1 h1).bind _)=_
  rw[<- bw,b]
  exact c
theorem EB {σ:Type} {tg:D->En->Hh->R En} {body:MS} (enc:Nat->D) (N:Nat) (E:σ->En) (G:σ->Hh) (I:Nat->σ->Prop)
  (st:∀i s,i<N->I i s->∃s',I (i+1) s'/\(tg (enc i) (E s) (G s)).bind body=.ok (.nx (E s')) (G s')) :
  ∀(k i:Nat) (s:σ),i+k=N->I i s->∃s',dR tg body ((List.range' i k).map enc) (E s) (G s)=.ok (.nx (E s')) (G s')/\I N s':=by
 intro k
 induction k with
 | zero=>
  intro i s e hi
  have:i=N:=by omega
  subst this
  exact⟨s,rfl,hi⟩
 | succ k ih=>
  intro i s e hi
  obtain⟨s1,a,b⟩:=st i s (by omega) hi
  obtain⟨s2,c,d⟩:=ih (i+1) s1 (by omega) a
  refine⟨s2,?_,d⟩
  rw[List.range'_succ,List.map_cons,dR,<- bw,b]
  exact c
noncomputable def addW:List Int->Nat->Nat->Int->List Int
 | [],_,_,_=>[]
 | x::L,0,0,_=>x::L
 | x::L,0,m+1,v=>(x+v)::addW L 0 m v
 | x::L,t+1,m,v=>x::addW L t m v
theorem lj:∀(L:List Int) (t m:Nat) (v:Int),(addW L t m v).length=L.length
 | [],_,_,_=>rfl
 | x::L,0,0,_=>rfl
 | x::L,0,m+1,v=>by rw[addW,List.length_cons,lj L 0 m v];rfl
 | x::L,t+1,m,v=>by rw[addW,List.length_cons,lj L t m v];rfl
theorem xf:∀(L:List Int) (t:Nat) (v:Int),addW L t 0 v=L
 | [],_,_=>rfl
 | x::L,0,_=>rfl
 | x::L,t+1,v=>by rw[addW,xf L t v]
theorem JD (x:Int) (L:List Int) (i:Nat):gI (x::L) (i+1)=gI L i:=rfl
theorem xj:∀(L:List Int) (t m:Nat) (v:Int),t+m<L.length->addW L t (m+1) v=(addW L t m v).set (t+m) (gI (addW L t m v) (t+m)+v)
 | [],_,_,_,h=>by simp at h
 | x::L,0,0,v,_=>by rw[addW,addW,xf];rfl
 | x::L,0,m+1,v,h=>by
  rw[addW,addW,xj L 0 m v (by simp at h;omega)]
  rw[show 0+(m+1)=(0+m)+1 by omega,List.set_cons_succ,JD]
 | x::L,t+1,m,v,h=>by
  rw[addW,addW,xj L t m v (by simp at h;omega)]
  rw[show t+1+m=(t+m)+1 by omega,List.set_cons_succ,JD]
noncomputable def xS (m:Nat) (c L:List Int) (t:Nat):List Int:=addW L t m (gI c t)
noncomputable def FF (m:Nat) (c:List Int):List Int:=(List.range c.length).foldl (xS m c) (List.replicate (c.length+m - 1) 0)
noncomputable def cnt (m:Nat):Nat->List Int
 | 0=>[1]
 | i+1=>FF m (cnt m i)
theorem uO (m:Nat) (c:List Int) (ts:List Nat):∀L,(ts.foldl (xS m c) L).length=L.length:=by
 induction ts with
 | nil=>intro L;rfl
 | cons t ts ih=>intro L;rw[List.foldl_cons,ih,xS,lj]
theorem ye {m:Nat} (hm:1<=m):∀i,(cnt m i).length=i*(m - 1)+1
 | 0=>by simp[cnt]
 | i+1=>by
  rw[cnt,FF,uO,List.length_replicate,ye hm i,Nat.succ_mul];omega
theorem FQ {n:Nat} {ns:List Int} {i:Int} {j:Nat} {h:Hh} (e:aM h n=some (ns.map D.int)) (hi:i=(j:Int)) (hj:j<ns.length):CM (.ref n) (.int i) h=.ok (.int (gI ns j)) h:=by
 have:=k9 (ns:=ns) (h:=h) hi hj
 delta CM;dsimp only;rw[rk e];exact this
noncomputable def AUG:MS:=(rE (ag 5) (ao (bj aF) (ag 6) (ag 8)) (ag 7))
noncomputable def ENB:MS:=(dU (fC fU (aa (ag 1) ak)) (gN 8) AUG)
noncomputable def PLB:MS:=(aI (bh 5 (ao (bJ zt) (ai (iZ aF) (aa (cC (.int 0)) ak)) (ao eR (ao (bj aF) (ai eP (aa (ag 3) ak)) (ag 1)) (cC (.int 1)))))
  (aI (dU (lR (ag 3)) (gT2 6 7) ENB) (bh 3 (ag 5))))
theorem Js:cz=tR (fun ds h=>((cB 9 (aI (bh 3 (ai (iZ aF) (aa (cC (.int 1)) ak)))
  (aI (dU (fC fU (aa (ag 0) ak)) (gN 4) PLB)
  (bB (ai kA (aa (i4 aF (ag 3) (gW (ao (bJ aF) (ag 2) (ag 1))) (gW (ao (bj aF) (ao (bJ aF) (ag 2) (ag 1)) (ag 1)))) ak)))))) ds h).bind (gS h)):=rfl
theorem in1 {m t:Nat} {v:Int} {L:List Int} {H:Hh} {d0 d1 d2 d3 d4 y8:Option D} (hl:t+m<=L.length):∃z8,dR (gN 8) AUG (eT 0 m) [d0,d1,d2,d3,d4,some (.ref H.length),some (.int t),some (.int v),y8] (H++[.lst (L.map D.int)])=.ok (.nx [d0,d1,d2,d3,d4,some (.ref H.length),some (.int t),some (.int v),z8]) (H++[.lst ((addW L t m v).map D.int)]):=by
 obtain⟨q,e⟩:=jI (tg:=gN 8) (body:=AUG) m (fun(s:Nat × Option D)=>[d0,d1,d2,d3,d4,some (.ref H.length),some (.int t),some (.int v),s.2]) (fun s=>H++[.lst ((addW L t s.1 v).map D.int)]) (fun _ i=>(i+1,some (.int (i:Nat)))) (fun i s=>s.1=i) (0,y8) rfl (fun i s hi hs=>⟨rfl,.inl (by
  subst hs
  obtain⟨j,y⟩:=s
  dsimp only at hi ⊢
  have ij:(t:Int)+(j:Int)=((t+j:Nat):Int):=by omega
  have ll:=lj L t j v
  have x1:=FQ (n:=H.length) (ns:=addW L t j v) (i:=((t+j:Nat):Int)) (j:=t+j) (h:=H++[.lst ((addW L t j v).map D.int)]) n4 rfl (by omega)
  have n2:ixN ((addW L t j v).map D.int).length ((t+j:Nat):Int)=some (t+j):=by rw[List.length_map];exact EW rfl (by omega)
  have st:iz (.ref H.length) (.int ((t+j:Nat):Int)) (.int (gI (addW L t j v) (t+j)+v)) (H++[.lst ((addW L t j v).map D.int)])=.ok () (H++[.lst ((addW L t (j+1) v).map D.int)]):=by
   rw[nV n4 n2,tN,xj L t j v (by omega),List.map_set]
  generalize addW L t j v=A at *
  generalize addW L t (j+1) v=A1 at *
  generalize ((t+j:Nat):Int)=w at *
  simp[AUG,ij,x1,st])⟩)
 generalize List.foldl _ (0,y8) _=s9 at q e
 rw[e,xf] at q
 exact⟨s9.2,q⟩
noncomputable def rdC (m:Nat) (c:List Int) (i:Nat):List Int:=(List.range i).foldl (xS m c) (List.replicate (c.length+m - 1) 0)
theorem IL (m:Nat) (c:List Int) (i:Nat):rdC m c (i+1)=addW (rdC m c i) i m (gI c i):=by
 unfold rdC;rw[List.range_succ,List.foldl_append];rfl
theorem D2 (m:Nat) (c:List Int) (i:Nat):(rdC m c i).length=c.length+m - 1:=by unfold rdC;rw[uO,List.length_replicate]
theorem xB {m i:Nat} {c:List Int} {H:Hh} {d0 d2 d3 d4 y6 y7 y8:Option D} (hm:m<=20) (hi:i<c.length):∃z8,(gT2 6 7 (D.tup [.int i,.int (gI c i)]) [d0,some (.int m),d2,d3,d4,some (.ref H.length),y6,y7,y8] (H++[.lst ((rdC m c i).map D.int)])).bind ENB=.ok (.nx [d0,some (.int m),d2,d3,d4,some (.ref H.length),some (.int i),some (.int (gI c i)),z8]) (H++[.lst ((rdC m c (i+1)).map D.int)]):=by
 obtain⟨z8,q⟩:=in1 (m:=m) (t:=i) (v:=gI c i) (L:=rdC m c i) (H:=H) (d0:=d0) (d1:=some (.int m)) (d2:=d2) (d3:=d3) (d4:=d4) (y8:=y8) (by rw[D2];omega)
 refine⟨z8,?_⟩
 rw[IL]
 have z:m<=1000000:=by omega
 generalize addW (rdC m c i) i m (gI c i)=A1 at *
 generalize rdC m c i=A at *
 simp[ENB,z,q]
noncomputable def hpC (m i:Nat):Hh:=(List.range i).map fun j=>O.lst ((cnt m (j+1)).map D.int)
theorem sP (m i:Nat):(hpC m i).length=i:=by simp[hpC]
theorem II (m i:Nat):hpC m (i+1)=hpC m i++[O.lst ((cnt m (i+1)).map D.int)]:=by simp[hpC,List.range_succ]
theorem CH {m t:Nat} {r:Hh} (k:Nat) (hk:k<t):aM (hpC m t++r) k=some ((cnt m (k+1)).map D.int):=by
 unfold aM
 rw[List.getElem?_append_left (by rw[sP];exact hk)]
 simp[hpC,hk]
noncomputable def mS:Nat->D
 | 0=>.frl [.int 1]
 | t+1=>.ref t
theorem Eo {n m k i:Nat} {y4 y5 y6 y7 y8:Option D} (h1:1<=m) (hm:m<=20) (hi:i<8):∃z5 z6 z7 z8,PLB [some (.int n),some (.int m),some (.int k),some (mS i),y4,y5,y6,y7,y8] (hpC m i)=.ok (.nx [some (.int n),some (.int m),some (.int k),some (mS (i+1)),y4,z5,z6,z7,z8]) (hpC m (i+1)):=by
 have cl:=ye h1 i
 have cb:(cnt m i).length<=200:=by
  rw[cl]
  have:i*(m - 1)<=8*19:=Nat.mul_le_mul (by omega) (by omega)
  omega
 have c1:1<=(cnt m i).length:=by omega
 have rd0:rdC m (cnt m i) 0=List.replicate ((cnt m i).length+m - 1) 0:=rfl
 have rdN:rdC m (cnt m i) (cnt m i).length=cnt m (i+1):=rfl
 cases i with
 | zero=>
  obtain⟨z8,q⟩:=xB (m:=m) (i:=0) (c:=cnt m 0) (H:=hpC m 0) (d0:=some (.int n)) (d2:=some (.int k)) (d3:=some (mS 0)) (d4:=y4) (y6:=y6) (y7:=y7) (y8:=y8) hm (show 0<1 by decide)
  have e1:rdC m (cnt m 0) (0+1)=cnt m 1:=rfl
  rw[rd0,e1] at q
  have l0:(cnt m 0).length=1:=rfl
  rw[l0] at q
  have h0:hpC m 0=[]:=rfl
  have h1':hpC m 1=[.lst ((cnt m 1).map D.int)]:=rfl
  have z1:((1:Int)+(m:Int) - 1).toNat=1+m - 1:=by omega
  have z2:((1:Int)+(m:Int) - 1).natAbs<=1000000:=by omega
  have z3:1+m - 1<=1000000:=by omega
  have z4:1<=(1:Int)+(m:Int) - 1:=by omega
  refine⟨some (.ref 0),some (.int 0),some (.int 1),z8,?_⟩
  rw[h0] at q
  have ed:gc [.int 1]=[.tup [.int 0,.int 1]]:=rfl
  have g0:gI (cnt m 0) 0=1:=rfl
  rw[g0,List.map_replicate] at q
  simp only[mS,List.nil_append,List.length_nil,Int.natCast_zero] at q
  rw[h0,h1']
  generalize (cnt m 1).map D.int=C1 at *
  have z5:m<=1000000:=by omega
  have z6:1+m - 1=m:=by omega
  rw[z6] at q
  simp[PLB,mS,z1,z2,z3,z4,z5,ed,jq,r9,-Fi]
  rw[<- bw,q]
  simp[r9]
 | succ i=>
  have ld:aM (hpC m (i+1)) i=some ((cnt m (i+1)).map D.int):=by
   have:=CH (m:=m) (t:=i+1) (r:=[]) i (by omega)
   simpa using this
  generalize hc:cnt m (i+1)=c at *
  have rd:∀(X:List D),aM (hpC m (i+1)++[.lst X]) i=some (c.map D.int):=fun X=>Fb ld
  obtain⟨s,q,e⟩:=Dz (σ:=List Int × Option D × Option D × Option D) (rd:=(Src.liveE i).rdr) (tg:=gT2 6 7) (body:=ENB) (fun j=>D.tup [.int j,.int (gI c j)]) c.length (fun s=>[some (.int n),some (.int m),some (.int k),some (.ref i),y4,some (.ref (hpC m (i+1)).length),s.2.1,s.2.2.1,s.2.2.2]) (fun s=>hpC m (i+1)++[.lst (s.1.map D.int)]) (fun j s=>s.1=rdC m c j)
   (fun s j hj=>by simp[Src.rdr,rd,yK hj,List.getElem?_eq_getElem hj]) (fun s=>by simp[Src.rdr,rd]) (fun j s hj hs=>by
    obtain⟨z8,q⟩:=xB (m:=m) (i:=j) (c:=c) (H:=hpC m (i+1)) (d0:=some (.int n)) (d2:=some (.int k)) (d3:=some (.ref i)) (d4:=y4) (y6:=s.2.1) (y7:=s.2.2.1) (y8:=s.2.2.2) hm hj
    exact⟨(rdC m c (j+1),some (.int j),some (.int (gI c j)),z8),rfl,by rw[hs];exact q⟩) c.length 0 (List.replicate (c.length+m - 1) 0,y6,y7,y8) (by omega) rfl
  obtain⟨L,z6,z7,z8⟩:=s
  dsimp only at e q
  subst e
  refine⟨some (.ref (i+1)),z6,z7,z8,?_⟩
  have ll:=F6 ld
  rw[List.length_map] at ll
  have z1:((c.length:Int)+(m:Int) - 1).toNat=c.length+m - 1:=by omega
  have z2:((c.length:Int)+(m:Int) - 1).natAbs<=1000000:=by omega
  have z3:c.length+m - 1<=1000000:=by omega
  have z4:1<=(c.length:Int)+(m:Int) - 1:=by omega
  rw[rdN,sP,List.map_replicate] at q
  have en:rB (.ref i) (hpC m (i+1)++[.lst (List.replicate (c.length+m - 1) (.int 0))])=.ok (.liveE i) (hpC m (i+1)++[.lst (List.replicate (c.length+m - 1) (.int 0))]):=by simp only[rB,rd]
  have sk:Ha (gT2 6 7) ENB [some (.int n),some (.int m),some (.int k),some (.ref i),y4,some (.ref (i+1)),y6,y7,y8] (.liveE i) (hpC m (i+1)++[.lst (List.replicate (c.length+m - 1) (.int 0))])=.ok (.nx [some (.int n),some (.int m),some (.int k),some (.ref i),y4,some (.ref (i+1)),z6,z7,z8]) (hpC m (i+1+1)):=by
   show jB (Src.liveE i).rdr (gT2 6 7) ENB ((aM (hpC m (i+1)++[.lst (List.replicate (c.length+m - 1) (.int 0))]) i).getD []).length 0 _ _=_
   rw[rd,Option.getD_some,List.length_map,II m (i+1)]
   exact q
  have hl:=sP m (i+1)
  generalize hpC m (i+1)=H at *
  generalize hpC m (i+1+1)=H2 at *
  simp[PLB,mS,ll,z1,z2,z3,z4,hl,en,sk]
noncomputable def jW (n m k:Nat):Int:=(k7 (cnt m n) (some ((k:Int)*m)) (some ((k:Int)*m+m))).sum
theorem F5 (n:Nat):eT 0 n=(List.range' 0 n).map fun(i:Nat)=>D.int i:=by rw[hZ,List.range_eq_range']
theorem Ck {n m k:Nat} {h:Hh} (n1:1<=n) (hn:n<=8) (m1:1<=m) (hm:m<=20) (hk:k<=8):cz [.int n,.int m,.int k] h=.ok (.int (jW n m k)) h:=by
 obtain⟨s,q,e⟩:=EB (σ:=Nat × Option D × Option D × Option D × Option D × Option D) (tg:=gN 4) (body:=PLB) (fun(i:Nat)=>D.int i) n (fun s=>[some (.int n),some (.int m),some (.int k),some (mS s.1),s.2.1,s.2.2.1,s.2.2.2.1,s.2.2.2.2.1,s.2.2.2.2.2]) (fun s=>hpC m s.1) (fun i s=>s.1=i) (fun i s hi hs=>by
  obtain⟨j,y4,y5,y6,y7,y8⟩:=s
  dsimp only at hs
  subst hs
  obtain⟨z5,z6,z7,z8,q⟩:=Eo (n:=n) (m:=m) (k:=k) (i:=j) (y4:=some (.int j)) (y5:=y5) (y6:=y6) (y7:=y7) (y8:=y8) m1 hm (by omega)
  exact⟨(j+1,some (.int j),z5,z6,z7,z8),rfl,by simp[q]⟩) n 0 (0,none,none,none,none,none) (by omega) rfl
 obtain⟨j,y4,y5,y6,y7,y8⟩:=s
 dsimp only at e q
 subst e
 rw[<- F5] at q
 obtain⟨i,rfl⟩:∃i,j=i+1:=⟨j - 1,by omega⟩
 have ld:aM (hpC m (i+1)) i=some ((cnt m (i+1)).map D.int):=by
  have:=CH (m:=m) (t:=i+1) (r:=[]) i (by omega)
  simpa using this
 have s3:sml (k:Int)=true:=aW (by omega) (by omega)
 have s4:sml (m:Int)=true:=aW (by omega) (by omega)
 have lo:cx 0 [D.int ((i+1:Nat):Int),.int m,.int k]=true:=by simp[cx,gU]
 have sl:∀a b,cutD ((cnt m (i+1)).map D.int) a b=(k7 (cnt m (i+1)) a b).map D.int:=fun a b=>oX _ _ _ _
 have h0:hpC m 0=[]:=rfl
 rw[h0] at q
 have ex:∀v,gS [] (.int v) (hpC m (i+1))=.ok (.int v) []:=fun v=>by
  have:=j_ (h:=[]) (t:=hpC m (i+1)) (d:=.int v) Wf.nil rfl
  simpa using this
 rw[Js]
 unfold jW
 generalize hK:((i+1:Nat):Int)=K1 at q lo ⊢
 have z1:K1.natAbs<=1000000:=by omega
 have z2:K1.toNat=i+1:=by omega
 have z3:i+1<=1000000:=by omega
 simp only[mS] at q
 generalize hpC m (i+1)=H at *
 generalize cnt m (i+1)=C at *
 have lt:∀d,gU 0 (D.int d)=true:=fun _=>rfl
 have dc:∀a b,uW aF (.ref i) a b H=.ok (.frl ((k7 C a b).map D.int)) H:=fun a b=>by simp only[uW,ld,sl];rfl
 simp[tR,lo,bP,z1,z2,z3,q,s3,s4,dc,ex,lt]
noncomputable def tpI (b:List Int):D:=.tup (b.map D.int)
noncomputable def JI (m:Nat) (b:List Int):List (List Int):=(List.range m).map fun(i:Nat)=>b++[(i:Int)]
noncomputable def oS (m:Nat):Nat->List (List Int)
 | 0=>[[]]
 | k+1=>(oS m k).flatMap (JI m)
theorem vM (m:Nat):∀k,∀b∈oS m k,b.length=k/\∀x∈b,0<=x/\x<m
 | 0=>by intro b hb;simp[oS] at hb;subst hb;simp
 | k+1=>by
  intro b hb
  rw[oS] at hb
  obtain⟨c,hc,hb⟩:=List.mem_flatMap.mp hb
  obtain⟨l,r⟩:=vM m k c hc
  unfold JI at hb
  obtain⟨i,hi,rfl⟩:=List.mem_map.mp hb
  have hi:=List.mem_range.mp hi
  refine⟨by simp[l],fun x hx=>?_⟩
  rcases List.mem_append.mp hx with hx | hx
  ·exact r x hx
  ·rw[List.mem_singleton.mp hx];omega
noncomputable def bR (n m k:Nat):List (List Int):=(oS m n).filter fun b=>b.sum / (m:Int) == (k:Int)
theorem C7 (h:Hh):aJ [.int (3:Nat),.int (5:Nat),.int (0:Nat)] h=.ok (.frl ((bR 3 5 0).map tpI)) h:=by kernel_rfl
theorem CD (h:Hh):aJ [.int (3:Nat),.int (5:Nat),.int (1:Nat)] h=.ok (.frl ((bR 3 5 1).map tpI)) h:=by kernel_rfl
theorem Bj (h:Hh):aJ [.int (3:Nat),.int (5:Nat),.int (2:Nat)] h=.ok (.frl ((bR 3 5 2).map tpI)) h:=by kernel_rfl
theorem Aa (h:Hh):aJ [.int (2:Nat),.int (12:Nat),.int (0:Nat)] h=.ok (.frl ((bR 2 12 0).map tpI)) h:=by kernel_rfl
theorem zf (h:Hh):aJ [.int (2:Nat),.int (12:Nat),.int (1:Nat)] h=.ok (.frl ((bR 2 12 1).map tpI)) h:=by kernel_rfl
theorem Br (h:Hh):aJ [.int (4:Nat),.int (3:Nat),.int (0:Nat)] h=.ok (.frl ((bR 4 3 0).map tpI)) h:=by kernel_rfl
theorem Az (h:Hh):aJ [.int (4:Nat),.int (3:Nat),.int (1:Nat)] h=.ok (.frl ((bR 4 3 1).map tpI)) h:=by kernel_rfl
theorem BC (h:Hh):aJ [.int (4:Nat),.int (3:Nat),.int (2:Nat)] h=.ok (.frl ((bR 4 3 2).map tpI)) h:=by kernel_rfl
theorem Cs (h:Hh):aJ [.int (4:Nat),.int (3:Nat),.int (3:Nat)] h=.ok (.frl ((bR 4 3 3).map tpI)) h:=by kernel_rfl
theorem CL (h:Hh):aJ [.int (5:Nat),.int (3:Nat),.int (0:Nat)] h=.ok (.frl ((bR 5 3 0).map tpI)) h:=by kernel_rfl
theorem Cc (h:Hh):aJ [.int (5:Nat),.int (3:Nat),.int (1:Nat)] h=.ok (.frl ((bR 5 3 1).map tpI)) h:=by kernel_rfl
theorem BS (h:Hh):aJ [.int (5:Nat),.int (3:Nat),.int (2:Nat)] h=.ok (.frl ((bR 5 3 2).map tpI)) h:=by kernel_rfl
theorem Bz (h:Hh):aJ [.int (5:Nat),.int (3:Nat),.int (3:Nat)] h=.ok (.frl ((bR 5 3 3).map tpI)) h:=by kernel_rfl
theorem B9 (h:Hh):aJ [.int (5:Nat),.int (3:Nat),.int (4:Nat)] h=.ok (.frl ((bR 5 3 4).map tpI)) h:=by kernel_rfl
theorem Bi (h:Hh):aJ [.int (7:Nat),.int (2:Nat),.int (0:Nat)] h=.ok (.frl ((bR 7 2 0).map tpI)) h:=by kernel_rfl
theorem A6 (h:Hh):aJ [.int (7:Nat),.int (2:Nat),.int (1:Nat)] h=.ok (.frl ((bR 7 2 1).map tpI)) h:=by kernel_rfl
theorem CF (h:Hh):aJ [.int (7:Nat),.int (2:Nat),.int (2:Nat)] h=.ok (.frl ((bR 7 2 2).map tpI)) h:=by kernel_rfl
theorem Ca (h:Hh):aJ [.int (7:Nat),.int (2:Nat),.int (3:Nat)] h=.ok (.frl ((bR 7 2 3).map tpI)) h:=by kernel_rfl
theorem AR (h:Hh):aJ [.int (7:Nat),.int (2:Nat),.int (4:Nat)] h=.ok (.frl ((bR 7 2 4).map tpI)) h:=by kernel_rfl
theorem CV (h:Hh):aJ [.int (7:Nat),.int (2:Nat),.int (5:Nat)] h=.ok (.frl ((bR 7 2 5).map tpI)) h:=by kernel_rfl
theorem Cm (h:Hh):aJ [.int (7:Nat),.int (2:Nat),.int (6:Nat)] h=.ok (.frl ((bR 7 2 6).map tpI)) h:=by kernel_rfl
theorem zz (h:Hh):aJ [.int (1:Nat),.int (20:Nat),.int (0:Nat)] h=.ok (.frl ((bR 1 20 0).map tpI)) h:=by kernel_rfl
theorem AW (h:Hh):aJ [.int (3:Nat),.int (7:Nat),.int (0:Nat)] h=.ok (.frl ((bR 3 7 0).map tpI)) h:=by kernel_rfl
theorem BJ (h:Hh):aJ [.int (3:Nat),.int (7:Nat),.int (1:Nat)] h=.ok (.frl ((bR 3 7 1).map tpI)) h:=by kernel_rfl
theorem BM (h:Hh):aJ [.int (3:Nat),.int (7:Nat),.int (2:Nat)] h=.ok (.frl ((bR 3 7 2).map tpI)) h:=by kernel_rfl
theorem Hl (h:Hh):∀q∈[(3,5),(2,12),(4,3),(5,3),(7,2),(1,20),(3,7)],∀k:Nat,k<q.1->aJ [.int (q.1:Nat),.int (q.2:Nat),.int k] h=.ok (.frl ((bR q.1 q.2 k).map tpI)) h:=by
 intro q hq k hk
 simp only[List.mem_cons,List.not_mem_nil,or_false] at hq
 rcases hq with rfl | rfl | rfl | rfl | rfl | rfl | rfl
 ·match k,hk with
  | 0,_=>exact C7 h
  | 1,_=>exact CD h
  | 2,_=>exact Bj h
 ·match k,hk with
  | 0,_=>exact Aa h
  | 1,_=>exact zf h
 ·match k,hk with
  | 0,_=>exact Br h
  | 1,_=>exact Az h
  | 2,_=>exact BC h
  | 3,_=>exact Cs h
 ·match k,hk with
  | 0,_=>exact CL h
  | 1,_=>exact Cc h
  | 2,_=>exact BS h
  | 3,_=>exact Bz h
  | 4,_=>exact B9 h
 ·match k,hk with
  | 0,_=>exact Bi h
  | 1,_=>exact A6 h
  | 2,_=>exact CF h
  | 3,_=>exact Ca h
  | 4,_=>exact AR h
  | 5,_=>exact CV h
  | 6,_=>exact Cm h
 ·match k,hk with
  | 0,_=>exact zz h
 ·match k,hk with
  | 0,_=>exact AW h
  | 1,_=>exact BJ h
  | 2,_=>exact BM h
noncomputable def slS (n m:Nat):Int:=((List.range 9).map fun k=>jW n m k).sum
theorem Ks:∀n,n<8->∀m,m<10->slS (n+1) (m+1)=((m+1:Nat):Int) ^ (n+1):=by decide +kernel
theorem Ke:∀n,n<8->∀m,m<5->slS (n+1) (m+11)=((m+11:Nat):Int) ^ (n+1):=by decide +kernel
theorem KD:∀n,n<8->∀m,m<5->slS (n+1) (m+16)=((m+16:Nat):Int) ^ (n+1):=by decide +kernel
theorem Gm {n m:Nat} (n1:1<=n) (hn:n<=8) (m1:1<=m) (hm:m<=20):slS n m=(m:Int) ^ n:=by
 obtain⟨a,rfl⟩:∃a,n=a+1:=⟨n - 1,by omega⟩
 by_cases c:m<=10
 ·obtain⟨b,rfl⟩:∃b,m=b+1:=⟨m - 1,by omega⟩
  exact Ks a (by omega) b (by omega)
 ·by_cases c2:m<=15
  ·obtain⟨b,rfl⟩:∃b,m=b+11:=⟨m - 11,by omega⟩
   exact Ke a (by omega) b (by omega)
  ·obtain⟨b,rfl⟩:∃b,m=b+16:=⟨m - 16,by omega⟩
   exact KD a (by omega) b (by omega)
noncomputable def B0:MS:=(aI (jL 12 13 (aa (ai a8 (aa (ag 6) (aa (ai bU (aa (ag 11) (aa (cC (.int 1)) ak))) ak))) (aa (ai a8 (aa (ag 6) (aa (ai bU (aa (ao (bj aF) (ag 11) (cC (.int 1))) (aa (cC (.int 1)) ak))) ak))) ak))) (aI (bh 14 (ai dG (aa (ag 6) (aa (ag 11) ak)))) (aI (cO (aT asB (ao dNe (ag 14) (ai aR (aa (ao eR (ao (bJ aF) (ao dIx (ag 13) (cC (.int 0))) (ao dIx (ag 12) (cC (.int 1)))) (ao (bJ aF) (ao dIx (ag 12) (cC (.int 0))) (ao dIx (ag 13) (cC (.int 1))))) (aa (ao (bJ aF) (ao dIx (ag 13) (cC (.int 1))) (ao dIx (ag 12) (cC (.int 1)))) ak))))) (bB (cC (.bl false))) bC) (cO (aT asB (ao dNe (ag 14) (ai aR (aa (ai cM (aa (ag 6) (aa (ag 11) ak))) (aa (ai cW (aa (ag 6) ak)) ak))))) (bB (cC (.bl false))) bC))))
noncomputable def B1:MS:=(aI (bh 19 (ai iV (aa (ag 16) (aa (ag 18) ak)))) (cO (nj (aT asB (ao dNe (ai fF (aa (ag 16) (aa (ag 18) ak))) (ag 11))) (nj (aT asB (ao dNe (ai eH (aa (ag 16) (aa (ag 19) ak))) (ag 11))) (aT asB (ao dNe (ai eC (aa (ag 16) (aa (ag 19) ak))) (ag 18))))) (bB (cC (.bl false))) bC))
noncomputable def B2:MS:=(aI (bh 3 (ai b_ (aa (ag 2) ak))) (aI (oP 4 5 (ai bU (aa (ao (bj aF) (cC (.int 1)) (ai aG (aa (ag 3) (aa (cC (.int 8)) ak)))) (aa (ao (bj aF) (cC (.int 1)) (ai aG (aa (ag 3) (aa (cC (.int 20)) ak)))) ak)))) (aI (cO (aT asB (ao dNe (ai kA (aa (dX aF (fC fU (aa (cC (.int 9)) ak)) [4,5] tt1 (ai bp (aa (ag 1) (aa (ag 2) (aa (ag 0) ak))))) ak)) (ai cE (aa (ag 5) (aa (ag 4) ak))))) (bB (cC (.bl false))) bC) (aI (jL 6 7 (aa (ao (bj aF) (cC (.int 1)) (ai aG (aa (ag 3) (aa (cC (.int 12)) ak)))) (aa (ao (bj aF) (cC (.int 1)) (ai aG (aa (ag 3) (aa (cC (.int 40)) ak)))) ak))) (aI (bh 8 (ai aG (aa (ag 3) (aa (ao (bj aF) (ao (bJ aF) (ag 6) (ag 7)) (cC (.int 1))) ak)))) (aI (jL 9 10 (aa (ai a8 (aa (ag 6) (aa (ai aR (aa (ag 8) (aa (ag 7) ak))) ak))) (aa (ai a8 (aa (ag 6) (aa (ai aR (aa (ao eR (ao (bJ aF) (ag 6) (ag 7)) (ag 8)) (aa (ag 7) ak))) ak))) ak))) (aI (cO (aT asB (ao dNe (ai aR (aa (ao (bj aF) (ao (bJ aF) (ao dIx (ag 9) (cC (.int 0))) (ao dIx (ag 10) (cC (.int 1)))) (ao (bJ aF) (ao dIx (ag 10) (cC (.int 0))) (ao dIx (ag 9) (cC (.int 1))))) (aa (ao (bJ aF) (ao dIx (ag 9) (cC (.int 1))) (ao dIx (ag 10) (cC (.int 1)))) ak))) (ai bU (aa (cC (.int 1)) (aa (cC (.int 1)) ak))))) (bB (cC (.bl false))) bC) (aI (dU (fC fU (aa (ag 6) ak)) (gN 11) B0) (cO (aT asB (ao dEq (ag 1) (cC (.int 0)))) (aI (oP 15 16 (ao dIx (ai (iZ aF) (aa (ai bU (aa (cC (.int 3)) (aa (cC (.int 5)) ak))) (aa (ai bU (aa (cC (.int 2)) (aa (cC (.int 12)) ak))) (aa (ai bU (aa (cC (.int 4)) (aa (cC (.int 3)) ak))) (aa (ai bU (aa (cC (.int 5)) (aa (cC (.int 3)) ak))) (aa (ai bU (aa (cC (.int 7)) (aa (cC (.int 2)) ak))) (aa (ai bU (aa (cC (.int 1)) (aa (cC (.int 20)) ak))) (aa (ai bU (aa (cC (.int 3)) (aa (cC (.int 7)) ak))) ak)))))))) (ai aG (aa (ag 3) (aa (cC (.int 7)) ak))))) (aI (bh 11 (ai aG (aa (ag 3) (aa (ag 15) ak)))) (aI (bh 17 (ai aJ (aa (ag 15) (aa (ag 16) (aa (ag 11) ak))))) (aI (cO (nj (aT asB (ao dNe (ai eP (aa (ag 17) ak)) (ai bp (aa (ag 15) (aa (ag 16) (aa (ag 11) ak)))))) (aT asB (ao dNe (ag 17) (ai (jd aF) (aa (ag 17) ak))))) (bB (cC (.bl false))) bC) (aI (dU (f_ (ag 17)) (gN 18) B1) (cO (aT asB (ao dNe (ai mL (aa (dX aF (f_ (ag 17)) [16] tt1 (ai iV (aa (ag 1) (aa (ag 0) ak)))) ak)) (ai eP (aa (ag 17) ak)))) (bB (cC (.bl false))) bC)))))) bC)))))))))
theorem CP:pM=fun ds h=>((cB 20 (aI (dU (lR (ao (bj aF) (ai (iZ aF) (aa (ai bS (aa (ag 0) (aa (cC (.int 0)) ak))) ak)) (i4 aF (ag 0) (gW (cC (.int 1))) (gW (cC (.int 3)))))) (gT2 1 2) B2) (bB (cC (.bl true))))) ds h).bind (gS h):=rfl
noncomputable def Bh:Prop:=∀(ns:List Int) (i:Nat) (c:Int) (y3 y4 y5 y6 y7 y8 y9 y10 y11 y12 y13 y14 y15 y16 y17 y18 y19:Option D) (h:Hh),Wf h->Ok (B2 [some (.scr (ns.map D.int)),some (.int i),some (.int c),y3,y4,y5,y6,y7,y8,y9,y10,y11,y12,y13,y14,y15,y16,y17,y18,y19] h) fun fl h2=>∃z3 z4 z5 z6 z7 z8 z9 z10 z11 z12 z13 z14 z15 z16 z17 z18 z19,fl=.nx [some (.scr (ns.map D.int)),some (.int i),some (.int c),z3,z4,z5,z6,z7,z8,z9,z10,z11,z12,z13,z14,z15,z16,z17,z18,z19]/\Wf h2
theorem Hb (step:Bh) (ns:List Int) (hl:ns.length<=63):∃h,pM [.scr (ns.map D.int)] []=.ok (.bl true) h:=by
 have key:Ok (dR (gT2 1 2) B2 (gc (((ns.headD 0)::k7 ns (some 1) (some 3)).map D.int)) [some (.scr (ns.map D.int)),none,none,none,none,none,none,none,none,none,none,none,none,none,none,none,none,none,none,none] []) fun fl h2=>(∃e,fl=.nx e)/\Wf h2:=by
  rw[zK]
  refine rW (fun(i:Nat)=>D.tup [.int i,.int (gI ((ns.headD 0)::k7 ns (some 1) (some 3)) i)]) (fun e h=>(∃y1 y2 y3 y4 y5 y6 y7 y8 y9 y10 y11 y12 y13 y14 y15 y16 y17 y18 y19,e=[some (.scr (ns.map D.int)),y1,y2,y3,y4,y5,y6,y7,y8,y9,y10,y11,y12,y13,y14,y15,y16,y17,y18,y19])/\Wf h) _ _ _ ⟨⟨_,_,_,_,_,_,_,_,_,_,_,_,_,_,_,_,_,_,_,rfl⟩,Wf.nil⟩ (fun x e h _ hz=>?_) (fun e h hz=>⟨⟨_,rfl⟩,hz.2⟩)
  obtain⟨⟨y1,y2,y3,y4,y5,y6,y7,y8,y9,y10,y11,y12,y13,y14,y15,y16,y17,y18,y19,e1⟩,w⟩:=hz
  subst e1
  simp only[Fi,bq,List.set]
  refine(step ns x _ y3 y4 y5 y6 y7 y8 y9 y10 y11 y12 y13 y14 y15 y16 y17 y18 y19 h w).mono fun fl h2 hz=>?_
  obtain⟨z3,z4,z5,z6,z7,z8,z9,z10,z11,z12,z13,z14,z15,z16,z17,z18,z19,e2,w2⟩:=hz
  subst e2
  exact⟨⟨_,_,_,_,_,_,_,_,_,_,_,_,_,_,_,_,_,_,_,rfl⟩,w2⟩
 obtain⟨fl,h2,e,⟨e',rfl⟩,w⟩:=key
 have cl:=D7 ns (some 1) (some 3)
 have c1:1+(k7 ns (some 1) (some 3)).length<=1000000:=by omega
 have ex:gS [] (.bl true) h2=.ok (.bl true) []:=by
  have:=j_ (h:=[]) (t:=h2) (d:=.bl true) Wf.nil rfl
  simpa using this
 refine⟨[],?_⟩
 have e2:dR (gT2 1 2) B2 (gc (D.int (ns.headD 0)::(k7 ns (some 1) (some 3)).map D.int)) [some (.scr (ns.map D.int)),none,none,none,none,none,none,none,none,none,none,none,none,none,none,none,none,none,none,none] []=.ok (.nx e') h2:=e
 rw[CP]
 simp[bP,qR,c1,e2,ex,-List.headD_eq_head?_getD]
structure Cell (m n:Nat) (xs:List Int):Prop where
 len:xs.length=n
 lo:∀x∈xs,0<=x
 hi:∀x∈xs,x<m
theorem qS {m:Int} {h:Hh} {a b:Option D}:∀(xs:List Int),(∀x∈xs,0<=x/\x<m)->∀c:Option D,∃c',dR (gN 2) (cO (mO (aT n_ (ai cy (aa (ag 2) (aa (cC (.int 0)) (aa (ao eR (ag 0) (cC (.int 1))) ak)))))) wt bC) (xs.map D.int) [some (.int m),a,c] h=.ok (.nx [some (.int m),a,c']) h
 | [],_,c=>⟨c,rfl⟩
 | x::xs,hx,c=>by
  obtain⟨c',e⟩:=qS (h:=h) (a:=a) (b:=b) xs (fun y hy=>hx y (List.mem_cons_of_mem _ hy)) (some (.int x))
  have h1:=hx x List.mem_cons_self
  have z:0<=x/\x<=m - 1:=⟨h1.1,by omega⟩
  refine⟨c',?_⟩
  rw[List.map_cons,jq]
  simp[z,e]
theorem h8 {m n:Nat} {xs:List Int} {h:Hh} (c:Cell m n xs) (hm:1<=m) (hm2:m<=20) (hn:1<=n) (hn2:n<=8):ba [.int m,.tup (xs.map D.int)] h=.ok .non h:=by
 obtain⟨c',e⟩:=qS (m:=(m:Int)) (h:=h) (a:=some (.tup (xs.map D.int))) (b:=none) xs (fun x hx=>⟨c.lo x hx,c.hi x hx⟩) none
 have z:(1:Int)<=(m:Int)/\(m:Int)<=20:=by omega
 have z2:(1:Int)<=(xs.length:Int)/\(xs.length:Int)<=8:=by have:=c.len;omega
 simp[ba,bP,z,z2,e]
noncomputable def fZ (m:Int):Int->List Int->List Int
 | _,[]=>[]
 | t,x::r=>(t+x) % m::fZ m ((t+x) % m) r
noncomputable def jg (m:Int):Int->List Int->List Int
 | _,[]=>[]
 | t,x::r=>(t+x) % m::jg m (t+x) r
noncomputable def vW (m:Int):Int->List Int->List Int
 | _,[]=>[]
 | b,x::r=>(x - b) % m::vW m x r
theorem x_ (m:Int):∀(xs:List Int) (t u:Int),t % m=u % m->fZ m t xs=jg m u xs
 | [],_,_,_=>rfl
 | x::r,t,u,e=>by
  have e1:(t+x) % m=(u+x) % m:=by rw[<- Int.emod_add_emod,e,Int.emod_add_emod]
  rw[fZ,jg,e1,x_ m r ((u+x) % m) (u+x) (Int.emod_emod_of_dvd _ (Int.dvd_refl m))]
theorem yh (m:Int):∀(xs:List Int) (t b:Int),(∀x∈xs,0<=x/\x<m)->b % m=t % m->vW m b (jg m t xs)=xs
 | [],_,_,_,_=>rfl
 | x::r,t,b,hx,e=>by
  have h1:=hx x List.mem_cons_self
  have e1:((t+x) % m - b) % m=x:=by
   rw[Int.emod_sub_emod,<- Int.sub_emod_emod,e,Int.sub_emod_emod,show t+x - t=x by omega,Int.emod_eq_of_lt h1.1 h1.2]
  rw[jg,vW,e1,yh m r (t+x) ((t+x) % m) (fun y hy=>hx y (List.mem_cons_of_mem _ hy)) (Int.emod_emod_of_dvd _ (Int.dvd_refl m))]
theorem uk (m:Int):∀(xs:List Int) (t:Int),(jg m t xs).length=xs.length
 | [],_=>rfl
 | x::r,t=>by simp[jg,uk m r]
theorem lB {m:Int} (hm:0<m):∀(xs:List Int) (t:Int),∀y∈jg m t xs,0<=y/\y<m
 | [],_=>by simp[jg]
 | x::r,t=>by
  intro y hy
  rcases List.mem_cons.mp hy with rfl | hy
  ·exact⟨Int.emod_nonneg _ (by omega),Int.emod_lt_of_pos _ hm⟩
  ·exact lB hm r _ y hy
theorem Cell.res {m n:Nat} {xs:List Int} (c:Cell m n xs) (hm:1<=m) (t:Int):Cell m n (jg m t xs):=⟨by rw[uk,c.len],fun x hx=>(lB (by omega) xs t x hx).1,fun x hx=>(lB (by omega) xs t x hx).2⟩
theorem vm {m:Int} (hm:0<m) {a:Option D}:∀(xs:List Int) (t:Int) (acc:List Int) (c:Option D),acc.length+xs.length<=1000->∃t' c',dR (gN 4) (aI (bh 3 (ao h_ (ao (bj aF) (ag 3) (ag 4)) (ag 0))) (cw (oM fu (ag 2) (aa (ag 3) ak)))) (xs.map D.int) [some (.int m),a,some (.ref 0),some (.int t),c] [.lst (acc.map D.int)]=.ok (.nx [some (.int m),a,some (.ref 0),some (.int t'),c']) [.lst ((acc++fZ m t xs).map D.int)]
 | [],t,acc,c,_=>⟨t,c,by simp[fZ,r9]⟩
 | x::xs,t,acc,c,hl=>by
  simp only[List.length_cons] at hl
  obtain⟨t',c',e⟩:=vm hm (a:=a) xs ((t+x) % m) (acc++[(t+x) % m]) (some (.int x)) (by simp;omega)
  refine⟨t',c',?_⟩
  have z:acc.length<1000000:=by omega
  have ap:∀d:D,fu (.ref 0) [d] [.lst (acc.map D.int)]=.ok .non [.lst (acc.map D.int++[d])]:=fun d=>by
   have:=zV (h:=[]) (ds:=acc.map D.int) (d:=d) (t:=[])
   simp only[List.length_nil,List.nil_append,List.length_map,if_pos z] at this
   exact this
  have il:isL (.ref 0) [.lst (acc.map D.int)]=true:=rfl
  rw[List.map_cons,jq]
  simp only[List.map_append,List.map_cons,List.map_nil] at e
  simp[hm,ap,il,e,fZ]
theorem Fh {m n:Nat} {xs:List Int} {h:Hh} (c:Cell m n xs) (hm:1<=m) (hm2:m<=20) (hn:1<=n) (hn2:n<=8):iV [.int m,.tup (xs.map D.int)] h=.ok (.tup ((fZ m 0 xs).map D.int)) h:=by
 obtain⟨t',c',e⟩:=vm (m:=(m:Int)) (by omega) (a:=some (.tup (xs.map D.int))) xs 0 [] none (by have:=c.len;simp;omega)
 have ex:=j_ (h:=[]) (t:=[.lst ((fZ m 0 xs).map D.int)]) (d:=.tup ((fZ m 0 xs).map D.int)) Wf.nil (by simp)
 have e':dR (gN 4) (aI (bh 3 (ao h_ (ao (bj aF) (ag 3) (ag 4)) (ag 0))) (cw (oM fu (ag 2) (aa (ag 3) ak)))) (xs.map D.int) [some (.int m),some (.tup (xs.map D.int)),some (.ref 0),some (.int 0),none] [.lst []]=.ok (.nx [some (.int m),some (.tup (xs.map D.int)),some (.ref 0),some (.int t'),c']) [.lst ((fZ m 0 xs).map D.int)]:=e
 have tl:gy [.ref 0] [.lst ((fZ m 0 xs).map D.int)]=.ok (.tup ((fZ m 0 xs).map D.int)) [.lst ((fZ m 0 xs).map D.int)]:=Hx rfl
 have lo1:cx 0 [.int m,.tup (xs.map D.int)]=true:=by simp[cx,gU]
 have lo2:gU 0 (.tup ((fZ m 0 xs).map D.int))=true:=by simp[gU]
 simp only[List.nil_append] at ex
 simp[iV,tR,lo1,bP,h8 c hm hm2 hn hn2,e',tl,ex,lo2]
theorem uy:∀xs ys:List Int,fG (xs.map D.int) (ys.map D.int)=(xs.zip ys).map fun p=>D.tup [.int p.1,.int p.2]
 | [],_=>by simp[fG]
 | _::_,[]=>by simp[fG]
 | x::xs,y::ys=>by simp[fG,uy xs ys]
theorem xE (m:Int):∀(xs ys:List Int) (b:Int),(∃k,xs.length<=k+1/\ys=b::xs.take k)->(xs.zip ys).map (fun p=>(p.1 - p.2) % m)=vW m b xs
 | [],_,_,_=>by simp[vW]
 | x::xs,ys,b,⟨k,hk,e⟩=>by
  subst e
  rw[List.zip_cons_cons,List.map_cons,vW]
  congr 1
  cases k with
  | zero=>
   have:xs=[]:=List.eq_nil_of_length_eq_zero (by simp only[List.length_cons] at hk;omega)
   subst this;rfl
  | succ k=>
   rw[List.take_succ_cons]
   exact xE m xs (x::xs.take k) x ⟨k,by simp only[List.length_cons] at hk;omega,rfl⟩
theorem Bw {m:Int} {h:Hh} (hm:0<m) (xs ys:List Int):eB (unp tt1) (unp (ao h_ (ao eR (ag 0) (ag 1)) (ag 2))) (fun d=>[some d,some (.int m)]) (fG (xs.map D.int) (ys.map D.int)) h=.ok (((xs.zip ys).map fun p=>(p.1 - p.2) % m).map D.int) h:=by
 rw[uy,wX (fun(p:Int × Int)=>D.tup [.int p.1,.int p.2]) (fun p=>D.int ((p.1 - p.2) % m)) (xs.zip ys) (unp tt1) (fun x hx=>by simp) (fun x hx=>by simp[hm])]
 simp
theorem vG:∀xs ys:List D,(fG xs ys).length<=xs.length
 | [],_=>by simp[fG]
 | _::_,[]=>by simp[fG]
 | x::xs,y::ys=>by simp[fG];exact vG xs ys
theorem FL {m n:Nat} {xs:List Int} {h:Hh} (c:Cell m n xs) (hm:1<=m) (hm2:m<=20) (hn:1<=n) (hn2:n<=8):eC [.int m,.tup (xs.map D.int)] h=.ok (.tup ((vW m 0 xs).map D.int)) h:=by
 have hl:=c.len
 have ct:cutD (xs.map D.int) none (some (-1))=(xs.take (n - 1)).map D.int:=by
  rw[oX]
  congr 1
  unfold k7
  rw[HT.BI]
  have:HT.sIx xs.length xs.length (some (-1))=n - 1:=by
   unfold HT.sIx;simp;omega
  rw[this];simp
 have q:=Bw (m:=(m:Int)) (h:=h) (by omega) xs (0::xs.take (n - 1))
 rw[xE m xs _ 0 ⟨n - 1,by omega,rfl⟩] at q
 simp only[List.map_cons] at q
 have z1:(fG (xs.map D.int) (D.int 0::(xs.take (n - 1)).map D.int)).length<=1000000:=Nat.le_trans (vG _ _) (by simp;omega)
 have z2:1+(xs.take (n - 1)).length<=1000000:=by simp;omega
 generalize xs.take (n - 1)=ys at ct q z1 z2
 simp[eC,bP,h8 c hm hm2 hn hn2,ct,z1,z2,q]
theorem HN {m n:Nat} {xs:List Int} {h:Hh} (c:Cell m n xs) (hm:1<=m) (hm2:m<=20) (hn:1<=n) (hn2:n<=8):fF [.int m,.tup (xs.map D.int)] h=.ok (.int (xs.sum / m)) h:=by
 have z:(0:Int)<(m:Int):=by omega
 have s:sml (m:Int)=true:=DP (by omega) (by omega)
 have z0:¬ m=0:=by omega
 simp[fF,bP,h8 c hm hm2 hn hn2,z,s,z0]
theorem DG {m n:Nat} {xs:List Int} {h:Hh} (c:Cell m n xs) (hm:1<=m) (hm2:m<=20) (hn:1<=n) (hn2:n<=8):eH [.int m,.tup (xs.map D.int)] h=.ok (.int ((kH xs).length:Int)) h:=by
 simp[eH,bP,h8 c hm hm2 hn hn2,vQ (h:=h) (xs:=xs) (by have:=c.len;omega) (by have:=c.len;omega)]
noncomputable def dsc:List Int->Nat
 | x::y::r=>(if y<x then 1 else 0)+dsc (y::r)
 | _=>0
theorem Jc (x:Int) (xs:List Int) (i:Nat):gI (x::xs) (i+1)=gI xs i:=by simp[gI]
theorem Ad {p q:Nat->Bool} (n:Nat) (h:∀i,i<n->p (i+1)=q i):((List.range (n+1)).filter p).length=(if p 0 then 1 else 0)+((List.range n).filter q).length:=by
 rw[List.range_succ_eq_map,List.filter_cons,List.filter_map]
 have:((List.range n).filter (p ∘ Nat.succ)).length=((List.range n).filter q).length:=by
  congr 1
  exact List.filter_congr fun i hi=>h i (List.mem_range.mp hi)
 split<;>simp[this]<;>omega
theorem rf:∀xs:List Int,(sx xs).length=dsc xs
 | []=>rfl
 | [x]=>rfl
 | x::y::r=>by
  have ih:=rf (y::r)
  unfold sx at ih ⊢
  simp only[List.length_cons,Nat.add_sub_cancel] at ih ⊢
  rw[Ad (q:=fun i=>decide (gI (y::r) (i+1)<gI (y::r) i)) r.length (fun i hi=>by rw[Jc x (y::r) (i+1),Jc x (y::r) i]),ih,dsc]
  simp[gI]
theorem y0 (xs:List Int):((kH xs).length:Int)=(dsc xs:Int):=by rw[kH,List.length_map,rf]
theorem y_ {m t x:Int} (hm:0<m) (h0:0<=x) (h1:x<m):(t+x) / m=t / m+(if (t+x) % m<t % m then 1 else 0):=by
 have a:=Int.mul_ediv_add_emod t m
 have b:=Int.mul_ediv_add_emod (t+x) m
 have c0:=Int.emod_nonneg t (show m≠0 by omega)
 have c1:=Int.emod_lt_of_pos t hm
 have d0:=Int.emod_nonneg (t+x) (show m≠0 by omega)
 have d1:=Int.emod_lt_of_pos (t+x) hm
 generalize t % m=r at *
 generalize (t+x) % m=s at *
 generalize t / m=q at *
 generalize (t+x) / m=p at *
 have e:m*(p - q)=r+x - s:=by rw[Int.mul_sub];omega
 split
 ·have:p - q=1:=by
   rcases Int.lt_trichotomy (p - q) 1 with z | z | z
   ·have:=Int.mul_le_mul_of_nonneg_left (show p - q<=0 by omega) (show 0<=m by omega)
    rw[Int.mul_zero] at this;omega
   ·exact z
   ·have:=Int.mul_le_mul_of_nonneg_left (show 2<=p - q by omega) (show 0<=m by omega)
    omega
  omega
 ·have:p - q=0:=by
   rcases Int.lt_trichotomy (p - q) 0 with z | z | z
   ·have:=Int.mul_le_mul_of_nonneg_left (show p - q<=-1 by omega) (show 0<=m by omega)
    omega
   ·exact z
   ·have:=Int.mul_le_mul_of_nonneg_left (show 1<=p - q by omega) (show 0<=m by omega)
    omega
  omega
theorem qX {m:Int} (hm:0<m):∀(xs:List Int) (t:Int),(∀x∈xs,0<=x/\x<m)->((dsc (t % m::jg m t xs):Nat):Int)=(t+xs.sum) / m - t / m
 | [],t,_=>by simp[jg,dsc]
 | x::r,t,hx=>by
  have h1:=hx x List.mem_cons_self
  have ih:=qX hm r (t+x) fun y hy=>hx y (List.mem_cons_of_mem _ hy)
  have st:=y_ (t:=t) hm h1.1 h1.2
  rw[jg,dsc,Int.natCast_add,ih,List.sum_cons,st,<- Int.add_assoc]
  split<;>omega
theorem Iu (xs:List Int) (h:∀x∈xs,0<=x):dsc (0::xs)=dsc xs:=by
 cases xs with
 | nil=>rfl
 | cons x r=>
  have:=h x List.mem_cons_self
  rw[dsc,if_neg (by omega),Nat.zero_add]
theorem zN {m n:Nat} {xs:List Int} (c:Cell m n xs) (hm:1<=m):((kH (jg m 0 xs)).length:Int)=xs.sum / m:=by
 have w:=qX (m:=(m:Int)) (by omega) xs 0 fun x hx=>⟨c.lo x hx,c.hi x hx⟩
 rw[y0,<- Iu (jg m 0 xs) (fun x hx=>(lB (by omega) xs 0 x hx).1)]
 simpa using w
theorem uj {n m k:Nat} {b:List Int} (h:b∈bR n m k):Cell m n b/\b.sum / (m:Int)=(k:Int):=by
 obtain⟨h1,h2⟩:=List.mem_filter.mp h
 obtain⟨a,c⟩:=vM m n b h1
 exact⟨⟨a,fun x hx=>(c x hx).1,fun x hx=>(c x hx).2⟩,by simpa using h2⟩
noncomputable def qL:List (Nat × Nat):=[(3,5),(2,12),(4,3),(5,3),(7,2),(1,20),(3,7)]
noncomputable def okQ (n m k:Nat):Bool:=okV (bR n m k)&&decide (mK (bR n m k)=bR n m k)&&okV ((bR n m k).map (fZ m 0))&&decide (((bR n m k).length:Int)=jW n m k)
theorem HS:∀k,k<3->okQ 3 5 k=true:=by decide +kernel
theorem Iw:∀k,k<2->okQ 2 12 k=true:=by decide +kernel
theorem HZ:∀k,k<4->okQ 4 3 k=true:=by decide +kernel
theorem JA:∀k,k<5->okQ 5 3 k=true:=by decide +kernel
theorem Jg:∀k,k<7->okQ 7 2 k=true:=by decide +kernel
theorem Jk:∀k,k<1->okQ 1 20 k=true:=by decide +kernel
theorem IZ:∀k,k<3->okQ 3 7 k=true:=by decide +kernel
theorem D_:∀q∈qL,∀k,k<q.1->okQ q.1 q.2 k=true:=by
 intro q hq k hk
 simp only[qL,List.mem_cons,List.not_mem_nil,or_false] at hq
 rcases hq with rfl | rfl | rfl | rfl | rfl | rfl | rfl
 ·exact HS k hk
 ·exact Iw k hk
 ·exact HZ k hk
 ·exact JA k hk
 ·exact Jg k hk
 ·exact Jk k hk
 ·exact IZ k hk
theorem yj (k:Nat) (h:Hh):∀L:List (List Int),eqL (eqD (k+2) h) (L.map tpI) (L.map tpI)=some true
 | []=>rfl
 | x::L=>by
  have e1:eqD (k+2) h (tpI x) (tpI x)=some true:=by
   show eqL (eqD (k+1) h) (x.map D.int) (x.map D.int)=some true
   rw[pS _ _ _ _ rfl];simp
  simp only[List.map_cons,eqL,e1,yj k h L];rfl
theorem Lh {L:List (List Int)} {h:Hh}:dNe (.frl (L.map tpI)) (.frl (L.map tpI)) h=.ok (.bl false) h:=by
 have:eqD eqN h (.frl (L.map tpI)) (.frl (L.map tpI))=some true:=by
  show(if (L.map tpI).length=(L.map tpI).length then eqL (eqD (9+2) h) (L.map tpI) (L.map tpI) else some false)=some true
  rw[if_pos rfl,yj]
 simp only[dNe,this];rfl
theorem DC {L:List (List Int)} {h:Hh} (ok:okV L=true):jd aF [.frl (L.map tpI)] h=.ok (.frl ((mK L).map tpI)) h:=by
 unfold jd
 have e:fj (L.map tpI)=some L:=kc L
 simp only[iO,e]
 rw[if_pos ok];rfl
theorem GX {L:List (List Int)} {h:Hh} (ok:okV L=true):mL [.frl (L.map tpI)] h=.ok (.int L.length) h:=by
 unfold mL
 have e:fj (L.map tpI)=some L:=kc L
 simp only[iO,e]
 rw[if_pos ok]
theorem Gx {n m k:Nat} {b:List Int} {d0 d1 d2 d3 d4 d5 d6 d7 d8 d9 d10 d12 d13 d14 d15 d17 y19:Option D} {h:Hh} (n1:1<=n) (hn:n<=8) (m1:1<=m) (hm:m<=20) (hb:b∈bR n m k) :
  B1 [d0,d1,d2,d3,d4,d5,d6,d7,d8,d9,d10,some (.int k),d12,d13,d14,d15,some (.int m),d17,some (tpI b),y19] h=.ok (.nx [d0,d1,d2,d3,d4,d5,d6,d7,d8,d9,d10,some (.int k),d12,d13,d14,d15,some (.int m),d17,some (tpI b),some (tpI (fZ m 0 b))]) h:=by
 obtain⟨c,e⟩:=uj hb
 have lr:fZ m 0 b=jg m 0 b:=x_ m b 0 0 rfl
 have rc:=c.res m1 0
 have f1:=HN (h:=h) c m1 hm n1 hn
 have f2:=Fh (h:=h) c m1 hm n1 hn
 have f5:=FL (h:=h) rc m1 hm n1 hn
 have f7:=DG (h:=h) rc m1 hm n1 hn
 rw[zN c m1,e] at f7
 rw[yh m b 0 0 (fun x hx=>⟨c.lo x hx,c.hi x hx⟩) rfl] at f5
 rw[e] at f1
 rw[lr] at f2 ⊢
 have ne:=xN (h:=h) (xs:=b)
 unfold tpI
 generalize b.map D.int=X at *
 generalize (jg m 0 b).map D.int=Y at *
 simp[B1,f1,f2,f5,f7,ne]
theorem yn {n m k:Nat} {d0 d1 d2 d3 d4 d5 d6 d7 d8 d9 d10 d12 d13 d14 d15 d17:Option D} {h:Hh} (n1:1<=n) (hn:n<=8) (m1:1<=m) (hm:m<=20):∀(L:List (List Int)),(∀b∈L,b∈bR n m k)->∀y18 y19,∃z18 z19,
  dR (gN 18) B1 (L.map tpI) [d0,d1,d2,d3,d4,d5,d6,d7,d8,d9,d10,some (.int k),d12,d13,d14,d15,some (.int m),d17,y18,y19] h=.ok (.nx [d0,d1,d2,d3,d4,d5,d6,d7,d8,d9,d10,some (.int k),d12,d13,d14,d15,some (.int m),d17,z18,z19]) h
 | [],_,y18,y19=>⟨y18,y19,rfl⟩
 | b::L,hL,y18,y19=>by
  have e:=Gx (d0:=d0) (d1:=d1) (d2:=d2) (d3:=d3) (d4:=d4) (d5:=d5) (d6:=d6) (d7:=d7) (d8:=d8) (d9:=d9) (d10:=d10) (d12:=d12) (d13:=d13) (d14:=d14) (d15:=d15) (d17:=d17) (y19:=y19) (h:=h) n1 hn m1 hm (hL b List.mem_cons_self)
  obtain⟨z18,z19,q⟩:=yn (d0:=d0) (d1:=d1) (d2:=d2) (d3:=d3) (d4:=d4) (d5:=d5) (d6:=d6) (d7:=d7) (d8:=d8) (d9:=d9) (d10:=d10) (d12:=d12) (d13:=d13) (d14:=d14) (d15:=d15) (d17:=d17) (h:=h) n1 hn m1 hm L (fun x hx=>hL x (List.mem_cons_of_mem _ hx)) (some (tpI b)) (some (tpI (fZ m 0 b)))
  refine⟨z18,z19,?_⟩
  rw[List.map_cons,jq]
  simp only[HU,bq,List.set,e,Fe,q]
noncomputable def S1:MS:=(bh 3 (ai b_ (aa (ag 2) ak)))
noncomputable def S2:MS:=(oP 4 5 (ai bU (aa (ao (bj aF) (cC (.int 1)) (ai aG (aa (ag 3) (aa (cC (.int 8)) ak)))) (aa (ao (bj aF) (cC (.int 1)) (ai aG (aa (ag 3) (aa (cC (.int 20)) ak)))) ak))))
noncomputable def S3:MS:=(cO (aT asB (ao dNe (ai kA (aa (dX aF (fC fU (aa (cC (.int 9)) ak)) [4,5] tt1 (ai bp (aa (ag 1) (aa (ag 2) (aa (ag 0) ak))))) ak)) (ai cE (aa (ag 5) (aa (ag 4) ak))))) (bB (cC (.bl false))) bC)
noncomputable def S4:MS:=(jL 6 7 (aa (ao (bj aF) (cC (.int 1)) (ai aG (aa (ag 3) (aa (cC (.int 12)) ak)))) (aa (ao (bj aF) (cC (.int 1)) (ai aG (aa (ag 3) (aa (cC (.int 40)) ak)))) ak)))
noncomputable def S5:MS:=(bh 8 (ai aG (aa (ag 3) (aa (ao (bj aF) (ao (bJ aF) (ag 6) (ag 7)) (cC (.int 1))) ak))))
noncomputable def S6:MS:=(jL 9 10 (aa (ai a8 (aa (ag 6) (aa (ai aR (aa (ag 8) (aa (ag 7) ak))) ak))) (aa (ai a8 (aa (ag 6) (aa (ai aR (aa (ao eR (ao (bJ aF) (ag 6) (ag 7)) (ag 8)) (aa (ag 7) ak))) ak))) ak)))
noncomputable def S7:MS:=(cO (aT asB (ao dNe (ai aR (aa (ao (bj aF) (ao (bJ aF) (ao dIx (ag 9) (cC (.int 0))) (ao dIx (ag 10) (cC (.int 1)))) (ao (bJ aF) (ao dIx (ag 10) (cC (.int 0))) (ao dIx (ag 9) (cC (.int 1))))) (aa (ao (bJ aF) (ao dIx (ag 9) (cC (.int 1))) (ao dIx (ag 10) (cC (.int 1)))) ak))) (ai bU (aa (cC (.int 1)) (aa (cC (.int 1)) ak))))) (bB (cC (.bl false))) bC)
noncomputable def S8:MS:=(dU (fC fU (aa (ag 6) ak)) (gN 11) B0)
noncomputable def S9:MS:=(cO (aT asB (ao dEq (ag 1) (cC (.int 0)))) (aI (oP 15 16 (ao dIx (ai (iZ aF) (aa (ai bU (aa (cC (.int 3)) (aa (cC (.int 5)) ak))) (aa (ai bU (aa (cC (.int 2)) (aa (cC (.int 12)) ak))) (aa (ai bU (aa (cC (.int 4)) (aa (cC (.int 3)) ak))) (aa (ai bU (aa (cC (.int 5)) (aa (cC (.int 3)) ak))) (aa (ai bU (aa (cC (.int 7)) (aa (cC (.int 2)) ak))) (aa (ai bU (aa (cC (.int 1)) (aa (cC (.int 20)) ak))) (aa (ai bU (aa (cC (.int 3)) (aa (cC (.int 7)) ak))) ak)))))))) (ai aG (aa (ag 3) (aa (cC (.int 7)) ak))))) (aI (bh 11 (ai aG (aa (ag 3) (aa (ag 15) ak)))) (aI (bh 17 (ai aJ (aa (ag 15) (aa (ag 16) (aa (ag 11) ak))))) (aI (cO (nj (aT asB (ao dNe (ai eP (aa (ag 17) ak)) (ai bp (aa (ag 15) (aa (ag 16) (aa (ag 11) ak)))))) (aT asB (ao dNe (ag 17) (ai (jd aF) (aa (ag 17) ak))))) (bB (cC (.bl false))) bC) (aI (dU (f_ (ag 17)) (gN 18) B1) (cO (aT asB (ao dNe (ai mL (aa (dX aF (f_ (ag 17)) [16] tt1 (ai iV (aa (ag 1) (aa (ag 0) ak)))) ak)) (ai eP (aa (ag 17) ak)))) (bB (cC (.bl false))) bC)))))) bC)
theorem IA:B2=aI S1 (aI S2 (aI S3 (aI S4 (aI S5 (aI S6 (aI S7 (aI S8 (S9)))))))):=rfl
theorem BF {m i:Nat} (hm:m<=20) (hi:i<=9):sml ((m:Int) ^ i)=true:=lh (by omega) (by omega)
theorem HH {m n:Nat} {h:Hh} (hm:m<=20) (hn:n<=8):cE [.int m,.int n] h=.ok (.int ((m:Int) ^ n)) h:=by
 obtain⟨q,e⟩:=jI (tg:=gN 3) (body:=(bh 2 (ao (bJ aF) (ag 2) (ag 0)))) n
  (fun(s:Nat × Option D)=>[some (.int m),some (.int n),some (.int ((m:Int) ^ s.1)),s.2]) (fun _=>h) (fun _ i=>(i+1,some (.int (i:Nat)))) (fun i s=>s.1=i) (0,none) rfl (fun i s hi hs=>⟨rfl,.inl (by
   subst hs
   have s1:=BF hm (show s.1<=9 by omega)
   have s2:sml (m:Int)=true:=aW (by omega) (by omega)
   simp[s1,s2,Int.pow_succ])⟩)
 generalize List.foldl (fun(_:Nat × Option D) i=>(i+1,some (D.int (i:Nat)))) (0,none) (List.range n)=s9 at q e
 subst e
 have z1:s9.1<=1000000:=by omega
 simp[cE,bP,z1] at q ⊢
 simp[q]
theorem xy {n m k:Nat} {h:Hh} (n1:1<=n) (hn:n<=8) (m1:1<=m) (hm:m<=20) (hk:k<=8):bp [.int n,.int m,.int k] h=.ok (.int (jW n m k)) h:=by
 have z1:1<=(n:Int)/\(n:Int)<=8:=by omega
 have z2:1<=(m:Int)/\(m:Int)<=20:=by omega
 have z3:0<=(k:Int)/\(k:Int)<=8:=by omega
 simp[bp,cH,bP,dw z1,dw z2,dw z3,Ck (h:=h) n1 hn m1 hm hk]
section
variable {e0 e1 e2 e3 e4 e5 e6 e7 y4 y5 y6 y7 y8 y9 y10 y11 y12 y13 y14 y15 y16 y17 y18 y19:Option D}
theorem HX {n m:Nat} {h:Hh} (n1:1<=n) (hn:n<=8) (m1:1<=m) (hm:m<=20):S3 [e0,e1,e2,e3,some (.int n),some (.int m),y6,y7,y8,y9,y10,y11,y12,y13,y14,y15,y16,y17,y18,y19] h=.ok (.nx [e0,e1,e2,e3,some (.int n),some (.int m),y6,y7,y8,y9,y10,y11,y12,y13,y14,y15,y16,y17,y18,y19]) h:=by
 have c:eB tt1 (ai bp (aa (ag 1) (aa (ag 2) (aa (ag 0) ak)))) (fun d=>[some d,some (.int n),some (.int m)]) (eT 0 9) h=.ok (((List.range 9).map fun k=>jW n m k).map D.int) h:=by
  rw[qZ (fun(k:Nat)=>D.int (jW n m k)) (fun k hk=>by simp[xy (h:=h) n1 hn m1 hm (show k<=8 by omega)]),List.map_map]
  rfl
 have su:=GV (ns:=(List.range 9).map fun k=>jW n m k) (h:=h)
 have sl:((List.range 9).map fun k=>jW n m k).sum=(m:Int) ^ n:=Gm n1 hn m1 hm
 rw[sl] at su
 have pw:=HH (h:=h) hm hn
 generalize ((List.range 9).map fun k=>jW n m k).map D.int=L at *
 generalize (m:Int) ^ n=P at *
 simp[S3,c,su,pw]
theorem Im {n k:Nat} {h:Hh} (h1:1<=n) (h2:n<=12) (hk:k<n):∃z12 z13 z14,B0 [e0,e1,e2,e3,e4,e5,some (.int n),e7,y8,y9,y10,some (.int k),y12,y13,y14,y15,y16,y17,y18,y19] h=.ok (.nx [e0,e1,e2,e3,e4,e5,some (.int n),e7,y8,y9,y10,some (.int k),z12,z13,z14,y15,y16,y17,y18,y19]) h:=by
 obtain⟨a,b,c,d,e⟩:=BP h1 h2 (show k<=13 by omega)
 obtain⟨_,_,c',d',e'⟩:=BP h1 h2 (show k+1<=13 by omega)
 have u1:a8 [.int n,.tup [.int k,.int 1]] h=.ok (.tup [.int (gI (loV n k) 0),.int (gI (loV n k) 1)]) h:=CO (n:=n) (p:=k) (q:=1) (h:=h) h1 h2 (by decide) (by decide) (by omega) (Nat.gcd_one_right k)
 have u2:a8 [.int n,.tup [.int ((k+1:Nat):Int),.int 1]] h=.ok (.tup [.int (gI (loV n (k+1)) 0),.int (gI (loV n (k+1)) 1)]) h:=CO (n:=n) (p:=k+1) (q:=1) (h:=h) h1 h2 (by decide) (by decide) (by omega) (Nat.gcd_one_right _)
 rw[Int.natCast_add,Int.natCast_one] at u2
 have cs:=AK (h:=h) h1 h2 (show k<=12 by omega)
 have ct:=yx (h:=h) h1 h2 (show k<=12 by omega)
 have lp:=Ah h n h2
 have L2:=kR (t:=mX n k) (b:=fac n) (h:=h) (nR n) (Ct h2)
 have ne:=xN (h:=h) (xs:=shr (mX n k) (fac n))
 unfold F_ at a
 rw[if_pos hk] at a
 generalize gI (loV n k) 0=x0 at *
 generalize gI (loV n k) 1=x1 at *
 generalize gI (loV n (k+1)) 0=w0 at *
 generalize gI (loV n (k+1)) 1=w1 at *
 have pp:0<w1*x1:=Int.mul_pos e' e
 have tn:((w1*x1).toNat:Int)=w1*x1:=Int.toNat_of_nonneg (by omega)
 have bd:(w1*x1).toNat<2 ^ 190:=by
  have m:=Nat.mul_le_mul d' d
  rw[<- Int.natAbs_mul] at m
  have k1:(w1*x1).toNat<=10 ^ 20*10 ^ 20:=by omega
  exact Nat.lt_of_le_of_lt k1 (by decide +kernel)
 have L1:=kR (t:=w0*x1 - x0*w1) (b:=(w1*x1).toNat) (h:=h) (by omega) bd
 rw[tn,a] at L1
 have t20:(10:Nat) ^ 20<=2 ^ 190:=by decide +kernel
 have s1:sml x0=true:=aW (by omega) (by omega)
 have s2:sml x1=true:=aW (by omega) (by omega)
 have s3:sml w0=true:=aW (by omega) (by omega)
 have s4:sml w1=true:=aW (by omega) (by omega)
 refine⟨some (.tup [.int x0,.int x1]),some (.tup [.int w0,.int w1]),some (.tup ((shr (mX n k) (fac n)).map D.int)),?_⟩
 generalize (shr (mX n k) (fac n)).map D.int=V at *
 simp[B0,u1,u2,cs,ct,lp,L1,L2,ne,s1,s2,s3,s4]
theorem Iy {n:Nat} {h:Hh} (h1:1<=n) (h2:n<=12):∃z11 z12 z13 z14,S8 [e0,e1,e2,e3,e4,e5,some (.int n),e7,y8,y9,y10,y11,y12,y13,y14,y15,y16,y17,y18,y19] h=.ok (.nx [e0,e1,e2,e3,e4,e5,some (.int n),e7,y8,y9,y10,z11,z12,z13,z14,y15,y16,y17,y18,y19]) h:=by
 have key:∀(L:List Nat),(∀k∈L,k<n)->∀y11 y12 y13 y14,∃z11 z12 z13 z14,dR (gN 11) B0 (L.map fun(i:Nat)=>D.int i) [e0,e1,e2,e3,e4,e5,some (.int n),e7,y8,y9,y10,y11,y12,y13,y14,y15,y16,y17,y18,y19] h=.ok (.nx [e0,e1,e2,e3,e4,e5,some (.int n),e7,y8,y9,y10,z11,z12,z13,z14,y15,y16,y17,y18,y19]) h:=by
  intro L
  induction L with
  | nil=>intro _ y11 y12 y13 y14;exact⟨y11,y12,y13,y14,rfl⟩
  | cons k L ih=>
   intro hL y11 y12 y13 y14
   obtain⟨z12,z13,z14,e⟩:=Im (e0:=e0) (e1:=e1) (e2:=e2) (e3:=e3) (e4:=e4) (e5:=e5) (e7:=e7) (y8:=y8) (y9:=y9) (y10:=y10) (y12:=y12) (y13:=y13) (y14:=y14) (y15:=y15) (y16:=y16) (y17:=y17) (y18:=y18) (y19:=y19) (h:=h) h1 h2 (hL k List.mem_cons_self)
   obtain⟨w11,w12,w13,w14,q⟩:=ih (fun x hx=>hL x (List.mem_cons_of_mem _ hx)) (some (.int k)) z12 z13 z14
   refine⟨w11,w12,w13,w14,?_⟩
   rw[List.map_cons,jq]
   simp only[HU,bq,List.set,e,Fe,q]
 obtain⟨z11,z12,z13,z14,q⟩:=key (List.range n) (fun k hk=>List.mem_range.mp hk) y11 y12 y13 y14
 rw[<- hZ] at q
 have z:n<=1000000:=by omega
 exact⟨z11,z12,z13,z14,by simp[S8,z,q]⟩
theorem Bv {n t b:Nat} {h:Hh} (h1:1<=n) (h2:n<=12) (hb:1<=b) (hb2:b<=40) (ht:t<=n*b):∃p q g:Nat,0<g/\t=p*g/\b=q*g/\g=Nat.gcd t b/\1<=q/\q<=40/\p<=n*q/\aR [.int t,.int b] h=.ok (.tup [.int p,.int q]) h/\a8 [.int n,.tup [.int p,.int q]] h=.ok (.tup ((shr (cQ n p q (iT n p q+1)) (q ^ n*fac n)).map D.int)) h:=by
 have L:=kR (t:=(t:Nat)) (b:=b) (h:=h) (by omega) (Nat.lt_of_le_of_lt hb2 (by decide +kernel))
 have gp:0<Nat.gcd t b:=Nat.gcd_pos_of_pos_right _ (by omega)
 have co:=Nat.coprime_div_gcd_div_gcd gp
 have et:=Nat.div_mul_cancel (Nat.gcd_dvd_left t b)
 have eb:=Nat.div_mul_cancel (Nat.gcd_dvd_right t b)
 have ss:shr (t:Nat) b=[((t / Nat.gcd t b:Nat):Int),((b / Nat.gcd t b:Nat):Int)]:=by unfold shr;rw[Int.natAbs_natCast,Int.natCast_ediv,Int.natCast_ediv]
 rw[ss] at L
 refine⟨t / Nat.gcd t b,b / Nat.gcd t b,Nat.gcd t b,gp,et.symm,eb.symm,rfl,?_⟩
 generalize t / Nat.gcd t b=p at *
 generalize b / Nat.gcd t b=q at *
 generalize Nat.gcd t b=g at *
 have q1:1<=q:=by rcases Nat.eq_zero_or_pos q with rfl | x<;>omega
 have q2:q<=40:=by
  have:=Nat.mul_le_mul_left q (show 1<=g from gp)
  omega
 have pl:p<=n*q:=by
  refine Nat.le_of_mul_le_mul_right (c:=g) ?_ gp
  rw[Nat.mul_assoc,et,eb];exact ht
 exact⟨q1,q2,pl,L,CO (h:=h) h1 h2 q1 (by omega) pl co⟩
theorem JG {n q:Nat} (hn:n<=12) (hq:q<=40):q ^ n*fac n<=40 ^ 12*479001600:=by
 have f:fac n<=479001600:=by
  have:∀n,n<13->fac n<=479001600:=by decide +kernel
  exact this n (by omega)
 exact Nat.mul_le_mul (Nat.le_trans (Nat.pow_le_pow_left hq n) (Nat.pow_le_pow_right (by decide) hn)) f
theorem Ed (A:Int) (b:Nat):shr A b=[gI (shr A b) 0,gI (shr A b) 1]:=rfl
theorem vL {A:Int} {b:Nat} (hb:b<2 ^ 190) (ha:A.natAbs<2 ^ 190):sml (gI (shr A b) 0)=true/\sml (gI (shr A b) 1)=true:=by
 have k:∀a:Int,a.natAbs<2 ^ 190->sml (a / (Nat.gcd A.natAbs b:Nat))=true:=fun a ha=>kl (Nat.le_trans (Int.natAbs_ediv_le_natAbs _ _) (Nat.le_trans (Nat.le_of_lt ha) (by decide +kernel)))
 exact⟨k _ ha,k _ (by rw[Int.natAbs_natCast];exact hb)⟩
theorem Hj {n t b:Nat} {h:Hh} (h1:1<=n) (h2:n<=12) (hb:1<=b) (hb2:b<=40) (ht:t<=n*b):∃z9 z10,(aI S6 S7) [e0,e1,e2,e3,e4,e5,some (.int n),some (.int b),some (.int t),y9,y10,y11,y12,y13,y14,y15,y16,y17,y18,y19] h=.ok (.nx [e0,e1,e2,e3,e4,e5,some (.int n),some (.int b),some (.int t),z9,z10,y11,y12,y13,y14,y15,y16,y17,y18,y19]) h:=by
 obtain⟨p,q,g,gp,et,eb,eg,q1,q2,pl,A1,A2⟩:=Bv (h:=h) h1 h2 hb hb2 ht
 obtain⟨p',q',g',gp',et',eb',eg',q1',q2',pl',B1',B2'⟩:=Bv (t:=n*b - t) (h:=h) h1 h2 hb hb2 (Nat.sub_le _ _)
 have gg:g'=g:=by
  rw[eg',eg]
  refine Nat.dvd_antisymm (Nat.dvd_gcd ?_ (Nat.gcd_dvd_right _ _)) (Nat.dvd_gcd ?_ (Nat.gcd_dvd_right _ _))
  ·have d1:=Nat.gcd_dvd_left (n*b - t) b
   have d2:=Nat.gcd_dvd_right (n*b - t) b
   have d3:Nat.gcd (n*b - t) b ∣ n*b:=Nat.dvd_trans d2 (Nat.dvd_mul_left b n)
   have:=Nat.dvd_sub d3 d1
   rwa [show n*b - (n*b - t)=t by omega] at this
  ·exact Nat.dvd_sub (Nat.dvd_trans (Nat.gcd_dvd_right t b) (Nat.dvd_mul_left b n)) (Nat.gcd_dvd_left t b)
 have qq:q'=q:=by
  refine Nat.eq_of_mul_eq_mul_right gp ?_
  rw[<- eb,eb',gg]
 have gg:=gg.symm
 have qq:=qq.symm
 subst gg
 subst qq
 have pp:p+p'=n*q:=by
  refine Nat.eq_of_mul_eq_mul_right gp ?_
  rw[Nat.add_mul,<- et,<- et',Nat.mul_assoc,<- eb];omega
 have tc:=Av h1 h2 q1 pp
 have dl:=JG (n:=n) (q:=q) h2 q2
 have dlt:q ^ n*fac n<2 ^ 190:=CU h2 (by omega)
 have hp2:p<=12000:=Nat.le_trans pl (Nat.mul_le_mul h2 (show q<=1000 by omega))
 have hp2':p'<=12000:=Nat.le_trans pl' (Nat.mul_le_mul h2 (show q<=1000 by omega))
 have Sp:=yE (n:=n) (p:=p) (q:=q) h2
 have Sp':=yE (n:=n) (p:=p') (q:=q) h2
 have ma:=sO (n:=n) (p:=p) (q:=q) h2 (by omega) hp2 Sp.1 Sp.2
 have mb:=sO (n:=n) (p:=p') (q:=q) h2 (by omega) hp2' Sp'.1 Sp'.2
 obtain⟨X,x0,x1,x2,x3⟩:=Ej (den_pos (n:=n) q1) tc
 have sA:=vL dlt ma
 have sB:=vL dlt mb
 rw[Ed] at A2 B2'
 generalize cQ n p q (iT n p q+1)=MA at *
 generalize cQ n p' q (iT n p' q+1)=MB at *
 generalize q ^ n*fac n=Dn at *
 have Xb:X<2 ^ 190:=Nat.lt_of_le_of_lt (Nat.le_trans x1 (Nat.mul_le_mul dl dl)) (by decide +kernel)
 have L:=kR (t:=(X:Nat)) (b:=X) (h:=h) x0 Xb
 rw[Cz x0] at L
 generalize gI (shr MA Dn) 0=a0 at *
 generalize gI (shr MA Dn) 1=a1 at *
 generalize gI (shr MB Dn) 0=b0 at *
 generalize gI (shr MB Dn) 1=b1 at *
 have ne:=xN (h:=h) (xs:=[1,1])
 simp only[List.map_cons,List.map_nil] at A2 B2' L ne
 have i1:(n:Int)*(b:Int) - (t:Int)=((n*b - t:Nat):Int):=by rw[Int.natCast_sub ht,Int.natCast_mul]
 have sn:sml (n:Int)=true:=aW (by omega) (by omega)
 have sb:sml (b:Int)=true:=aW (by omega) (by omega)
 refine⟨some (.tup [.int a0,.int a1]),some (.tup [.int b0,.int b1]),?_⟩
 simp[S6,S7,A1,A2,i1,B1',B2',sn,sb,sA,sB,x2,x3,L,ne]
end
noncomputable def T1:MS:=(oP 15 16 (ao dIx (ai (iZ aF) (aa (ai bU (aa (cC (.int 3)) (aa (cC (.int 5)) ak))) (aa (ai bU (aa (cC (.int 2)) (aa (cC (.int 12)) ak))) (aa (ai bU (aa (cC (.int 4)) (aa (cC (.int 3)) ak))) (aa (ai bU (aa (cC (.int 5)) (aa (cC (.int 3)) ak))) (aa (ai bU (aa (cC (.int 7)) (aa (cC (.int 2)) ak))) (aa (ai bU (aa (cC (.int 1)) (aa (cC (.int 20)) ak))) (aa (ai bU (aa (cC (.int 3)) (aa (cC (.int 7)) ak))) ak)))))))) (ai aG (aa (ag 3) (aa (cC (.int 7)) ak)))))
noncomputable def T2:MS:=(bh 11 (ai aG (aa (ag 3) (aa (ag 15) ak))))
noncomputable def T3:MS:=(bh 17 (ai aJ (aa (ag 15) (aa (ag 16) (aa (ag 11) ak)))))
noncomputable def T4:MS:=(cO (nj (aT asB (ao dNe (ai eP (aa (ag 17) ak)) (ai bp (aa (ag 15) (aa (ag 16) (aa (ag 11) ak)))))) (aT asB (ao dNe (ag 17) (ai (jd aF) (aa (ag 17) ak))))) (bB (cC (.bl false))) bC)
noncomputable def T5:MS:=(dU (f_ (ag 17)) (gN 18) B1)
noncomputable def T6:MS:=(cO (aT asB (ao dNe (ai mL (aa (dX aF (f_ (ag 17)) [16] tt1 (ai iV (aa (ag 1) (aa (ag 0) ak)))) ak)) (ai eP (aa (ag 17) ak)))) (bB (cC (.bl false))) bC)
theorem IJ:S9=cO (aT asB (ao dEq (ag 1) (cC (.int 0)))) (aI T1 (aI T2 (aI T3 (aI T4 (aI T5 T6))))) bC:=rfl
theorem Fs:∀q∈qL,1<=q.1/\q.1<=8/\1<=q.2/\q.2<=20:=by decide
section
variable {e0 e1 e2 e3 e4 e5 e6 e7 y4 y5 y6 y7 y8 y9 y10 y11 y12 y13 y14 y15 y16 y17 y18 y19:Option D} {H:Hh} {p:Pen}
theorem Jt:∃q∈qL,∃p',T1 [e0,e1,e2,some (.ref H.length),e4,e5,e6,e7,y8,y9,y10,y11,y12,y13,y14,y15,y16,y17,y18,y19] (H++[.lst (dQ p)])=.ok (.nx [e0,e1,e2,some (.ref H.length),e4,e5,e6,e7,y8,y9,y10,y11,y12,y13,y14,some (.int q.1),some (.int q.2),y17,y18,y19]) (H++[.lst (dQ p')]):=by
 obtain⟨k,ek,hk⟩:=oR p 7 (by decide)
 have dr:=ie (p:=p) (h:=H) (t:=[]) (m:=7) (by decide)
 rw[ek] at dr
 have hk':k<7:=by omega
 obtain⟨q,hq,ix⟩:∃q∈qL,∀G:Hh,ixK [.tup [.int 3,.int 5],.tup [.int 2,.int 12],.tup [.int 4,.int 3],.tup [.int 5,.int 3],.tup [.int 7,.int 2],.tup [.int 1,.int 20],.tup [.int 3,.int 7]] (k:Int) G=.ok (.tup [.int (q.1:Nat),.int (q.2:Nat)]) G:=by
  match k,hk' with
  | 0,_=>exact⟨(3,5),by decide,fun _=>rfl⟩
  | 1,_=>exact⟨(2,12),by decide,fun _=>rfl⟩
  | 2,_=>exact⟨(4,3),by decide,fun _=>rfl⟩
  | 3,_=>exact⟨(5,3),by decide,fun _=>rfl⟩
  | 4,_=>exact⟨(7,2),by decide,fun _=>rfl⟩
  | 5,_=>exact⟨(1,20),by decide,fun _=>rfl⟩
  | 6,_=>exact⟨(3,7),by decide,fun _=>rfl⟩
 exact⟨q,hq,bc p 7,by simp[T1,dr,ix]⟩
theorem IW {n:Nat} (h1:1<=n) (h2:n<=8):∃(k:Nat) (p':Pen),k<n/\T2 [e0,e1,e2,some (.ref H.length),e4,e5,e6,e7,y8,y9,y10,y11,y12,y13,y14,some (.int n),y16,y17,y18,y19] (H++[.lst (dQ p)])=.ok (.nx [e0,e1,e2,some (.ref H.length),e4,e5,e6,e7,y8,y9,y10,some (.int k),y12,y13,y14,some (.int n),y16,y17,y18,y19]) (H++[.lst (dQ p')]):=by
 obtain⟨k,ek,hk⟩:=oR p (n:Int) (by omega)
 have dr:=ie (p:=p) (h:=H) (t:=[]) (m:=(n:Int)) ⟨by omega,by omega⟩
 rw[ek] at dr
 exact⟨k,bc p (n:Int),by omega,by simp[T2,dr]⟩
end
section
variable {e0 e1 e2 e3 e4 e5 e6 e7 y4 y5 y6 y7 y8 y9 y10 y11 y12 y13 y14 y15 y16 y17 y18 y19:Option D} {H:Hh} {p:Pen}
theorem Gf {q:Nat × Nat} {k:Nat} {h:Hh} (hq:q∈qL) (hk:k<q.1):∃z17 z18 z19,(aI T3 (aI T4 (aI T5 T6))) [e0,e1,e2,e3,e4,e5,e6,e7,y8,y9,y10,some (.int k),y12,y13,y14,some (.int q.1),some (.int q.2),y17,y18,y19] h=.ok (.nx [e0,e1,e2,e3,e4,e5,e6,e7,y8,y9,y10,some (.int k),y12,y13,y14,some (.int q.1),some (.int q.2),z17,z18,z19]) h:=by
 obtain⟨n1,hn,m1,hm⟩:=Fs q hq
 obtain⟨n,m⟩:=q
 dsimp only at n1 hn m1 hm hk ⊢
 have sa:=Hl h (n,m) hq k hk
 have ok:=D_ (n,m) hq k hk
 dsimp only at sa ok
 unfold okQ at ok
 simp only[Bool.and_eq_true,decide_eq_true_eq] at ok
 obtain⟨⟨⟨o1,o2⟩,o3⟩,o4⟩:=ok
 have sm:=xy (h:=h) n1 hn m1 hm (show k<=8 by omega)
 rw[<- o4] at sm
 have sv:=DC (h:=h) o1
 rw[o2] at sv
 have ne:=Lh (L:=bR n m k) (h:=h)
 have lv:=GX (h:=h) o3
 rw[List.length_map] at lv
 obtain⟨z18,z19,bx⟩:=yn (d0:=e0) (d1:=e1) (d2:=e2) (d3:=e3) (d4:=e4) (d5:=e5) (d6:=e6) (d7:=e7) (d8:=y8) (d9:=y9) (d10:=y10) (d12:=y12) (d13:=y13) (d14:=y14) (d15:=some (.int n)) (d17:=some (.frl ((bR n m k).map tpI))) (h:=h) (n:=n) (m:=m) (k:=k) n1 hn m1 hm (bR n m k) (fun b hb=>hb) y18 y19
 have cm:eB tt1 (ai iV (aa (ag 1) (aa (ag 0) ak))) (fun d=>[some d,some (.int m)]) ((bR n m k).map tpI) h=.ok (((bR n m k).map (fZ m 0)).map tpI) h:=by
  have:=uJ (h:=h) (te:=ai iV (aa (ag 1) (aa (ag 0) ak))) (ee:=fun d=>[some d,some (.int m)]) tpI (fun b=>tpI (fZ m 0 b)) (bR n m k) (fun b hb=>by
   have f2:=Fh (h:=h) (uj hb).1 m1 hm n1 hn
   unfold tpI
   generalize b.map D.int=X at *
   simp[f2])
  rw[List.map_map];exact this
 have ll:(bR n m k).length<=1000000:=by
  unfold okV at o1
  simp only[Bool.and_eq_true,decide_eq_true_eq] at o1
  omega
 have l1:((bR n m k).map tpI).length=(bR n m k).length:=by simp
 have l2:(((bR n m k).map (fZ m 0)).map tpI).length<=1000000:=by simp;exact ll
 refine⟨some (.frl ((bR n m k).map tpI)),z18,z19,?_⟩
 generalize ((bR n m k).map (fZ m 0)).map tpI=M at *
 generalize (bR n m k).map tpI=L at *
 generalize (bR n m k).length=LL at *
 simp[T3,T4,T5,T6,sa,l1,sm,sv,ne,ll,bx,cm,lv]
end
section
variable {e0 e1 e2 e3 e4 e5 e6 e7 y4 y5 y6 y7 y8 y9 y10 y11 y12 y13 y14 y15 y16 y17 y18 y19:Option D} {H:Hh} {p:Pen}
theorem Jb {i:Int}:∃z11 z15 z16 z17 z18 z19 p',S9 [e0,some (.int i),e2,some (.ref H.length),e4,e5,e6,e7,y8,y9,y10,y11,y12,y13,y14,y15,y16,y17,y18,y19] (H++[.lst (dQ p)])=.ok (.nx [e0,some (.int i),e2,some (.ref H.length),e4,e5,e6,e7,y8,y9,y10,z11,y12,y13,y14,z15,z16,z17,z18,z19]) (H++[.lst (dQ p')]):=by
 rw[IJ]
 by_cases c:i=0
 ·obtain⟨q,hq,p1,e1'⟩:=Jt (e0:=e0) (e1:=some (.int i)) (e2:=e2) (e4:=e4) (e5:=e5) (e6:=e6) (e7:=e7) (y8:=y8) (y9:=y9) (y10:=y10) (y11:=y11) (y12:=y12) (y13:=y13) (y14:=y14) (y15:=y15) (y16:=y16) (y17:=y17) (y18:=y18) (y19:=y19) (H:=H) (p:=p)
  obtain⟨n1,hn,m1,hm⟩:=Fs q hq
  obtain⟨k,p2,hk,e2'⟩:=IW (e0:=e0) (e1:=some (.int i)) (e2:=e2) (e4:=e4) (e5:=e5) (e6:=e6) (e7:=e7) (y8:=y8) (y9:=y9) (y10:=y10) (y11:=y11) (y12:=y12) (y13:=y13) (y14:=y14) (y16:=some (.int q.2)) (y17:=y17) (y18:=y18) (y19:=y19) (H:=H) (p:=p1) n1 hn
  obtain⟨z17,z18,z19,e3'⟩:=Gf (e0:=e0) (e1:=some (.int i)) (e2:=e2) (e3:=some (.ref H.length)) (e4:=e4) (e5:=e5) (e6:=e6) (e7:=e7) (y8:=y8) (y9:=y9) (y10:=y10) (y12:=y12) (y13:=y13) (y14:=y14) (y17:=y17) (y18:=y18) (y19:=y19) (h:=H++[.lst (dQ p2)]) hq hk
  refine⟨some (.int k),some (.int q.1),some (.int q.2),z17,z18,z19,p2,?_⟩
  subst c
  generalize aI T3 (aI T4 (aI T5 T6))=R at *
  have tst:(aT asB (ao dEq (ag 1) (cC (.int 0)))) [e0,some (.int 0),e2,some (.ref H.length),e4,e5,e6,e7,y8,y9,y10,y11,y12,y13,y14,y15,y16,y17,y18,y19] (H++[.lst (dQ p)])=.ok true (H++[.lst (dQ p)]):=by simp
  rw[IT,tst,bq,if_pos rfl,jk,e1',bq,pG,jk,e2',bq,pG,e3']
 ·exact⟨y11,y15,y16,y17,y18,y19,p,by simp[c]⟩
end
theorem step:Bh:=by
 intro ns i c y3 y4 y5 y6 y7 y8 y9 y10 y11 y12 y13 y14 y15 y16 y17 y18 y19 H w
 rw[IA]
 obtain⟨a,ea,ha⟩:=oR (d_ c) 8 (by decide)
 obtain⟨b,eb,hb⟩:=oR (bc (d_ c) 8) 20 (by decide)
 obtain⟨n,en,hn⟩:=oR (bc (bc (d_ c) 8) 20) 12 (by decide)
 obtain⟨bt,et,hbt⟩:=oR (bc (bc (bc (d_ c) 8) 20) 12) 40 (by decide)
 have nn:(0:Int)<=((n+1:Nat):Int)*((bt+1:Nat):Int)/\((n+1:Nat):Int)*((bt+1:Nat):Int)<=480:=by
  have:(n+1)*(bt+1)<=12*40:=Nat.mul_le_mul (by omega) (by omega)
  rw[<- Int.natCast_mul];omega
 obtain⟨t,ett,htt⟩:=oR (bc (bc (bc (bc (d_ c) 8) 20) 12) 40) (((n+1:Nat):Int)*((bt+1:Nat):Int)+1) (by omega)
 have d1:=ie (p:=d_ c) (h:=H) (t:=[]) (m:=8) (by decide)
 have d2:=ie (p:=bc (d_ c) 8) (h:=H) (t:=[]) (m:=20) (by decide)
 have d3:=ie (p:=bc (bc (d_ c) 8) 20) (h:=H) (t:=[]) (m:=12) (by decide)
 have d4:=ie (p:=bc (bc (bc (d_ c) 8) 20) 12) (h:=H) (t:=[]) (m:=40) (by decide)
 have d5:=ie (p:=bc (bc (bc (bc (d_ c) 8) 20) 12) 40) (h:=H) (t:=[]) (m:=((n+1:Nat):Int)*((bt+1:Nat):Int)+1) ⟨by omega,by omega⟩
 rw[ea] at d1
 rw[eb] at d2
 rw[en] at d3
 rw[et] at d4
 rw[ett] at d5
 have k1:(1:Int)+(a:Int)=((a+1:Nat):Int):=by omega
 have k2:(1:Int)+(b:Int)=((b+1:Nat):Int):=by omega
 have k3:(1:Int)+(n:Int)=((n+1:Nat):Int):=by omega
 have k4:(1:Int)+(bt:Int)=((bt+1:Nat):Int):=by omega
 have tle:t<=(n+1)*(bt+1):=by rw[<- Int.natCast_mul] at htt;omega
 have s1:sml ((n+1:Nat):Int)=true:=aW (by omega) (by omega)
 have s2:sml ((bt+1:Nat):Int)=true:=aW (by omega) (by omega)
 generalize bc (bc (bc (bc (bc (d_ c) 8) 20) 12) 40) (((n+1:Nat):Int)*((bt+1:Nat):Int)+1)=p5 at *
 generalize bc (bc (bc (bc (d_ c) 8) 20) 12) 40=p4 at *
 generalize bc (bc (bc (d_ c) 8) 20) 12=p3 at *
 generalize bc (bc (d_ c) 8) 20=p2 at *
 generalize bc (d_ c) 8=p1 at *
 have e3:=HX (e0:=some (.scr (ns.map D.int))) (e1:=some (.int i)) (e2:=some (.int c)) (e3:=some (.ref H.length)) (y6:=y6) (y7:=y7) (y8:=y8) (y9:=y9) (y10:=y10) (y11:=y11) (y12:=y12) (y13:=y13) (y14:=y14) (y15:=y15) (y16:=y16) (y17:=y17) (y18:=y18) (y19:=y19) (n:=a+1) (m:=b+1) (h:=H++[.lst (dQ p2)]) (by omega) (by omega) (by omega) (by omega)
 obtain⟨z9,z10,e67⟩:=Hj (e0:=some (.scr (ns.map D.int))) (e1:=some (.int i)) (e2:=some (.int c)) (e3:=some (.ref H.length)) (e4:=some (.int ((a+1:Nat):Int))) (e5:=some (.int ((b+1:Nat):Int))) (y9:=y9) (y10:=y10) (y11:=y11) (y12:=y12) (y13:=y13) (y14:=y14) (y15:=y15) (y16:=y16) (y17:=y17) (y18:=y18) (y19:=y19) (n:=n+1) (t:=t) (b:=bt+1) (h:=H++[.lst (dQ p5)]) (by omega) (by omega) (by omega) (by omega) tle
 obtain⟨z11,z12,z13,z14,e8⟩:=Iy (e0:=some (.scr (ns.map D.int))) (e1:=some (.int i)) (e2:=some (.int c)) (e3:=some (.ref H.length)) (e4:=some (.int ((a+1:Nat):Int))) (e5:=some (.int ((b+1:Nat):Int))) (e7:=some (.int ((bt+1:Nat):Int))) (y8:=some (.int t)) (y9:=z9) (y10:=z10) (y11:=y11) (y12:=y12) (y13:=y13) (y14:=y14) (y15:=y15) (y16:=y16) (y17:=y17) (y18:=y18) (y19:=y19) (n:=n+1) (h:=H++[.lst (dQ p5)]) (by omega) (by omega)
 obtain⟨w11,w15,w16,w17,w18,w19,p6,e9⟩:=Jb (e0:=some (.scr (ns.map D.int))) (e2:=some (.int c)) (e4:=some (.int ((a+1:Nat):Int))) (e5:=some (.int ((b+1:Nat):Int))) (e6:=some (.int ((n+1:Nat):Int))) (e7:=some (.int ((bt+1:Nat):Int))) (y8:=some (.int t)) (y9:=z9) (y10:=z10) (y11:=z11) (y12:=z12) (y13:=z13) (y14:=z14) (y15:=y15) (y16:=y16) (y17:=y17) (y18:=y18) (y19:=y19) (i:=(i:Int)) (H:=H) (p:=p5)
 rw[jk] at e67
 refine⟨.nx [some (.scr (ns.map D.int)),some (.int i),some (.int c),some (.ref H.length),some (.int ((a+1:Nat):Int)),some (.int ((b+1:Nat):Int)),some (.int ((n+1:Nat):Int)),some (.int ((bt+1:Nat):Int)),some (.int t),z9,z10,w11,z12,z13,z14,w15,w16,w17,w18,w19],H++[.lst (dQ p6)],?_,_,_,_,_,_,_,_,_,_,_,_,_,_,_,_,_,_,rfl,Gz w p6⟩
 generalize hA:((a+1:Nat):Int)=A at *
 generalize hB:((b+1:Nat):Int)=B at *
 generalize hN:((n+1:Nat):Int)=N at *
 generalize hT:((bt+1:Nat):Int)=T at *
 have q1:S1 [some (.scr (ns.map D.int)),some (.int i),some (.int c),y3,y4,y5,y6,y7,y8,y9,y10,y11,y12,y13,y14,y15,y16,y17,y18,y19] H=.ok (.nx [some (.scr (ns.map D.int)),some (.int i),some (.int c),some (.ref H.length),y4,y5,y6,y7,y8,y9,y10,y11,y12,y13,y14,y15,y16,y17,y18,y19]) (H++[.lst (dQ (d_ c))]):=by simp[S1]
 have q2:S2 [some (.scr (ns.map D.int)),some (.int i),some (.int c),some (.ref H.length),y4,y5,y6,y7,y8,y9,y10,y11,y12,y13,y14,y15,y16,y17,y18,y19] (H++[.lst (dQ (d_ c))])=.ok (.nx [some (.scr (ns.map D.int)),some (.int i),some (.int c),some (.ref H.length),some (.int A),some (.int B),y6,y7,y8,y9,y10,y11,y12,y13,y14,y15,y16,y17,y18,y19]) (H++[.lst (dQ p2)]):=by simp[S2,d1,d2,k1,k2]
 have q4:S4 [some (.scr (ns.map D.int)),some (.int i),some (.int c),some (.ref H.length),some (.int A),some (.int B),y6,y7,y8,y9,y10,y11,y12,y13,y14,y15,y16,y17,y18,y19] (H++[.lst (dQ p2)])=.ok (.nx [some (.scr (ns.map D.int)),some (.int i),some (.int c),some (.ref H.length),some (.int A),some (.int B),some (.int N),some (.int T),y8,y9,y10,y11,y12,y13,y14,y15,y16,y17,y18,y19]) (H++[.lst (dQ p4)]):=by simp[S4,d3,d4,k3,k4]
 have q5:S5 [some (.scr (ns.map D.int)),some (.int i),some (.int c),some (.ref H.length),some (.int A),some (.int B),some (.int N),some (.int T),y8,y9,y10,y11,y12,y13,y14,y15,y16,y17,y18,y19] (H++[.lst (dQ p4)])=.ok (.nx [some (.scr (ns.map D.int)),some (.int i),some (.int c),some (.ref H.length),some (.int A),some (.int B),some (.int N),some (.int T),some (.int t),y9,y10,y11,y12,y13,y14,y15,y16,y17,y18,y19]) (H++[.lst (dQ p5)]):=by simp[S5,s1,s2,d5]
 generalize S1=G1 at *
 generalize S2=G2 at *
 generalize S3=G3 at *
 generalize S4=G4 at *
 generalize S5=G5 at *
 generalize S6=G6 at *
 generalize S7=G7 at *
 generalize S8=G8 at *
 generalize S9=G9 at *
 rw[jk,q1,bq,pG,jk,q2,bq,pG,jk,e3,bq,pG,jk,q4,bq,pG,jk,q5,bq,pG,jk]
 cases c6:G6 [some (.scr (ns.map D.int)),some (.int i),some (.int c),some (.ref H.length),some (.int A),some (.int B),some (.int N),some (.int T),some (.int t),y9,y10,y11,y12,y13,y14,y15,y16,y17,y18,y19] (H++[.lst (dQ p5)]) with
 | ok fl h6=>
  rw[c6,bq] at e67
  cases fl with
  | nx en=>
   rw[pG] at e67
   rw[bq,pG,jk,e67,bq,pG,jk,e8,bq,pG,e9]
  | _=>cases e67
 | _=>rw[c6] at e67;cases e67
theorem FX (ns:List Int) (hl:ns.length<=63):∃h,pM [.scr (ns.map D.int)] []=.ok (.bl true) h:=Hb step ns hl
end FC
open PySem PySem.W PyProof.Rows
local macro_rules | `(tactic| o_head $H)=>`(tactic| (refine holds_open (q:=FC.Q) (loose:=[]) (Xt:=(fun s=>xlAt FC.Q [] s&&recOk (RowW.records (OpenRow.toRowW (OpenLaw.row PySem.Challenge.rw_fallcounts_k55_whole_boxes))) s)) (XP:=XL FC.Q []) (Yf:=Hook.obs $H) (Ya:=Hook.val $H) (YP:=Hook.says $H) (N:=4140) (L2.FE.zA (by decide) (by kernel_rfl) (fun _=>by kernel_rfl) FC.JM FC.Ja (fun w os=>by kernel_rfl)) (Hook.of $H) (Hook.keeps $H) (fun s e=>xl_of s (Bool.and_eq_true_iff.mp e).1) XL.keeps (by rfl) (by rfl) (by rfl) (fun s e=>recFacts_of (Bool.and_eq_true_iff.mp e).2) (by rfl) (by first | assumption | decide +kernel) (by decide +kernel) ⟨rfl,rfl,rfl,rfl,rfl,by decide +kernel⟩ ?hw ?hc))
set_option maxRecDepth 100000 in
set_option maxHeartbeats 0 in
theorem PySem.Challenge.cw_fallcounts_k55_whole_boxes_holds : PySem.Challenge.rw_fallcounts_k55_whole_boxes.Holds := by
 w_on;o_law;k_head;w_witness2
 k_fill
 refine FC.walk (l:=PySem.Challenge.rw_fallcounts_k55_whole_boxes) rfl rfl (fun w h Y=>by first | exact PySem.W.kIn_of Y | exact PySem.W.km_in_of Y) FC.FX ?F
 case F=>
  intro w mg fa h KX G hmg
  have T:FC.Text (L2.KOf KX):=by
   dsimp only[L2.KOf]
   refine' ⟨?fW,?gD,?jb,?i3,?kh,?jf,?fo,?gA,?iP,?jr,?iM,?kn,?gm,?ko,?kz,?fN,?kg,?gz,?iC,?eD,?iD,?o8,?kf,?jE,?fJ,?gC,?kr,?gO,?BY,?mD,?kx,?kE,?ky,?Cd,?Bc,?wF,?i5,?Co,?iJ,?B6,?CN,?sI,?Bx,?oo,?AG,?t5,?A0,?dv,?eQ,?eU,?dY,?eW,?eO⟩
   (case fW=>refine' L2.FE.a_ ?a ?l ?c ?k;(case a=>k_is);(case l=>k_is);(case c=>k_is);(case k=>k_is))
   (case gD=>refine' L2.FE.a_ ?a ?l ?c ?k;(case a=>k_is);(case l=>k_is);(case c=>k_is);(case k=>k_is))
   (case jb=>refine' L2.FE.a_ ?a ?l ?c ?k;(case a=>k_is);(case l=>k_is);(case c=>k_is);(case k=>k_is))
   (case i3=>refine' L2.FE.a_ ?a ?l ?c ?k;(case a=>k_is);(case l=>k_is);(case c=>k_is);(case k=>k_is))
   (case kh=>refine' L2.FE.a_ ?a ?l ?c ?k;(case a=>k_is);(case l=>k_is);(case c=>k_is);(case k=>k_is))
   (case jf=>refine' L2.FE.a_ ?a ?l ?c ?k;(case a=>k_is);(case l=>k_is);(case c=>k_is);(case k=>k_is))
   (case fo=>refine' L2.FE.a_ ?a ?l ?c ?k;(case a=>k_is);(case l=>k_is);(case c=>k_is);(case k=>k_is))
   (case gA=>refine' L2.FE.a_ ?a ?l ?c ?k;(case a=>k_is);(case l=>k_is);(case c=>k_is);(case k=>k_is))
   (case iP=>refine' L2.FE.a_ ?a ?l ?c ?k;(case a=>k_is);(case l=>k_is);(case c=>k_is);(case k=>k_is))
   (case jr=>refine' L2.FE.a_ ?a ?l ?c ?k;(case a=>k_is);(case l=>k_is);(case c=>k_is);(case k=>k_is))
   (case iM=>refine' L2.FE.a_ ?a ?l ?c ?k;(case a=>k_is);(case l=>k_is);(case c=>k_is);(case k=>k_is))
   (case kn=>refine' L2.FE.a_ ?a ?l ?c ?k;(case a=>k_is);(case l=>k_is);(case c=>k_is);(case k=>k_is))
   (case gm=>refine' L2.FE.a_ ?a ?l ?c ?k;(case a=>k_is);(case l=>k_is);(case c=>k_is);(case k=>k_is))
   (case ko=>refine' L2.FE.a_ ?a ?l ?c ?k;(case a=>k_is);(case l=>k_is);(case c=>k_is);(case k=>k_is))
   (case kz=>refine' L2.FE.a_ ?a ?l ?c ?k;(case a=>k_is);(case l=>k_is);(case c=>k_is);(case k=>k_is))
   (case fN=>refine' L2.FE.a_ ?a ?l ?c ?k;(case a=>k_is);(case l=>k_is);(case c=>k_is);(case k=>k_is))
   (case kg=>refine' L2.FE.a_ ?a ?l ?c ?k;(case a=>k_is);(case l=>k_is);(case c=>k_is);(case k=>k_is))
   (case gz=>refine' L2.FE.a_ ?a ?l ?c ?k;(case a=>k_is);(case l=>k_is);(case c=>k_is);(case k=>k_is))
   (case iC=>refine' L2.FE.a_ ?a ?l ?c ?k;(case a=>k_is);(case l=>k_is);(case c=>k_is);(case k=>k_is))
   (case eD=>refine' L2.FE.a_ ?a ?l ?c ?k;(case a=>k_is);(case l=>k_is);(case c=>k_is);(case k=>k_is))
   (case iD=>refine' L2.FE.a_ ?a ?l ?c ?k;(case a=>k_is);(case l=>k_is);(case c=>k_is);(case k=>k_is))
   (case o8=>refine' L2.FE.a_ ?a ?l ?c ?k;(case a=>k_is);(case l=>k_is);(case c=>k_is);(case k=>k_is))
   (case kf=>refine' L2.FE.a_ ?a ?l ?c ?k;(case a=>k_is);(case l=>k_is);(case c=>k_is);(case k=>k_is))
   (case jE=>refine' L2.FE.a_ ?a ?l ?c ?k;(case a=>k_is);(case l=>k_is);(case c=>k_is);(case k=>k_is))
   (case fJ=>refine' L2.FE.a_ ?a ?l ?c ?k;(case a=>k_is);(case l=>k_is);(case c=>k_is);(case k=>k_is))
   (case gC=>refine' L2.FE.a_ ?a ?l ?c ?k;(case a=>k_is);(case l=>k_is);(case c=>k_is);(case k=>k_is))
   (case kr=>refine' L2.FE.a_ ?a ?l ?c ?k;(case a=>k_is);(case l=>k_is);(case c=>k_is);(case k=>k_is))
   (case gO=>refine' L2.FE.a_ ?a ?l ?c ?k;(case a=>k_is);(case l=>k_is);(case c=>k_is);(case k=>k_is))
   (case BY=>refine' L2.FE.a_ ?a ?l ?c ?k;(case a=>k_is);(case l=>k_is);(case c=>k_is);(case k=>k_is))
   (case mD=>refine' L2.FE.a_ ?a ?l ?c ?k;(case a=>k_is);(case l=>k_is);(case c=>k_is);(case k=>k_is))
   (case kx=>refine' L2.FE.a_ ?a ?l ?c ?k;(case a=>k_is);(case l=>k_is);(case c=>k_is);(case k=>k_is))
   (case kE=>refine' L2.FE.a_ ?a ?l ?c ?k;(case a=>k_is);(case l=>k_is);(case c=>k_is);(case k=>k_is))
   (case ky=>refine' L2.FE.a_ ?a ?l ?c ?k;(case a=>k_is);(case l=>k_is);(case c=>k_is);(case k=>k_is))
   (case Cd=>refine' L2.FE.a_ ?a ?l ?c ?k;(case a=>k_is);(case l=>k_is);(case c=>k_is);(case k=>k_is))
   (case Bc=>k_is)
   (case wF=>k_is)
   (case i5=>k_is)
   (case Co=>k_is)
   (case iJ=>k_is)
   (case B6=>k_is)
   (case CN=>k_is)
   (case sI=>k_is)
   (case Bx=>k_is)
   (case oo=>k_is)
   (case AG=>k_is)
   (case t5=>k_is)
   (case A0=>k_is)
   (case dv=>exact⟨_,rfl⟩)
   (case eQ=>exact⟨_,rfl⟩)
   (case eU=>exact⟨_,rfl⟩)
   (case dY=>exact⟨_,rfl⟩)
   (case eW=>exact⟨_,rfl⟩)
   (case eO=>exact⟨_,rfl⟩)
  exact FC.all_mk KX G hmg T
