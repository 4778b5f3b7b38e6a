import PyProof.Rows.All
import Wide.All
import OpenK.AllK
import Wide.FinOn
import Lean
import KE.KNestM
import PyProof.EqAt
import PyProof.EqKinds
import PyProof.TupleCall
import PyProof.EnumMake
import PyProof.Draws
import KE.KDictList
import KE.KTryMore
import KE.KEqDict
import PyProof.ExcInit
import PyProof.InstStoreFacts
import KE.KSortTup
import PySem.Challenge.RW_fallcounts_k34_sets_listed_and_greatest
set_option Elab.async false
set_option linter.all false
set_option maxRecDepth 100000
set_option maxHeartbeats 8000000
namespace L2.FE
open PySem PySem.W PySem.Calls
noncomputable def AJ:List Obj->BT->Nat->Option BT
 | [],t,_=>some t
 | o::r,t,n=>match ((t.ins n o).get n).isSome with
  | true=>AJ r (t.ins n o) (n+1)
  | false=>none
theorem qO {life:Life}:∀{r:List Obj} {t T:BT} {n:Nat} {a:Array Obj},AJ r t n=some T->absHeap t n life=⟨a,life⟩->absHeap T (n+r.length) life=⟨a++r.toArray,life⟩
 | [],t,T,n,a,h,e=>by cases h;simpa using e
 | o::r,t,T,n,a,h,e=>by
  unfold AJ at h
  cases g:((t.ins n o).get n).isSome with
  | false=>rw[g] at h;cases h
  | true=>
   rw[g] at h
   have x:absHeap (t.ins n o) (n+1) life=⟨a.push o,life⟩:=by rw[absHeap_ins g,e];rfl
   have:=qO h x
   rw[List.length_cons,show n+(r.length+1)=n+1+r.length by omega,this]
   simp
noncomputable def uI (p:Program) (w:World) (n₀:Nat) (ann:Option Value):Nat->SharedT->Thread->Option SharedT
 | 0,_,_=>none
 | n+1,s,t=>match through t with
  | true=>some s
  | false=>match PySem.W.Fast.tw6613529449190102663 n₀ ann t with
   | false=>none
   | true=>match PySem.W.Fast.tw10156331382660048174 (PySem.W.Fast.tw11892475500146522536 PySem.W.Fast.tw14364793385576792824) p w s t with
    | some (s',t')=>uI p w n₀ ann n s' t'
    | none=>none
theorem rP {p:Program} {w:World} {n₀:Nat} {ann:Option Value}:∀{n:Nat} {s r:SharedT} {t:Thread},uI p w n₀ ann n s t=some r->topRun treeTable p w n₀ ann n s.abs t=some r.abs
 | 0,_,_,_,h=>by cases h
 | n+1,s,r,t,h=>by
  unfold uI at h
  unfold topRun
  cases ht:through t with
  | true=>rw[ht] at h;cases h;rfl
  | false=>
   rw[ht,<- PySem.W.Fast.te6613529449190102663] at h
   cases hk:stepOk n₀ ann t with
   | false=>simp only[hk] at h;cases h
   | true=>
    simp only[hk] at h
    rw[<- PySem.W.Fast.te10156331382660048174,<- PySem.W.Fast.te11892475500146522536,<- PySem.W.Fast.te14364793385576792824] at h
    cases hs:stepT (denote treeTable) p w s t with
    | none=>rw[hs] at h;cases h
    | some x=>obtain⟨s₂,t₂⟩:=x;rw[hs] at h;rw[stepT_spec hs];exact rP h
noncomputable def nU (p:Program) (w:World) (N:Nat) (os:OsState):Option SharedT:=
 match (boot_heap w.params).isNs mainGlobals with
 | true=>(AJ (boot_heap w.params).objs.toList .nil 0).bind fun T=>uI p w (boot_heap w.params).objs.size ((boot_heap w.params).nsMap mainGlobals (Str.ofString "__annotations__")) N ⟨T,(boot_heap w.params).objs.size,(boot_heap w.params).life,#[],boot_drawn,boot_toks,os⟩ (topStub p)
 | false=>none
noncomputable def xx (p:Program) (w:World) (s₁:Shared):Bool:=staticsOk (PySem.W.Fast.tw5923862056798008813 p.main.body) (boot_heap w.params) s₁.heap&&namesBound p s₁.heap&&gensDone s₁&&laidKept (boot_heap w.params) s₁.heap
theorem vO {p q:Program} {loose:List Str} {Xt:Shared->Bool} {α:Type} {Yf:Shared->α} {Ya:World->α} {N:Nat} (hN:Nat.ble 600 N=true) (e:opening p=plainProg p.main.scope.names) (f:∀s,fenceModules? p s=some s)
  (h1:∀(w:World) (os:OsState),(nU p w N os).map (fun s=>xx p w s.abs)=some true)
  (h2:∀(w:World) (os:OsState),(nU p w N os).map (fun s=>PySem.W.Fast.tw4187177175401517315 q loose (PySem.W.Fast.tw5923862056798008813 p.main.body) Xt true s.abs)=some (openGood q loose))
  (h3:∀(w:World) (os:OsState),(nU p w N os).map (fun s=>Yf s.abs)=some (Ya w)):LeftO p q loose Xt Yf Ya N:=fun w=>by
 obtain⟨s,hs,e'⟩:=Option.map_eq_some_iff.mp (boot_open e hN f w)
 obtain⟨H,gs,d,k,os⟩:=s
 obtain⟨rfl,rfl,rfl,rfl⟩:H=boot_heap w.params/\gs=_/\d=boot_drawn/\k=boot_toks:=by simpa using e'
 obtain⟨r,hr,l1⟩:=Option.map_eq_some_iff.mp (h1 w os)
 obtain⟨r2,hr2,l2⟩:=Option.map_eq_some_iff.mp (h2 w os)
 obtain⟨r3,hr3,l3⟩:=Option.map_eq_some_iff.mp (h3 w os)
 obtain rfl:r=r2:=Option.some.inj (hr.symm.trans hr2)
 obtain rfl:r=r3:=Option.some.inj (hr.symm.trans hr3)
 unfold xx at l1
 rw[<- PySem.W.Fast.te5923862056798008813] at l1
 rw[<- PySem.W.Fast.te4187177175401517315,<- PySem.W.Fast.te5923862056798008813] at l2
 unfold nU at hr
 cases hn:(boot_heap w.params).isNs mainGlobals with
 | false=>rw[hn] at hr;cases hr
 | true=>
  rw[hn] at hr
  obtain⟨T,hT,hr⟩:=Option.bind_eq_some_iff.mp hr
  have z:=qO (life:=(boot_heap w.params).life) (n:=0) (a:=#[]) hT rfl
  have z':absHeap T (boot_heap w.params).objs.size (boot_heap w.params).life=boot_heap w.params:=by
   rw[Nat.zero_add,Array.length_toList] at z
   rw[z]
   simp
  have hr:=rP hr
  have st:(SharedT.mk T (boot_heap w.params).objs.size (boot_heap w.params).life #[] boot_drawn boot_toks os).abs=⟨boot_heap w.params,#[],boot_drawn,boot_toks,os⟩:=by
   show Shared.mk _ _ _ _ _=_
   rw[z']
  rw[st] at hr
  unfold openEnds
  rw[hs]
  show Option.map _ (topFrom treeTable p w N _)=_
  have t:topFrom treeTable p w N ⟨boot_heap w.params,#[],boot_drawn,boot_toks,os⟩=some r.abs:=by
   unfold topFrom
   dsimp only
   rw[hn]
   rw[hr]
   show(match staticsOk (importedModules p.main.body) (boot_heap w.params) r.abs.heap&&namesBound p r.abs.heap&&gensDone r.abs&&laidKept (boot_heap w.params) r.abs.heap with | true=>_ | false=>_)=_
   rw[l1]
  rw[t]
  show some (openSeen q loose (importedModules p.main.body) Xt true r.abs,Yf r.abs)=_
  rw[l2,l3]
noncomputable def viewOf (p:Program) (keep:List Nat):Program:={ p with main:={ p.main with body:=keep.filterMap fun i=>p.main.body[i]? } }
end L2.FE
section
open PySem PySem.W PyProof.Rows
noncomputable def FC.Q:Program:=L2.FE.viewOf PySem.Challenge.pw_fallcounts_k34_sets_listed_and_greatest [1,2,3,5,6,7,9,11,13,14,15,16,17,18,19,20,21,22,24,25,26,27,28,29,30,31]
theorem FC.DV:∀(w:World) (os:OsState),(L2.FE.nU PySem.Challenge.pw_fallcounts_k34_sets_listed_and_greatest w 2718 os).map (fun s=>L2.FE.xx PySem.Challenge.pw_fallcounts_k34_sets_listed_and_greatest w s.abs)=some true:=fun w os=>by kernel_rfl
theorem FC.Dn:∀(w:World) (os:OsState),(L2.FE.nU PySem.Challenge.pw_fallcounts_k34_sets_listed_and_greatest w 2718 os).map (fun s=>PySem.W.Fast.tw4187177175401517315 FC.Q [] (PySem.W.Fast.tw5923862056798008813 PySem.Challenge.pw_fallcounts_k34_sets_listed_and_greatest.main.body) (fun s=>xlAt FC.Q [] s&&recOk (RowW.records (OpenRow.toRowW (OpenLaw.row PySem.Challenge.rw_fallcounts_k34_sets_listed_and_greatest))) s) true s.abs)=some (openGood FC.Q []):=fun w os=>by kernel_rfl
end
namespace L2
open PySem PySem.Spec PyProof.Rows
noncomputable abbrev Key:=Sum Int Str
noncomputable def Bn:Key->Value->Bool
 | .inl k,v=>Value.isInt k v
 | .inr x,v=>Value.isStrOf x v
noncomputable def E3 (w:World):Key->Int
 | .inl k=>hashInt k
 | .inr x=>hashStr w x
theorem bC:∀{k:Key} {v:Value},Bn k v=true->(∃i t,k=Sum.inl i/\v=Value.int i t)\/(∃x t,k=Sum.inr x/\v=Value.str x t)
 | .inl i,v,h=>by
  obtain⟨t,e⟩:=Value.isInt_shape (k:=i) (v:=v) h
  exact .inl ⟨i,t,rfl,e⟩
 | .inr x,v,h=>by
  obtain⟨t,e⟩:=Value.isStrOf_shape (x:=x) (v:=v) h
  exact .inr ⟨x,t,rfl,e⟩
theorem Cm (a b:Int):decide ((Sum.inl a:Key)=Sum.inl b)=(a == b):=by
 by_cases e:a=b
 ·subst e;simp
 ·have h:¬ (Sum.inl a:Key)=Sum.inl b:=fun q=>e (Sum.inl.inj q)
  rw[decide_eq_false h]
  exact(beq_eq_false_iff_ne.mpr e).symm
theorem Bt (a b:Str):decide ((Sum.inr a:Key)=Sum.inr b)=decide (a=b):=by
 by_cases e:a=b
 ·subst e;simp
 ·have h:¬ (Sum.inr a:Key)=Sum.inr b:=fun q=>e (Sum.inr.inj q)
  rw[decide_eq_false h,decide_eq_false e]
theorem CA (a:Int) (b:Str):decide ((Sum.inl a:Key)=Sum.inr b)=false:=decide_eq_false (fun q=>nomatch q)
theorem CC (a:Str) (b:Int):decide ((Sum.inr a:Key)=Sum.inl b)=false:=decide_eq_false (fun q=>nomatch q)
noncomputable def pM (prog:Program) (w:World):PySem.KeyKind prog w Key where
 is:=Bn
 hash:=E3 w
 inj:=fun v a b ha hb=>by
  rcases bC ha with⟨i,t,rfl,rfl⟩ | ⟨x,t,rfl,rfl⟩
  ·rcases bC hb with⟨j,u,rfl,e⟩ | ⟨y,u,rfl,e⟩
   ·injection e with e1 _;rw[e1]
   ·exact nomatch e
  ·rcases bC hb with⟨j,u,rfl,e⟩ | ⟨y,u,rfl,e⟩
   ·exact nomatch e
   ·injection e with e1 _;rw[e1]
 byValue:=fun k v h=>by
   rcases bC h with⟨i,t,rfl,rfl⟩ | ⟨x,t,rfl,rfl⟩<;>rfl
 pyHash:=fun hv h=>by
  rcases bC hv with⟨i,t,rfl,rfl⟩ | ⟨x,t,rfl,rfl⟩
  ·exact wpAny_pyHash_int h
  ·exact wpAny_pyHash_str h
 eqBool:=fun hu hv h=>by
  rcases bC hu with⟨i,t,rfl,rfl⟩ | ⟨x,t,rfl,rfl⟩
  ·rcases bC hv with⟨j,u,rfl,rfl⟩ | ⟨y,u,rfl,rfl⟩
   ·rw[Cm] at h;exact wpAny_eqBool_int h
   ·rw[CA] at h;exact SeqAt.EqAt.int_str i t y u _ _ _ _ h
  ·rcases bC hv with⟨j,u,rfl,rfl⟩ | ⟨y,u,rfl,rfl⟩
   ·rw[CC] at h;exact SeqAt.EqAt.str_int x t j u _ _ _ _ h
   ·rw[Bt] at h;exact wpAny_eqBool_str h
 «strs»:=fun k x t v h=>by
  rcases bC h with⟨i,u,rfl,e⟩ | ⟨y,u,rfl,e⟩
  ·exact nomatch e
  ·injection e with e1 _
   subst e1
   cases v<;>rfl
inductive V where
 | non | bl (b:Bool) | int (i:Int) | str (x:Str) | byt (b:Array UInt8) | flt (b:UInt64) | ref (a:Addr) | ty (n:String)
 deriving DecidableEq
noncomputable def RelV:V->Value->Prop
 | .non,u=>u=Value.none
 | .bl b,u=>u=Value.bool b
 | .int i,u=>∃t,u=Value.int i t
 | .str x,u=>∃t,u=Value.str x t
 | .byt b,u=>∃t,u=Value.bytes b t
 | .flt b,u=>∃t,u=Value.float b t
 | .ref a,u=>u=Value.ref a
 | .ty n,u=>u=Value.type n
noncomputable abbrev Vals:List V->List Value->Prop:=Paired RelV
theorem Vals.length {xs:List V} {us:List Value} (r:Vals xs us):xs.length=us.length:=Paired.length r
theorem Vals.get:∀{xs:List V} {us:List Value} {i:Nat} {x:V},Vals xs us->xs[i]?=some x->∃u,us[i]?=some u/\RelV x u
 | _,_,_,_,.nil,e=>by simp at e
 | _,_,0,_,.cons r _,e=>by simp at e;subst e;exact⟨_,rfl,r⟩
 | _,_,i+1,x,.cons _ t,e=>by
  obtain⟨u,h1,h2⟩:=Vals.get (i:=i) (x:=x) t (by simpa using e)
  exact⟨u,by simpa using h1,h2⟩
theorem Vals.set {x:V} {u:Value} (r:RelV x u):∀{xs:List V} {us:List Value} (i:Nat),Vals xs us->Vals (xs.set i x) (us.set i u)
 | _,_,_,.nil=>.nil
 | _,_,0,.cons _ t=>.cons r t
 | _,_,i+1,.cons q t=>.cons q (Vals.set r i t)
theorem Vals.append:∀{xs ys:List V} {us ws:List Value},Vals xs us->Vals ys ws->Vals (xs++ys) (us++ws)
 | _,_,_,_,.nil,s=>s
 | _,_,_,_,.cons r t,s=>.cons r (Vals.append t s)
theorem Vals.take:∀{xs:List V} {us:List Value} (n:Nat),Vals xs us->Vals (xs.take n) (us.take n)
 | _,_,0,_=>.nil
 | _,_,_+1,.nil=>.nil
 | _,_,n+1,.cons r t=>.cons r (Vals.take n t)
theorem Vals.drop:∀{xs:List V} {us:List Value} (n:Nat),Vals xs us->Vals (xs.drop n) (us.drop n)
 | _,_,0,r=>r
 | _,_,_+1,.nil=>.nil
 | _,_,n+1,.cons _ t=>Vals.drop n t
noncomputable def Cs:Option V->Option Value->Prop
 | some v,some u=>RelV v u
 | none,none=>True
 | _,_=>False
noncomputable def KV {κ:Type}:List (κ × V)->List (κ × Value)->Prop:=Paired fun(p:κ × V) (q:κ × Value)=>p.1=q.1/\RelV p.2 q.2
noncomputable def kV:Key->V
 | .inl i=>.int i
 | .inr x=>.str x
inductive HO where
 | lst (xs:List V)
 | tup (xs:List V)
 | dK (kvs:List (Key × V)) | dT (kvs:List (List Key × V))
 | set (S:Int->Bool) (n:Nat)
 | ins (C dx:Addr) (fs:List (Str × V))
 | own (x:Addr)
 | xd (fs:List (Str × V))
 | met (f x:Addr)
 | rng (lo hi:Int)
 | frz (o:Obj) (u:HO)
 | tbl (ps:Array Value)
 | ext (φ:Heap->Prop)
noncomputable abbrev Hp:=Addr->Option HO
noncomputable def upd (H:Hp) (a:Addr) (o:HO):Hp:=fun b=>if b=a then some o else H b
theorem aO {H:Hp} {a:Addr} {o:HO}:upd H a o a=some o:=by unfold upd;rw[if_pos rfl]
theorem aH {H:Hp} {a b:Addr} {o:HO} (h:b≠a):upd H a o b=H b:=by unfold upd;rw[if_neg h]
theorem bH {H:Hp} {a b:Addr} {o:HO} (h:H a=some o) (h':H b=none):a≠b:=by
 intro e;subst e;rw[h] at h';cases h'
noncomputable def j7 (h:Heap) (a:Addr) (its:Array Value):Prop:=∃o,h.get? a=some o/\(o.cls=.type "tuple" /\ ∃n,o.data=.seq its n)/\o.dict=none
theorem j7.tup {h:Heap} {a:Addr} {its:Array Value} (x:j7 h a its):IsTup h a its:=let ⟨o,e,⟨c,n,d⟩,_⟩:=x;⟨o,e,c,n,d⟩
theorem j7.new (h:Heap) (its:Array Value):j7 (h.push { cls:=.type "tuple", data:=.seq its }) h.objs.size its:=⟨_,Heap.get?_push_size _ rfl,⟨rfl,_,rfl⟩,rfl⟩
section
variable (P:Program) (w:World)
noncomputable def bY (H:Hp) (h:Heap) (a:Addr):HO->Prop
 | .lst xs=>xs.length<=sizeLine/\∃(its:List Value) (n:Nat),Vals xs its/\h.get? a=some { cls:=.type "list", data:=.seq its.toArray n }
 | .tup xs=>xs.length<=sizeLine/\∃its:List Value,Vals xs its/\j7 h a its.toArray
 | .dK kvs=>kvs.length<=sizeLine/\(a == sysModules)=false/\∃vs,KV kvs vs/\h.DictOf (pM P w) a vs
 | .dT kvs=>kvs.length<=sizeLine/\(a == sysModules)=false/\∃xs:List (List Key × Addr × Value),
   Paired (fun(p:List Key × V) (q:List Key × Addr × Value)=>p.1=q.1/\H q.2.1=some (.tup (p.1.map kV))/\RelV p.2 q.2.2) kvs xs ∧
   ∃o es ep,h.get? a=some o/\o.ExactDict/\o.data=.dict es ep/\es.toList=xs.map (entryOfKey (tupleKind (pM P w)))/\(xs.map (·.1)).Nodup
 | .set S n=>h.SetOf (intKind P w) a S n
 | .ins C dx fs=>H dx=some (.own a)/\fs.length<=1000/\dx≠a/\h.get? a=some (PySem.W.instObj C dx) ∧
   ∃mA,h.Ns1 dx mA/\(∀f,Cs (fs.lookup f) (mA f))/\PySem.Within mA (fs.map (·.1))
 | .own _=>∃o,h.get? a=some o
 | .xd fs=>∃mA,h.Ns1 a mA/\∀f,Cs (fs.lookup f) (mA f)
 | .rng lo hi=>∃t u v,h.get? a=some { cls:=.type "range", data:=.fields #[.int lo t,.int hi u,.int 1 v] }
 | .frz o u=>h.get? a=some o/\bY H h a u
 | .tbl ps=>h.get? a=some { cls:=.none,data:=.fields ps }
 | .met f x=>h.get? a=some (PySem.W.methodObj (.ref f) (.ref x))
 | .ext φ=>φ h/\(∃o,h.get? a=some o)/\∀h1 h2:Heap,φ h1->(∀o,h1.get? a=some o->h2.get? a=some o)->φ h2
noncomputable def HOk (H:Hp) (h:Heap):Prop:=∀a o,H a=some o->bY P w H h a o
end
section
variable {P:Program} {w:World} {H H':Hp} {h h':Heap} {a:Addr} {o:HO}
theorem bY.lt (x:bY P w H h a o):a<h.objs.size:=by
 cases o with
 | lst xs=>obtain⟨_,_,_,_,e⟩:=x;exact Heap.lt_size e
 | tup xs=>obtain⟨_,_,_,_,e,_⟩:=x;exact Heap.lt_size e
 | dK kvs=>obtain⟨_,_,_,_,o,_,_,e,_⟩:=x;exact Heap.lt_size e
 | dT kvs=>obtain⟨_,_,_,_,o,_,_,e,_⟩:=x;exact Heap.lt_size e
 | set S n=>obtain⟨o,_,_,_,e,_⟩:=x;exact Heap.lt_size e
 | ins C dx fs=>obtain⟨_,_,_,e,_⟩:=x;exact Heap.lt_size e
 | own y=>obtain⟨_,e⟩:=x;exact Heap.lt_size e
 | xd fs=>obtain⟨_,⟨_,_,_,e,_⟩,_⟩:=x;exact Heap.lt_size e
 | rng lo hi=>obtain⟨_,_,_,e⟩:=x;exact Heap.lt_size e
 | frz ob u=>obtain⟨e,_⟩:=x;exact Heap.lt_size e
 | tbl ps=>exact Heap.lt_size (show h.get? a=some _ from x)
 | met f y=>exact Heap.lt_size (show h.get? a=some _ from x)
 | ext φ=>obtain⟨_,⟨_,e⟩,_⟩:=x;exact Heap.lt_size e
theorem Paired.Ar {α β:Type} {F G:α->β->Prop}:∀{l₁:List α} {l₂:List β},Paired F l₁ l₂->(∀a b,F a b->G a b)->Paired G l₁ l₂
 | _,_,.nil,_=>.nil
 | _,_,.cons r t,f=>.cons (f _ _ r) (Paired.Ar t f)
theorem bY.lY (x:bY P w H h a o) (k:∀b u,(b=a\/H b=some (.own a))->h.get? b=some u->h'.get? b=some u)
  (ho:∀b,H b=some (.own a)->H' b=some (.own a)) (ht:∀b xs,H b=some (.tup xs)->H' b=some (.tup xs)):bY P w H' h' a o:=by
 induction o with
 | lst xs=>obtain⟨z,its,n,r,e⟩:=x;exact⟨z,its,n,r,k _ _ (.inl rfl) e⟩
 | tup xs=>obtain⟨z,its,r,ob,e,c⟩:=x;exact⟨z,its,r,ob,k _ _ (.inl rfl) e,c⟩
 | dK kvs=>obtain⟨z,y,vs,r,ob,es,ep,e,c⟩:=x;exact⟨z,y,vs,r,ob,es,ep,k _ _ (.inl rfl) e,c⟩
 | dT kvs=>
  obtain⟨z,y,xs,r,ob,es,ep,e,c⟩:=x
  exact⟨z,y,xs,Paired.Ar r fun p q z=>⟨z.1,ht _ _ z.2.1,z.2.2⟩,ob,es,ep,k _ _ (.inl rfl) e,c⟩
 | set S n=>obtain⟨ob,es,ep,t,e,c⟩:=x;exact⟨ob,es,ep,t,k _ _ (.inl rfl) e,c⟩
 | ins C dx fs=>
  obtain⟨d,z,ne,e,mA,⟨od,es,ep,e2,c⟩,r⟩:=x
  exact⟨ho _ d,z,ne,k _ _ (.inl rfl) e,mA,⟨od,es,ep,k _ _ (.inr d) e2,c⟩,r⟩
 | own y=>obtain⟨ob,e⟩:=x;exact⟨ob,k _ _ (.inl rfl) e⟩
 | xd fs=>obtain⟨mA,⟨od,es,ep,e,c⟩,r⟩:=x;exact⟨mA,⟨od,es,ep,k _ _ (.inl rfl) e,c⟩,r⟩
 | rng lo hi=>obtain⟨t,u,v,e⟩:=x;exact⟨t,u,v,k _ _ (.inl rfl) e⟩
 | frz ob u ih=>obtain⟨e,q⟩:=x;exact⟨k _ _ (.inl rfl) e,ih q⟩
 | tbl ps=>
  have e:h.get? a=some { cls:=.none,data:=.fields ps }:=x
  show h'.get? a=some { cls:=.none,data:=.fields ps }
  exact k a _ (.inl rfl) e
 | met f y=>
  have e:h.get? a=some (PySem.W.methodObj (.ref f) (.ref y)):=x
  show h'.get? a=some (PySem.W.methodObj (.ref f) (.ref y))
  exact k a _ (.inl rfl) e
 | ext φ=>obtain⟨p,⟨o,e⟩,st⟩:=x;exact⟨st _ _ p fun o q=>k _ _ (.inl rfl) q,⟨o,k _ _ (.inl rfl) e⟩,st⟩
theorem HOk.lt (x:HOk P w H h) (e:H a=some o):a<h.objs.size:=(x a o e).lt
theorem HOk.fresh (x:HOk P w H h) (e:h.objs.size<=a):H a=none:=by
 cases q:H a with
 | none=>rfl
 | some u=>exact absurd (Nat.lt_of_lt_of_le (x.lt q) e) (Nat.lt_irrefl _)
theorem HOk.kept (x:HOk P w H h) (k:∀b u,h.get? b=some u->h'.get? b=some u):HOk P w H h':=fun a o e=>
 (x a o e).lY (fun b u _ q=>k b u q) (fun _ q=>q) fun _ _ q=>q
theorem HOk.laid (x:HOk P w H h) (k:∀b u,h.get? b=some u->h'.get? b=some u) (hp:h.objs.size<=a) (new:bY P w (upd H a o) h' a o):HOk P w (upd H a o) h':=fun b u e=>by
 have hn:=x.fresh hp
 by_cases hb:b=a
 ·subst hb;rw[aO] at e;cases e;exact new
 ·rw[aH hb] at e
  exact(x b u e).lY (fun c v _ q=>k c v q) (fun c q=>by rw[aH (bH q hn)];exact q) fun c xs q=>by rw[aH (bH q hn)];exact q
end
noncomputable def Rd (H:Hp) (a:Addr) (u:HO):Prop:=H a=some u\/∃o,H a=some (.frz o u)
theorem Rd.ok {P:Program} {w:World} {H:Hp} {h:Heap} {a:Addr} {u:HO} (r:Rd H a u) (x:HOk P w H h):bY P w H h a u:=by
 rcases r with r | ⟨o,r⟩
 ·exact x a u r
 ·obtain⟨_,q⟩:=x a _ r
  exact q
noncomputable def Mut:Option HO->Prop
 | some (.lst _)=>True
 | some (.dK _)=>True
 | some (.dT _)=>True
 | some (.set _ _)=>True
 | some (.ins _ _ _)=>True
 | some (.ext _)=>True
 | _=>False
section
variable {P:Program} {w:World} {H:Hp} {h h':Heap} {x e:Addr} {o':HO}
theorem HOk.write (ok:HOk P w H h) (mu:Mut (H x)) (he:e=x\/H e=some (.own x)) (k:∀b u,b≠e->h.get? b=some u->h'.get? b=some u) (heo:∃u,h'.get? e=some u)
  (new:bY P w (upd H x o') h' x o'):HOk P w (upd H x o') h':=fun b u q=>by
 have nown:∀c y,H c=some (.own y)->c≠x:=fun c y r z=>by subst z;rw[r] at mu;exact mu
 have ntup:∀c xs,H c=some (.tup xs)->c≠x:=fun c xs r z=>by subst z;rw[r] at mu;exact mu
 by_cases hb:b=x
 ·subst hb;rw[aO] at q;cases q;exact new
 ·rw[aH hb] at q
  by_cases hbe:b=e
  ·have q':H b=some (.own x):=by
    rcases he with z | z
    ·exact absurd (hbe.trans z) hb
    ·rw[hbe];exact z
   rw[q] at q';cases q'
   obtain⟨v,hv⟩:=heo
   exact⟨v,by rw[hbe];exact hv⟩
  ·refine(ok b u q).lY (fun c v hc r=>k c v ?_ r) (fun c r=>by rw[aH (nown c b r)];exact r) fun c xs r=>by rw[aH (ntup c xs r)];exact r
   rcases hc with rfl | hc
   ·exact hbe
   ·rintro rfl
    rcases he with z | z
    ·exact nown c b hc z
    ·rw[hc] at z;cases z;exact hb rfl
end
structure Un (fs ex:List Addr) (H H':Hp) (h h':Heap):Prop where
 keep:∀b o,h.get? b=some o->H b=none->b∉fs->b∉ex->h'.get? b=some o
 slot:∀b o,h.get? b=some o->H b=none->b∈fs->b∉ex->∃sl,h'.get? b=some { o with slots:=sl }
 free:∀b o,h.get? b=some o->H b=none->b∉ex->H' b=none
 there:∀b o,h.get? b=some o->b∉ex->∃o',h'.get? b=some o'
 oU:∀b xs,H b=some (.tup xs)->H' b=some (.tup xs)
 mL:∀b o u,H b=some (.frz o u)->H' b=some (.frz o u)
 oG:∀b ps,H b=some (.tbl ps)->∃more,H' b=some (.tbl (ps++more))
section
variable {fs fs' ex ex':List Addr} {H H1 H2:Hp} {h h1 h2 h':Heap} {a x e:Addr} {o:HO}
theorem Un.any (u:Un fs ex H H1 h h1) {b:Addr} {ob:Obj} (q:h.get? b=some ob) (n:H b=none) (hx:b∉ex):∃sl,h1.get? b=some { ob with slots:=sl }:=by
 by_cases hb:b∈fs
 ·exact u.slot b ob q n hb hx
 ·exact⟨ob.slots,u.keep b ob q n hb hx⟩
theorem Un.kept (k:∀b u,h.get? b=some u->h'.get? b=some u):Un fs ex H H h h':=
 ⟨fun b ob q _ _ _=>k b ob q,fun b ob q _ _ _=>⟨ob.slots,k b ob q⟩,fun _ _ _ n _=>n,fun b ob q _=>⟨ob,k b ob q⟩,fun _ _ q=>q,fun _ _ _ q=>q,fun _ ps q=>⟨#[],by rw[q];simp⟩⟩
theorem Un.refl:Un fs ex H H h h:=Un.kept fun _ _ q=>q
theorem Un.laid (k:∀b u,h.get? b=some u->h'.get? b=some u) (hp:h.objs.size<=a) (hn:H a=none):Un fs ex H (upd H a o) h h' where
 keep:=fun b u q _ _ _=>k b u q
 slot:=fun b u q _ _ _=>⟨u.slots,k b u q⟩
 free:=fun b u q n _=>by rw[aH (Nat.ne_of_lt (Nat.lt_of_lt_of_le (Heap.lt_size q) hp))];exact n
 there:=fun b u q _=>⟨u,k b u q⟩
 oU:=fun b xs q=>by rw[aH (bH q hn)];exact q
 mL:=fun b u xs q=>by rw[aH (bH q hn)];exact q
 oG:=fun b ps q=>⟨#[],by rw[aH (bH q hn),q];simp⟩
theorem Un.write (mu:Mut (H x)) (he:e=x\/H e=some (.own x)) (k:∀b u,b≠e->h.get? b=some u->h'.get? b=some u) (heo:∃u,h'.get? e=some u):Un fs ex H (upd H x o) h h':=by
 have hx:∀b,H b=none->b≠x:=fun b n z=>by subst z;rw[n] at mu;exact mu
 have hb:∀b,H b=none->b≠e:=fun b n z=>by
  subst z
  rcases he with r | r
  ·exact hx b n r
  ·rw[n] at r;cases r
 have hm:∀b u,H b=some u->¬ Mut (some u)->b≠x:=fun b u q nm z=>by subst z;rw[q] at mu;exact nm mu
 refine⟨fun b u q n _ _=>k b u (hb b n) q,fun b u q n _ _=>⟨u.slots,k b u (hb b n) q⟩,fun b u q n _=>by rw[aH (hx b n)];exact n,fun b u q _=>?_,
  fun b xs q=>by rw[aH (hm b _ q fun z=>z)];exact q,fun b u xs q=>by rw[aH (hm b _ q fun z=>z)];exact q,fun b ps q=>⟨#[],by rw[aH (hm b _ q fun z=>z),q];simp⟩⟩
 by_cases hbe:b=e
 ·subst hbe;exact heo
 ·exact⟨u,k b u hbe q⟩
end
noncomputable def trk (h:Heap) (H:Hp):List Addr:=(List.range h.objs.size).filter fun a=>(H a).isSome
noncomputable def oS (h:Heap) (H:Hp):Heap:=PySem.W.hideAll h (trk h H)
theorem vE (h:Heap) (H:Hp):(oS h H).objs.size=h.objs.size:=PySem.W.hideAll_size _ _
theorem xc {h:Heap} {H:Hp} {b:Addr} {o:Obj} (e:h.get? b=some o) (n:H b=none):(oS h H).get? b=some o:=
 PySem.W.hideAll_get _ e fun hm=>by
  have q:(H b).isSome=true:=(List.mem_filter.mp hm).2
  rw[n] at q;simp at q
theorem Am {h:Heap} {H:Hp} {b:Addr} {o:Obj} (e:(oS h H).get? b=some o):h.get? b=some o/\H b=none:=by
 have e':h.get? b=some o:=PySem.W.of_hideAll (trk h H) e
 refine⟨e',?_⟩
 cases q:H b with
 | none=>rfl
 | some x=>
  have hm:b∈trk h H:=List.mem_filter.mpr ⟨List.mem_range.mpr (Heap.lt_size e'),by simp[q]⟩
  have z:(oS h H).get? b=none:=PySem.W.hideAll_none (trk h H) hm
  rw[z] at e;cases e
structure Mod (K:PySem.W.Frag) (mg:Str->Option Value) (base:Heap):Prop where
 kin:K.In base
 glob:base.Ns mainGlobals mg
 blt:∃mb,base.Ns builtinsNs mb/\∀x:Str,x≠"__name__" -> mb x=bootBuiltins x
 nolimit:base.NoLimit
structure Cx where
 prog:Program
 w:World
 K:PySem.W.Frag
 mg:Str->Option Value
 base:Heap
 A:Around
 N:List Str
 ao:Shared
 ar:Hp
 env:Env
 outer:List Env
 stack:List Env
 ex:List Addr
 fn:Str->Bool
 calm:Bool
 pn:List (Addr × Obj)
 xe:Value->Shared->Prop
noncomputable def frs (l:List Env):List Addr:=l.filterMap (·.frame)
noncomputable abbrev Cx.fs (X:Cx):List Addr:=frs X.outer
noncomputable def Vis (sc:Scope) (x:Str):Prop:=sc.names.lookup x=some .local\/sc.names.lookup x=some .cell\/sc.names.lookup x=some .free
noncomputable def Loc (sc:Scope) (x:Str):Prop:=sc.names.lookup x=some .local\/sc.names.lookup x=some .cell
noncomputable def Look (env:Env) (h:Heap) (m:Str->Option Value) (x:Str) (u:Value):Prop:=
 (env.kindOf x=some .local/\m x=some u)\/((env.kindOf x=some .cell\/env.kindOf x=some .free)/\∃c,env.cells.lookup x=some c/\h.IsCell c (some u))
structure Cx.Ok (X:Cx):Prop where
 mod:Mod X.K X.mg X.base
 kind:X.env.scope.kind=.function
 glob:X.env.globals=mainGlobals
 blt:X.env.builtins=builtinsNs
 above:X.ao.heap.objs.size<=X.env.locals
 inj:∀x y c,X.env.cells.lookup x=some c->X.env.cells.lookup y=some c->x=y
 has:∀x,(X.env.kindOf x=some .cell\/X.env.kindOf x=some .free)->∃c,X.env.cells.lookup x=some c
 cab:∀x c,X.fn x=true->X.env.cells.lookup x=some c->X.ao.heap.objs.size<=c
 hd:X.calm=true->X.A.handled=none
 frames:X.A.frames=some X.stack
 stk:X.stack=X.outer\/(X.stack=X.env::X.outer/\X.env.frame=some X.env.locals)
 exf:∀b∈X.ex,b≠X.env.locals/\∀x c,X.env.cells.lookup x=some c->c≠b
 bs:∀b o,X.base.get? b=some o->X.ao.heap.get? b=some o/\X.ar b=none
 bsz:X.base.objs.size<=X.ao.heap.objs.size
 tU:∀b o,X.base.get? b=some o->b∉X.ex
 zH:∀b∈X.ex,b∉X.fs
 lg:X.ao.heap.FunFrames X.base X.outer
 frf:∀b∈X.fs,X.ar b=none
structure Inv (X:Cx) (pins:List (Addr × Obj)) (σ:List (Option V)) (H:Hp) (s:Shared):Prop where
 ok:X.Ok
 os:s.os=X.ao.os
 bare:AllBare s.gens
 base:Un X.fs X.ex X.ar H X.ao.heap s.heap
 loc:∃m,s.heap.Ns X.env.locals m/\∀(i:Nat) (x:Str) (v:V),X.N[i]?=some x->σ[i]?=some (some v)->Vis X.env.scope x->∃u,RelV v u/\Look X.env s.heap m x u
 cell:∀x c,X.env.cells.lookup x=some c->∃v,s.heap.IsCell c v
 free:H X.env.locals=none
 gw:∀x c,X.env.cells.lookup x=some c->H c=none
 pin:∀p∈X.pn++pins,s.heap.get? p.1=some p.2/\H p.1=none/\p.1≠X.env.locals/\p.1∉X.fs/\∀v,p.2.data≠.cell v
 hok:HOk X.prog X.w H s.heap
 len:σ.length=X.N.length
section
variable {X:Cx} {pins:List (Addr × Obj)} {σ:List (Option V)} {H H':Hp} {s:Shared} {h':Heap}
theorem Cx.Ok.E9 (ok:X.Ok) {b:Addr} {o:Obj} (e:X.base.get? b=some o):b∉X.fs:=fun hb=>by
 have:=(ok.lg.mem hb).1
 rw[e] at this;cases this
theorem Inv.bs (I:Inv X pins σ H s):∀b o,X.base.get? b=some o->s.heap.get? b=some o/\H b=none:=fun b o e=>
 ⟨I.base.keep b o (I.ok.bs b o e).1 (I.ok.bs b o e).2 (I.ok.E9 e) (I.ok.tU b o e),I.base.free b o (I.ok.bs b o e).1 (I.ok.bs b o e).2 (I.ok.tU b o e)⟩
theorem Inv.bk (I:Inv X pins σ H s):∀b o,X.base.get? b=some o->s.heap.get? b=some o:=fun b o e=>(I.bs b o e).1
theorem Inv.mod (I:Inv X pins σ H s):Mod X.K X.mg X.base:=I.ok.mod
theorem Inv.kIn (I:Inv X pins σ H s):X.K.In s.heap:=I.ok.mod.kin.keeps I.bk
theorem Inv.lt (I:Inv X pins σ H s):X.env.locals<s.heap.objs.size:=let ⟨_,hn,_⟩:=I.loc;hn.lt
theorem Inv.sz (I:Inv X pins σ H s):X.ao.heap.objs.size<=s.heap.objs.size:=Nat.le_trans I.ok.above (Nat.le_of_lt I.lt)
theorem Inv.zw (I:Inv X pins σ H s) {a:Addr} (h:s.heap.objs.size<=a):a∉X.fs:=fun hb=>by
 obtain⟨_,o,ho,_⟩:=I.ok.lg.mem hb
 exact absurd (Nat.lt_of_lt_of_le (Heap.lt_size ho) (Nat.le_trans I.sz h)) (Nat.lt_irrefl _)
theorem Inv.cne (I:Inv X pins σ H s):∀x c,X.env.cells.lookup x=some c->c≠X.env.locals:=fun x c e z=>by
 obtain⟨v,o,ho,hd⟩:=I.cell x c e
 obtain⟨m,⟨o',es,ep,ho',hd',_⟩,_⟩:=I.loc
 rw[z,ho'] at ho;cases ho;rw[hd'] at hd;cases hd
theorem Inv.lg (I:Inv X pins σ H s):s.heap.FunFrames X.base X.outer:=by
 have all:∀(l:List Env),(∀b∈frs l,b∈X.fs)->X.ao.heap.FunFrames X.base l->s.heap.FunFrames X.base l:=by
  intro l
  induction l with
  | nil=>intro _ _;trivial
  | cons env r ih=>
   intro hs hl
   obtain⟨hk,⟨L,o,hf,hn,ho,hd⟩,hr⟩:=hl
   have hL:L∈X.fs:=hs L (by unfold frs;rw[List.filterMap_cons,hf];exact List.mem_cons_self)
   obtain⟨sl,e⟩:=I.base.slot L o ho (I.ok.frf L hL) hL fun z=>I.ok.zH L z hL
   exact⟨hk,⟨L,_,hf,hn,e,hd⟩,ih (fun b hb=>hs b (by unfold frs;rw[List.filterMap_cons,hf];exact List.mem_cons_of_mem _ hb)) hr⟩
 exact all X.outer (fun _ hb=>hb) I.ok.lg
theorem Inv.stack (I:Inv X pins σ H s):s.heap.FunFrames X.base X.stack:=by
 rcases I.ok.stk with e | ⟨e,hf⟩
 ·rw[e];exact I.lg
 ·rw[e]
  obtain⟨m,hn,_⟩:=I.loc
  refine .cons (by rw[I.ok.kind];decide) hf hn ?_ I.lg
  exact Heap.get?_none_of_le (Nat.le_trans I.ok.bsz I.ok.above)
theorem Inv.iy (I:Inv X pins σ H s):∀b∈frs X.stack,b∈X.env.locals::X.fs:=fun b hb=>by
 rcases I.ok.stk with e | ⟨e,hf⟩
 ·rw[e] at hb;exact List.mem_cons_of_mem _ hb
 ·rw[e] at hb
  unfold frs at hb
  rw[List.filterMap_cons,hf] at hb
  exact hb
theorem Inv.kW (I:Inv X pins σ H s):∀b∈frs X.stack,H b=none:=fun b hb=>by
 rcases List.mem_cons.mp (I.iy b hb) with e | hb
 ·rw[e];exact I.free
 ·obtain⟨_,o,ho,_⟩:=I.ok.lg.mem hb
  exact I.base.free b o ho (I.ok.frf b hb) fun z=>I.ok.zH b z hb
theorem Inv.step {g':Array GenState} {t':Nat} {d':Drawn} {ch:List Addr} (I:Inv X pins σ H s)
  (hch:∀b∈ch,(b∈X.ex\/X.ao.heap.objs.size<=b)/\b≠X.env.locals/\(∀x c,X.env.cells.lookup x=some c->c≠b)/\∀p∈X.pn++pins,p.1≠b)
  (keep:∀b o,b≠X.env.locals->b∉X.fs->b∉ch->s.heap.get? b=some o->H b=none->h'.get? b=some o)
  (slot:∀b o,b≠X.env.locals->b∈X.fs->b∉ch->s.heap.get? b=some o->H b=none->∃sl,h'.get? b=some { o with slots:=sl }) (free:∀b o,b∉ch->s.heap.get? b=some o->H b=none->H' b=none)
  (there:∀b o,b∉ch->s.heap.get? b=some o->∃o',h'.get? b=some o')
  (oU:∀b xs,H b=some (.tup xs)->H' b=some (.tup xs)) (mL:∀b o u,H b=some (.frz o u)->H' b=some (.frz o u)) (oG:∀b ps,H b=some (.tbl ps)->∃more,H' b=some (.tbl (ps++more)))
  (ns:∀m,s.heap.Ns X.env.locals m->h'.Ns X.env.locals m) (hok:HOk X.prog X.w H' h') (hg:AllBare g') :
  Inv X pins σ H' { s with heap:=h',gens:=g',drawn:=d',toks:=t' }:=by
 have neL:∀b o,X.ao.heap.get? b=some o->b≠X.env.locals:=fun b o e=>Nat.ne_of_lt (Nat.lt_of_lt_of_le (Heap.lt_size e) I.ok.above)
 have neC:∀b o,X.ao.heap.get? b=some o->b∉X.ex->b∉ch:=fun b o e hx hb=>by
  rcases(hch b hb).1 with z | z
  ·exact hx z
  ·exact absurd (Nat.lt_of_lt_of_le (Heap.lt_size e) z) (Nat.lt_irrefl _)
 have cellK:∀x c,X.env.cells.lookup x=some c->∀v,s.heap.IsCell c v->h'.IsCell c v:=fun x c e v ⟨o,ho,hd⟩=>by
  have nch:c∉ch:=fun z=>(hch c z).2.2.1 x c e rfl
  by_cases hc:c∈X.fs
  ·obtain⟨sl,q⟩:=slot c o (I.cne x c e) hc nch ho (I.gw x c e)
   exact⟨_,q,hd⟩
  ·exact⟨o,keep c o (I.cne x c e) hc nch ho (I.gw x c e),hd⟩
 refine⟨I.ok,I.os,hg,⟨fun b o e n hb hx=>?_,fun b o e n hb hx=>?_,fun b o e n hx=>?_,fun b o e hx=>?_,fun b xs e=>oU b xs (I.base.oU b xs e),fun b o xs e=>mL b o xs (I.base.mL b o xs e),fun b ps e=>?_⟩,?_,fun x c e=>?_,?_,fun x c e=>?_,fun p hp=>?_,hok,I.len⟩
 ·exact keep b o (neL b o e) hb (neC b o e hx) (I.base.keep b o e n hb hx) (I.base.free b o e n hx)
 ·obtain⟨sl,e1⟩:=I.base.slot b o e n hb hx
  obtain⟨sl',e2⟩:=slot b _ (neL b o e) hb (neC b o e hx) e1 (I.base.free b o e n hx)
  exact⟨sl',e2⟩
 ·obtain⟨o',e1⟩:=I.base.there b o e hx
  exact free b o' (neC b o e hx) e1 (I.base.free b o e n hx)
 ·obtain⟨o',e1⟩:=I.base.there b o e hx
  exact there b o' (neC b o e hx) e1
 ·obtain⟨m1,e1⟩:=I.base.oG b ps e
  obtain⟨m2,e2⟩:=oG b _ e1
  exact⟨m1++m2,by rw[e2,Array.append_assoc]⟩
 ·obtain⟨m,hn,hl⟩:=I.loc
  refine⟨m,ns m hn,fun i x v e1 e2 e3=>?_⟩
  obtain⟨u,r,l⟩:=hl i x v e1 e2 e3
  refine⟨u,r,?_⟩
  rcases l with l | ⟨k,c,e,z⟩
  ·exact .inl l
  ·exact .inr ⟨k,c,e,cellK x c e _ z⟩
 ·obtain⟨v,z⟩:=I.cell x c e
  exact⟨v,cellK x c e v z⟩
 ·obtain⟨m,⟨o,_,_,ho,_⟩,_⟩:=I.loc
  exact free _ o (fun z=>(hch _ z).2.1 rfl) ho I.free
 ·obtain⟨v,o,ho,hd⟩:=I.cell x c e
  exact free c o (fun z=>(hch c z).2.2.1 x c e rfl) ho (I.gw x c e)
 ·obtain⟨e,n,ne,nf,d⟩:=I.pin p hp
  have nch:p.1∉ch:=fun z=>(hch p.1 z).2.2.2 p hp rfl
  exact⟨keep p.1 p.2 ne nf nch e n,free p.1 p.2 nch e n,ne,nf,d⟩
theorem Inv.un {t':Nat} (I:Inv X pins σ H s) (u:Un X.fs [] H H' s.heap h') (hok:HOk X.prog X.w H' h'):Inv X pins σ H' { s with heap:=h',toks:=t' }:=by
 obtain⟨m,⟨o,es,ep,ho,r⟩,_⟩:=id I.loc
 obtain⟨sl,hL⟩:=u.any ho I.free (by simp)
 exact I.step (g':=s.gens) (d':=s.drawn) (ch:=[]) (fun _ z=>nomatch z) (fun b o _ hb _ e n=>u.keep b o e n hb (by simp)) (fun b o _ hb _ e n=>u.slot b o e n hb (by simp)) (fun b o _ e n=>u.free b o e n (by simp)) (fun b o _ e=>u.there b o e (by simp)) u.oU u.mL u.oG (fun m' hm=>by
  obtain⟨o',es',ep',ho',r'⟩:=hm
  rw[ho] at ho';cases ho'
  exact⟨_,es',ep',hL,r'⟩) hok I.bare
theorem Inv.call {g':Array GenState} {t':Nat} {d':Drawn} {ch:List Addr} (I:Inv X pins σ H s) (u:Un (frs X.stack) ch H H' s.heap h') (hok:HOk X.prog X.w H' h') (hg:AllBare g')
  (hch:∀b∈ch,(b∈X.ex\/X.ao.heap.objs.size<=b)/\b≠X.env.locals/\(∀x c,X.env.cells.lookup x=some c->c≠b)/\∀p∈X.pn++pins,p.1≠b) :
  Inv X pins σ H' { s with heap:=h',gens:=g',drawn:=d',toks:=t' }:=by
 obtain⟨m,⟨o,es,ep,ho,r⟩,_⟩:=id I.loc
 obtain⟨sl,hL⟩:=u.any ho I.free fun z=>(hch _ z).2.1 rfl
 exact I.step (ch:=ch) hch (fun b o hL hb hc e n=>u.keep b o e n (fun z=>(List.mem_cons.mp (I.iy b z)).elim hL hb) hc) (fun b o _ _ hc e n=>u.any e n hc) (fun b o hc e n=>u.free b o e n hc) (fun b o hc e=>u.there b o e hc) u.oU u.mL u.oG (fun m' hm=>by
  obtain⟨o',es',ep',ho',r'⟩:=hm
  rw[ho] at ho';cases ho'
  exact⟨_,es',ep',hL,r'⟩) hok hg
theorem Inv.turned {t':Nat} {it:Addr} (I:Inv X pins σ H s) (k:∀b o,b≠it->s.heap.get? b=some o->h'.get? b=some o) (hn:H it=none) (hL:it≠X.env.locals)
  (h1:it∈X.ex\/X.ao.heap.objs.size<=it) (h2:∀x c,X.env.cells.lookup x=some c->c≠it) (h3:∀p∈X.pn++pins,p.1≠it):Inv X pins σ H { s with heap:=h',toks:=t' }:=by
 have nit:∀b u,H b=some u->b≠it:=fun b u e z=>by rw[z,hn] at e;cases e
 refine I.step (g':=s.gens) (d':=s.drawn) (ch:=[it]) (fun b hb=>?_) (fun b o _ _ hc e _=>k b o (fun z=>hc (by simp[z])) e) (fun b o _ _ hc e _=>⟨o.slots,k b o (fun z=>hc (by simp[z])) e⟩) (fun _ _ _ _ n=>n)
  (fun b o hc e=>⟨o,k b o (fun z=>hc (by simp[z])) e⟩) (fun _ _ e=>e) (fun _ _ _ e=>e) (fun b ps e=>⟨#[],by rw[e];simp⟩) (fun m hm=>?_) (fun b u e=>?_) I.bare
 ·have e:b=it:=by simpa using hb
  subst e
  exact⟨h1,hL,h2,h3⟩
 ·obtain⟨o,es,ep,ho,r⟩:=hm
  exact⟨o,es,ep,k _ o (Ne.symm hL) ho,r⟩
 ·refine(I.hok b u e).lY (fun c v hc q=>k c v ?_ q) (fun _ q=>q) fun _ _ q=>q
  rcases hc with z | z
  ·rw[z];exact nit b u e
  ·exact nit c _ z
theorem Inv.tok (I:Inv X pins σ H s) (t:Nat):Inv X pins σ H { s with toks:=t }:=I.un (h':=s.heap) (t':=t) Un.refl I.hok
theorem Inv.kept {t':Nat} (I:Inv X pins σ H s) (k:∀b u,s.heap.get? b=some u->h'.get? b=some u):Inv X pins σ H { s with heap:=h',toks:=t' }:=I.un (Un.kept k) (I.hok.kept k)
theorem Inv.laid {a:Addr} {o:HO} {t':Nat} (I:Inv X pins σ H s) (k:∀b u,s.heap.get? b=some u->h'.get? b=some u) (hp:s.heap.objs.size<=a) (new:bY X.prog X.w (upd H a o) h' a o) :
  Inv X pins σ (upd H a o) { s with heap:=h',toks:=t' }:=I.un (Un.laid k hp (I.hok.fresh hp)) (I.hok.laid k hp new)
theorem Inv.write {x e:Addr} {o:HO} {t':Nat} (I:Inv X pins σ H s) (mu:Mut (H x)) (he:e=x\/H e=some (.own x)) (k:∀b u,b≠e->s.heap.get? b=some u->h'.get? b=some u) (heo:∃u,h'.get? e=some u)
  (new:bY X.prog X.w (upd H x o) h' x o):Inv X pins σ (upd H x o) { s with heap:=h',toks:=t' }:=I.un (Un.write mu he k heo) (I.hok.write mu he k heo new)
theorem Inv.iG {pins':List (Addr × Obj)} (I:Inv X pins σ H s) (h:∀p∈pins',s.heap.get? p.1=some p.2/\H p.1=none/\p.1≠X.env.locals/\p.1∉X.fs/\∀v,p.2.data≠.cell v):Inv X pins' σ H s:=
 ⟨I.ok,I.os,I.bare,I.base,I.loc,I.cell,I.free,I.gw,fun p hp=>(List.mem_append.mp hp).elim (fun z=>I.pin p (List.mem_append_left _ z)) (h p),I.hok,I.len⟩
theorem rX {N:List Str} (hN:N.Nodup) {i j:Nat} {x:Str} (a:N[i]?=some x) (b:N[j]?=some x):i=j:=by
 obtain⟨h1,e1⟩:=List.getElem?_eq_some_iff.mp a
 obtain⟨h2,e2⟩:=List.getElem?_eq_some_iff.mp b
 exact(List.getElem_inj hN).mp (e1.trans e2.symm)
theorem vQ {M:Model} {A:Around} {E:Value->Shared->Prop} {i:Nat} {x:Str} {v:V} {u:Value} {Q:Unit->Shared->Prop} (I:Inv X pins σ H s) (hN:X.N.Nodup) (hi:X.N[i]?=some x) (hx:Loc X.env.scope x) (r:RelV v u)
  (h:∀s',Inv X pins (σ.set i (some v)) H s'->(∃a,Heap.SameBut a s.heap s'.heap/\(a=X.env.locals\/X.env.cells.lookup x=some a))->Q () s') (hf:X.fn x=true\/X.env.scope.names.lookup x=some .local:=by first | exact .inl rfl | exact .inr rfl | assumption):wpAny M A (storeName X.env x u) Q E s:=by
 obtain⟨m,hn,hl⟩:=id I.loc
 have hcls:(X.env.scope.kind == .class || (X.env.scope.kind == .module&&X.env.locals != X.env.globals))=false:=by rw[I.ok.kind];rfl
 have hiσ:i<σ.length:=by rw[I.len];exact(List.getElem?_eq_some_iff.mp hi).1
 have cne:=I.cne
 have tracked:∀{a:Addr} {h':Heap},(∃o,s.heap.get? a=some o/\H a=none)->Heap.SameBut a s.heap h'->HOk X.prog X.w H h':=fun{a h'} ha hs b ob e=>by
  obtain⟨_,_,hfree⟩:=ha
  refine(I.hok b ob e).lY (fun c w' hc q=>(hs.2 c ?_).trans q) (fun _ q=>q) fun _ _ q=>q
  rintro rfl
  rcases hc with rfl | hc
  ·rw[hfree] at e;cases e
  ·rw[hfree] at hc;cases hc
 rcases hx with hk | hk
 ·refine wpAny_storeName_local hk hn (fun h' hn' hs=>?_) hcls
  obtain⟨oL,_,_,hoL,_⟩:=id hn
  refine h _ ⟨I.ok,I.os,I.bare,⟨fun b o e n hb hx=>?_,fun b o e n hb hx=>?_,I.base.free,fun b o e hx=>?_,I.base.oU,I.base.mL,I.base.oG⟩,⟨_,hn',fun j y v' e1 e2 e3=>?_⟩,fun y c e=>?_,I.free,I.gw,fun p hp=>?_,tracked ⟨oL,hoL,I.free⟩ hs,by simpa using I.len⟩ ⟨_,hs,.inl rfl⟩
  ·exact(hs.2 b (Nat.ne_of_lt (Nat.lt_of_lt_of_le (Heap.lt_size e) I.ok.above))).trans (I.base.keep b o e n hb hx)
  ·obtain⟨sl,e1⟩:=I.base.slot b o e n hb hx
   exact⟨sl,(hs.2 b (Nat.ne_of_lt (Nat.lt_of_lt_of_le (Heap.lt_size e) I.ok.above))).trans e1⟩
  ·obtain⟨o',e1⟩:=I.base.there b o e hx
   exact⟨o',(hs.2 b (Nat.ne_of_lt (Nat.lt_of_lt_of_le (Heap.lt_size e) I.ok.above))).trans e1⟩
  ·by_cases hj:j=i
   ·subst hj
    rw[hi] at e1;cases e1
    rw[List.getElem?_set_self hiσ] at e2
    cases e2
    exact⟨u,r,.inl ⟨hk,by simp⟩⟩
   ·rw[List.getElem?_set_ne (Ne.symm hj)] at e2
    obtain⟨u',r',q⟩:=hl j y v' e1 e2 e3
    refine⟨u',r',?_⟩
    rcases q with⟨k,e⟩ | ⟨k,c,e,z⟩
    ·refine .inl ⟨k,?_⟩
     have:y≠x:=fun e=>hj (rX hN e1 (e ▸ hi))
     simp[this,e]
    ·exact .inr ⟨k,c,e,z.sameBut hs (cne y c e)⟩
  ·obtain⟨w',z⟩:=I.cell y c e
   exact⟨w',z.sameBut hs (cne y c e)⟩
  ·obtain⟨e,n,ne,nf,d⟩:=I.pin p hp
   exact⟨(hs.2 p.1 ne).trans e,n,ne,nf,d⟩
 ·have hfn:X.fn x=true:=by
   rcases hf with z | z
   ·exact z
   ·rw[z] at hk;cases hk
  obtain⟨c,hc⟩:=I.ok.has x (.inl hk)
  obtain⟨w',z⟩:=I.cell x c hc
  refine wpAny_storeName_cell I.ok.kind hk hc z (fun h' hc' hs=>?_)
  obtain⟨oc,hoc,hocd⟩:=id z
  refine h { s with heap:=h' } ⟨I.ok,I.os,I.bare,⟨fun b o e n hb hx=>?_,fun b o e n hb hx=>?_,I.base.free,fun b o e hx=>?_,I.base.oU,I.base.mL,I.base.oG⟩,⟨m,hn.sameBut hs (Ne.symm (cne x c hc)),fun j y v' e1 e2 e3=>?_⟩,fun y c' e=>?_,I.free,I.gw,fun p hp=>?_,tracked ⟨oc,hoc,I.gw x c hc⟩ hs,by simpa using I.len⟩ ⟨c,hs,.inr hc⟩
  ·exact(hs.2 b (Nat.ne_of_lt (Nat.lt_of_lt_of_le (Heap.lt_size e) (I.ok.cab x c hfn hc)))).trans (I.base.keep b o e n hb hx)
  ·obtain⟨sl,e1⟩:=I.base.slot b o e n hb hx
   exact⟨sl,(hs.2 b (Nat.ne_of_lt (Nat.lt_of_lt_of_le (Heap.lt_size e) (I.ok.cab x c hfn hc)))).trans e1⟩
  ·obtain⟨o',e1⟩:=I.base.there b o e hx
   exact⟨o',(hs.2 b (Nat.ne_of_lt (Nat.lt_of_lt_of_le (Heap.lt_size e) (I.ok.cab x c hfn hc)))).trans e1⟩
  ·by_cases hj:j=i
   ·subst hj
    rw[hi] at e1;cases e1
    rw[List.getElem?_set_self hiσ] at e2
    cases e2
    exact⟨u,r,.inr ⟨.inl hk,c,hc,hc'⟩⟩
   ·rw[List.getElem?_set_ne (Ne.symm hj)] at e2
    obtain⟨u',r',q⟩:=hl j y v' e1 e2 e3
    refine⟨u',r',?_⟩
    rcases q with q | ⟨k,c',e,z'⟩
    ·exact .inl q
    ·refine .inr ⟨k,c',e,z'.sameBut hs ?_⟩
     rintro rfl
     exact hj (rX hN e1 (I.ok.inj _ _ _ e hc ▸ hi))
  ·by_cases hcc:c'=c
   ·subst hcc;exact⟨_,hc'⟩
   ·obtain⟨w2,z2⟩:=I.cell y c' e
    exact⟨w2,z2.sameBut hs hcc⟩
  ·obtain⟨e,n,ne,nf,d⟩:=I.pin p hp
   refine⟨(hs.2 p.1 ?_).trans e,n,ne,nf,d⟩
   intro q
   rw[q,hoc] at e
   have q':oc=p.2:=Option.some.inj e
   exact d w' (by rw[<- q'];exact hocd)
theorem fK {M:Model} {A:Around} {E:Value->Shared->Prop} {i:Nat} {x:Str} {v:V} {u:Value} {Q:Unit->Shared->Prop} (I:Inv X pins σ H s) (hN:X.N.Nodup) (hi:X.N[i]?=some x) (hx:Loc X.env.scope x) (r:RelV v u)
  (h:∀s',Inv X pins (σ.set i (some v)) H s'->Q () s') (hf:X.fn x=true\/X.env.scope.names.lookup x=some .local:=by first | exact .inl rfl | exact .inr rfl | assumption):wpAny M A (storeName X.env x u) Q E s:=
 vQ I hN hi hx r (fun s' I' _=>h s' I') hf
theorem Inv.n9 {s':Shared} {ch:List Addr} (I:Inv X pins σ H s) (ho:s'.os=s.os) (u:Un (frs X.stack) ch H H' s.heap s'.heap) (hok:HOk X.prog X.w H' s'.heap) (hg:AllBare s'.gens)
  (hch:∀b∈ch,(b∈X.ex\/X.ao.heap.objs.size<=b)/\b≠X.env.locals/\(∀x c,X.env.cells.lookup x=some c->c≠b)/\∀p∈X.pn++pins,p.1≠b):Inv X pins σ H' s':=by
 obtain⟨h',g',d',t',o'⟩:=s'
 have e:o'=s.os:=ho
 subst e
 exact I.call (g':=g') (t':=t') (d':=d') u hok hg hch
end
noncomputable abbrev XK:=Value->Option Addr->Hp->Prop
noncomputable abbrev St:=List (Option V)
noncomputable abbrev VK:=V->Hp->Prop
noncomputable abbrev TE:=St->Hp->VK->Prop
noncomputable abbrev TT:=St->Hp->(Bool->Hp->Prop)->Prop
noncomputable abbrev TA:=St->Hp->(List V->Hp->Prop)->Prop
structure Ends where
 nx:St->Hp->Prop
 rt:VK
 bk:St->Hp->Prop:=fun _ _=>False
 ct:St->Hp->Prop:=fun _ _=>False
noncomputable abbrev TS:=Ends->St->Hp->Prop
noncomputable def EP (X:Cx) (pins:List (Addr × Obj)) (σ:St) (Q:VK) (u:Value) (s':Shared):Prop:=∃v H',Inv X pins σ H' s'/\RelV v u/\Q v H'
noncomputable def TP (X:Cx) (pins:List (Addr × Obj)) (σ:St) (Q:Bool->Hp->Prop) (b:Bool) (s':Shared):Prop:=∃H',Inv X pins σ H' s'/\Q b H'
noncomputable def AP (X:Cx) (pins:List (Addr × Obj)) (σ:St) (Q:List V->Hp->Prop) (us:List Value) (s':Shared):Prop:=∃vs H',Inv X pins σ H' s'/\Vals vs us/\Q vs H'
noncomputable def SP (X:Cx) (pins:List (Addr × Obj)) (D:Ends) (f:Flow) (s':Shared):Prop:=
 match f with
 | .next=>∃σ' H',Inv X pins σ' H' s'/\D.nx σ' H'
 | .brk=>∃σ' H',Inv X pins σ' H' s'/\D.bk σ' H'
 | .cont=>∃σ' H',Inv X pins σ' H' s'/\D.ct σ' H'
 | .ret u=>∃v σ' H',Inv X pins σ' H' s'/\RelV v u/\D.rt v H'
noncomputable def PE (X:Cx) (e:Expr) (t:TE):Prop:=
 ∀(pins:List (Addr × Obj)) (s:Shared) (σ:St) (H:Hp) (Q:VK),Inv X pins σ H s->t σ H Q->wpAny (model X.prog X.w) X.A (eval e X.env) (EP X pins σ Q) X.xe s
noncomputable def PT (X:Cx) (e:Expr) (t:TT):Prop:=
 ∀(pins:List (Addr × Obj)) (s:Shared) (σ:St) (H:Hp) (Q:Bool->Hp->Prop),Inv X pins σ H s->t σ H Q->wpAny (model X.prog X.w) X.A (isTrue e X.env (eval e X.env)) (TP X pins σ Q) X.xe s
noncomputable def PW (X:Cx) (e:Expr) (t:TT):Prop:=
 ∀(whole:Sem Value) (pins:List (Addr × Obj)) (s:Shared) (σ:St) (H:Hp) (Q:Bool->Hp->Prop),Inv X pins σ H s->t σ H Q->wpAny (model X.prog X.w) X.A (isTrue e X.env whole) (TP X pins σ Q) X.xe s
theorem PW.pt {X:Cx} {e:Expr} {t:TT} (h:PW X e t):PT X e t:=h _
noncomputable def PA (X:Cx) (es:List Expr) (t:TA):Prop:=
 ∀(pos:Pos) (pins:List (Addr × Obj)) (s:Shared) (σ:St) (H:Hp) (Q:List V->Hp->Prop),Inv X pins σ H s->t σ H Q->wpAny (model X.prog X.w) X.A (spliced (backTo pos (starEach es X.env))) (AP X pins σ Q) X.xe s
noncomputable def PS (X:Cx) (st:Stmt) (t:TS):Prop:=
 ∀(pins:List (Addr × Obj)) (s:Shared) (σ:St) (H:Hp) (D:Ends),Inv X pins σ H s->t D σ H->wpAny (model X.prog X.w) X.A (exec st X.env) (SP X pins D) X.xe s
noncomputable def PSs (X:Cx) (st:List Stmt) (t:TS):Prop:=
 ∀(pins:List (Addr × Obj)) (s:Shared) (σ:St) (H:Hp) (D:Ends),Inv X pins σ H s->t D σ H->wpAny (model X.prog X.w) X.A (execs st X.env) (SP X pins D) X.xe s
theorem thn {α:Type} {t:Sem α} {Q Q':α->Shared->Prop} {M:Model} {A:Around} {E:Value->Shared->Prop} {s:Shared} (h:wpAny M A t Q E s) (hQ:∀a s,Q a s->Q' a s):wpAny M A t Q' E s:=wpAny_mono h hQ fun _ _ x=>x
section
variable {X:Cx}
noncomputable def E1 (i:Nat):TE:=fun σ H Q=>∃v,σ[i]?=some (some v)/\Q v H
noncomputable def tC (v:V):TE:=fun _ H Q=>Q v H
theorem Cf {i:Nat} {x:Str} {pos:Pos} (hN:X.N[i]?=some x) (hv:Vis X.env.scope x) (hd:(x == ("__debug__" : Str))=false:=by decide) (hcd:(x == ("__classdict__" : Str))=false:=by decide):PE X (.Name x pos) (E1 i):=by
 intro pins s σ H Q I h
 obtain⟨v,e,h⟩:=h
 obtain⟨m,hn,hl⟩:=I.loc
 obtain⟨u,r,l⟩:=hl i x v hN e hv
 have fin:EP X pins σ Q u s:=⟨v,H,I,r,h⟩
 rcases l with⟨hk,hm⟩ | ⟨hk,c,hc,hcell⟩
 ·exact wpAny_Name (wpAny_loadName_local I.ok.kind hk hn hm fin) hd
 ·rcases hk with hk | hk
  ·exact wpAny_Name (wpAny_loadName_cell I.ok.kind hk hc hcell fin) hd
  ·exact wpAny_Name (wpAny_loadName_free I.ok.kind hk hc hcell fin hcd) hd
theorem B5 {i j pos}:PE X (.Constant (.int i) j pos) (tC (.int i)):=fun _ _ _ H _ I h=>wpAny_Constant_int ⟨.int i,H,I.tok _,⟨_,rfl⟩,h⟩
theorem CZ {b j pos}:PE X (.Constant (.bool b) j pos) (tC (.bl b)):=fun _ _ _ H _ I h=>Constant_bool ⟨.bl b,H,I,rfl,h⟩
noncomputable def Gl (X:Cx) (x:Str):Prop:=X.env.kindOf x=some .globalImplicit
theorem t5 {E:Value->Shared->Prop} {pins:List (Addr × Obj)} {s:Shared} {σ:St} {H:Hp} {x:Str} {u:Value} {pos:Pos} {Q:Value->Shared->Prop} (I:Inv X pins σ H s) (hg:Gl X x) (hm:X.mg x=some u) (h:Q u s)
  (hd:(x == ("__debug__" : Str))=false:=by decide):wpAny (model X.prog X.w) X.A (eval (.Name x pos) X.env) Q E s:=
 Calls.Name_function_global I.ok.kind hg (Calls.loadGlobal_global (by rw[I.ok.glob];exact I.mod.glob.keeps I.bk) hm h) hd
theorem gU {E:Value->Shared->Prop} {pins:List (Addr × Obj)} {s:Shared} {σ:St} {H:Hp} {x:Str} {u:Value} {pos:Pos} {Q:Value->Shared->Prop} (I:Inv X pins σ H s) (hg:Gl X x) (hm:X.mg x=none) (hv:bootBuiltins x=some u) (h:Q u s)
  (hn:x≠"__name__" := by decide) (hd:(x == ("__debug__" : Str))=false:=by decide):wpAny (model X.prog X.w) X.A (eval (.Name x pos) X.env) Q E s:=by
 obtain⟨mb,h1,h2⟩:=I.mod.blt
 exact Calls.Name_function_global I.ok.kind hg (Calls.loadGlobal_builtin (by rw[I.ok.glob];exact I.mod.glob.keeps I.bk) hm (by rw[I.ok.blt];exact h1.keeps I.bk) ((h2 x hn).trans hv) h) hd
theorem zX {x:Str} {v:V} {u:Value} {pos:Pos} (hg:Gl X x) (hm:X.mg x=some u) (r:RelV v u) (hd:(x == ("__debug__" : Str))=false:=by decide):PE X (.Name x pos) (tC v):=
 fun _ _ _ H _ I h=>t5 I hg hm ⟨v,H,I,r,h⟩ hd
theorem zz {x:Str} {v:V} {u:Value} {pos:Pos} (hg:Gl X x) (hm:X.mg x=none) (hv:bootBuiltins x=some u) (r:RelV v u) (hn:x≠"__name__" := by decide) (hd:(x == ("__debug__" : Str))=false:=by decide):PE X (.Name x pos) (tC v):=
 fun _ _ _ H _ I h=>gU I hg hm hv ⟨v,H,I,r,h⟩ hn hd
variable {a b:Expr} {ta tb:TE} {pos:Pos}
variable {tA tB':TT} {rest:List Expr}
noncomputable def FT (t u:TT):TT:=fun σ H Q=>t σ H fun c H1=>if c=true then u σ H1 Q else Q false H1
noncomputable def tOr (t u:TT):TT:=fun σ H Q=>t σ H fun c H1=>if c=true then Q true H1 else u σ H1 Q
noncomputable def Fo (t:TT):TT:=fun σ H Q=>t σ H fun c H1=>Q (!c) H1
theorem pw_and1 (ha:PT X a tA):PW X (.BoolOp .And [a] pos) tA:=by
 intro wh pins s σ H Q I h
 refine isTrue_and (thn (ha pins s σ H Q I h) fun c s1 e=>?_)
 cases c with
 | true=>exact isTrue_and_nil e
 | false=>exact e
theorem pw_or1 (ha:PT X a tA):PW X (.BoolOp .Or [a] pos) tA:=by
 intro wh pins s σ H Q I h
 refine isTrue_or (thn (ha pins s σ H Q I h) fun c s1 e=>?_)
 cases c with
 | false=>exact isTrue_or_nil e
 | true=>exact e
theorem pw_and (ha:PT X a tA) (hb:PW X (.BoolOp .And (b::rest) pos) tB'):PW X (.BoolOp .And (a::b::rest) pos) (FT tA tB'):=by
 intro wh pins s σ H Q I h
 refine isTrue_and (thn (ha pins s σ H _ I h) fun c s1 ⟨H1,I1,q1⟩=>?_)
 cases c with
 | true=>exact hb wh pins s1 σ H1 Q I1 q1
 | false=>exact⟨H1,I1,q1⟩
theorem pw_or (ha:PT X a tA) (hb:PW X (.BoolOp .Or (b::rest) pos) tB'):PW X (.BoolOp .Or (a::b::rest) pos) (tOr tA tB'):=by
 intro wh pins s σ H Q I h
 refine isTrue_or (thn (ha pins s σ H _ I h) fun c s1 ⟨H1,I1,q1⟩=>?_)
 cases c with
 | true=>exact⟨H1,I1,q1⟩
 | false=>exact hb wh pins s1 σ H1 Q I1 q1
theorem Bx (ha:PT X a tA):PT X (.UnaryOp .Not a pos) (Fo tA):=by
 intro pins s σ H Q I h
 exact isTrue_not (ha pins s σ H (fun c H1=>Q (!c) H1) I h)
noncomputable def C5 (ta tb:TE):TE:=fun σ H Q=>ta σ H fun x H1=>∃c,x=.bl c/\if c=true then tb σ H1 Q else Q (.bl false) H1
noncomputable def CQ (ta:TE):TE:=fun σ H Q=>ta σ H fun x H1=>∃c,x=.bl c/\Q (.bl (!c)) H1
theorem Cv {op} {t:TE} (h:PE X a t):PE X (.BoolOp op [a] pos) t:=fun pins s σ H Q I hw=>BoolOp_one (h pins s σ H Q I hw)
theorem B9 (ha:PE X a ta) (hb:PE X (.BoolOp .And (b::rest) pos) tb):PE X (.BoolOp .And (a::b::rest) pos) (C5 ta tb):=by
 intro pins s σ H Q I h
 refine BoolOp_and (thn (ha pins s σ H _ I h) fun v s1 ⟨x,H1,I1,r1,q1⟩=>?_)
 obtain⟨c,rfl,q1⟩:=q1
 cases r1
 refine wpAny_truthy_bool ?_
 cases c with
 | true=>exact hb pins s1 σ H1 Q I1 q1
 | false=>exact⟨.bl false,H1,I1,rfl,q1⟩
theorem BV (ha:PE X a ta):PE X (.UnaryOp .Not a pos) (CQ ta):=by
 intro pins s σ H Q I h
 refine UnaryOp_ (thn (ha pins s σ H _ I h) fun v s1 ⟨x,H1,I1,r1,q1⟩=>?_)
 obtain⟨c,rfl,q1⟩:=q1
 cases r1
 exact not_of (wpAny_truthy_bool ⟨.bl (!c),H1,I1,rfl,q1⟩)
noncomputable def tIf (t:TT) (ta tb:TE):TE:=fun σ H Q=>t σ H fun c H1=>if c=true then ta σ H1 Q else tb σ H1 Q
theorem wu {c:Expr} (hc:PT X c tA) (ha:PE X a ta) (hb:PE X b tb):PE X (.IfExp c a b pos) (tIf tA ta tb):=by
 intro pins s σ H Q I h
 refine wpAny_IfExp (thn (hc pins s σ H _ I h) fun d s1 ⟨H1,I1,q1⟩=>?_)
 cases d with
 | true=>exact ha pins s1 σ H1 Q I1 q1
 | false=>exact hb pins s1 σ H1 Q I1 q1
end
noncomputable def SqL (K:PySem.W.Frag) (H:Hp) (a:Addr) (xs:List V):Prop:=
 Rd H a (.lst xs) ∨
  ∃(o:Obj) (its:Array Value) (n:Nat),K.lookup a=some o/\o.cls=.type "list" /\ o.dict=none/\o.data=.seq its n/\its.size<=sizeLine/\Vals xs its.toList
noncomputable def SqT (K:PySem.W.Frag) (H:Hp) (a:Addr) (xs:List V):Prop:=
 Rd H a (.tup xs) ∨
  ∃(o:Obj) (its:Array Value) (n:Nat),K.lookup a=some o/\o.cls=.type "tuple" /\ o.data=.seq its n/\its.size<=sizeLine/\Vals xs its.toList
noncomputable def Fz:Value->Option V
 | .none=>some .non
 | .bool b=>some (.bl b)
 | .int i _=>some (.int i)
 | .str x _=>some (.str x)
 | .bytes b _=>some (.byt b)
 | .float b _=>some (.flt b)
 | .ref a=>some (.ref a)
 | .type n=>some (.ty n)
 | _=>none
theorem RelV.abs {x:V} {u:Value} (r:RelV x u):Fz u=some x:=by
 cases x with
 | non=>cases r;rfl
 | bl _=>cases r;rfl
 | int _=>obtain⟨t,rfl⟩:=r;rfl
 | str _=>obtain⟨t,rfl⟩:=r;rfl
 | byt _=>obtain⟨t,rfl⟩:=r;rfl
 | flt _=>obtain⟨t,rfl⟩:=r;rfl
 | ref _=>cases r;rfl
 | ty _=>cases r;rfl
theorem RelV.inj {x y:V} {u:Value} (r:RelV x u) (q:RelV y u):x=y:=Option.some.inj (r.abs.symm.trans q.abs)
theorem Vals.inj:∀{xs ys:List V} {us:List Value},Vals xs us->Vals ys us->xs=ys
 | _,_,_,.nil,.nil=>rfl
 | _,_,_,.cons r t,.cons r' t'=>by rw[r.inj r',Vals.inj t t']
section
variable {X:Cx} {pins:List (Addr × Obj)} {σ:St} {H:Hp} {s:Shared} {a:Addr} {xs ys:List V}
theorem SqL.of {K:PySem.W.Frag} (h:H a=some (.lst xs)):SqL K H a xs:=.inl (.inl h)
theorem SqT.of {K:PySem.W.Frag} (h:H a=some (.tup xs)):SqT K H a xs:=.inl (.inl h)
theorem Inv.list (I:Inv X pins σ H s) (h:SqL X.K H a xs):∃its:List Value,Vals xs its/\PlainL s.heap a its.toArray/\xs.length<=sizeLine:=by
 rcases h with h | ⟨o,its,n,hk,hc,hd,hs,hz,r⟩
 ·obtain⟨z,its,n,r,e⟩:=h.ok I.hok
  exact⟨its,r,⟨_,n,e,rfl,rfl,rfl⟩,z⟩
 ·refine⟨its.toList,r,⟨o,n,I.kIn a o hk,hc,hd,by simpa using hs⟩,?_⟩
  have e:=r.length
  simp only[Array.length_toList] at e
  omega
theorem Inv.tuple (I:Inv X pins σ H s) (h:SqT X.K H a xs):∃its:List Value,Vals xs its/\IsTup s.heap a its.toArray/\xs.length<=sizeLine:=by
 rcases h with h | ⟨o,its,n,hk,hc,hs,hz,r⟩
 ·obtain⟨z,its,r,p⟩:=h.ok I.hok
  exact⟨its,r,p.tup,z⟩
 ·refine⟨its.toList,r,⟨o,I.kIn a o hk,hc,n,by simpa using hs⟩,?_⟩
  have e:=r.length
  simp only[Array.length_toList] at e
  omega
theorem Inv.gW (I:Inv X pins σ H s) (h:SqL X.K H a xs) (h':SqL X.K H a ys):xs=ys:=by
 obtain⟨its,r,⟨o,n,e,_,_,d⟩,_⟩:=I.list h
 obtain⟨its',r',⟨o',n',e',_,_,d'⟩,_⟩:=I.list h'
 rw[e] at e';cases e'
 rw[d] at d'
 injection d' with d1 _
 have:its=its':=by simpa using congrArg Array.toList d1
 subst this
 exact r.inj r'
theorem Inv.fI (I:Inv X pins σ H s) (h:SqT X.K H a xs) (h':SqT X.K H a ys):xs=ys:=by
 obtain⟨its,r,⟨o,e,_,n,d⟩,_⟩:=I.tuple h
 obtain⟨its',r',⟨o',e',_,n',d'⟩,_⟩:=I.tuple h'
 rw[e] at e';cases e'
 rw[d] at d'
 injection d' with d1 _
 have:its=its':=by simpa using congrArg Array.toList d1
 subst this
 exact r.inj r'
end
noncomputable abbrev Cx.nF (X:Cx) (E:Value->Shared->Prop):Cx:={ X with xe:=E }
noncomputable abbrev Cx.nox (X:Cx):Cx:=X.nF fun _ _=>False
theorem Cx.Ok.nF {X:Cx} (ok:X.Ok) (E:Value->Shared->Prop):(X.nF E).Ok:=
 ⟨ok.mod,ok.kind,ok.glob,ok.blt,ok.above,ok.inj,ok.has,ok.cab,ok.hd,ok.frames,ok.stk,ok.exf,ok.bs,ok.bsz,ok.tU,ok.zH,ok.lg,ok.frf⟩
theorem Cx.Ok.gP {X:Cx} {E:Value->Shared->Prop} (ok:(X.nF E).Ok):X.Ok:=
 ⟨ok.mod,ok.kind,ok.glob,ok.blt,ok.above,ok.inj,ok.has,ok.cab,ok.hd,ok.frames,ok.stk,ok.exf,ok.bs,ok.bsz,ok.tU,ok.zH,ok.lg,ok.frf⟩
section
variable {X:Cx} {pins:List (Addr × Obj)} {σ:St} {H:Hp} {s:Shared} {E:Value->Shared->Prop}
theorem Inv.nF (I:Inv X pins σ H s) (E:Value->Shared->Prop):Inv (X.nF E) pins σ H s:=⟨I.ok.nF E,I.os,I.bare,I.base,I.loc,I.cell,I.free,I.gw,I.pin,I.hok,I.len⟩
theorem Inv.gP (I:Inv (X.nF E) pins σ H s):Inv X pins σ H s:=⟨I.ok.gP,I.os,I.bare,I.base,I.loc,I.cell,I.free,I.gw,I.pin,I.hok,I.len⟩
theorem SP.gP {D:Ends} {f:Flow} {s':Shared} (h:SP (X.nF E) pins D f s'):SP X pins D f s':=by
 cases f with
 | next=>obtain⟨σ',H',I,q⟩:=h;exact⟨σ',H',I.gP,q⟩
 | brk=>obtain⟨σ',H',I,q⟩:=h;exact⟨σ',H',I.gP,q⟩
 | cont=>obtain⟨σ',H',I,q⟩:=h;exact⟨σ',H',I.gP,q⟩
 | ret u=>obtain⟨v,σ',H',I,r,q⟩:=h;exact⟨v,σ',H',I.gP,r,q⟩
theorem PSs.nox {st:List Stmt} {t:TS} (h:PSs X.nox st t):PSs X st t:=fun pins s σ H D I hw=>
 wpAny_mono (h pins s σ H D (I.nF _) hw) (fun _ _ q=>q.gP) fun _ _ z=>False.elim z
end
section
variable {X:Cx} {st:Stmt} {rest:List Stmt} {t u:TS} {e:Expr} {te:TE} {pos:Pos}
noncomputable def DJ:TS:=fun D σ H=>D.nx σ H
noncomputable def E7 (t u:TS):TS:=fun D σ H=>t { D with nx:=u D } σ H
theorem Ay:PSs X [] DJ:=fun _ _ σ H _ I h=>wpAny_execs_nil ⟨σ,H,I,h⟩
theorem xh (h1:PS X st t) (h2:PSs X rest u):PSs X (st::rest) (E7 t u):=by
 intro pins s σ H D I h
 refine wpAny_execs_cons (thn (h1 pins s σ H { D with nx:=u D } I h) fun f s1 q=>?_)
 cases f with
 | next=>
  obtain⟨σ',H',I',q⟩:=q
  exact h2 pins s1 σ' H' D I' q
 | ret v=>exact q
 | brk=>exact q
 | cont=>exact q
theorem An (h1:PS X st t):PSs X [st] t:=by
 intro pins s σ H D I h
 refine wpAny_execs_cons (thn (h1 pins s σ H D I h) fun f s1 q=>?_)
 cases f with
 | next=>exact wpAny_execs_nil q
 | ret v=>exact q
 | brk=>exact q
 | cont=>exact q
theorem Inv.quiet {pins:List (Addr × Obj)} {σ:St} {H:Hp} {s:Shared} (I:Inv X pins σ H s):interactive X.env=false:=by simp[interactive,I.ok.kind]
noncomputable def Dy (te:TE):TS:=fun D σ H=>te σ H fun _ H1=>D.nx σ H1
theorem AO (he:PE X e te) (hs:swapsWith e none pos.line X.env=pure false:=by rfl):PS X (.Expr e pos) (Dy te):=by
 intro pins s σ H D I h
 exact wpAny_Expr_any (thn (he pins s σ H _ I h) fun v s1 ⟨x,H1,I1,r1,q1⟩=>⟨σ,H1,I1,q1⟩) I.quiet hs
noncomputable def EV (te:TE):TS:=fun D σ H=>te σ H D.rt
theorem CL (he:PE X e te):PS X (.Return (some e) pos) (EV te):=by
 intro pins s σ H D I h
 exact wpAny_Return_some (thn (he pins s σ H _ I h) fun v s1 ⟨x,H1,I1,r1,q1⟩=>⟨x,σ,H1,I1,r1,q1⟩)
noncomputable def ET (c:TT) (t u:TS):TS:=fun D σ H=>c σ H fun b H1=>if b=true then t D σ H1 else u D σ H1
theorem D7 {c:Expr} {a b:List Stmt} {tc:TT} (hc:PT X c tc) (ha:PSs X a t) (hb:PSs X b u):PS X (.If c a b pos) (ET tc t u):=by
 intro pins s σ H D I h
 refine wpAny_If (thn (hc pins s σ H _ I h) fun d s1 ⟨H1,I1,q1⟩=>?_)
 cases d with
 | true=>exact ha pins s1 σ H1 D I1 q1
 | false=>exact hb pins s1 σ H1 D I1 q1
noncomputable def CG:TS:=fun _ _ _=>False
theorem rT:PS X st CG:=fun _ _ _ _ _ _ h=>h.elim
end
noncomputable abbrev TG:=V->St->Hp->(St->Hp->Prop)->Prop
noncomputable abbrev TGs:=List V->St->Hp->(St->Hp->Prop)->Prop
noncomputable def PG (X:Cx) (target:Expr) (t:TG):Prop:=
 ∀(pins:List (Addr × Obj)) (s:Shared) (σ:St) (H:Hp) (v:V) (u:Value) (Q:St->Hp->Prop),Inv X pins σ H s->RelV v u->t v σ H Q →
  wpAny (model X.prog X.w) X.A (assign target X.env u) (fun _ s'=>∃σ' H',Inv X pins σ' H' s'/\Q σ' H') X.xe s
noncomputable def PGs (X:Cx) (ts:List Expr) (t:TGs):Prop:=
 ∀(pins:List (Addr × Obj)) (s:Shared) (σ:St) (H:Hp) (vs:List V) (us:List Value) (Q:St->Hp->Prop),Inv X pins σ H s->Vals vs us->t vs σ H Q →
  wpAny (model X.prog X.w) X.A (assignInOrder ((assignEach ts X.env).map (·.2)) us) (fun _ s'=>∃σ' H',Inv X pins σ' H' s'/\Q σ' H') X.xe s
noncomputable abbrev xS:=V->V->V->Hp->(Hp->Prop)->Prop
noncomputable def B3 (X:Cx) (t:xS):Prop:=
 ∀(pins:List (Addr × Obj)) (s:Shared) (σ:St) (H:Hp) (o i v:V) (ov iv u:Value) (Q:Hp->Prop),Inv X pins σ H s->RelV o ov->RelV i iv->RelV v u->t o i v H Q →
  wpAny (model X.prog X.w) X.A (setItem ov iv u) (fun _ s'=>∃H',Inv X pins σ H' s'/\Q H') X.xe s
section
variable {X:Cx} {pos:Pos}
noncomputable def cf (i:Nat):TG:=fun v σ H Q=>Q (σ.set i (some v)) H
theorem bf {i:Nat} {x:Str} (hN:X.N.Nodup) (hi:X.N[i]?=some x) (hx:Loc X.env.scope x) (hf:X.fn x=true\/X.env.scope.names.lookup x=some .local:=by first | exact .inl rfl | exact .inr rfl | assumption):PG X (.Name x pos) (cf i):=by
 intro pins s σ H v u Q I r h
 exact wpAny_assign_Name (fK I hN hi hx r (fun s' I'=>⟨_,H,I',h⟩) hf)
noncomputable def yt:TGs:=fun vs σ H Q=>vs=[]/\Q σ H
noncomputable def jr (t:TG) (u:TGs):TGs:=fun vs σ H Q=>∃v r,vs=v::r/\t v σ H fun σ' H'=>u r σ' H' Q
theorem o7:PGs X [] yt:=by
 intro pins s σ H vs us Q I r h
 obtain⟨e,h⟩:=h
 subst e
 cases r
 exact assignInOrder_nil ⟨σ,H,I,h⟩
theorem fM {e:Expr} {es:List Expr} {t:TG} {u:TGs} (h1:PG X e t) (h2:PGs X es u)
  (hs:(assignEach (e::es) X.env).map (·.2)=assign e X.env::(assignEach es X.env).map (·.2):=by rfl):PGs X (e::es) (jr t u):=by
 intro pins s σ H vs us Q I r h
 obtain⟨v,vr,e1,h⟩:=h
 subst e1
 cases r with
 | cons r rr=>
  rw[hs]
  refine assignInOrder_cons (thn (h1 pins s σ H _ _ _ I r h) fun _ s1 ⟨σ1,H1,I1,q1⟩=>?_)
  exact h2 pins s1 σ1 H1 _ _ Q I1 rr q1
noncomputable def xQ (K:PySem.W.Frag) (n:Nat) (t:TGs):TG:=fun v σ H Q=>∃a xs,v=.ref a/\SqT K H a xs/\xs.length=n/\t xs σ H Q
theorem sH {es:List Expr} {k:Nat} {t:TGs} {n:Nat} (hc:X.calm=true) (h:PGs X es t)
  (hn:(assignEach es X.env).length=n:=by rfl) (hst:(assignEach es X.env).findIdx? (·.1)=none:=by rfl):PG X (.Tuple es k pos) (xQ X.K n t):=by
 intro pins s σ H v u Q I r hw
 obtain⟨a,xs,e1,hq,hl,hw⟩:=hw
 subst e1
 cases r
 obtain⟨its,rv,ht,hz⟩:=I.tuple hq
 refine assign_Tuple_tuple (I.ok.hd hc) ht (by simp[hn,<- hl,rv.length]) hst fun h' hx=>?_
 have I1:Inv X pins σ H { s with heap:=h' }:=I.kept (t':=s.toks) fun b o e=>hx b o (Nat.ne_of_lt (Heap.lt_size e)) e
 exact h pins _ σ H xs _ Q I1 (by simpa using rv) hw
noncomputable def EC (to ti:TE) (t:xS):TG:=fun v σ H Q=>to σ H fun o H1=>ti σ H1 fun i H2=>t o i v H2 fun H3=>Q σ H3
theorem Cn {o i:Expr} {to ti:TE} {t:xS} (ho:PE X o to) (hi:PE X i ti) (hs:B3 X t)
  (ha:∀v,assign (.Subscript o i pos) X.env v=(do
   let ov ← holding [v] (eval o X.env)
   let iv ← holding [v,ov] (eval i X.env)
   standAt pos
   holding [v,ov,iv] (setItem ov iv v)
   release [v,ov,iv] []):=by intro _;rfl):PG X (.Subscript o i pos) (EC to ti t):=by
 intro pins s σ H v u Q I r h
 rw[ha]
 refine wpAny_bind (wpAny_holding (thn (ho pins s σ H _ I h) fun ov s1 ⟨x,H1,I1,r1,q1⟩=>?_))
 refine wpAny_bind (wpAny_holding (thn (hi pins s1 σ H1 _ I1 q1) fun iv s2 ⟨y,H2,I2,r2,q2⟩=>?_))
 refine wpAny_bind (wpAny_standAt (wpAny_bind (wpAny_holding (thn (hs pins s2 σ H2 x y v ov iv u _ I2 r1 r2 r q2) fun _ s3 ⟨H3,I3,q3⟩=>?_))))
 exact wpAny_release ⟨σ,H3,I3,q3⟩
noncomputable def yY (te:TE) (g:TG):TS:=fun D σ H=>te σ H fun x H1=>g x σ H1 D.nx
theorem wA {tg e:Expr} {te:TE} {g:TG} (he:PE X e te) (hg:PG X tg g) (hs:swapsWithSole [tg] e pos.line X.env=pure false:=by rfl) (hw:swappedStores [tg] e X.env=pure none:=by rfl)
  (h1:(assignEach [tg] X.env).map (·.2)=[assign tg X.env]:=by rfl):PS X (.Assign [tg] e pos) (yY te g):=by
 intro pins s σ H D I h
 refine wpAny_Assign_stores (thn (he pins s σ H _ I h) fun v s1 ⟨x,H1,I1,r1,q1⟩=>?_) hs hw
 rw[h1]
 exact thn (hg pins s1 σ H1 x v _ I1 r1 q1) fun _ s2 q=>q
theorem Ck {i:Nat} {x:Str} {e:Expr} {te:TE} {pos':Pos} (hN:X.N.Nodup) (hi:X.N[i]?=some x) (hx:Loc X.env.scope x) (he:PE X e te) (hs:swapsWith e (some (.Name x pos')) pos.line X.env=pure false:=by rfl) (hf:X.fn x=true\/X.env.scope.names.lookup x=some .local:=by first | exact .inl rfl | exact .inr rfl | assumption) :
  PS X (.Assign [.Name x pos'] e pos) (yY te (cf i)):=by
 intro pins s σ H D I h
 refine wpAny_Assign_Name (thn (he pins s σ H _ I h) fun v s1 ⟨y,H1,I1,r1,q1⟩=>?_) hs
 exact fK I1 hN hi hx r1 (fun s2 I2=>⟨_,H1,I2,q1⟩) hf
noncomputable def Fd (i j:Nat) (ta:TA):TS:=fun D σ H=>ta σ H fun vs H1=>∃v w,vs=[v,w]/\D.nx ((σ.set i (some v)).set j (some w)) H1
theorem Bq {i j:Nat} {x y:Str} {a b:Expr} {ta:TA} {px py pt:Pos} {kt k2 pt2} (hc:X.calm=true) (hN:X.N.Nodup) (hi:X.N[i]?=some x) (hj:X.N[j]?=some y) (hij:i≠j)
  (hx:X.env.scope.names.lookup x=some .local) (hy:X.env.scope.names.lookup y=some .local) (ha:PA X [a,b] ta)
  (hw:swappedStores [.Tuple [.Name x px,.Name y py] kt pt] (.Tuple [a,b] k2 pt2) X.env=pure (some [x,y]))
  (hs:swapsWithSole [.Tuple [.Name x px,.Name y py] kt pt] (.Tuple [a,b] k2 pt2) pos.line X.env=pure false:=by rfl) :
  PS X (.Assign [.Tuple [.Name x px,.Name y py] kt pt] (.Tuple [a,b] k2 pt2) pos) (Fd i j ta):=by
 intro pins s σ H D I h
 rw[exec_Assign_arm]
 refine wpAny_bind (wpAny_standAt ?_)
 rw[hs]
 refine wpAny_bind (wpAny_pure ?_)
 rw[if_neg (by decide)]
 refine wpAny_bind (Tuple_ (thn (ha _ pins s σ H _ I h) fun us s1 ⟨vs,H1,I1,r1,q1⟩=>?_))
 obtain⟨v,w,e1,q1⟩:=q1
 subst e1
 obtain⟨u1,u2,rfl,rv,rw'⟩:∃u1 u2,us=[u1,u2]/\RelV v u1/\RelV w u2:=by
  cases r1 with
  | cons p q=>
   cases q with
   | cons p' q'=>
    cases q'
    exact⟨_,_,rfl,p,p'⟩
 refine wpAny_newObj_type ?_ (by show 2<=sizeLine;decide)
 have I2:Inv X pins σ H1 { s1 with heap:=s1.heap.push { cls:=.type "tuple", data:=.seq [u1,u2].toArray } }:=I1.kept (t':=s1.toks) fun b o e=>Heap.get?_push_of_some _ e
 rw[hw]
 refine wpAny_bind (wpAny_pure ?_)
 show wpAny (model X.prog X.w) X.A (do rule "assign.swapped-stores"; let items ← unpackItems (.ref s1.heap.objs.size) 2 none;assignInOrder [fun v=>bindName X.env y v,fun v=>bindName X.env x v] items.reverse;pure Flow.next) _ _ _
 refine wpAny_bind (wpAny_rule (wpAny_bind (unpackItems_tuple (items:=#[u1,u2]) (I.ok.hd hc) (IsTup.new s1.heap _) fun h' hx'=>?_)))
 have I3:=I2.kept (h':=h') (t':=s1.toks) fun b o e=>hx' b o (Nat.ne_of_lt (Heap.lt_size e)) e
 show wpAny _ _ (assignInOrder [fun v=>bindName X.env y v,fun v=>bindName X.env x v] [u2,u1] >>= fun _=>pure Flow.next) _ _ _
 refine wpAny_bind (assignInOrder_cons (wpAny_bindName (fK I3 hN hj (.inl hy) rw' (fun s2 I4=>?_) (.inr hy))))
 refine assignInOrder_cons (wpAny_bindName (fK I4 hN hi (.inl hx) rv (fun s3 I5=>assignInOrder_nil (wpAny_pure ?_)) (.inr hx)))
 rw[List.set_comm _ _ (Ne.symm hij)] at I5
 exact⟨_,H1,I5,q1⟩
end
structure It where
 go:Nat->Hp->Prop
 yld:Nat->Hp->V->Hp->Prop
 stop:Nat->Hp->Prop
noncomputable def i5 (X:Cx) (pins:List (Addr × Obj)) (H:Hp) (b:Addr):Prop:=
 H b=none/\b≠X.env.locals/\b∉X.fs/\(b∈X.ex\/X.ao.heap.objs.size<=b)/\(∀x c,X.env.cells.lookup x=some c->c≠b)/\∀p∈X.pn++pins,p.1≠b
theorem Inv.vd {X:Cx} {pins:List (Addr × Obj)} {σ:St} {H H':Hp} {s:Shared} {b:Addr} (I:Inv X pins σ H s) (hb:s.heap.objs.size<=b) (hn:H' b=none):i5 X pins H' b:=by
 refine⟨hn,Nat.ne_of_gt (Nat.lt_of_lt_of_le I.lt hb),I.zw hb,.inr (Nat.le_trans I.sz hb),fun x c e z=>?_,fun p hp z=>?_⟩
 ·obtain⟨v,q⟩:=I.cell x c e
  exact absurd (Nat.lt_of_lt_of_le q.lt (by rw[z];exact hb)) (Nat.lt_irrefl _)
 ·exact absurd (Nat.lt_of_lt_of_le (Heap.lt_size (I.pin p hp).1) (by rw[z];exact hb)) (Nat.lt_irrefl _)
structure Turn (P:Program) (w:World) (K:PySem.W.Frag) (tg:Expr) (J:It) (fp:List Addr) (it:Addr) (tn:Nat->Heap->Prop):Prop where
 mem:it∈fp
 obj:∀i h,tn i h->∀b∈fp,∃o,h.get? b=some o/\∀v,o.data≠.cell v
 keep:∀i h h',tn i h->(∀b∈fp,∀o,h.get? b=some o->h'.get? b=some o)->tn i h'
 item:∀(X:Cx),X.prog=P->X.w=w->X.K=K->X.calm=true->∀(i:Nat) (pins:List (Addr × Obj)) (s:Shared) (σ:St) (H:Hp) (E:Value->Shared->Prop),Inv X pins σ H s->(∀b∈fp,i5 X pins H b)->tn i s.heap->J.go i H →
  wpAny (model P w) X.A (pyNext (.ref it)) (fun r s1=>∃u,r=some u ∧
   wpAny (model P w) X.A (letOwnedTupleGo tg (.ref it) u) (fun _ s2=>∃x H',Inv X pins σ H' s2/\RelV x u/\J.yld i H x H'/\tn (i+1) s2.heap/\∀b∈fp,H' b=none) E s1) E s
 done:∀(X:Cx),X.prog=P->X.w=w->X.K=K->X.calm=true->∀(i:Nat) (pins:List (Addr × Obj)) (s:Shared) (σ:St) (H:Hp) (E:Value->Shared->Prop),Inv X pins σ H s->(∀b∈fp,i5 X pins H b)->tn i s.heap->J.stop i H →
  wpAny (model P w) X.A (pyNext (.ref it)) (fun r s1=>r=none/\Inv X pins σ H s1) E s
 self:∀(A:Around) (i:Nat) (s:Shared) (Q:Value->Shared->Prop) (E:Value->Shared->Prop),tn i s.heap->Q (.ref it) s->wpAny (model P w) A (pyIter (.ref it)) Q E s
noncomputable abbrev TI:=St->Hp->(It->Hp->Prop)->Prop
noncomputable def PIE (X:Cx) (pins:List (Addr × Obj)) (σ:St) (tg:Expr) (R:It->Hp->Prop) (itv:Value) (s2:Shared):Prop:=
 ∃(it:Addr) (fp:List Addr) (tn:Nat->Heap->Prop) (J:It) (H':Hp),itv=.ref it/\Inv X pins σ H' s2/\Turn X.prog X.w X.K tg J fp it tn/\tn 0 s2.heap/\(∀b∈fp,i5 X pins H' b)/\R J H'
noncomputable def PI (X:Cx) (tg iter:Expr) (wi:TI):Prop:=
 ∀(pins:List (Addr × Obj)) (s:Shared) (σ:St) (H:Hp) (R:It->Hp->Prop),Inv X pins σ H s->wi σ H R →
  wpAny (model X.prog X.w) X.A (eval iter X.env) (fun v s1=>wpAny (model X.prog X.w) X.A (pyIter v) (PIE X pins σ tg R) X.xe s1) X.xe s
theorem uV {M:Model} {A:Around} {E:Value->Shared->Prop} {s:Shared} {tg:Expr} {it:Addr} {u:Value} {o:Obj} {n:String} {vs:Array Value} {Q:Unit->Shared->Prop} (ho:s.heap.get? it=some o) (hc:o.cls=.type n) (hd:o.data=.fields vs)
  (hn:["enumerate", "zip", "dict_itemiterator", "dict_reverseitemiterator", "odict_iterator", "itertools.zip_longest", "itertools.pairwise"].contains n=false) (hQ:Q () s):wpAny M A (letOwnedTupleGo tg (.ref it) u) Q E s:=by
 unfold letOwnedTupleGo
 cases tg<;>first
  | exact wpAny_pure hQ
  | (cases u<;>first
    | exact wpAny_pure hQ
    | (refine wpAny_bind (wpAny_load ho ?_)
       rw[hc,hd]
       show wpAny M A (if (["enumerate", "zip", "dict_itemiterator", "dict_reverseitemiterator", "odict_iterator", "itertools.zip_longest", "itertools.pairwise"].contains n&&vs[0]? == some (rawInt _))=true then _ else _) Q E s
       rw[if_neg (by intro h;rw[hn,Bool.false_and] at h;cases h)]
       exact wpAny_pure hQ))
noncomputable def Itl (K:PySem.W.Frag) (a:Addr):It:=
 ⟨fun i H=>∃xs x,SqL K H a xs/\xs[i]?=some x,fun i H x H'=>H'=H/\∀xs,SqL K H a xs->xs[i]?=some x,fun i H=>∃xs,SqL K H a xs/\xs.length<=i⟩
noncomputable def Itt (K:PySem.W.Frag) (a:Addr):It:=
 ⟨fun i H=>∃xs x,SqT K H a xs/\xs[i]?=some x,fun i H x H'=>H'=H/\∀xs,SqT K H a xs->xs[i]?=some x,fun i H=>∃xs,SqT K H a xs/\xs.length<=i⟩
noncomputable def Itr (lo:Int) (n:Nat):It:=⟨fun i _=>i<n,fun i H x H'=>H'=H/\x=.int (lo+i),fun i _=>n<=i⟩
theorem vx {P:Program} {w:World} {K:PySem.W.Frag} {tg:Expr} (a it:Addr):Turn P w K tg (Itl K a) [it] it (fun i h=>h.IsListIter it a i) where
 mem:=by simp
 obj:=fun i h st b hb=>by
  have e:b=it:=by simpa using hb
  subst e
  obtain⟨o,e,c,d⟩:=st
  exact⟨o,e,fun v z=>by rw[d] at z;cases z⟩
 keep:=fun i h h' st k=>st.at fun o e=>k it (by simp) o e
 item:=by
  intro X hP hw hK hc i pins s σ H E I hf st hg
  subst hP hw hK
  obtain⟨xs,x,hq,hx⟩:=hg
  obtain⟨its,rv,p,hz⟩:=I.list hq
  obtain⟨u,hu,ru⟩:=rv.get hx
  obtain⟨f0,f1,f2,f3,f4,f5⟩:=hf it (by simp)
  refine wpAny_pyNext_list_item st p.isList (x:=u) (by simpa using hu) fun h' st' sb=>?_
  have I1:Inv X pins σ H { s with heap:=h' }:=I.turned (t':=s.toks) (fun b o hb e=>(sb.2 b hb).trans e) f0 f1 f3 f4 f5
  obtain⟨o,e,c,d⟩:=id st'
  exact⟨u,rfl,uV (s:={ s with heap:=h' }) e c d (by decide) ⟨x,H,I1,ru,⟨rfl,fun ys hy=>by rw[I.gW hy hq];exact hx⟩,st',fun b hb=>(hf b hb).1⟩⟩
 done:=by
  intro X hP hw hK hc i pins s σ H E I hf st hg
  subst hP hw hK
  obtain⟨xs,hq,hx⟩:=hg
  obtain⟨its,rv,p,hz⟩:=I.list hq
  obtain⟨f0,f1,f2,f3,f4,f5⟩:=hf it (by simp)
  have hl:=rv.length
  exact wpAny_pyNext_list_end (I.ok.hd hc) st p.isList (by simp;omega) fun h' eb=>⟨rfl,I.turned (t':=s.toks) (fun b o hb e=>eb b o hb e) f0 f1 f3 f4 f5⟩
 self:=fun _ _ _ _ _ st h=>wpAny_pyIter_listiter st h
theorem tK {P:Program} {w:World} {K:PySem.W.Frag} {tg:Expr} (a it:Addr):Turn P w K tg (Itt K a) [it] it (fun i h=>h.IsTupleIter it a i) where
 mem:=by simp
 obj:=fun i h st b hb=>by
  have e:b=it:=by simpa using hb
  subst e
  obtain⟨o,e,c,d⟩:=st
  exact⟨o,e,fun v z=>by rw[d] at z;cases z⟩
 keep:=fun i h h' st k=>st.at fun o e=>k it (by simp) o e
 item:=by
  intro X hP hw hK hc i pins s σ H E I hf st hg
  subst hP hw hK
  obtain⟨xs,x,hq,hx⟩:=hg
  obtain⟨its,rv,p,hz⟩:=I.tuple hq
  obtain⟨u,hu,ru⟩:=rv.get hx
  obtain⟨f0,f1,f2,f3,f4,f5⟩:=hf it (by simp)
  refine wpAny_pyNext_tuple_item st (show s.heap.IsTuple a its.toArray from p) (x:=u) (by simpa using hu) fun h' st' sb=>?_
  have I1:Inv X pins σ H { s with heap:=h' }:=I.turned (t':=s.toks) (fun b o hb e=>(sb.2 b hb).trans e) f0 f1 f3 f4 f5
  obtain⟨o,e,c,d⟩:=id st'
  exact⟨u,rfl,uV (s:={ s with heap:=h' }) e c d (by decide) ⟨x,H,I1,ru,⟨rfl,fun ys hy=>by rw[I.fI hy hq];exact hx⟩,st',fun b hb=>(hf b hb).1⟩⟩
 done:=by
  intro X hP hw hK hc i pins s σ H E I hf st hg
  subst hP hw hK
  obtain⟨xs,hq,hx⟩:=hg
  obtain⟨its,rv,p,hz⟩:=I.tuple hq
  obtain⟨f0,f1,f2,f3,f4,f5⟩:=hf it (by simp)
  have hl:=rv.length
  exact wpAny_pyNext_tuple_end (I.ok.hd hc) st (show s.heap.IsTuple a its.toArray from p) (by simp;omega) fun h' eb=>⟨rfl,I.turned (t':=s.toks) (fun b o hb e=>eb b o hb e) f0 f1 f3 f4 f5⟩
 self:=fun _ _ _ _ _ st h=>wpAny_pyIter_tupleiter st h
theorem sF {P:Program} {w:World} {K:PySem.W.Frag} {tg:Expr} (it:Addr) (lo:Int) (n:Nat):Turn P w K tg (Itr lo n) [it] it (fun i h=>IsRangeIter h it (lo+(i:Nat)*1) ((n:Int) - (i:Nat)) 1) where
 mem:=by simp
 obj:=fun i h st b hb=>by
  have e:b=it:=by simpa using hb
  subst e
  exact⟨_,st,fun v z=>by
   have z':Data.fields _=Data.cell v:=z
   cases z'⟩
 keep:=fun i h h' st k=>k it (by simp) _ st
 item:=by
  intro X hP hw hK hc i pins s σ H E I hf st hg
  subst hP hw hK
  obtain⟨f0,f1,f2,f3,f4,f5⟩:=hf it (by simp)
  have W:=Walks.range (prog:=X.prog) (w:=X.w) (I.ok.hd hc) it lo 1 n
  refine W.item i s _ _ hg st fun v h' tk hv st' kk=>?_
  obtain⟨t,rfl⟩:=hv
  have I1:Inv X pins σ H { s with heap:=h',toks:=tk }:=I.turned (fun b o hb e=>kk b o (by simpa using hb) e) f0 f1 f3 f4 f5
  refine⟨_,rfl,uV (s:={ s with heap:=h',toks:=tk }) (n:="range_iterator") st' rfl rfl (by decide) ⟨.int (lo+i),H,I1,⟨t,?_⟩,⟨rfl,rfl⟩,st',fun b hb=>(hf b hb).1⟩⟩
  rw[Int.mul_one]
 done:=by
  intro X hP hw hK hc i pins s σ H E I hf st hg
  subst hP hw hK
  obtain⟨f0,f1,f2,f3,f4,f5⟩:=hf it (by simp)
  exact wpAny_pyNext_range_end (I.ok.hd hc) st (by have:n<=i:=hg;omega) fun h' eb=>⟨rfl,I.turned (t':=s.toks) (fun b o hb e=>eb b o hb e) f0 f1 f3 f4 f5⟩
 self:=fun _ _ _ _ _ st h=>wpAny_pyIter_rangeiter st h
section
variable {X:Cx} {tg:Expr}
theorem rq {pins:List (Addr × Obj)} {σ:St} {H:Hp} {s:Shared} {R:It->Hp->Prop} {E:Value->Shared->Prop} {lo hi:Int} {t u v:Tok} {tk:Nat} (I:Inv X pins σ H s) (h1:-(2 ^ 62)<=lo) (h2:lo<2 ^ 62) (h3:-(2 ^ 62)<=hi) (h4:hi<2 ^ 62)
  (q:R (Itr lo (hi - lo).toNat) H):wpAny (model X.prog X.w) X.A (pyIter (.ref s.heap.objs.size)) (PIE X pins σ tg R) E { s with heap:=s.heap.push { cls:=.type "range", data:=.fields #[.int lo t,.int hi u,.int 1 v] },toks:=tk }:=by
 refine wpAny_pyIter_range (IsRange.new ..) (small_one h1 h2 h3 h4) ?_
 have I1:Inv X pins σ H { s with heap:=s.heap.push { cls:=.type "range", data:=.fields #[.int lo t,.int hi u,.int 1 v] },toks:=tk }:=I.kept fun b o e=>Heap.get?_push_of_some _ e
 refine⟨(s.heap.push { cls:=.type "range", data:=.fields #[.int lo t,.int hi u,.int 1 v] }).objs.size,[(s.heap.push { cls:=.type "range", data:=.fields #[.int lo t,.int hi u,.int 1 v] }).objs.size],_,_,H,rfl,
  I1.kept (t':=tk) fun b o e=>Heap.get?_push_of_some _ e,sF _ lo (hi - lo).toNat,?_,fun b hb=>?_,q⟩
 ·have e1:lo+((0:Nat):Int)*1=lo:=by simp
  have e2:(((hi - lo).toNat:Nat):Int) - ((0:Nat):Int)=Builtin.Range.rangeSize lo hi 1:=by rw[rangeSize_one];split<;>omega
  show IsRangeIter _ _ (lo+((0:Nat):Int)*1) ((((hi - lo).toNat:Nat):Int) - ((0:Nat):Int)) 1
  rw[e1,e2]
  exact Heap.get?_push_size _ rfl
 ·have e:b=(s.heap.push { cls:=.type "range", data:=.fields #[.int lo t,.int hi u,.int 1 v] }).objs.size:=by simpa using hb
  subst e
  exact I1.vd (Nat.le_refl _) (I1.hok.fresh (Nat.le_refl _))
noncomputable def DB (ta:TA):TI:=fun σ H R=>ta σ H fun vs H1=>∃j:Int,vs=[.int j]/\-(2 ^ 62)<=j/\j<2 ^ 62/\R (Itr 0 j.toNat) H1
noncomputable def Dt (ta:TA):TI:=fun σ H R=>ta σ H fun vs H1=>∃i j:Int,vs=[.int i,.int j]/\(-(2 ^ 62)<=i/\i<2 ^ 62/\-(2 ^ 62)<=j/\j<2 ^ 62)/\R (Itr i (j - i).toNat) H1
theorem vH {a:Expr} {ta:TA} {p pos:Pos} (hg:Gl X "range") (hm:X.mg "range" = none) (ha:PA X [a] ta) (hs:starEach [a] X.env=[(false,eval a X.env)]:=by rfl):PI X tg (.Call (.Name "range" p) [a] [] pos) (DB ta):=by
 intro pins s σ H R I h
 refine Call_ (gU I hg hm boot_range (PyProof.Rows.callWith_type1 (thn (ha pos pins s σ H _ I h) fun us s1 ⟨vs,H1,I1,r1,q1⟩=>?_) hs rfl))
 obtain⟨j,e,q1,q2,q⟩:=q1
 subst e
 cases r1 with
 | cons r rr=>
  cases rr
  obtain⟨t,rfl⟩:=r
  exact call_range_1 (rq I1 (by omega) (by omega) q1 q2 (by simpa using q))
theorem v9 {a b:Expr} {ta:TA} {p pos:Pos} (hg:Gl X "range") (hm:X.mg "range" = none) (ha:PA X [a,b] ta) (hs:starEach [a,b] X.env=[(false,eval a X.env),(false,eval b X.env)]:=by rfl) (hs2:starEach [b] X.env=[(false,eval b X.env)]:=by rfl) :
  PI X tg (.Call (.Name "range" p) [a,b] [] pos) (Dt ta):=by
 intro pins s σ H R I h
 refine Call_ (gU I hg hm boot_range (PyProof.Rows.callWith_type1 (thn (ha pos pins s σ H _ I h) fun us s1 ⟨vs,H1,I1,r1,q1⟩=>?_) (by rw[hs,hs2]) (by rw[hs2];rfl)))
 obtain⟨i,j,e,⟨q1,q2,q3,q4⟩,q⟩:=q1
 subst e
 cases r1 with
 | cons r rr=>
  cases rr with
  | cons r' rr=>
   cases rr
   obtain⟨t,rfl⟩:=r
   obtain⟨t',rfl⟩:=r'
   exact call_range_2 (rq I1 q1 q2 q3 q4 q)
noncomputable def Fw (wi:TI) (g:TG) (tb:TS):TS:=fun D σ H=>wi σ H fun J H1=>∃W:Nat->Nat->St->Hp->Prop,(∃m,W 0 m σ H1)/\∀i m σ H,W i m σ H →
 (J.stop i H/\D.nx σ H)\/(J.go i H/\∃N:St->Hp->Prop,(∀σ' H',N σ' H'->∃m',m'<m/\W (i+1) m' σ' H')/\∀x H',J.yld i H x H'->g x σ H' fun σ2 H2=>tb { D with nx:=N,ct:=N,bk:=D.nx } σ2 H2)
noncomputable def eG (fp:List Addr) (h:Heap):List (Addr × Obj):=fp.filterMap fun b=>(h.get? b).map fun o=>(b,o)
theorem br {fp:List Addr} {h:Heap} {b:Addr} {o:Obj} (hb:b∈fp) (e:h.get? b=some o):(b,o)∈eG fp h:=List.mem_filterMap.mpr ⟨b,hb,by rw[e];rfl⟩
theorem vS {fp:List Addr} {h:Heap} {p:Addr × Obj} (hp:p∈eG fp h):p.1∈fp/\h.get? p.1=some p.2:=by
 obtain⟨b,hb,e⟩:=List.mem_filterMap.mp hp
 cases q:h.get? b with
 | none=>rw[q] at e;cases e
 | some o=>
  rw[q] at e
  have e':(b,o)=p:=Option.some.inj e
  subst e'
  exact⟨hb,q⟩
theorem Inv.pinned {pins:List (Addr × Obj)} {σ:St} {H:Hp} {s:Shared} {fp:List Addr} (I:Inv X pins σ H s) (hf:∀b∈fp,i5 X pins H b) (ho:∀b∈fp,∃o,s.heap.get? b=some o/\∀v,o.data≠.cell v):Inv X (pins++eG fp s.heap) σ H s:=
 I.iG fun p hp=>(List.mem_append.mp hp).elim (fun z=>I.pin p (List.mem_append_right _ z)) fun z=>by
  obtain⟨hb,e⟩:=vS z
  obtain⟨f0,f1,f2,_⟩:=hf p.1 hb
  obtain⟨o,e',d⟩:=ho p.1 hb
  rw[e] at e';cases e'
  exact⟨e,f0,f1,f2,d⟩
theorem Inv.dG {pins pl:List (Addr × Obj)} {σ:St} {H:Hp} {s:Shared} (I:Inv X (pins++pl) σ H s):Inv X pins σ H s:=I.iG fun p hp=>I.pin p (List.mem_append_right _ (List.mem_append_left _ hp))
theorem By {iter:Expr} {body:List Stmt} {wi:TI} {g:TG} {tb:TS} {pos:Pos} (hp:PassesOwn (model X.prog X.w) X.A X.env X.xe) (hc:X.calm=true) (hi:PI X tg iter wi) (hg:PG X tg g) (hb:PSs X body tb)
  (hs:∀x,foldedSetIterable iter X.env x=pure x:=by intro _;rfl):PS X (.For tg iter body [] pos) (Fw wi g tb):=by
 intro pins s σ H D I h
 refine wpAny_For (thn (hi pins s σ H _ I h) fun v s1 h1=>thn h1 fun itv s2 h2=>?_) hs
 obtain⟨it,fp,tn,J,H2,e,I2,T,st2,f2,W,⟨m0,w0⟩,turn⟩:=h2
 subst e
 -- what stays true of the iterator's objects through the loop
 have stat:∀{H':Hp},(∀b∈fp,H' b=none)->∀b∈fp,i5 X pins H' b:=fun hn b hb=>⟨hn b hb,(f2 b hb).2⟩
 refine codeAny_forLoop_any (fun n s'=>∃i σ' H',Inv X pins σ' H' s'/\tn i s'.heap/\(∀b∈fp,H' b=none)/\W i n σ' H') ?_ m0 ⟨0,σ,H2,I2,st2,fun b hb=>(f2 b hb).1,w0⟩
 rintro n s3 ⟨i,σ3,H3,I3,st3,fr3,w3⟩
 rcases turn i n σ3 H3 w3 with⟨stop,qn⟩ | ⟨go,N,hN,step⟩
 ·refine wpAny_passesOwn hp (thn (T.done X rfl rfl rfl hc i pins s3 σ3 H3 X.xe I3 (stat fr3) st3 stop) fun r s4 ⟨hr,I4⟩=>?_)
  subst hr
  exact wpAny_execs_nil ⟨σ3,H3,I4,qn⟩
 ·refine wpAny_passesOwn hp (thn (T.item X rfl rfl rfl hc i pins s3 σ3 H3 X.xe I3 (stat fr3) st3 go) fun r s4 ⟨u,hr,h4⟩=>?_)
  subst hr
  refine wpAny_passesOwn hp (thn h4 fun _ s5 ⟨x,H5,I5,r5,y5,st5,fr5⟩=>?_)
  have I5':=I5.pinned (stat fr5) (T.obj _ _ st5)
  refine wpAny_passesOwn hp (thn (hg _ s5 σ3 H5 x u _ I5' r5 (step x H5 y5)) fun _ s6 ⟨σ6,H6,I6,q6⟩=>?_)
  refine wpAny_passesOwn hp (thn (hb _ s6 σ6 H6 _ I6 q6) fun f s7 q7=>?_)
  have again:∀{σ7:St} {H7:Hp},Inv X (pins++eG fp s5.heap) σ7 H7 s7->N σ7 H7->∃m,m<n/\∃i σ' H',Inv X pins σ' H' s7/\tn i s7.heap/\(∀b∈fp,H' b=none)/\W i m σ' H':=fun{σ7 H7} I7 n7=>by
   obtain⟨m',hm,w7⟩:=hN σ7 H7 n7
   refine⟨m',hm,i+1,σ7,H7,I7.dG,T.keep _ _ _ st5 fun b hb o e=>(I7.pin (b,o) (List.mem_append_right _ (List.mem_append_right _ (br hb e)))).1,fun b hb=>?_,w7⟩
   obtain⟨o,e,d⟩:=T.obj _ _ st5 b hb
   exact(I7.pin (b,o) (List.mem_append_right _ (List.mem_append_right _ (br hb e)))).2.1
  cases f with
  | next=>obtain⟨σ7,H7,I7,n7⟩:=q7;exact again I7 n7
  | cont=>obtain⟨σ7,H7,I7,n7⟩:=q7;exact again I7 n7
  | brk=>obtain⟨σ7,H7,I7,q7⟩:=q7;exact⟨σ7,H7,I7.dG,q7⟩
  | ret v=>obtain⟨x7,σ7,H7,I7,r7,q7⟩:=q7;exact⟨x7,σ7,H7,I7.dG,r7,q7⟩
end
noncomputable abbrev R2:=V->V->Hp->VK->Prop
noncomputable def OpR (X:Cx) (f:Value->Value->Sem Value) (r:R2):Prop:=
 ∀(pins:List (Addr × Obj)) (s:Shared) (σ:St) (H:Hp) (x y:V) (v u:Value) (Q:VK),Inv X pins σ H s->RelV x v->RelV y u->r x y H Q →
  wpAny (model X.prog X.w) X.A (f v u) (EP X pins σ Q) X.xe s
noncomputable def UnR (X:Cx) (f:Value->Sem Value) (r:V->Hp->VK->Prop):Prop:=
 ∀(pins:List (Addr × Obj)) (s:Shared) (σ:St) (H:Hp) (x:V) (v:Value) (Q:VK),Inv X pins σ H s->RelV x v->r x H Q →
  wpAny (model X.prog X.w) X.A (f v) (EP X pins σ Q) X.xe s
noncomputable def ba (X:Cx) (f:Value) (r:List V->Hp->VK->Prop):Prop:=
 ∀(pins:List (Addr × Obj)) (s:Shared) (σ:St) (H:Hp) (xs:List V) (us:List Value) (Q:VK),Inv X pins σ H s->Vals xs us->r xs H Q →
  wpAny (model X.prog X.w) X.A (call f us) (EP X pins σ Q) X.xe s
noncomputable def EK (X:Cx) (r:V->Hp->(Bool->Hp->Prop)->Prop):Prop:=
 ∀(pins:List (Addr × Obj)) (s:Shared) (σ:St) (H:Hp) (x:V) (v:Value) (Q:Bool->Hp->Prop),Inv X pins σ H s->RelV x v->r x H Q →
  wpAny (model X.prog X.w) X.A (truthy v) (TP X pins σ Q) X.xe s
noncomputable def tOp (r:R2) (ta tb:TE):TE:=fun σ H Q=>ta σ H fun x H1=>tb σ H1 fun y H2=>r x y H2 Q
noncomputable def tUn (r:V->Hp->VK->Prop) (ta:TE):TE:=fun σ H Q=>ta σ H fun x H1=>r x H1 Q
noncomputable def rI (C:Int->Int->Prop) (g:Int->Int->V):R2:=fun x y H Q=>∃i j,x=.int i/\y=.int j/\C i j/\Q (g i j) H
noncomputable def rI0 (g:Int->Int->V):R2:=fun x y H Q=>∃i j,x=.int i/\y=.int j/\Q (g i j) H
noncomputable def rU (g:Int->V):V->Hp->VK->Prop:=fun x H Q=>∃i,x=.int i/\Q (g i) H
section
variable {X:Cx} {a b c:Expr} {ta tb tc:TE} {pos:Pos}
theorem BU (ha:PE X a ta) (hb:PE X b tb) {pins:List (Addr × Obj)} {s:Shared} {σ:St} {H:Hp} {R:V->V->Hp->Prop} (I:Inv X pins σ H s)
  (h:ta σ H fun x H1=>tb σ H1 fun y H2=>R x y H2) {Q:Value->Shared->Prop} {f:Value->Value->Sem Value}
  (hf:∀v u s2 x y H2,Inv X pins σ H2 s2->RelV x v->RelV y u->R x y H2->wpAny (model X.prog X.w) X.A (f v u) Q X.xe s2) :
  wpAny (model X.prog X.w) X.A (eval a X.env) (fun v s₁=>wpAny (model X.prog X.w) X.A (eval b X.env) (fun u s₂=>wpAny (model X.prog X.w) X.A (f v u) Q X.xe s₂) X.xe s₁) X.xe s:=by
 refine thn (ha pins s σ H _ I h) fun v s1 ⟨x,H1,I1,r1,q1⟩=>?_
 refine thn (hb pins s1 σ H1 _ I1 q1) fun u s2 ⟨y,H2,I2,r2,q2⟩=>?_
 exact hf v u s2 x y H2 I2 r1 r2 q2
theorem Eb {op:Operator} {r:R2} (ho:OpR X (binaryOp op) r) (ha:PE X a ta) (hb:PE X b tb):PE X (.BinOp a op b pos) (tOp r ta tb):=by
 intro pins s σ H Q I h
 exact wpAny_BinOp (BU ha hb I h fun v u s2 x y H2 I2 rx ry q=>ho pins s2 σ H2 x y v u Q I2 rx ry q)
theorem C6 {op:UnaryOp} {r:V->Hp->VK->Prop} (ho:UnR X (unaryOp op) r) (ha:PE X a ta):PE X (.UnaryOp op a pos) (tUn r ta):=by
 intro pins s σ H Q I h
 exact UnaryOp_ (thn (ha pins s σ H _ I h) fun v s1 ⟨x,H1,I1,r1,q1⟩=>ho pins s1 σ H1 x v Q I1 r1 q1)
theorem opI {f:Value->Value->Sem Value} {C:Int->Int->Prop} {g:Int->Int->Int}
  (rule:∀(i j:Int) (t u:Tok) (s:Shared) (Q:Value->Shared->Prop) (E:Value->Shared->Prop),C i j->Q (.int (g i j) s.toks) { s with toks:=s.toks+1 }->wpAny (model X.prog X.w) X.A (f (.int i t) (.int j u)) Q E s) :
  OpR X f (rI C fun i j=>.int (g i j)):=by
 intro pins s σ H x y v u Q I rx ry h
 obtain⟨i,j,rfl,rfl,hc,q⟩:=h
 obtain⟨t,rfl⟩:=rx
 obtain⟨t',rfl⟩:=ry
 exact rule i j t t' s _ _ hc ⟨.int (g i j),H,I.tok _,⟨_,rfl⟩,q⟩
theorem DT {f:Value->Value->Sem Value} {g:Int->Int->Int}
  (rule:∀(i j:Int) (t u:Tok) (s:Shared) (Q:Value->Shared->Prop) (E:Value->Shared->Prop),Q (.int (g i j) s.toks) { s with toks:=s.toks+1 }->wpAny (model X.prog X.w) X.A (f (.int i t) (.int j u)) Q E s) :
  OpR X f (rI0 fun i j=>.int (g i j)):=by
 intro pins s σ H x y v u Q I rx ry h
 obtain⟨i,j,rfl,rfl,q⟩:=h
 obtain⟨t,rfl⟩:=rx
 obtain⟨t',rfl⟩:=ry
 exact rule i j t t' s _ _ ⟨.int (g i j),H,I.tok _,⟨_,rfl⟩,q⟩
theorem zx {f:Value->Value->Sem Value} {g:Int->Int->Bool}
  (rule:∀(i j:Int) (t u:Tok) (s:Shared) (Q:Value->Shared->Prop) (E:Value->Shared->Prop),Q (.bool (g i j)) s->wpAny (model X.prog X.w) X.A (f (.int i t) (.int j u)) Q E s) :
  OpR X f (rI0 fun i j=>.bl (g i j)):=by
 intro pins s σ H x y v u Q I rx ry h
 obtain⟨i,j,rfl,rfl,q⟩:=h
 obtain⟨t,rfl⟩:=rx
 obtain⟨t',rfl⟩:=ry
 exact rule i j t t' s _ _ ⟨.bl (g i j),H,I,rfl,q⟩
theorem Ca:OpR X (binaryOp .Add) (rI0 fun i j=>.int (i+j)):=DT fun _ _ _ _ _ _ _ q=>add_int q
theorem bW:OpR X (binaryOp .Sub) (rI0 fun i j=>.int (i - j)):=DT fun _ _ _ _ _ _ _ q=>sub_int q
theorem i8:OpR X (binaryOp .Mod) (rI (fun _ j=>0<j) fun i j=>.int (i % j)):=opI fun i j _ _ _ _ _ hc q=>by
 have h1:(0:Int)<j:=hc
 exact mod_int' (by omega) (by rw[Int.fmod_eq_emod_of_nonneg i (by omega)];exact q)
theorem unI {f:Value->Sem Value} {g:Int->Int}
  (rule:∀(i:Int) (t:Tok) (s:Shared) (Q:Value->Shared->Prop) (E:Value->Shared->Prop),Q (.int (g i) s.toks) { s with toks:=s.toks+1 }->wpAny (model X.prog X.w) X.A (f (.int i t)) Q E s) :
  UnR X f (rU fun i=>.int (g i)):=by
 intro pins s σ H x v Q I rx h
 obtain⟨i,rfl,q⟩:=h
 obtain⟨t,rfl⟩:=rx
 exact rule i t s _ _ ⟨.int (g i),H,I.tok _,⟨_,rfl⟩,q⟩
theorem iA:UnR X (unaryOp .USub) (rU fun i=>.int (-i)):=unI fun _ _ _ _ _ q=>neg_int q
end
section
variable {X:Cx} {a b c:Expr} {ta tb tc:TE} {pos:Pos}
theorem xJ:OpR X (compareOp .Lt) (rI0 fun i j=>.bl (decide (i<j))):=zx fun _ _ _ _ _ _ _ q=>lt_int q
theorem AX:OpR X (compareOp .LtE) (rI0 fun i j=>.bl (decide (i<=j))):=zx fun _ _ _ _ _ _ _ q=>le_int q
theorem wH:OpR X (compareOp .Gt) (rI0 fun i j=>.bl (decide (j<i))):=zx fun _ _ _ _ _ _ _ q=>gt_int q
theorem CW:OpR X (compareOp .GtE) (rI0 fun i j=>.bl (decide (j<=i))):=zx fun _ _ _ _ _ _ _ q=>ge_int q
theorem cq (b:Expr) {op:CmpOp} (h:op≠.In:=by decide) (h2:op≠.NotIn:=by decide):behindInMarks op b=false:=by
 have e1:(op == CmpOp.In)=false:=by cases op<;>first | rfl | exact absurd rfl h
 have e2:(op == CmpOp.NotIn)=false:=by cases op<;>first | rfl | exact absurd rfl h2
 cases b<;>simp[behindInMarks,e1,e2]
theorem Ax {op:CmpOp} {r:R2} (ho:OpR X (compareOp op) r) (ha:PE X a ta) (hb:PE X b tb) (hm:behindInMarks op b=false):PE X (.Compare a [op] [b] pos) (tOp r ta tb):=by
 intro pins s σ H Q I h
 exact wpAny_Compare1 (BU ha hb I h fun v u s2 x y H2 I2 rx ry q=>ho pins s2 σ H2 x y v u Q I2 rx ry q) hm
noncomputable def Bk (t:TE):TT:=fun σ H Q=>t σ H fun x H'=>∃k,x=.bl k/\Q k H'
theorem Af {op:CmpOp} {r:R2} (ho:OpR X (compareOp op) r) (ha:PE X a ta) (hb:PE X b tb) (hm:behindInMarks op b=false):PT X (.Compare a [op] [b] pos) (Bk (tOp r ta tb)):=by
 intro pins s σ H Q I h
 refine wpAny_isTrue_Compare1 (thn (ha pins s σ H _ I h) fun v s1 ⟨x,H1,I1,r1,q1⟩=>thn (hb pins s1 σ H1 _ I1 q1) fun u s2 ⟨y,H2,I2,r2,q2⟩=>
  thn (ho pins s2 σ H2 x y v u _ I2 r1 r2 q2) fun c s3 ⟨z,H3,I3,r3,k,e,q3⟩=>?_) hm
 subst e
 cases r3
 exact wpAny_truthy_bool ⟨H3,I3,q3⟩
noncomputable def xN (r r':R2) (ta tb tc:TE):TE:=fun σ H Q=>ta σ H fun x H1=>tb σ H1 fun y H2=>r x y H2 fun z H3=>∃k,z=.bl k ∧
 (if k=true then tc σ H3 fun w' H4=>r' y w' H4 Q else Q (.bl false) H3)
theorem xy {op op':CmpOp} {r r':R2} (ho:OpR X (compareOp op) r) (ho':OpR X (compareOp op') r') (ha:PE X a ta) (hb:PE X b tb) (hc:PE X c tc)
  (hm:lastMarks [op,op'] [b,c]=false:=by with_unfolding_all rfl):PE X (.Compare a [op,op'] [b,c] pos) (xN r r' ta tb tc):=by
 intro pins s σ H Q I h
 refine Compare_chain (thn (ha pins s σ H _ I h) fun v s1 ⟨x,H1,I1,r1,q1⟩=>chain_link (thn (hb pins s1 σ H1 _ I1 q1) fun u s2 ⟨y,H2,I2,r2,q2⟩=>
  thn (ho pins s2 σ H2 x y v u _ I2 r1 r2 q2) fun d s3 ⟨z,H3,I3,r3,k,e,q3⟩=>?_)) hm
 subst e
 cases r3
 refine wpAny_truthy_bool ?_
 cases k with
 | false=>exact ite_ff ⟨.bl false,H3,I3,rfl,q3⟩
 | true=>exact ite_tt (chain_last (thn (hc pins s3 σ H3 _ I3 q3) fun w' s4 ⟨z',H4,I4,r4,q4⟩=>ho' pins s4 σ H4 y z' u w' Q I4 r2 r4 q4))
noncomputable def yV (K:PySem.W.Frag) (x:V) (H:Hp) (k:Bool):Prop:=
 match x with
 | .non=>k=false
 | .bl b=>k=b
 | .int i=>k=(i != 0)
 | .str y=>y.length<=sizeLine/\k=((y.length:Int) != 0)
 | .byt y=>y.size<=sizeLine/\k=((y.size:Int) != 0)
 | .ref p=>(∃xs,SqL K H p xs/\k = !xs.isEmpty)\/(∃xs,SqT K H p xs/\k = !xs.isEmpty)\/∃kvs,H p=some (.dK kvs)/\k = !kvs.isEmpty
 | _=>False
theorem tX {κ:Type} {kvs:List (κ × V)} {vs:List (κ × Value)} (r:KV kvs vs):(!vs.isEmpty) = !kvs.isEmpty:=by
 cases r<;>rfl
theorem mG {xs:List V} {its:List Value} (r:Vals xs its):(!its.toArray.isEmpty) = !xs.isEmpty:=by
 cases r<;>simp
theorem i7:(sizeLine:Nat)<2 ^ 63:=by rw[sizeLine_eq];decide
theorem CK:EK X (fun x H Q=>∃k,yV X.K x H k/\Q k H):=by
 intro pins s σ H x v Q I rx h
 obtain⟨k,e,q⟩:=h
 have hl:=i7
 have hs:sizeLine=16777216:=sizeLine_eq
 cases x with
 | non=>
  cases rx
  have e':k=false:=e
  subst e'
  exact truthy_none ⟨H,I,q⟩
 | bl b=>
  cases rx
  have e':k=b:=e
  subst e'
  exact wpAny_truthy_bool ⟨H,I,q⟩
 | int i=>
  obtain⟨t,rfl⟩:=rx
  have e':k=(i != 0):=e
  subst e'
  exact PySem.P.truthy_int ⟨H,I,q⟩
 | str y=>
  obtain⟨t,rfl⟩:=rx
  obtain⟨hy,e'⟩:y.length<=sizeLine/\k=((y.length:Int) != 0):=e
  subst e'
  exact PySem.P.truthy_str (by omega) ⟨H,I.tok _,q⟩
 | byt y=>
  obtain⟨t,rfl⟩:=rx
  obtain⟨hy,e'⟩:y.size<=sizeLine/\k=((y.size:Int) != 0):=e
  subst e'
  exact PySem.W.truthy_bytes (by omega) ⟨H,I.tok _,q⟩
 | ref p=>
  cases rx
  have e':(∃xs,SqL X.K H p xs/\k = !xs.isEmpty)\/(∃xs,SqT X.K H p xs/\k = !xs.isEmpty)\/∃kvs,H p=some (.dK kvs)/\k = !kvs.isEmpty:=e
  rcases e' with⟨xs,hx,e'⟩ | ⟨xs,hx,e'⟩ | ⟨kvs,hx,e'⟩
  ·subst e'
   obtain⟨its,r,pl,hz⟩:=I.list hx
   have hlen:=r.length
   exact wpAny_truthy_list pl.isList (by simp only[List.size_toArray];omega) ⟨H,I.tok _,by rw[mG r];exact q⟩
  ·subst e'
   obtain⟨its,r,pl,hz⟩:=I.tuple hx
   have hlen:=r.length
   exact truthy_tuple pl (by simp only[List.size_toArray];omega) ⟨H,I.tok _,by rw[mG r];exact q⟩
  ·subst e'
   obtain⟨hz,hS,vs,r,m⟩:kvs.length<=sizeLine/\(p == sysModules)=false/\∃vs,KV kvs vs/\s.heap.DictOf (pM X.prog X.w) p vs:=I.hok p _ hx
   have hlen:kvs.length=vs.length:=Paired.length r
   exact wpAny_truthy_dict hS m (by omega) ⟨H,I.tok _,by rw[tX r];exact q⟩
 | _=>exact(show False from e).elim
theorem xA (ha:PE X a ta) (he:∀whole,isTrue a X.env whole=(do let v ← whole;standAt a.pos;holding [v] (truthy v))) :
  PT X a (fun σ H Q=>ta σ H fun x H'=>∃k,yV X.K x H' k/\Q k H'):=by
 intro pins s σ H Q I h
 exact isTrue_plain (thn (ha pins s σ H _ I h) fun v s1 ⟨x,H1,I1,r1,q1⟩=>CK pins s1 σ H1 x v Q I1 r1 q1) (he _)
theorem tq:OpR X (binaryOp .Add) (fun x y H Q=>∃i j,x=.str i/\y=.str j/\i.length+j.length<=sizeLine/\Q (.str (i++j)) H):=by
 intro pins s σ H x y v u Q I rx ry h
 obtain⟨i,j,rfl,rfl,hz,q⟩:=h
 obtain⟨t,rfl⟩:=rx
 obtain⟨t',rfl⟩:=ry
 exact add_str (fun t' tk=>⟨.str (i++j),H,I.tok _,⟨_,rfl⟩,q⟩) hz
theorem vals1 {x:V} {us:List Value} (r:Vals [x] us):∃u,us=[u]/\RelV x u:=by
 cases r with
 | cons r1 r2=>cases r2;exact⟨_,rfl,r1⟩
theorem vals2 {x y:V} {us:List Value} (r:Vals [x,y] us):∃u w',us=[u,w']/\RelV x u/\RelV y w':=by
 cases r with
 | cons r1 r2=>
  cases r2 with
  | cons r3 r4=>cases r4;exact⟨_,_,rfl,r1,r3⟩
theorem nR (hc:X.calm=true):ba X (.builtin "max") (fun xs H Q=>∃i j,xs=[.int i,.int j]/\Q (.int (if j > i then j else i)) H):=by
 intro pins s σ H xs us Q I r h
 obtain⟨i,j,rfl,q⟩:=h
 obtain⟨u,w',rfl,⟨t,rfl⟩,⟨t',rfl⟩⟩:=vals2 r
 refine max_two_ints (I.ok.hd hc) fun h' tk k=>⟨_,H,I.kept k,?_,q⟩
 by_cases hj:j > i
 ·rw[if_pos hj,if_pos hj];exact⟨_,rfl⟩
 ·rw[if_neg hj,if_neg hj];exact⟨_,rfl⟩
theorem vt:ba X (.type "int") (fun xs H Q=>(∃i,xs=[.int i]/\Q (.int i) H)\/∃k,xs=[.bl k]/\Q (.int (if k then 1 else 0)) H):=by
 intro pins s σ H xs us Q I r h
 rcases h with⟨i,rfl,q⟩ | ⟨k,rfl,q⟩
 ·obtain⟨u,rfl,t,rfl⟩:=vals1 r
  exact call_int_int ⟨.int i,H,I,⟨_,rfl⟩,q⟩
 ·obtain⟨u,rfl,r1⟩:=vals1 r
  cases r1
  exact call_int_bool ⟨.int (if k then 1 else 0),H,I.tok _,⟨_,rfl⟩,q⟩
end
structure BG (h:Heap) (x dx C:Addr) (mA:Str->Option Value):Prop where
 obj:h.get? x=some (PySem.W.instObj C dx)
 ns:h.Ns1 dx mA
 ne:dx≠x
theorem vR {h:Heap} {dx:Addr} {mA:Str->Option Value} (n:h.Ns1 dx mA):∃od,h.get? dx=some od/\∀name,PySem.W.lookIn name od=some (mA name):=by
 obtain⟨o,es,ep,ho,hd,hk,_,hm⟩:=n
 refine⟨o,ho,fun name=>?_⟩
 have e:=hm name
 unfold nsFind findBy at e
 rw[<- Array.find?_toList] at e
 unfold PySem.W.lookIn
 rw[hd]
 dsimp only
 split
 ·rename_i y q
  rw[q] at e
  exact congrArg some e
 ·rename_i q
  rw[q] at e
  have a:es.toList.any (·.refKey)=false:=by
   rw[List.any_eq_false]
   intro y hy
   obtain⟨z,t,hkey⟩:=hk y (Array.mem_toList_iff.mp hy)
   simp[DictEntry.refKey,hkey]
  have a':¬ es.toList.any (·.refKey)=true:=by rw[a];exact Bool.false_ne_true
  rw[if_neg a']
  exact congrArg some e
theorem BG.look {h:Heap} {x dx C:Addr} {mA:Str->Option Value} (I:BG h x dx C mA):∃od,PySem.W.InstAt h x (PySem.W.instObj C dx) C (some od)/\∀name,PySem.W.lookIn name od=some (mA name):=
 let ⟨od,ho,hl⟩:=vR I.ns
 ⟨od,⟨I.obj,rfl,rfl,ho⟩,hl⟩
section
variable {P:Program} {w:World} {H H':Hp} {h h':Heap} {a C dx:Addr} {fs fs':List (Str × V)}
theorem Av (hok:HOk P w H h) (e:H a=some (.ins C dx fs)):∃mA,BG h a dx C mA/\(∀f,Cs (fs.lookup f) (mA f))/\PySem.Within mA (fs.map (·.1))/\fs.length<=1000/\H dx=some (.own a):=by
 obtain⟨d,z,ne,ob,mA,n,r,q⟩:=(show bY P w H h a (.ins C dx fs) from hok a _ e)
 exact⟨mA,⟨ob,n,ne⟩,r,q,z,d⟩
end
structure Cls (K:PySem.W.Frag) (C:Addr):Prop where
 pg:PySem.W.plainGet K C Str.empty=true
 hd:PySem.W.hasDictIn K C=true
 po:PySem.W.plainOver K C=true
 sa:PySem.W.findIn K (.ref C) "__setattr__" = some (some (.builtin "object.__setattr__"))
theorem Cls.get {K:PySem.W.Frag} {C:Addr} (c:Cls K C) (f:Str):PySem.W.plainGet K C f=true:=c.pg
section
variable {X:Cx} {pins:List (Addr × Obj)} {σ:St} {H:Hp} {s:Shared} {A:Around} {E:Value->Shared->Prop} {Q:Value->Shared->Prop} {c:Value} {b:Bool}
inductive i4 (K:PySem.W.Frag) (H:Hp):V->Value->Prop where
 | non:i4 K H .non (.type "NoneType")
 | bl (x:Bool):i4 K H (.bl x) (.type "bool")
 | int (i:Int):i4 K H (.int i) (.type "int")
 | str (x:Str):i4 K H (.str x) (.type "str")
 | flt (x:UInt64):i4 K H (.flt x) (.type "float")
 | lst {a:Addr} {xs:List V} (e:H a=some (.lst xs)):i4 K H (.ref a) (.type "list")
 | frz {a:Addr} {o:Obj} {xs:List V} (e:H a=some (.frz o (.lst xs))):i4 K H (.ref a) (.type "list")
 | tup {a:Addr} {xs:List V} (e:H a=some (.tup xs)):i4 K H (.ref a) (.type "tuple")
 | dO {a:Addr} {o:Obj} {kvs:List (Key × V)} (e:H a=some (.frz o (.dK kvs))):i4 K H (.ref a) (.type "dict")
 | dK {a:Addr} {kvs:List (Key × V)} (e:H a=some (.dK kvs)):i4 K H (.ref a) (.type "dict")
 | dT {a:Addr} {kvs:List (List Key × V)} (e:H a=some (.dT kvs)):i4 K H (.ref a) (.type "dict")
 | ins {a C dx:Addr} {fs:List (Str × V)} (e:H a=some (.ins C dx fs)) (cl:Cls K C) (ha:PySem.W.findIn K (.ref C) "__class__" = some (some (.builtin "object.__class__")))
   (hn:PySem.W.specialIn K (.builtin "object.__class__") "__get__" = some (some (.builtin "getset_descriptor.__get__"))) (htk:PySem.W.takesIn K (.builtin "object.__class__")=some true)
   (hm:PySem.W.mroIn K C (.type "object")=some true):i4 K H (.ref a) (.ref C)
theorem vy {x:V} {u t:Value} (I:Inv X pins σ H s) (rx:RelV x u) (ty:i4 X.K H x t) (e:PySem.W.kitOne X.K t c=some b) (h:∀tk,Q (.bool b) { s with toks:=tk }) :
  wpAny (model X.prog X.w) A (call (.builtin "isinstance") [u,c]) Q E s:=by
 cases ty with
 | non=>cases (show u=Value.none from rx);exact PySem.W.kia_one PySem.W.kitx_none I.kIn True.intro e (fun z=>nomatch z) h
 | bl y=>cases (show u=Value.bool y from rx);exact PySem.W.kia_one PySem.W.kitx_bool I.kIn True.intro e (fun z=>nomatch z) h
 | int i=>obtain⟨t,q⟩:=(show ∃t,u=Value.int i t from rx);cases q;exact PySem.W.kia_one PySem.W.kitx_int I.kIn True.intro e (fun z=>nomatch z) h
 | str y=>obtain⟨t,q⟩:=(show ∃t,u=Value.str y t from rx);cases q;exact PySem.W.kia_one PySem.W.kitx_str I.kIn True.intro e (fun z=>nomatch z) h
 | flt y=>obtain⟨t,q⟩:=(show ∃t,u=Value.float y t from rx);cases q;exact PySem.W.kia_one PySem.W.kitx_float I.kIn True.intro e (fun z=>nomatch z) h
 | @lst a xs ea=>
  cases (show u=Value.ref a from rx)
  obtain⟨_,_,n,_,h1⟩:=(show bY X.prog X.w H s.heap a (.lst xs) from I.hok a _ ea)
  exact PySem.W.kia_one PySem.W.kitx_list I.kIn ⟨_,h1,rfl⟩ e (fun z=>nomatch z) h
 | @frz a ob xs ea=>
  cases (show u=Value.ref a from rx)
  obtain⟨_,_,_,n,_,h1⟩:=(show bY X.prog X.w H s.heap a (.frz ob (.lst xs)) from I.hok a _ ea)
  exact PySem.W.kia_one PySem.W.kitx_list I.kIn ⟨_,h1,rfl⟩ e (fun z=>nomatch z) h
 | @tup a xs ea=>
  cases (show u=Value.ref a from rx)
  obtain⟨_,_,_,p⟩:=(show bY X.prog X.w H s.heap a (.tup xs) from I.hok a _ ea)
  obtain⟨o,h1,⟨h2,_⟩,_⟩:=p
  exact PySem.W.kia_one PySem.W.kitx_tuple I.kIn ⟨o,h1,h2⟩ e (fun z=>nomatch z) h
 | @dO a ob kvs ea=>
  cases (show u=Value.ref a from rx)
  obtain⟨_,_,_,vs,_,p⟩:=(show bY X.prog X.w H s.heap a (.frz ob (.dK kvs)) from I.hok a _ ea)
  obtain⟨o,es,ep,h1,h2,_⟩:=p
  exact PySem.W.kia_one PySem.W.kitx_dict I.kIn ⟨o,h1,h2.1⟩ e (fun z=>nomatch z) h
 | @dK a kvs ea=>
  cases (show u=Value.ref a from rx)
  obtain⟨_,_,vs,_,p⟩:=(show bY X.prog X.w H s.heap a (.dK kvs) from I.hok a _ ea)
  obtain⟨o,es,ep,h1,h2,_⟩:=p
  exact PySem.W.kia_one PySem.W.kitx_dict I.kIn ⟨o,h1,h2.1⟩ e (fun z=>nomatch z) h
 | @dT a kvs ea=>
  cases (show u=Value.ref a from rx)
  obtain⟨_,_,xs,_,o,es,ep,h1,h2,_⟩:=(show bY X.prog X.w H s.heap a (.dT kvs) from I.hok a _ ea)
  exact PySem.W.kia_one PySem.W.kitx_dict I.kIn ⟨o,h1,h2.1⟩ e (fun z=>nomatch z) h
 | @ins a C dx fs ea cl ha hn htk hm=>
  cases (show u=Value.ref a from rx)
  obtain⟨mA,O,_⟩:=Av I.hok ea
  obtain⟨od,J,_⟩:=O.look
  exact PySem.W.kia_one (PySem.W.kitx_own (cl.get _) cl.hd ha hn htk hm) I.kIn J e (fun z=>nomatch z) h
end
structure fN (k:Nat) (A:Around):Prop where
 hd:A.handled=none
 dp:A.depth+3*k+5<recursionLimit
 un:A.units+16*k+200<cLine
 gd:A.guards=some []
theorem fN.mono {j k:Nat} {A:Around} (r:fN k A) (h:j<=k):fN j A:=⟨r.hd,by have:=r.dp;omega,by have:=r.un;omega,r.gd⟩
theorem fN.deeper {k:Nat} {A:Around} (r:fN (k+1) A) (env:Env):fN k (A.deeper env):=
 ⟨r.hd,by have:=r.dp;show A.depth+1+3*k+5<_;omega,by have:=r.un;show A.units+3+16*k+200<_;omega,r.gd⟩
theorem fN.depth {k:Nat} {A:Around} (r:fN k A):A.depth<recursionLimit:=by have:=r.dp;omega
theorem fN.units {k:Nat} {A:Around} (r:fN k A):A.units+64<cLine:=by have:=r.un;omega
noncomputable def Dk:TA:=fun _ H Q=>Q [] H
noncomputable def A7 (ta:TE) (tr:TA):TA:=fun σ H Q=>ta σ H fun x H1=>tr σ H1 fun xs H2=>Q (x::xs) H2
section
variable {X:Cx} {e:Expr} {es:List Expr} {te:TE} {t:TA} {pos:Pos}
theorem oX:PA X [] Dk:=fun _ _ _ _ H Q I h=>Calls.spliced_nil ⟨[],H,I,.nil,h⟩
theorem jJ (ha:PE X e te) (hr:PA X es t) (hs:starEach (e::es) X.env=(false,eval e X.env)::starEach es X.env:=by rfl):PA X (e::es) (A7 te t):=by
 intro pos pins s σ H Q I h
 rw[hs]
 show wpAny _ _ (spliced ((false,eval e X.env)::backTo pos (starEach es X.env))) _ _ s
 refine Calls.spliced_cons (thn (ha pins s σ H _ I h) fun u s1 ⟨x,H1,I1,r1,q1⟩=>?_)
 exact thn (hr pos pins s1 σ H1 _ I1 q1) fun us s2 ⟨xs,H2,I2,r2,q2⟩=>⟨x::xs,H2,I2,.cons r1 r2,q2⟩
noncomputable def Fv (t:TA):TE:=fun σ H Q=>t σ H fun xs H1=>xs.length<=sizeLine/\∀p,H1 p=none->Q (.ref p) (upd H1 p (.tup xs))
noncomputable def FN (t:TA):TE:=fun σ H Q=>t σ H fun xs H1=>xs.length<=sizeLine/\∀p,H1 p=none->Q (.ref p) (upd H1 p (.lst xs))
theorem Bu {x1} (h:PA X es t):PE X (.Tuple es x1 pos) (Fv t):=by
 intro pins s σ H Q I hq
 refine wpAny_Tuple_spliced (thn (h pos pins s σ H _ I hq) fun us s1 ⟨xs,H1,I1,r,z,q⟩=>⟨by rw[<- r.length];exact z,?_⟩)
 have hf:H1 s1.heap.objs.size=none:=I1.hok.fresh (Nat.le_refl _)
 refine⟨.ref s1.heap.objs.size,upd H1 s1.heap.objs.size (.tup xs),I1.laid (t':=s1.toks) (fun b u e=>Heap.get?_push_of_some _ e) (Nat.le_refl _) ?_,rfl,q _ hf⟩
 exact⟨z,us,r,⟨_,Heap.get?_push_size _ rfl,⟨rfl,_,rfl⟩,rfl⟩⟩
theorem Ct (h:PA X es t):PE X (.List es pos) (FN t):=by
 intro pins s σ H Q I hq
 refine wpAny_List_spliced (thn (h pos pins s σ H _ I hq) fun us s1 ⟨xs,H1,I1,r,z,q⟩=>⟨by rw[<- r.length];exact z,?_⟩)
 have hf:H1 s1.heap.objs.size=none:=I1.hok.fresh (Nat.le_refl _)
 refine⟨.ref s1.heap.objs.size,upd H1 s1.heap.objs.size (.lst xs),I1.laid (t':=s1.toks) (fun b u e=>Heap.get?_push_of_some _ e) (Nat.le_refl _) ?_,rfl,q _ hf⟩
 exact⟨z,us,0,r,Heap.get?_push_size _ rfl⟩
end
noncomputable abbrev Sp:=List V->Hp->VK->XK->Prop
noncomputable abbrev CXT:=List Env->Hp->Shared->XK->Value->Shared->Prop
structure z_ (P:Program) (w:World) (K:PySem.W.Frag) (mg:Str->Option Value) (base:Heap) (A:Around) (outer:List Env) (s:Shared) (H:Hp):Prop where
 frames:A.frames=some outer
 mod:Mod K mg base
 bs:∀b o,base.get? b=some o->s.heap.get? b=some o/\H b=none
 bsz:base.objs.size<=s.heap.objs.size
 lg:s.heap.FunFrames base outer
 frf:∀b∈frs outer,H b=none
 hok:HOk P w H s.heap
 bare:AllBare s.gens
noncomputable def CE (outer:List Env) (P:Program) (w:World) (H:Hp) (s:Shared) (Q:VK) (u:Value) (s':Shared):Prop:=
 ∃v H',s'.os=s.os/\AllBare s'.gens/\Un (frs outer) [] H H' s.heap s'.heap/\HOk P w H' s'.heap/\RelV v u/\Q v H'
noncomputable def CR (CX:CXT) (outer:List Env) (P:Program) (w:World) (H:Hp) (s:Shared) (Q:VK) (E:XK) (r:Result) (s':Shared):Prop:=
 match r with
 | .ok (.ret u)=>CE outer P w H s Q u s'
 | .ok _=>False
 | .error e=>CX outer H s E e s'
structure eL (P:Program) (w:World) (K:PySem.W.Frag) (mg:Str->Option Value) (base:Heap) (CX:CXT) (k:Nat) (f:Addr) (fd:FuncData) (ps:List Str) (sp:Sp):Prop where
 len:∀vs H Q E,sp vs H Q E->vs.length=ps.length
 run:∀(A:Around) (outer:List Env) (s:Shared) (H:Hp) (args:Args) (us:List Value) (vs:List V) (Q:VK) (E:XK),fN k A->z_ P w K mg base A outer s H->BindsTo s fd args (ps.zip us)->Vals vs us->sp vs H Q E →
  codeAny (model P w) A (.call (.ref f) args) (CR CX outer P w H s Q E) s
theorem eL.mono {P:Program} {w:World} {K:PySem.W.Frag} {mg:Str->Option Value} {base:Heap} {CX:CXT} {j k:Nat} {f:Addr} {fd:FuncData} {ps:List Str} {sp:Sp} (F:eL P w K mg base CX j f fd ps sp) (h:j<=k) :
  eL P w K mg base CX k f fd ps sp:=⟨F.len,fun A outer s H args us vs Q E hr=>F.run A outer s H args us vs Q E (hr.mono h)⟩
theorem eL.imp {P:Program} {w:World} {K:PySem.W.Frag} {mg:Str->Option Value} {base:Heap} {CX:CXT} {k:Nat} {f:Addr} {fd:FuncData} {ps:List Str} {sp sp':Sp} (F:eL P w K mg base CX k f fd ps sp)
  (h:∀vs H Q E,sp' vs H Q E->sp vs H Q E):eL P w K mg base CX k f fd ps sp':=
 ⟨fun vs H Q E q=>F.len vs H Q E (h _ _ _ _ q),fun A outer s H args us vs Q E hr he hb hv hs=>F.run A outer s H args us vs Q E hr he hb hv (h _ _ _ _ hs)⟩
section
variable {X:Cx} {pins:List (Addr × Obj)} {σ:St} {H:Hp} {s s':Shared}
theorem Inv.Fp (I:Inv X pins σ H s):z_ X.prog X.w X.K X.mg X.base X.A X.stack s H:=
 ⟨I.ok.frames,I.ok.mod,I.bs,Nat.le_trans I.ok.bsz I.sz,I.stack,I.kW,I.hok,I.bare⟩
theorem Inv.after {Q:VK} {u:Value} (I:Inv X pins σ H s) (h:CE X.stack X.prog X.w H s Q u s'):EP X pins σ Q u s':=by
 obtain⟨v,H',os,bare,un,hok,r,q⟩:=h
 obtain⟨hh,g,d,t,os'⟩:=s'
 obtain rfl:os'=s.os:=os
 exact⟨v,H',I.call (h':=hh) (g':=g) (d':=d) (t':=t) (ch:=[]) un hok bare (fun b z=>absurd z (by simp)),r,q⟩
end
noncomputable def Eh (sp:Sp) (dvs:List V) (E:XK) (t:TA):TE:=fun σ H Q=>t σ H fun vs H1=>sp (vs++dvs) H1 Q E
noncomputable def Binds (K:PySem.W.Frag) (fd:FuncData) (ps:List Str) (ds:List Value):Prop:=
 ∀(s:Shared) (us:List Value),K.In s.heap->(us++ds).length=ps.length->BindsTo s fd ⟨us,[]⟩ (ps.zip (us++ds))
theorem Binds.all {K:PySem.W.Frag} {fd:FuncData} {ps:List Str} (h:∀us:List Value,us.length=ps.length->bindArgs fd ⟨us,[]⟩=pure (ps.zip us)):Binds K fd ps []:=fun s us _ hl=>by
 rw[List.append_nil] at hl ⊢
 exact .of_eq (h us hl)
noncomputable def Passes (CX:CXT) (X:Cx) (E:XK):Prop:=∀(pins:List (Addr × Obj)) (σ:St) (H:Hp) (s:Shared) (e:Value) (s':Shared),Inv X pins σ H s->CX X.stack H s E e s'->X.xe e s'
section
variable {X:Cx} {CX:CXT} {k:Nat} {f C:Addr} {fd:FuncData} {ps:List Str} {sp:Sp} {dvs:List V} {ds:List Value} {E:XK} {x m:Str} {p pos apos:Pos} {e o:Expr} {es:List Expr} {ta:TE} {t:TA}
theorem BR {pins:List (Addr × Obj)} {σ:St} {H:Hp} {s:Shared} {Q:VK} {us:List Value} {vs:List V} (F:eL X.prog X.w X.K X.mg X.base CX k f fd ps sp) (hr:fN k X.A) (hb:Binds X.K fd ps ds) (hd:Vals dvs ds) (hx:Passes CX X E)
  (I:Inv X pins σ H s) (r:Vals vs us) (h:sp (vs++dvs) H Q E):wpAny (model X.prog X.w) X.A (call (.ref f) us) (EP X pins σ Q) X.xe s:=by
 have r2:Vals (vs++dvs) (us++ds):=r.append hd
 have hl:(us++ds).length=ps.length:=by rw[<- r2.length];exact F.len _ _ _ _ h
 refine wpAny_call (codeAny_mono (F.run X.A X.stack s H ⟨us,[]⟩ (us++ds) (vs++dvs) Q E hr I.Fp (hb s us I.kIn hl) r2 h) fun r s' hq=>?_)
 cases r with
 | error e=>exact hx pins σ H s e s' I hq
 | ok fl=>
  cases fl with
  | ret u=>exact I.after hq
  | next=>exact False.elim hq
  | brk=>exact False.elim hq
  | cont=>exact False.elim hq
theorem zD (F:eL X.prog X.w X.K X.mg X.base CX k f fd ps sp) (hr:fN k X.A) (hg:Gl X x) (hm:X.mg x=some (.ref f)) (hk:PySem.W.keepIn X.K (.ref f)=true) (hb:Binds X.K fd ps ds) (hd:Vals dvs ds) (hx:Passes CX X E)
  (ha:PA X (e::es) t) (hdb:(x == ("__debug__" : Str))=false:=by decide) (he:starEach (e::es) X.env=(false,eval e X.env)::starEach es X.env:=by rfl) (hpl:(backTo pos (starEach es X.env)).any (·.1)=false:=by rfl) :
  PE X (.Call (.Name x p) (e::es) [] pos) (Eh sp dvs E t):=by
 intro pins s σ H Q I h
 refine wpAny_Call_Name_kw (t5 I hg hm ?_ hdb)
 refine PySem.W.callWith_K (h₀:=X.base) I.ok.mod.kin hk (thn (ha pos pins s σ H _ I h) fun us s1 ⟨vs,H1,I1,r,q⟩=>⟨I1.kIn,?_⟩) he hpl
 exact BR F hr hb hd hx I1 r q
end
structure aY (N P:List Str) (sc:Scope):Prop where
 kind:sc.kind=.function
 co:sc.isCoroutine=false
 gen:sc.isGenerator=false
 nd:N.Nodup
 pre:N.take P.length=P
 par:∀x∈P,sc.names.lookup x=some .local\/sc.names.lookup x=some .cell
 Bp:∀y∈sc.names,y.2≠.free
theorem n4 {kindOf:Str->Option NameKind} {x:Str}:∀{binds:List (Str × Value)} {m:Str->Option Value},(∀v,(x,v)∉binds)->bindL kindOf binds m x=m x
 | [],_,_=>rfl
 | (n,v)::r,m,h=>by
  unfold bindL
  rw[n4 fun w hw=>h w (List.mem_cons_of_mem _ hw)]
  split
  ·have:x≠n:=by rintro rfl;exact h v List.mem_cons_self
   simp[this]
  ·rfl
theorem nX {kindOf:Str->Option NameKind} {x:Str}:∀{binds:List (Str × Value)} {m:Str->Option Value},(∀v,(x,v)∉binds)->bindC kindOf binds m x=m x
 | [],_,_=>rfl
 | (n,v)::r,m,h=>by
  unfold bindC
  rw[nX fun w hw=>h w (List.mem_cons_of_mem _ hw)]
  split
  ·rfl
  ·have:x≠n:=by rintro rfl;exact h v List.mem_cons_self
   simp[this]
theorem nW {kindOf:Str->Option NameKind} {x:Str} {v:Value}:∀{P:List Str} {vs:List Value} {i:Nat} {m:Str->Option Value},P.Nodup->P[i]?=some x->vs[i]?=some v->kindOf x=some .local →
  bindL kindOf (P.zip vs) m x=some v
 | [],_,_,_,_,h,_,_=>by simp at h
 | _::_,[],_,_,_,_,h,_=>by simp at h
 | p::P,w::vs,0,m,nd,h1,h2,hk=>by
  simp at h1 h2;subst h1;subst h2
  show bindL kindOf ((p,w)::P.zip vs) m p=_
  unfold bindL
  rw[n4 fun v hv=>(List.nodup_cons.mp nd).1 (List.of_mem_zip hv).1,if_pos hk]
  simp
 | p::P,w::vs,i+1,m,nd,h1,h2,hk=>by
  show bindL kindOf ((p,w)::P.zip vs) m x=_
  unfold bindL
  exact nW (i:=i) (List.nodup_cons.mp nd).2 (by simpa using h1) (by simpa using h2) hk
theorem oy {kindOf:Str->Option NameKind} {x:Str} {v:Value}:∀{P:List Str} {vs:List Value} {i:Nat} {m:Str->Option Value},P.Nodup->P[i]?=some x->vs[i]?=some v->kindOf x≠some .local →
  bindC kindOf (P.zip vs) m x=some v
 | [],_,_,_,_,h,_,_=>by simp at h
 | _::_,[],_,_,_,_,h,_=>by simp at h
 | p::P,w::vs,0,m,nd,h1,h2,hk=>by
  simp at h1 h2;subst h1;subst h2
  show bindC kindOf ((p,w)::P.zip vs) m p=_
  unfold bindC
  rw[nX fun v hv=>(List.nodup_cons.mp nd).1 (List.of_mem_zip hv).1,if_neg hk]
  simp
 | p::P,w::vs,i+1,m,nd,h1,h2,hk=>by
  show bindC kindOf ((p,w)::P.zip vs) m x=_
  unfold bindC
  exact oy (i:=i) (List.nodup_cons.mp nd).2 (by simpa using h1) (by simpa using h2) hk
noncomputable def start (N:List Str) (vs:List V):St:=vs.map some++List.replicate (N.length - vs.length) none
noncomputable def tL (CX:CXT) (P:Program) (w:World) (K:PySem.W.Frag) (mg:Str->Option Value) (base:Heap) (N:List Str) (qual:Str) (scope:Scope) (f:Addr) (cd:Value) (A:Around) (outer:List Env) (s:Shared) (H:Hp) (E:XK):Cx where
 prog:=P
 w:=w
 K:=K
 mg:=mg
 base:=base
 A:=A.deeper (envOfC qual scope s.heap.objs.size f cd)
 N:=N
 ao:=s
 ar:=H
 env:=envOfC qual scope s.heap.objs.size f cd
 outer:=outer
 stack:=envOfC qual scope s.heap.objs.size f cd::outer
 ex:=[]
 calm:=true
 fn:=fun _=>true
 pn:=[]
 xe:=fun e s'=>wpAny (model P w) (A.deeper (envOfC qual scope s.heap.objs.size f cd)) (leaving (envOfC qual scope s.heap.objs.size f cd) e) (fun _ s''=>CX outer H s E e s'') (fun e' s''=>CX outer H s E e' s'') s'
theorem rG {sc:Scope} {n:Nat} {x:Str} (h:sc.names.lookup x=some .cell):∃c,(cellsFrom n sc.names []).lookup x=some c:=by
 have q:=PySem.W.cellsFrom_some sc.names n [] (.inl h)
 exact Option.isSome_iff_exists.mp q
theorem vG {CX:CXT} {P:Program} {w:World} {K:PySem.W.Frag} {mg:Str->Option Value} {base:Heap} {N ps:List Str} {qual:Str} {scope:Scope} {f:Addr} {cd:Value} {A:Around} {outer:List Env} {s s1:Shared} {H:Hp} {E:XK} {us:List Value} {vs:List V}
  (S:aY N ps scope) (hd:A.handled=none) (e0:z_ P w K mg base A outer s H) (hl:vs.length=ps.length) (r:Vals vs us)
  (x:InCallC s s.heap.objs.size (bindL (envOfC qual scope s.heap.objs.size f cd).kindOf (ps.zip us) fun _=>none) (cellsFrom (s.heap.objs.size+1) scope.names []) (bindC (envOfC qual scope s.heap.objs.size f cd).kindOf (ps.zip us) fun _=>none) s1) :
  Inv (tL CX P w K mg base N qual scope f cd A outer s H E) [] (start N vs) H s1:=by
 have hpl:ps.length<=N.length:=by have:=congrArg List.length S.pre;rw[List.length_take] at this;omega
 obtain⟨h1,tk,rfl,hk⟩:=x.done
 have noA:∀b:Addr,b∉(tL CX P w K mg base N qual scope f cd A outer s H E).ex:=fun b z=>absurd (show b∈([]:List Addr) from z) (by simp)
 refine⟨⟨e0.mod,S.kind,rfl,rfl,Nat.le_refl _,fun y z c h1 h2=>?_,fun y hy=>?_,fun y c _ h=>?_,fun _=>hd,Around.frames_deeper e0.frames,.inr ⟨rfl,rfl⟩,fun b z=>absurd z (noA b),e0.bs,e0.bsz,fun b _ _=>noA b,fun b z=>absurd z (noA b),e0.lg,e0.frf⟩,
  rfl,e0.bare,Un.kept hk,⟨_,x.toInCall.ns,fun i y v h1 h2 h3=>?_⟩,fun y c h=>⟨_,x.cell y c h⟩,e0.hok.fresh (Nat.le_refl _),fun y c h=>?_,fun p hp=>absurd (show p∈([]:List (Addr × Obj)) from hp) (by simp),e0.hok.kept hk,?_⟩
 ·exact name_of_addr x.apart (PySem.mem_of_lookup h1) (PySem.mem_of_lookup h2)
 ·have hy:scope.names.lookup y=some .cell\/scope.names.lookup y=some .free:=hy
  rcases hy with hy | hy
  ·exact rG hy
  ·exact absurd rfl (S.Bp _ (PySem.mem_of_lookup hy))
 ·exact Nat.le_of_lt (x.above y c (PySem.mem_of_lookup h))
 ·have hi:i<vs.length:=by
   unfold start at h2
   by_cases hi:i<vs.length
   ·exact hi
   ·rw[List.getElem?_append_right (by simpa using hi)] at h2
    rw[List.getElem?_replicate] at h2
    split at h2<;>cases h2
  have ha:vs[i]?=some v:=by
   unfold start at h2
   rw[List.getElem?_append_left (by simpa using hi),List.getElem?_map] at h2
   cases e:vs[i]? with
   | none=>rw[e] at h2;cases h2
   | some a=>rw[e] at h2;cases h2;rfl
  obtain⟨u,hu,rv⟩:=r.get ha
  have hp:ps[i]?=some y:=by
   rw[<- S.pre,List.getElem?_take_of_lt (by omega)];exact h1
  have ndP:ps.Nodup:=by rw[<- S.pre];exact S.nd.sublist (List.take_sublist _ _)
  refine⟨u,rv,?_⟩
  rcases S.par y (List.mem_of_getElem? hp) with k | k
  ·exact .inl ⟨k,nW ndP hp hu k⟩
  ·obtain⟨c,e⟩:=rG (n:=s.heap.objs.size+1) k
   refine .inr ⟨.inl k,c,e,?_⟩
   have q:=x.cell y c e
   rw[oy ndP hp hu (by show scope.names.lookup y≠_;rw[k];decide)] at q
   exact q
 ·exact e0.hok.fresh (Nat.le_of_lt (x.above y c (PySem.mem_of_lookup h)))
 ·unfold start
  show _=N.length
  rw[List.length_append,List.length_map,List.length_replicate]
  omega
theorem CV {CX:CXT} {P:Program} {w:World} {K:PySem.W.Frag} {mg:Str->Option Value} {base:Heap} {k:Nat} {f:Addr} {name qual:Str} {params:Arguments} {body:List Stmt} {scope:Scope} {dV kV doc pm cdv ct oc:Value} {an od:Option Addr}
  {osl:Array (Option Value)} {N ps:List Str} {sp:Sp} (lk:K.lookup f=some ⟨oc,od,.func (PySem.W.fnOf name qual params body scope dV kV doc pm an cdv ct),osl⟩) (hcd:PySem.W.codeIn K cdv qual=true) (S:aY N ps scope)
  (len:∀vs H Q E,sp vs H Q E->vs.length=ps.length)
  (hbody:∀(A:Around) (outer:List Env) (s:Shared) (H:Hp) (vs:List V) (Q:VK) (E:XK),fN k (A.deeper (envOfC qual scope s.heap.objs.size f cdv))->sp vs H Q E →
   ∃t,PSs (tL CX P w K mg base N qual scope f cdv A outer s H E) body t/\t { nx:=fun _ H'=>Q .non H',rt:=Q } (start N vs) H) :
  eL P w K mg base CX (k+1) f (PySem.W.fnOf name qual params body scope dV kV doc pm an cdv ct) ps sp:=by
 refine⟨len,fun A outer s H args us vs Q E hr e0 hb r hsp=>?_⟩
 have hl:=len _ _ _ _ hsp
 have KX:K.In s.heap:=e0.mod.kin.keeps fun b o e=>(e0.bs b o e).1
 have lim:s.heap.NoLimit:=e0.mod.nolimit.keeps fun b o e=>(e0.bs b o e).1
 have hkind:∀y∈ps.zip us,scope.names.lookup y.1=some .local\/(scope.names.lookup y.1=some .cell/\((cellsFrom (s.heap.objs.size+1) scope.names []).lookup y.1).isSome=true):=fun⟨n,v⟩ hy=>by
  rcases S.par n (List.of_mem_zip hy).1 with q | q
  ·exact .inl q
  ·exact .inr ⟨q,PySem.W.cellsFrom_some _ _ _ (.inl q)⟩
 refine codeAny_call_function hr.depth (KX _ _ lk) rfl S.co S.gen rfl (PySem.W.codeRec_of KX hcd) (hb _ _ _ _ ?_)
 refine wpAny_newFunctionEnv_cells S.kind hkind fun env he s1 x=>?_
 subst he
 refine⟨lim.keeps x.toInCall.keep,codeAny_func ?_⟩
 obtain⟨t,ht,hq⟩:=hbody A outer s H vs Q E (hr.deeper _) hsp
 have I:Inv (tL CX P w K mg base N qual scope f cdv A outer s H E) [] (start N vs) H s1:=vG S hr.hd e0 hl r x
 refine wpAny_mono (ht [] s1 (start N vs) H _ I hq) (fun fl s' hs=>?_) fun e s' hs=>hs
 have fin:∀{σ':St} {H':Hp} {v:V} {u:Value},Inv (tL CX P w K mg base N qual scope f cdv A outer s H E) [] σ' H' s'->RelV v u->Q v H'->CE outer P w H s Q u s':=
  fun{σ' H' v u} J rv q=>⟨v,H',J.os,J.bare,J.base,J.hok,rv,q⟩
 cases fl with
 | ret u=>
  obtain⟨v,σ',H',J,rv,q⟩:=hs
  exact fin J rv q
 | next=>
  obtain⟨σ',H',J,q⟩:=hs
  exact fin (v:=V.non) (u:=Value.none) J rfl q
 | brk=>
  obtain⟨_,_,_,q⟩:=hs
  exact False.elim q
 | cont=>
  obtain⟨_,_,_,q⟩:=hs
  exact False.elim q
section
variable {X:Cx} {x:Str} {p pos:Pos} {e:Expr} {es:List Expr} {t:TA} {id T:String} {r:List V->Hp->VK->Prop}
noncomputable def tCB (r:List V->Hp->VK->Prop) (t:TA):TE:=fun σ H Q=>t σ H fun vs H1=>r vs H1 Q
theorem qs (hc:ba X (.builtin id) r) (hg:Gl X x) (hm:X.mg x=none) (hv:bootBuiltins x=some (.builtin id)) (ha:PA X (e::es) t) (hn:x≠"__name__" := by decide) (hdb:(x == ("__debug__" : Str))=false:=by decide)
  (he:starEach (e::es) X.env=(false,eval e X.env)::starEach es X.env:=by rfl) (hpl:(backTo pos (starEach es X.env)).any (·.1)=false:=by rfl):PE X (.Call (.Name x p) (e::es) [] pos) (tCB r t):=by
 intro pins s σ H Q I h
 refine wpAny_Call_Name_kw (gU I hg hm hv ?_ hn hdb)
 exact PyProof.Rows.callWith_builtin1 (thn (ha pos pins s σ H _ I h) fun us s1 ⟨vs,H1,I1,r1,q1⟩=>hc pins s1 σ H1 vs us Q I1 r1 q1) he hpl
theorem j3 (hc:ba X (.type T) r) (hg:Gl X x) (hm:X.mg x=none) (hv:bootBuiltins x=some (.type T)) (ha:PA X (e::es) t) (hn:x≠"__name__" := by decide) (hdb:(x == ("__debug__" : Str))=false:=by decide)
  (he:starEach (e::es) X.env=(false,eval e X.env)::starEach es X.env:=by rfl) (hpl:(backTo pos (starEach es X.env)).any (·.1)=false:=by rfl):PE X (.Call (.Name x p) (e::es) [] pos) (tCB r t):=by
 intro pins s σ H Q I h
 refine wpAny_Call_Name_kw (gU I hg hm hv ?_ hn hdb)
 exact PyProof.Rows.callWith_type1 (thn (ha pos pins s σ H _ I h) fun us s1 ⟨vs,H1,I1,r1,q1⟩=>hc pins s1 σ H1 vs us Q I1 r1 q1) he hpl
end
end L2
namespace HT
open PySem PyProof.Rows
section
variable {prog:Program} {w:World} {A:Around} {E:Value->Shared->Prop} {s:Shared}
theorem AE {t b:Addr} {vs ws:List Value} {Q:Value->Shared->Prop} (ht:IsTup s.heap t vs.toArray) (hb:IsTup s.heap b ws.toArray) (hv:vs≠[])
  (h1:ws=[]->Q (.ref t) s) (h2:ws≠[]->Q (.ref s.heap.objs.size) { s with heap:=s.heap.push { cls:=.type "tuple", data:=.seq (vs++ws).toArray } })
  (hsz:vs.length+ws.length<=sizeLine):wpAny (model prog w) A (binaryOp .Add (.ref t) (.ref b)) Q E s:=by
 obtain⟨⟨cls,dd,data,sl⟩,ho,hc,n,hd⟩:=id ht
 obtain⟨⟨cls2,dd2,data2,sl2⟩,ho2,hc2,n2,hd2⟩:=id hb
 simp only at hc hd hc2 hd2
 subst hc hd hc2 hd2
 have e:vs.toArray++ws.toArray=(vs++ws).toArray:=by simp
 by_cases hw:ws=[]
 ·exact concat_meets ⟨_,ho,rfl⟩ ⟨_,ho2,rfl⟩ noFill_tuple_add seq_tuple_add PySem.F.slot_tuple_add PySem.F.entry_tuple_add (PySem.F.args_tuple_add_2 _ _)
   (tuple_addW1 t b vs.toArray ws.toArray n n2 dd dd2 sl sl2 (by simpa using hv) (by simp[hw])) ⟨ho,ho2,h1 hw⟩
 ·refine concat_meets ⟨_,ho,rfl⟩ ⟨_,ho2,rfl⟩ noFill_tuple_add seq_tuple_add PySem.F.slot_tuple_add PySem.F.entry_tuple_add (PySem.F.args_tuple_add_2 _ _)
   (tuple_addW2 t b vs.toArray ws.toArray n n2 dd dd2 sl sl2 (by simpa using hv) (by simpa using hw) (by rw[List.size_toArray,List.size_toArray];exact hsz)) ⟨ho,ho2,?_⟩
  rw[e]
  exact h2 hw
noncomputable def sIx (n d:Nat):Option Int->Nat
 | none=>d
 | some v=>if v<0 then (v+(n:Int)).toNat else min v.toNat n
theorem rF (n d:Nat):sIx n d none=d:=rfl
theorem uA (n d k:Nat):sIx n d (some (k:Int))=min k n:=by
 show(if (k:Int)<0 then ((k:Int)+(n:Int)).toNat else min (k:Int).toNat n)=min k n
 rw[if_neg (by omega),Int.toNat_natCast]
theorem BO (n d:Nat) (hd:d<=n) (o:Option Int):sIx n d o<=n:=by
 cases o with
 | none=>exact hd
 | some v=>
  show(if v<0 then (v+(n:Int)).toNat else min v.toNat n)<=n
  by_cases hv:v<0
  ·rw[if_pos hv];omega
  ·rw[if_neg hv];exact Nat.min_le_right _ _
theorem uq (v:Int) (n d:Nat):(if v<0 then max (v+(n:Int)) 0 else min v (n:Int))=((sIx n d (some v):Nat):Int):=by
 show(if v<0 then max (v+(n:Int)) 0 else min v (n:Int))=(((if v<0 then (v+(n:Int)).toNat else min v.toNat n):Nat):Int)
 by_cases hv:v<0
 ·simp only[if_pos hv];omega
 ·simp only[if_neg hv];omega
theorem tO (lo hi:Option Int) (n:Nat):Builtin.Slice.sliceAdjust lo hi 1 (n:Int)=(((sIx n 0 lo:Nat):Int),((sIx n n hi:Nat):Int)):=by
 have h1:¬ ((1:Int)<0):=by omega
 unfold Builtin.Slice.sliceAdjust
 simp only[h1,if_false]
 refine Prod.ext ?_ ?_
 ·cases lo with
  | none=>rfl
  | some v=>exact uq v n 0
 ·cases hi with
  | none=>rfl
  | some v=>exact uq v n n
theorem tV (i j:Nat):Builtin.Slice.slicePlaces (i:Int) (j:Int) 1=j - i:=by
 unfold Builtin.Slice.slicePlaces
 have h1:(1:Int) > 0:=by omega
 simp only[h1,if_true,Int.ediv_one]
 split<;>omega
theorem my {v:Value} {o:Option Int} {Q:Option Int->Shared->Prop} (p:IsPart v o) (h:Q o s):wpAny (model prog w) A (Builtin.Slice.slicePartIndex v) Q E s:=by
 cases p with
 | none=>exact slicePart_none h
 | int i t=>exact slicePart_int h
theorem fH {sl:Addr} {vl vu:Value} {lo hi:Option Int} {n:Nat} {Q:Int × Int × Nat->Shared->Prop} (hs:s.heap.IsSliceOf sl vl vu .none) (pl:IsPart vl lo) (pu:IsPart vu hi)
  (h:Q (((sIx n 0 lo:Nat):Int),1,sIx n n hi - sIx n 0 lo) s):wpAny (model prog w) A (Builtin.Slice.sliceApplied (.ref sl) (pure (n:Int))) Q E s:=by
 obtain⟨os,hos,hcs,hds⟩:=id hs
 unfold Builtin.Slice.sliceApplied Builtin.Slice.sliceFields
 refine wpAny_bind (wpAny_bind (wpAny_field hos hds (x:=vl) rfl (wpAny_bind (wpAny_field hos hds (x:=vu) rfl (wpAny_bind (wpAny_field hos hds (x:=.none) rfl (wpAny_pure ?_)))))))
 refine wpAny_bind (slicePart_none ?_)
 show wpAny _ _ (if ((1:Int) == 0)=true then _ else _) _ _ s
 rw[if_neg (by decide)]
 refine wpAny_bind (my pl (wpAny_bind (my pu (wpAny_bind (wpAny_pure ?_)))))
 show wpAny _ _ (match Builtin.Slice.sliceAdjust lo hi 1 (n:Int) with | (lo,hi)=>pure (lo,(1:Int),Builtin.Slice.slicePlaces lo hi 1)) _ _ s
 rw[tO lo hi n]
 show wpAny _ _ (pure (((sIx n 0 lo:Nat):Int),(1:Int),Builtin.Slice.slicePlaces ((sIx n 0 lo:Nat):Int) ((sIx n n hi:Nat):Int) 1)) _ _ s
 rw[tV]
 exact wpAny_pure h
theorem wg (xs:Array Value) (i k:Nat):((List.range k).filterMap fun(m:Nat)=>xs[((i:Int)+(m:Int)*1).toNat]?).toArray=((xs.toList.drop i).take k).toArray:=by
 have e:(fun(m:Nat)=>xs[((i:Int)+(m:Int)*1).toNat]?)=fun m=>xs[i+m]?:=by
  funext m
  have:((i:Int)+(m:Int)*1).toNat=i+m:=by omega
  rw[this]
 rw[e]
 have:=pick_run xs i k
 rw[List.filterMap_map] at this
 have e2:((fun x=>xs[x]?) ∘ fun x=>i+x)=fun m=>xs[i+m]?:=rfl
 rw[e2] at this
 rw[this]
theorem jP {t sl:Addr} {items:Array Value} {vl vu:Value} {lo hi:Option Int} {Q:Value->Shared->Prop} (ht:IsTup s.heap t items) (hs:s.heap.IsSliceOf sl vl vu .none) (pl:IsPart vl lo) (pu:IsPart vu hi)
  (hw:¬ (sIx items.size 0 lo=0/\sIx items.size items.size hi=items.size))
  (h:Q (.ref s.heap.objs.size) { s with heap:=s.heap.push { cls:=.type "tuple", data:=.seq ((items.toList.drop (sIx items.size 0 lo)).take (sIx items.size items.size hi - sIx items.size 0 lo)).toArray } })
  (hsz:items.size<=sizeLine):wpAny (model prog w) A (getItem (.ref t) (.ref sl)) Q E s:=by
 have htake:sizeOk (.seq ((items.toList.drop (sIx items.size 0 lo)).take (sIx items.size items.size hi - sIx items.size 0 lo)).toArray):=by
  show((items.toList.drop (sIx items.size 0 lo)).take (sIx items.size items.size hi - sIx items.size 0 lo)).toArray.size<=sizeLine
  rw[List.size_toArray,List.length_take,List.length_drop,Array.length_toList]
  omega
 have hj:sIx items.size items.size hi<=items.size:=BO _ _ (Nat.le_refl _) hi
 obtain⟨os,hos,hcs,hds⟩:=id hs
 have hTs:s.TypeIs (.ref sl) "slice" := ⟨os,hos,hcs⟩
 unfold getItem
 try with_reducible refine wpAny_holding ?_
 first | refine wpAny_bind (wpAny_pure ?_) | skip
 refine wpAny_bind (wpAny_sequenceKey ht.typeIs (by decide) ?_)
 refine wpAny_bind (wpAny_callSpecial?_slot (name:=Str.ofString "__getitem__") ht.typeIs PyProof.Rows.slot_tuple_getitem
  (wpAny_call_entry PyProof.Rows.slot_tuple_getitem ht.typeIs entry_tuple_getitem ?_ (args_tuple_getitem _ _)))
 show wpAny _ _ (Builtin.Tuple.tupleItemsOf (.ref t) >>= _) _ _ s
 refine wpAny_bind (tupleItemsOf_ ht ?_)
 refine wpAny_bind (wpAny_typeOf hTs ?_)
 rw[if_pos (by decide)]
 refine wpAny_bind (fH hs pl pu ?_)
 have hno:¬ ((((sIx items.size 0 lo:Nat):Int) == 0&&(1:Int) == 1&&(sIx items.size items.size hi - sIx items.size 0 lo) == items.size)=true):=by
  intro q
  rw[Bool.and_eq_true,Bool.and_eq_true] at q
  have q1:((sIx items.size 0 lo:Nat):Int)=0:=eq_of_beq q.1.1
  have q2:sIx items.size items.size hi - sIx items.size 0 lo=items.size:=eq_of_beq q.2
  exact hw ⟨by omega,by omega⟩
 show wpAny _ _ (if (((sIx items.size 0 lo:Nat):Int) == 0&&(1:Int) == 1&&(sIx items.size items.size hi - sIx items.size 0 lo) == items.size)=true then _ else _) _ _ s
 rw[if_neg hno,wg]
 first
  | exact wpAny_bind (m:=Builtin.Tuple.tupleExact _) (wpAny_newObj_type (wpAny_pure ⟨_,rfl,wpAny_pure h⟩) htake)
  | exact wpAny_bind (m:=Builtin.Tuple.tupleExact _) (wpAny_newObj_type (wpAny_bind (wpAny_pure (wpAny_pure ⟨_,rfl,wpAny_pure h⟩))) htake)
  | exact wpAny_bind (wpAny_bind (m:=Builtin.Tuple.tupleExact _) (wpAny_newObj_type (wpAny_pure (wpAny_pure ⟨_,rfl,wpAny_pure h⟩)) htake))
  | exact wpAny_bind (wpAny_bind (m:=Builtin.Tuple.tupleExact _) (wpAny_newObj_type (wpAny_pure ⟨_,rfl,wpAny_pure h⟩) htake))
end
end HT
namespace L2
open PySem PySem.Spec PyProof.Rows
noncomputable abbrev TO:=St->Hp->(Option Int->Hp->Prop)->Prop
noncomputable def PO (X:Cx) (e:Option Expr) (t:TO):Prop:=
 ∀(pins:List (Addr × Obj)) (s:Shared) (σ:St) (H:Hp) (Q:Option Int->Hp->Prop),Inv X pins σ H s->t σ H Q →
  wpAny (model X.prog X.w) X.A (evalPart e X.env) (fun u s'=>∃o H',Inv X pins σ H' s'/\IsPart u o/\Q o H') X.xe s
noncomputable def zO:TO:=fun _ H Q=>Q none H
noncomputable def DQ (t:TE):TO:=fun σ H Q=>t σ H fun x H1=>∃i,x=.int i/\Q (some i) H1
section
variable {X:Cx} {e:Expr} {te:TE} {lo hi:Option Expr} {tl th:TO} {pos p2:Pos}
theorem Ao:PO X none zO:=by
 intro pins s σ H Q I h
 rw[evalPart_none]
 exact wpAny_pure ⟨none,H,I,.none,h⟩
theorem zm (h:PE X e te):PO X (some e) (DQ te):=by
 intro pins s σ H Q I hw
 rw[evalPart_some]
 refine thn (h pins s σ H _ I hw) fun u s1 ⟨x,H1,I1,r1,q1⟩=>?_
 obtain⟨i,rfl,q⟩:=q1
 obtain⟨t,rfl⟩:=r1
 exact⟨some i,H1,I1,.int i t,q⟩
noncomputable def SlR (X:Cx) (r:V->Option Int->Option Int->Hp->VK->Prop):Prop:=
 ∀(pins:List (Addr × Obj)) (s:Shared) (σ:St) (H:Hp) (x:V) (v vl vu:Value) (lo hi:Option Int) (sl:Addr) (Q:VK),Inv X pins σ H s->RelV x v->s.heap.IsSliceOf sl vl vu .none->IsPart vl lo->IsPart vu hi->r x lo hi H Q →
  ∃T id,typeLookup (.type T) "__getitem__" = pure (some (.builtin id))/\s.TypeIs v T/\wpAny (model X.prog X.w) X.A (getItem v (.ref sl)) (EP X pins σ Q) X.xe s
theorem SlR.or {r r':V->Option Int->Option Int->Hp->VK->Prop} (h:SlR X r) (h':SlR X r'):SlR X (fun x lo hi H Q=>r x lo hi H Q\/r' x lo hi H Q):=by
 intro pins s σ H x v vl vu lo hi sl Q I rx hs pl pu q
 rcases q with q | q
 ·exact h pins s σ H x v vl vu lo hi sl Q I rx hs pl pu q
 ·exact h' pins s σ H x v vl vu lo hi sl Q I rx hs pl pu q
noncomputable def tSl (r:V->Option Int->Option Int->Hp->VK->Prop) (te:TE) (tl th:TO):TE:=fun σ H Q=>te σ H fun x H1=>tl σ H1 fun l H2=>th σ H2 fun u H3=>r x l u H3 Q
theorem yJ {r:V->Option Int->Option Int->Hp->VK->Prop} (hr:SlR X r) (he:PE X e te) (hl:PO X lo tl) (hu:PO X hi th):PE X (.Subscript e (.Slice lo hi none p2) pos) (tSl r te tl th):=by
 intro pins s σ H Q I h
 refine Subscript_ (thn (he pins s σ H _ I h) fun v s1 ⟨x,H1,I1,r1,q1⟩=>?_)
 refine wpAny_Slice (thn (hl pins s1 σ H1 _ I1 q1) fun vl s2 ⟨l,H2,I2,pl,q2⟩=>thn (hu pins s2 σ H2 _ I2 q2) fun vu s3 ⟨u,H3,I3,pu,q3⟩=>?_)
 rw[evalPart_none]
 refine wpAny_pure ?_
 have I4:Inv X pins σ H3 { s3 with heap:=s3.heap.push { cls:=.type "slice", data:=.fields #[vl,vu,.none] } }:=I3.kept (t':=s3.toks) fun b ob q=>Heap.get?_push_of_some _ q
 obtain⟨T,id,hT,ht,hg⟩:=hr pins { s3 with heap:=s3.heap.push { cls:=.type "slice", data:=.fields #[vl,vu,.none] } } σ H3 x v vl vu l u s3.heap.objs.size Q I4 r1 (Heap.IsSliceOf.new ..) pl pu q3
 show wpAny (model X.prog X.w) X.A (subscriptTail e (.Slice lo hi none p2) v (.ref s3.heap.objs.size)) (EP X pins σ Q) X.xe { s3 with heap:=s3.heap.push { cls:=.type "slice", data:=.fields #[vl,vu,.none] } }
 exact tail_any (ops:=[.ref s3.heap.objs.size,v]) ht hT hg (by with_unfolding_all rfl)
noncomputable def mU (xs:List V) (lo hi:Option Int):List V:=(xs.drop (HT.sIx xs.length 0 lo)).take (HT.sIx xs.length xs.length hi - HT.sIx xs.length 0 lo)
theorem kn (xs:List V) (lo hi:Option Int):(mU xs lo hi).length<=xs.length:=by
 unfold mU
 rw[List.length_take,List.length_drop]
 omega
noncomputable def Fy (K:PySem.W.Frag):V->Option Int->Option Int->Hp->VK->Prop:=fun x lo hi H Q=>∃a xs,x=.ref a/\SqT K H a xs ∧
 ¬ (HT.sIx xs.length 0 lo=0/\HT.sIx xs.length xs.length hi=xs.length)/\∀p,H p=none->Q (.ref p) (upd H p (.tup (mU xs lo hi)))
theorem BZ:SlR X (Fy X.K):=by
 intro pins s σ H x v vl vu lo hi sl Q I rx hs pl pu h
 obtain⟨a,xs,rfl,hx,hw,q⟩:=h
 cases rx
 obtain⟨its,r,ht,hz⟩:=I.tuple hx
 have hlen:its.toArray.size=xs.length:=by rw[List.size_toArray];exact r.length.symm
 refine⟨"tuple", _,PyProof.Rows.slot_tuple_getitem.lookup,ht.typeIs,?_⟩
 refine HT.jP ht hs pl pu (by rw[hlen];exact hw) ?_ (by rw[hlen];exact hz)
 rw[hlen]
 refine⟨.ref s.heap.objs.size,_,I.laid (t':=s.toks) (o:=.tup (mU xs lo hi)) (fun b ob q=>Heap.get?_push_of_some _ q) (Nat.le_refl _) ?_,rfl,q _ (I.hok.fresh (Nat.le_refl _))⟩
 exact⟨Nat.le_trans (kn xs lo hi) hz,_,(r.drop (HT.sIx xs.length 0 lo)).take (HT.sIx xs.length xs.length hi - HT.sIx xs.length 0 lo),j7.new _ _⟩
noncomputable def AW (K:PySem.W.Frag):R2:=fun x y H Q=>∃a b xs ys,x=.ref a/\y=.ref b/\SqT K H a xs/\SqT K H b ys/\xs≠[]/\xs.length+ys.length<=sizeLine ∧
 (ys=[]->Q (.ref a) H)/\(ys≠[]->∀p,H p=none->Q (.ref p) (upd H p (.tup (xs++ys))))
theorem Vals.oZ {xs:List V} {us:List Value} (r:Vals xs us):us=[]↔xs=[]:=by
 cases r with
 | nil=>simp
 | cons _ _=>simp
theorem AM:OpR X (binaryOp .Add) (AW X.K):=by
 intro pins s σ H x y v u Q I rx ry h
 obtain⟨a,b,xs,ys,rfl,rfl,ha,hb,hx,hz,q1,q2⟩:=h
 cases rx
 cases ry
 obtain⟨its,r1,p1,_⟩:=I.tuple ha
 obtain⟨its2,r2,p2,_⟩:=I.tuple hb
 refine HT.AE p1 p2 (fun z=>hx (r1.oZ.mp z)) (fun z=>⟨.ref a,H,I,rfl,q1 (r2.oZ.mp z)⟩) (fun z=>?_) (by rw[<- r1.length,<- r2.length];exact hz)
 refine⟨.ref s.heap.objs.size,_,I.laid (t':=s.toks) (o:=.tup (xs++ys)) (fun b ob q=>Heap.get?_push_of_some _ q) (Nat.le_refl _) ?_,rfl,q2 (fun w=>z (r2.oZ.mpr w)) _ (I.hok.fresh (Nat.le_refl _))⟩
 exact⟨by rw[List.length_append];exact hz,_,r1.append r2,j7.new _ _⟩
end
noncomputable def ixN (n:Nat) (i:Int):Option Nat:=if 0<=i then (if i<n then some i.toNat else none) else if -(n:Int)<=i then some (i+n).toNat else none
noncomputable def atI {α:Type} (xs:List α) (i:Int):Option α:=(ixN xs.length i).bind fun j=>xs[j]?
theorem uz {n:Nat} {i:Int} {j:Nat} (h:ixN n i=some j):seqIndex? i n=some j/\j<n/\-(n:Int)<=i/\i<n:=by
 unfold ixN at h
 by_cases h0:0<=i
 ·rw[if_pos h0] at h
  by_cases h1:i<n
  ·rw[if_pos h1] at h
   have e:i.toNat=j:=Option.some.inj h
   exact⟨by rw[seqIndex_of h0 h1,e],by omega,by omega,h1⟩
  ·rw[if_neg h1] at h;cases h
 ·rw[if_neg h0] at h
  by_cases h1:-(n:Int)<=i
  ·rw[if_pos h1] at h
   have e:(i+n).toNat=j:=Option.some.inj h
   exact⟨by rw[seqIndex_neg (by omega) h1,e],by omega,h1,by omega⟩
  ·rw[if_neg h1] at h;cases h
theorem pU {α:Type} {xs:List α} {i:Int} {v:α} (h:atI xs i=some v):∃j,seqIndex? i xs.length=some j/\xs[j]?=some v/\j<xs.length/\-(xs.length:Int)<=i/\i<xs.length:=by
 unfold atI at h
 cases e:ixN xs.length i with
 | none=>rw[e] at h;cases h
 | some j=>
  rw[e] at h
  obtain⟨h1,h2,h3,h4⟩:=uz e
  exact⟨j,h1,h,h2,h3,h4⟩
theorem zR {α:Type} {xs:List α} {j:Nat} {v:α} (h:xs[j]?=some v):atI xs (j:Int)=some v:=by
 have hj:j<xs.length:=(List.getElem?_eq_some_iff.mp h).1
 have e:ixN xs.length (j:Int)=some j:=by
  unfold ixN
  rw[if_pos (by omega),if_pos (by omega)];simp
 unfold atI;rw[e];exact h
noncomputable def t6 (b:Expr):Prop:=∀o i,subscripted b false o i=operate [o,i] (getItem o i)
noncomputable def IxR (X:Cx) (r:R2):Prop:=
 ∀(value slice:Expr) (pins:List (Addr × Obj)) (s:Shared) (σ:St) (H:Hp) (x y:V) (v u:Value) (Q:VK),Inv X pins σ H s->RelV x v->RelV y u->r x y H Q →
  subscripted slice false v u=operate [v,u] (getItem v u)->wpAny (model X.prog X.w) X.A (subscriptTail value slice v u) (EP X pins σ Q) X.xe s
noncomputable def MtR (X:Cx) (id:String) (r:V->List V->Hp->VK->Prop):Prop:=
 ∀(pins:List (Addr × Obj)) (s:Shared) (σ:St) (H:Hp) (x:V) (xs:List V) (v:Value) (us:List Value) (Q:VK),Inv X pins σ H s->RelV x v->Vals xs us->r x xs H Q →
  wpAny (model X.prog X.w) X.A (call (.builtin id) (v::us)) (EP X pins σ Q) X.xe s
section
variable {X:Cx} {a b:Expr} {ta tb:TE} {pos:Pos}
theorem IxR.or {r r':R2} (h:IxR X r) (h':IxR X r'):IxR X (fun x y H Q=>r x y H Q\/r' x y H Q):=by
 intro value slice pins s σ H x y v u Q I rx ry q hs
 rcases q with q | q
 ·exact h value slice pins s σ H x y v u Q I rx ry q hs
 ·exact h' value slice pins s σ H x y v u Q I rx ry q hs
theorem Dh {r:R2} (hr:IxR X r) (ha:PE X a ta) (hb:PE X b tb) (hs:t6 b):PE X (.Subscript a b pos) (tOp r ta tb):=by
 intro pins s σ H Q I h
 exact Subscript_ (BU ha hb I h fun v u s2 x y H2 I2 rx ry q=>hr a b pins s2 σ H2 x y v u Q I2 rx ry q (hs _ _))
noncomputable def C4 (K:PySem.W.Frag):R2:=fun x y H Q=>∃p xs i v,x=.ref p/\y=.int i/\SqL K H p xs/\atI xs i=some v/\Q v H
noncomputable def Dq (K:PySem.W.Frag):R2:=fun x y H Q=>∃p xs i v,x=.ref p/\y=.int i/\SqT K H p xs/\atI xs i=some v/\Q v H
noncomputable def Ec:R2:=fun x y H Q=>∃z i c,x=.str z/\y=.int i/\z.length<=sizeLine/\atI z.cps.toList i=some c/\Q (.str ⟨#[c]⟩) H
theorem zM:IxR X (C4 X.K):=by
 intro value slice pins s σ H x y v u Q I rx ry h hs
 obtain⟨p,xs,i,z,rfl,rfl,hq,he,q⟩:=h
 cases rx
 obtain⟨t,rfl⟩:=ry
 obtain⟨its,r,pl,hz⟩:=I.list hq
 obtain⟨j,h1,h2,h3,h4,h5⟩:=pU he
 obtain⟨w,ew,rw'⟩:=r.get h2
 have hl:=r.length
 have hn:=i7
 have fin:EP X pins σ Q w s:=⟨z,H,I,rw',q⟩
 by_cases h0:0<=i
 ·have hj:i.toNat=j:=by
   rw[seqIndex_of h0 h5] at h1
   exact Option.some.inj h1
  exact item_listR pl.isList h0 (by omega) (by rw[hj];simpa using ew) fin hs
 ·have hj:(i+(its.toArray.size:Int)).toNat=j:=by
   rw[seqIndex_neg (by omega) h4] at h1
   rw[List.size_toArray,<- hl]
   exact Option.some.inj h1
  exact subscriptTail_builtinR (x:=w) pl.isList.typeIs slot_list_getitem.lookup
   (wpAny_getItem_list_neg (Q:=fun r s'=>r=w/\EP X pins σ Q r s') pl.isList (by omega) (by rw[List.size_toArray]<;>omega) (by omega) (by rw[hj];simpa using ew) ⟨rfl,fin⟩) hs
theorem Bs:IxR X (Dq X.K):=by
 intro value slice pins s σ H x y v u Q I rx ry h hs
 obtain⟨p,xs,i,z,rfl,rfl,hq,he,q⟩:=h
 cases rx
 obtain⟨t,rfl⟩:=ry
 obtain⟨its,r,pl,hz⟩:=I.tuple hq
 obtain⟨j,h1,h2,h3,h4,h5⟩:=pU he
 obtain⟨w,ew,rw'⟩:=r.get h2
 have hl:=r.length
 have hn:=i7
 have fin:EP X pins σ Q w s:=⟨z,H,I,rw',q⟩
 exact subscriptTail_builtinR (x:=w) pl.typeIs slot_tuple_getitem.lookup
  (getItem_tuple (j:=j) (Q:=fun r s'=>r=w/\EP X pins σ Q r s') pl (by omega) (by omega) (by rw[List.size_toArray,<- hl];exact h1) (by simpa using ew) ⟨rfl,fin⟩) hs
theorem Cc:IxR X Ec:=by
 intro value slice pins s σ H x y v u Q I rx ry h hs
 obtain⟨z,i,c,rfl,rfl,hz,he,q⟩:=h
 obtain⟨t,rfl⟩:=rx
 obtain⟨t',rfl⟩:=ry
 obtain⟨j,h1,h2,h3,h4,h5⟩:=pU he
 have hl:z.cps.toList.length=z.length:=by simp[Str.length]
 rw[hl] at h1 h4 h5
 have hn:=i7
 exact tail_any (typeIs_str s z t) slot_str_getitem.lookup (getItem_str (c:=c) (by
  have e1:decide (i < -(2 ^ 63:Int))=false:=decide_eq_false (by omega)
  have e2:decide (i ≥ 2 ^ 63)=false:=decide_eq_false (by omega)
  rw[e1,e2,Bool.or_false]) (by rw[h1];simpa using h2) ⟨.str ⟨#[c]⟩,H,I.tok _,⟨_,rfl⟩,q⟩) hs
noncomputable def rIx (K:PySem.W.Frag):R2:=fun x y H Q=>C4 K x y H Q\/Dq K x y H Q\/Ec x y H Q
theorem bI:IxR X (rIx X.K):=zM.or (Bs.or Cc)
theorem tm (its:List Value) (n j:Nat) (u:Value):Obj.mapSeq (·.setIfInBounds j u) { cls:=.type "list", data:=.seq its.toArray n }={ cls:=.type "list", data:=.seq (its.set j u).toArray n }:=by
 simp[Obj.mapSeq]
theorem Inv.lst {pins:List (Addr × Obj)} {σ:St} {H:Hp} {s:Shared} {p:Addr} {xs:List V} (I:Inv X pins σ H s) (h:H p=some (.lst xs)) :
  ∃(its:List Value) (n:Nat),Vals xs its/\s.heap.get? p=some { cls:=.type "list", data:=.seq its.toArray n }/\xs.length<=sizeLine:=by
 obtain⟨z,its,n,r,e⟩:=I.hok p _ h
 exact⟨its,n,r,e,z⟩
theorem Inv.BS {pins:List (Addr × Obj)} {σ:St} {H:Hp} {s:Shared} {p:Addr} {xs ys:List V} {its its':List Value} {n n':Nat} {f:Obj->Obj} (I:Inv X pins σ H s) (h:H p=some (.lst xs))
  (ho:s.heap.get? p=some { cls:=.type "list", data:=.seq its.toArray n }) (hf:f { cls:=.type "list", data:=.seq its.toArray n }={ cls:=.type "list", data:=.seq its'.toArray n' }) (r:Vals ys its') (hz:ys.length<=sizeLine) (t:Nat) :
  Inv X pins σ (upd H p (.lst ys)) { s with heap:=s.heap.update p f,toks:=t }:=by
 have e:(s.heap.update p f).get? p=some { cls:=.type "list", data:=.seq its'.toArray n' }:=by
  rw[Heap.get?_update_self f ho (by rw[hf]<;>rfl),hf]
 refine I.write (x:=p) (e:=p) (by rw[h];trivial) (.inl rfl) (fun b u hb q=>(Heap.get?_update_other _ _ (Ne.symm hb)).trans q) ⟨_,e⟩ ?_
 exact⟨hz,its',n',r,e⟩
noncomputable def Bh:V->V->V->Hp->(Hp->Prop)->Prop:=fun o i v H Q=>∃p xs k j,o=.ref p/\i=.int k/\H p=some (.lst xs)/\ixN xs.length k=some j/\Q (upd H p (.lst (xs.set j v)))
theorem set_list:B3 X Bh:=by
 intro pins s σ H o i v ov iv u Q I ro ri rv h
 obtain⟨p,xs,k,j,rfl,rfl,hp,hj,q⟩:=h
 cases ro
 obtain⟨t,rfl⟩:=ri
 obtain⟨its,n,r,ho,hz⟩:=I.lst hp
 obtain⟨h1,h2,h3,h4⟩:=uz hj
 have hl:=r.length
 have hn:=i7
 have I':Inv X pins σ (upd H p (.lst (xs.set j v))) { s with heap:=s.heap.update p (Obj.mapSeq (·.setIfInBounds j u)) }:=
  I.BS hp ho (tm its n j u) (r.set rv j) (by rw[List.length_set];exact hz) s.toks
 by_cases h0:0<=k
 ·have hk:k.toNat=j:=by
   rw[seqIndex_of h0 h4] at h1
   exact Option.some.inj h1
  exact PySem.W.ki_setAt ho h0 (by omega) (by rw[List.size_toArray,<- hl];exact h4) (by rw[hk];exact⟨_,I',q⟩)
 ·have hk:(k+(its.toArray.size:Int)).toNat=j:=by
   rw[seqIndex_neg (by omega) h3] at h1
   rw[List.size_toArray,<- hl]
   exact Option.some.inj h1
  exact PySem.W.ki_setBack ho (by omega) (by rw[List.size_toArray,<- hl];exact h3) (by omega) (by rw[hk];exact⟨_,I',q⟩)
theorem oM (lo hi:Option Int) (n:Nat):(sliceBounds lo hi none n).1=((HT.sIx n 0 lo:Nat):Int)/\(sliceBounds lo hi none n).2.1=((HT.sIx n n hi:Nat):Int)/\(sliceBounds lo hi none n).2.2=1:=by
 refine⟨?_,?_,rfl⟩
 ·cases lo with
  | none=>simp[sliceBounds,HT.sIx]
  | some i=>
   simp only[sliceBounds,HT.sIx,Option.getD_none,show(1:Int) > 0 by decide,if_true]
   by_cases h:i<0
   ·simp only[h,if_true]<;>omega
   ·simp only[h,if_false]<;>omega
 ·cases hi with
  | none=>simp[sliceBounds,HT.sIx]
  | some i=>
   simp only[sliceBounds,HT.sIx,Option.getD_none,show(1:Int) > 0 by decide,if_true]
   by_cases h:i<0
   ·simp only[h,if_true]<;>omega
   ·simp only[h,if_false]<;>omega
theorem nz (its:List Value) (lo hi:Option Int):slicePick its.toArray lo hi none=((its.drop (HT.sIx its.length 0 lo)).take (HT.sIx its.length its.length hi - HT.sIx its.length 0 lo)).toArray:=by
 obtain⟨h1,h2,h3⟩:=oM lo hi its.toArray.size
 unfold slicePick
 rw[h1,h2,h3]
 simp only[sliceRange_one,pick_run,List.size_toArray]<;>rfl
noncomputable def EW (K:PySem.W.Frag):V->Option Int->Option Int->Hp->VK->Prop:=fun x lo hi H Q=>∃a xs,x=.ref a/\SqL K H a xs/\∀p,H p=none->Q (.ref p) (upd H p (.lst (mU xs lo hi)))
theorem zd:SlR X (EW X.K):=by
 intro pins s σ H x v vl vu lo hi sl Q I rx hs pl pu h
 obtain⟨a,xs,rfl,hx,q⟩:=h
 cases rx
 obtain⟨its,r,ht,hz⟩:=I.list hx
 have hlen:=r.length
 refine⟨"list", _,slot_list_getitem.lookup,ht.isList.typeIs,?_⟩
 refine wpAny_getItem_list_slice ht.isList hs pl pu .none (by simp) ?_ (by rw[List.size_toArray]<;>omega)
 rw[nz,<- hlen]
 refine⟨.ref s.heap.objs.size,_,I.laid (t':=s.toks) (o:=.lst (mU xs lo hi)) (fun b ob q=>Heap.get?_push_of_some _ q) (Nat.le_refl _) ?_,rfl,q _ (I.hok.fresh (Nat.le_refl _))⟩
 exact⟨Nat.le_trans (kn xs lo hi) hz,_,0,(r.drop (HT.sIx xs.length 0 lo)).take (HT.sIx xs.length xs.length hi - HT.sIx xs.length 0 lo),Heap.get?_push_size _ rfl⟩
noncomputable def iX:V->Bool
 | .non=>true
 | .bl _=>true
 | .int _=>true
 | .str _=>true
 | _=>false
noncomputable def eqV:V->V->Bool
 | .non,.non=>true
 | .bl a,.bl b=>a == b
 | .bl a,.int b=>(if a then 1 else 0) == b
 | .int a,.bl b=>a == (if b then 1 else 0)
 | .int a,.int b=>a == b
 | .str a,.str b=>a == b
 | _,_=>false
theorem BD {A:Around} {s:Shared} {y x:V} {u v:Value} (ry:RelV y u) (rx:RelV x v) (fy:iX y=true) (fx:iX x=true):SeqAt.EqAt A s u v (eqV y x):=by
 cases y with
 | non=>
  cases ry
  cases x with
  | non=>cases rx;exact SeqAt.EqAt.same _
  | bl b=>cases rx;exact SeqAt.EqAt.none_bool b
  | int b=>obtain⟨t,rfl⟩:=rx;exact SeqAt.EqAt.none_int b t
  | str b=>obtain⟨t,rfl⟩:=rx;exact SeqAt.EqAt.none_str b t
  | _=>exact absurd (show false=true from fx) Bool.false_ne_true
 | bl a=>
  cases ry
  cases x with
  | non=>cases rx;exact SeqAt.EqAt.bool_none a
  | bl b=>cases rx;exact SeqAt.EqAt.bool_bool a b
  | int b=>obtain⟨t,rfl⟩:=rx;exact SeqAt.EqAt.bool_int a b t
  | str b=>obtain⟨t,rfl⟩:=rx;exact SeqAt.EqAt.bool_str a b t
  | _=>exact absurd (show false=true from fx) Bool.false_ne_true
 | int a=>
  obtain⟨t',rfl⟩:=ry
  cases x with
  | non=>cases rx;exact SeqAt.EqAt.int_none a t'
  | bl b=>cases rx;exact SeqAt.EqAt.int_bool a t' b
  | int b=>obtain⟨t,rfl⟩:=rx;exact SeqAt.EqAt.int_int a t' b t
  | str b=>obtain⟨t,rfl⟩:=rx;exact SeqAt.EqAt.int_str a t' b t
  | _=>exact absurd (show false=true from fx) Bool.false_ne_true
 | str a=>
  obtain⟨t',rfl⟩:=ry
  cases x with
  | non=>cases rx;exact SeqAt.EqAt.str_none a t'
  | bl b=>cases rx;exact SeqAt.EqAt.str_bool a t' b
  | int b=>obtain⟨t,rfl⟩:=rx;exact SeqAt.EqAt.str_int a t' b t
  | str b=>obtain⟨t,rfl⟩:=rx;exact SeqAt.EqAt.str_str a t' b t
  | _=>exact absurd (show false=true from fx) Bool.false_ne_true
 | _=>exact absurd (show false=true from fy) Bool.false_ne_true
noncomputable def eqU (x:V) (u:Value):Bool:=match u with
 | .none=>eqV .non x
 | .bool b=>eqV (.bl b) x
 | .int i _=>eqV (.int i) x
 | .str z _=>eqV (.str z) x
 | _=>false
theorem wZ {x y:V} {u:Value} (r:RelV y u) (f:iX y=true):eqU x u=eqV y x:=by
 cases y with
 | non=>cases r;rfl
 | bl b=>cases r;rfl
 | int i=>obtain⟨t,rfl⟩:=r;rfl
 | str z=>obtain⟨t,rfl⟩:=r;rfl
 | _=>exact absurd (show false=true from f) Bool.false_ne_true
theorem qo {x:V}:∀{xs:List V} {us:List Value},Vals xs us->xs.all iX=true->us.any (eqU x)=xs.any fun y=>eqV y x
 | _,_,.nil,_=>rfl
 | y::xs,u::us,.cons r t,f=>by
  rw[List.all_cons,Bool.and_eq_true] at f
  rw[List.any_cons,List.any_cons,wZ r f.1,qo t f.2]
theorem mn {A:Around} {s:Shared} {x:V} {v:Value} (rx:RelV x v) (fx:iX x=true):∀{xs:List V} {us:List Value},Vals xs us->xs.all iX=true->∀u∈us,SeqAt.EqAt A s u v (eqU x u)
 | _,_,.nil,_=>fun u hu=>by cases hu
 | y::xs,u::us,.cons r t,f=>fun u' hu=>by
  rw[List.all_cons,Bool.and_eq_true] at f
  rcases List.mem_cons.mp hu with rfl | hu
  ·rw[wZ r f.1];exact BD r rx f.1 fx
  ·exact mn rx fx t f.2 u' hu
noncomputable def inV (x:V) (xs:List V):Bool:=xs.any fun y=>eqV y x
noncomputable def rIn (K:PySem.W.Frag) (neg:Bool):R2:=fun x y H Q=>∃p xs,y=.ref p/\(SqL K H p xs\/SqT K H p xs)/\iX x=true/\xs.all iX=true/\Q (.bl (if neg then !inV x xs else inV x xs)) H
theorem uZ:OpR X (compareOp .In) (rIn X.K false):=by
 intro pins s σ H x y v u Q I rx ry h
 obtain⟨p,xs,rfl,hq,fx,fs,q⟩:=h
 cases ry
 rcases hq with hq | hq
 ·obtain⟨its,r,pl,hz⟩:=I.list hq
  refine SeqAt.in_listAt (eqU x) pl.isList (fun w hw=>mn rx fx r fs w (by simpa using hw)) ⟨.bl _,H,I,rfl,?_⟩
  rw[show its.toArray.any (eqU x)=its.any (eqU x) by simp,qo r fs]
  exact q
 ·obtain⟨its,r,pl,hz⟩:=I.tuple hq
  refine SeqAt.in_tupleAt (eqU x) pl (fun w hw=>mn rx fx r fs w (by simpa using hw)) ⟨.bl _,H,I,rfl,?_⟩
  rw[show its.toArray.any (eqU x)=its.any (eqU x) by simp,qo r fs]
  exact q
theorem pP:ba X (.builtin "len") (fun xs H Q=>∃p ys,xs=[.ref p]/\(SqL X.K H p ys\/SqT X.K H p ys)/\Q (.int ys.length) H):=by
 intro pins s σ H xs us Q I r h
 obtain⟨p,ys,rfl,hq,q⟩:=h
 obtain⟨u,rfl,rx⟩:=vals1 r
 cases rx
 have hn:=i7
 rcases hq with hq | hq
 ·obtain⟨its,r',pl,hz⟩:=I.list hq
  have hlen:=r'.length
  exact Calls.call_len_list pl.isList (by simp only[List.size_toArray]<;>omega) ⟨.int ys.length,H,I.tok _,⟨s.toks+1,by rw[List.size_toArray,hlen]⟩,q⟩
 ·obtain⟨its,r',pl,hz⟩:=I.tuple hq
  have hlen:=r'.length
  exact len_tuple pl (by simp only[List.size_toArray]<;>omega) ⟨.int ys.length,H,I.tok _,⟨s.toks+1,by rw[List.size_toArray,hlen]⟩,q⟩
theorem pq:ba X (.builtin "len") (fun xs H Q=>∃z,xs=[.str z]/\z.length<=sizeLine/\Q (.int z.length) H):=by
 intro pins s σ H xs us Q I r h
 obtain⟨z,rfl,hz,q⟩:=h
 obtain⟨u,rfl,t,rfl⟩:=vals1 r
 have hn:=i7
 exact len_str (by omega) ⟨.int z.length,H,I.tok _,⟨_,rfl⟩,q⟩
theorem ba.or {f:Value} {r r':List V->Hp->VK->Prop} (h:ba X f r) (h':ba X f r'):ba X f (fun xs H Q=>r xs H Q\/r' xs H Q):=by
 intro pins s σ H xs us Q I rs q
 rcases q with q | q
 ·exact h pins s σ H xs us Q I rs q
 ·exact h' pins s σ H xs us Q I rs q
theorem dE:ba X (.type "tuple") (fun xs H Q=>∃p ys,xs=[.ref p]/\((SqL X.K H p ys/\∀l,H l=none->Q (.ref l) (upd H l (.tup ys)))\/(SqT X.K H p ys/\Q (.ref p) H))):=by
 intro pins s σ H xs us Q I r h
 obtain⟨p,ys,rfl,h⟩:=h
 obtain⟨u,rfl,rx⟩:=vals1 r
 cases rx
 rcases h with⟨hq,q⟩ | ⟨hq,q⟩
 ·obtain⟨its,r',pl,hz⟩:=I.list hq
  have hlen:=r'.length
  refine call_tuple_list pl.isList (fun h' kp=>?_) (by simp only[List.size_toArray]<;>omega)
  have I1:Inv X pins σ H { s with heap:=h' }:=I.kept (t':=s.toks) kp
  have I2:Inv X pins σ (upd H h'.objs.size (.tup ys)) { s with heap:=h'.push { cls:=.type "tuple", data:=.seq its.toArray } }:=
   I1.laid (t':=s.toks) (fun b o e=>Heap.get?_push_of_some _ e) (Nat.le_refl _) (show bY X.prog X.w _ _ _ (.tup ys) from⟨hz,its,r',j7.new _ _⟩)
  exact⟨.ref h'.objs.size,_,I2,rfl,q _ (I1.hok.fresh (Nat.le_refl _))⟩
 ·obtain⟨its,r',pl,hz⟩:=I.tuple hq
  exact call_tuple_same pl ⟨.ref p,H,I,rfl,q⟩
noncomputable def tyV (K:PySem.W.Frag) (T:String) (x:V) (H:Hp):Prop:=match x with
 | .str _=>T="str"
 | .int _=>T="int"
 | .ref p=>(T="list" /\ ∃xs,SqL K H p xs)\/(T="tuple" /\ ∃o,K.lookup p=some o/\o.cls=.type "tuple" /\ o.dict=none) ∨
   (T="dict" /\ ((∃kvs,H p=some (.dK kvs))\/∃kvs,H p=some (.dT kvs)))\/(T="set" /\ ∃S n,H p=some (.set S n))\/(T="tuple" /\ ∃xs,H p=some (.tup xs))
 | _=>False
theorem Bv {pins:List (Addr × Obj)} {σ:St} {H:Hp} {s:Shared} {T:String} {x:V} {v:Value} (I:Inv X pins σ H s) (r:RelV x v) (ty:tyV X.K T x H) :
  s.TypeIs v T/\∀a,v=.ref a->∃ob,s.heap.get? a=some ob/\ob.dict=none:=by
 cases x with
 | str z=>
  obtain⟨t,rfl⟩:=r
  cases (show T="str" from ty)
  exact⟨typeIs_str s z t,fun _ e=>nomatch e⟩
 | int i=>
  obtain⟨t,rfl⟩:=r
  cases (show T="int" from ty)
  exact⟨typeIs_int s i t,fun _ e=>nomatch e⟩
 | ref p=>
  cases r
  rcases ty with⟨rfl,xs,hq⟩ | ⟨rfl,o,hk,hc,hd⟩ | ⟨rfl,hk⟩ | ⟨rfl,S,n,hk⟩ | ⟨rfl,xs,hk⟩
  ·obtain⟨its,_,pl,_⟩:=I.list hq
   refine⟨pl.isList.typeIs,fun a e=>?_⟩
   cases e
   obtain⟨o,n,e,c,hd,_⟩:=pl
   exact⟨o,e,hd⟩
  ·refine⟨⟨o,I.kIn p o hk,hc⟩,fun a e=>?_⟩
   cases e
   exact⟨o,I.kIn _ o hk,hd⟩
  ·have z:∃o,s.heap.get? p=some o/\o.ExactDict:=by
    rcases hk with⟨kvs,hk⟩ | ⟨kvs,hk⟩
    ·obtain⟨_,_,_,_,o,_,_,e,ex,_⟩:=I.hok p _ hk
     exact⟨o,e,ex⟩
    ·obtain⟨_,_,_,_,o,_,_,e,ex,_⟩:=I.hok p _ hk
     exact⟨o,e,ex⟩
   obtain⟨o,e,ex⟩:=z
   refine⟨⟨o,e,ex.1⟩,fun a e2=>?_⟩
   cases e2
   exact⟨o,e,ex.2.1⟩
  ·obtain⟨o,_,_,_,e,ex,_⟩:=I.hok p _ hk
   refine⟨⟨o,e,ex.1⟩,fun a e2=>?_⟩
   cases e2
   exact⟨o,e,ex.2.1⟩
  ·obtain⟨_,_,_,o,e,⟨c,_⟩,hd⟩:=I.hok p _ hk
   refine⟨⟨o,e,c⟩,fun a e2=>?_⟩
   cases e2
   exact⟨o,e,hd⟩
 | _=>exact False.elim ty
noncomputable def tBM (K:PySem.W.Frag) (T:String) (r:V->List V->Hp->VK->Prop) (to:TE) (t:TA):TE:=fun σ H Q=>to σ H fun x H1=>tyV K T x H1/\t σ H1 fun xs H2=>r x xs H2 Q
variable {o e:Expr} {es:List Expr} {to:TE} {t:TA} {name:Str} {apos cpos:Pos} {T id:String} {r:V->List V->Hp->VK->Prop}
theorem DR (pa:PlainAttrs T) (slot:Slot T name id) (hty:typeOf (.builtin id)=pure (.type "method_descriptor")) (hm:MtR X id r) (ho:PE X o to) (ha:PA X (e::es) t)
  (hbase:attributeBase o name X.env (eval o X.env)=eval o X.env:=by rfl)
  (hfew:((backTo cpos (starEach (e::es) X.env)).all (fun x=>!x.1)&&(backToKw cpos (keywordEach [] X.env)).all (fun x=>x.1.isSome)
   && decide ((e::es).length+([]:List Keyword).length+(if ([]:List Keyword).isEmpty then 0 else 1)<30))=true:=by rfl)
  (hline:(apos.endLine == cpos.line)=true:=by rfl) (hs:starEach (e::es) X.env=(false,eval e X.env)::starEach es X.env:=by rfl) (hplain:(backTo cpos (starEach es X.env)).any (·.1)=false:=by rfl) :
  PE X (.Call (.Attribute o name apos) (e::es) [] cpos) (tBM X.K T r to t):=by
 intro pins s σ H Q I h
 refine wpAny_Call_method_late hbase hfew hline rfl (thn (ho pins s σ H _ I h) fun v s1 ⟨x,H1,I1,r1,ty,q1⟩=>?_)
 obtain⟨h1,h2⟩:=Bv I1 r1 ty
 refine⟨T,id,pa,slot,hty,h1,h2,?_⟩
 have hA:=ha cpos pins s1 σ H1 _ I1 q1
 rw[hs] at hA ⊢
 refine Calls.callWith_builtin (by show(false || (backTo cpos (starEach es X.env)).any (·.1))=false;rw[hplain]<;>rfl) (Calls.evalArgs_plain ?_)
 exact thn hA fun us s2 ⟨vs,H2,I2,r2,q2⟩=>hm pins s2 σ H2 x vs v us Q I2 r1 r2 q2
/- xs.append(e),list.index on a module's tuple .. are MtR facts of 06m -/
end
noncomputable def MtM (X:Cx) (id:String) (r:V->List V->Hp->VK->Prop):Prop:=
 ∀(pins:List (Addr × Obj)) (s:Shared) (σ:St) (H:Hp) (x:V) (xs:List V) (v:Value) (us:List Value) (Q:VK),Inv X pins σ H s->RelV x v->Vals xs us->r x xs H Q →
  wpAny (model X.prog X.w) X.A (call (.builtin id) (v::us)) (EP X pins σ Q) X.xe s
theorem Vals.one:∀{x:V} {us:List Value},Vals [x] us->∃u,us=[u]/\RelV x u
 | _,_,.cons r .nil=>⟨_,rfl,r⟩
theorem Vals.rep {xs:List V} {us:List Value} (h:Vals xs us):∀k:Nat,Vals (List.replicate k xs).flatten (List.replicate k us).flatten
 | 0=>.nil
 | k+1=>by
  rw[List.replicate_succ,List.replicate_succ,List.flatten_cons,List.flatten_cons]
  exact Vals.append h (Vals.rep h k)
theorem foldl_rep (its:List Value):∀(k:Nat) (acc:List Value),
  List.foldl (fun x1 x2=>x1++x2) acc.toArray (List.replicate k its.toArray)=(acc++(List.replicate k its).flatten).toArray
 | 0,acc=>by simp
 | k+1,acc=>by
  have e:acc.toArray++its.toArray=(acc++its).toArray:=by simp
  have e2:(acc++its)++(List.replicate k its).flatten=acc++(List.replicate (k+1) its).flatten:=by
   rw[List.replicate_succ,List.flatten_cons,List.append_assoc]
  rw[<- e2,<- foldl_rep its k (acc++its),<- e,List.replicate_succ,List.foldl_cons]
section
variable {X:Cx} {pins:List (Addr × Obj)} {σ:St} {H:Hp} {s:Shared} {l b:Addr} {xs ys zs:List V}
theorem Inv.FA {its its':List Value} {n:Nat} {f:Array Value->Array Value} {t':Nat} (I:Inv X pins σ H s) (hH:H l=some (.lst xs))
  (e:s.heap.get? l=some { cls:=.type "list", data:=.seq its.toArray n }) (hf:f its.toArray=its'.toArray) (hv:Vals ys its') (hz:ys.length<=sizeLine) :
  Inv X pins σ (upd H l (.lst ys)) { s with heap:=s.heap.update l (Obj.mapSeq f),toks:=t' }:=by
 have q:=PySem.IsL.update e f
 rw[hf] at q
 refine I.write (x:=l) (e:=l) (by rw[hH];exact trivial) (.inl rfl) (fun b' u hb hu=>(Heap.get?_update_other s.heap (Obj.mapSeq f) (Ne.symm hb)).trans hu) ⟨_,q⟩ ?_
 exact⟨hz,its',_,hv,q⟩
theorem Inv.xv {its:List Value} {t':Nat} (I:Inv X pins σ H s) (hv:Vals ys its) (hz:ys.length<=sizeLine) :
  Inv X pins σ (upd H s.heap.objs.size (.lst ys)) { s with heap:=s.heap.push { cls:=.type "list", data:=.seq its.toArray },toks:=t' }:=
 I.laid (fun _ _ q=>Heap.get?_push_of_some _ q) (Nat.le_refl _) ⟨hz,its,0,hv,Heap.get?_push_size _ rfl⟩
theorem Inv.fresh (I:Inv X pins σ H s):H s.heap.objs.size=none:=I.hok.fresh (Nat.le_refl _)
theorem Inv.EO (I:Inv X pins σ H s) (hH:H l=some (.lst xs)):xs.length<=sizeLine/\∃(its:List Value) (n:Nat),Vals xs its/\xs.length=its.length/\s.heap.get? l=some { cls:=.type "list", data:=.seq its.toArray n }:=by
 obtain⟨z,its,n,r,e⟩:=I.hok l _ hH
 exact⟨z,its,n,r,r.length,e⟩
theorem xC {n:Nat} (h:n<=sizeLine):Builtin.List.listTooLong n=false:=by
 unfold Builtin.List.listTooLong
 exact decide_eq_false (by omega)
end
section
variable {X:Cx}
noncomputable def uC:V->List V->Hp->VK->Prop:=fun x vs H Q=>∃l xs y,x=.ref l/\vs=[y]/\H l=some (.lst xs)/\xs.length<sizeLine/\Q .non (upd H l (.lst (xs++[y])))
theorem eh:MtM X "list.append" uC:=by
 intro pins s σ H x vs v us Q I rx rv h
 obtain⟨l,xs,y,rfl,rfl,hH,hz,q⟩:=h
 cases rx
 obtain⟨u,rfl,ru⟩:=rv.one
 obtain⟨z,its,n,r,hl,e⟩:=I.EO hH
 refine call_meets F.slot_list_append ⟨_,e,rfl⟩ F.entry_list_append (F.args_list_append_2 _ _) (PySem.list_append l its.toArray n u (by rw[List.size_toArray];omega)) ⟨e,?_⟩
 refine⟨.non,_,I.FA (its':=its++[u]) hH e (by simp) (r.append (.cons ru .nil)) ?_,rfl,q⟩
 rw[List.length_append,List.length_singleton]
 omega
theorem len_rep {α:Type} (xs:List α) (k:Nat):(List.replicate k xs).flatten.length=k*xs.length:=by
 induction k with
 | zero=>simp
 | succ k ih=>rw[List.replicate_succ,List.flatten_cons,List.length_append,ih,Nat.succ_mul,Nat.add_comm]
end
end L2
namespace Att
open PySem PySem.W PySem.Calls PyProof.Rows
theorem kN {P:Params} {h:Heap}:∀(ns:List Int) (vs:List Value),WellAll P h vs (ns.map WData.int)->IntsAre vs ns:=by
 intro ns
 induction ns with
 | nil=>
  intro vs w
  rw[List.map_nil] at w
  cases w
  exact .nil
 | cons n ns ih=>
  intro vs w
  rw[List.map_cons] at w
  cases w with
  | cons a b=>
   cases a
   exact .cons _ _ (ih _ b)
theorem vm {l:OpenLaw} {n:Nat} (hn:l.most=some n) {P:Params} {h:Heap} {args:List WData} {vals:List Value}
  (hpre:l.row.toRowW.claim.pre args=true) (hwl:WellAll P h vals args) :
  ∃a vs ns,vals=[Value.ref a]/\args=[WData.list (ns.map WData.int)]/\h.get? a=some { cls:=.type "list", data:=.seq vs.toArray }/\IntsAre vs ns/\ns.length<=n:=by
 have hsh:WShape.hasAll [] args [.list .int]=true:=(pre_splitW hpre).1
 have hc:l.pre.holds [] { args:=args }=true:=(pre_splitW hpre).2
 obtain⟨d,r,rfl,h1,h2⟩:=hasAllW_cons hsh
 obtain rfl:=hasAllW_nil h2
 obtain⟨xs,rfl,h3⟩:=hasW_list h1
 obtain⟨ns,rfl⟩:=items_int h3
 have hlen:ns.length<=n:=by
  unfold OpenLaw.pre at hc
  have h4:(WTm.not (.lt (.lit (.int (n:Int))) (.len (.arg 0)))).holds [] { args:=[.list (ns.map .int)] }=true:=by
   have h4:=(holds_andW hc).1
   rw[hn] at h4
   exact h4
  have h5:=condW_of h4 (w_not (w_lt w_lit (w_len_list (w_arg rfl))))
  rw[List.length_map] at h5
  refine Nat.le_of_not_lt fun q=>?_
  have q':(n:Int)<((ns.length:Nat):Int):=by omega
  first
   | (rw[decide_eq_true q'] at h5;exact absurd h5 (by decide))
   | (simp at h5;omega)
 cases hwl with
 | cons w1 w2=>
  cases w2
  cases w1 with
  | list ho hall=>exact⟨_,_,ns,rfl,rfl,ho,kN ns _ hall,hlen⟩
theorem vn (l:OpenLaw) (args:List WData):l.row.toRowW.claim.post args (.bool true) args=true:=
 postW_of (r:=l.row.toRowW) (X:=(true == true))
  (show WShape.has [] (.bool true) .bool=true by first | rfl | decide | simp[WShape.has,WShape.arms,WShape.armsAll])
  (show(WTm.eq .res (.lit (.bool true))).value [] { args:=args,res:=some (.bool true),after:=args }=some (.bool (true == true)) from w_eq_bool (w_res rfl) w_lit) rfl
theorem qQ {l:OpenLaw} {n:Nat} {q:Program} {loose:List Str} {XP:(Str->Option Value)->Heap->Prop} {YP:World->Heap->Prop} {d:DefRec}
  (hn:l.most=some n) (hdf:d.params.defaults=[])
  (call:∀(w:World) (ao s₁:Shared) (mg mb:Str->Option Value) (fa:Addr) (o:Obj) (pm cd doc:Value) (a:Addr) (vs:List Value) (ns:List Int),
   Ground q loose [] XP w ao mg mb s₁.heap->YP w s₁.heap →
   s₁.heap.get? fa=some o->o.data=.func (docDef d.name d.params d.body d.scope pm cd doc)->s₁.heap.CodeRec cd d.name->mg d.name=some (.ref fa) →
   s₁.heap.get? a=some { cls:=.type "list", data:=.seq vs.toArray }->IntsAre vs ns->ns.length<=n->s₁.gens = #[] →
   codeAny (model l.prog w) callerA (.call (.ref fa) ⟨[.ref a],[]⟩) (fun r s'=>r=.ok (.ret (.bool true))/\OldK s₁.heap s'.heap/\s'.os=s₁.os/\AllBare s'.gens) s₁) :
  WalkO q loose XP YP l.row.toRowW d [] (fun f vs=>PySem.call f vs):=by
 intro w ao s₁ mg mb G Y fa o pm cd doc dV kV ho hd hcd hD hmg hg args vals as hpre hlay hrd hwl hlo
 obtain rfl:dV=.none:=Dflts.none hD hdf
 obtain rfl:kV=.none:=Dflts.noKw hD
 obtain⟨a,vs,ns,rfl,rfl,hobj,hints,hlen⟩:=vm hn hpre hwl
 refine enter_call (codeAny_mono (call w ao s₁ mg mb fa o pm cd doc a vs ns G Y ho (fd_plain hd) hcd hmg hobj hints hlen hg) fun r s' hq=>?_)
 obtain⟨rfl,h2,h3,h4⟩:=hq
 exact⟨.inl ⟨.bool true,.bool true,[],rfl,fun _=>rfl,.bool true,vn l _,fun _=>⟨List.Pairwise.nil,fun _ hm=>(nomatch hm)⟩⟩,h2,h3,h4⟩
end Att
namespace L2
open PySem PySem.Spec PyProof.Rows
theorem nV:∀{vs:List Value} {ns:List Int},IntsAre vs ns->Vals (ns.map V.int) vs
 | _,_,.nil=>.nil
 | _,_,.cons n t h=>.cons ⟨t,rfl⟩ (nV h)
noncomputable def zv (H:Hp):Prop:=∀b,H b=none\/∃o xs,H b=some (.frz o (.lst xs))
theorem yk {P:Program} {w:World} {K:PySem.W.Frag} {mg mb:Str->Option Value} {CX:CXT} {k:Nat} {fa a:Addr} {fd:FuncData} {x:Str} {sp:Sp} {s₁:Shared} {vs:List Value} {ns:List Int}
  (KX:K.In s₁.heap) (hns:s₁.heap.Ns mainGlobals mg) (hb:s₁.heap.Ns builtinsNs mb) (hbb:∀x:Str,x≠"__name__" -> mb x=bootBuiltins x) (hlim:s₁.heap.NoLimit) (hg:s₁.gens = #[])
  (ha:s₁.heap.get? a=some { cls:=.type "list", data:=.seq vs.toArray }) (hi:IntsAre vs ns) (hl:ns.length<=sizeLine) (hr:fN k callerA)
  (F:∀base:Heap,K.In base->base.Ns mainGlobals mg->eL P w K mg base CX k fa fd [x] sp) (hbind:∀(s:Shared) (u:Value),BindsTo s fd ⟨[u],[]⟩ [(x,u)])
  (hsp:∀H:Hp,zv H->SqL K H a (ns.map V.int)->sp [.ref a] H (fun v _=>v=.bl true) fun _ _ _=>False)
  (hCX:∀H e s',CX [] H s₁ (fun _ _ _=>False) e s'->False) :
  codeAny (model P w) callerA (.call (.ref fa) ⟨[.ref a],[]⟩) (fun r s'=>r=.ok (.ret (.bool true))/\OldK s₁.heap s'.heap/\s'.os=s₁.os/\AllBare s'.gens) s₁:=by
 have rv:=nV hi
 have lenV:=hi.length
 -- from an abstract heap in which nothing but the script may be tracked
 have core:∀H:Hp,zv H->SqL K H a (ns.map V.int)->HOk P w H s₁.heap->(∀b,H b≠none->b=a)->(H a≠none->K.lookup a=none) →
   codeAny (model P w) callerA (.call (.ref fa) ⟨[.ref a],[]⟩) (fun r s'=>r=.ok (.ret (.bool true))/\OldK s₁.heap s'.heap/\s'.os=s₁.os/\AllBare s'.gens) s₁:=by
  intro H hO hS hok hA hK
  have base_of:∀{b:Addr} {o:Obj},s₁.heap.get? b=some o->H b=none->(oS s₁.heap H).get? b=some o:=fun e n=>xc e n
  have noA:∀{b:Addr} {o:Obj} {es:Array DictEntry} {ep:Nat},s₁.heap.get? b=some o->o.data=.dict es ep->H b=none:=fun{b o es ep} e d=>by
   cases q:H b with
   | none=>rfl
   | some u=>
    have e':b=a:=hA b (by rw[q];simp)
    subst e'
    rw[ha] at e;cases e
    have d':Data.seq vs.toArray _=Data.dict es ep:=d
    cases d'
  have nsK:∀{b:Addr} {m:Str->Option Value},s₁.heap.Ns b m->(oS s₁.heap H).Ns b m:=fun{b m} ⟨o,es,ep,e,d,r⟩=>⟨o,es,ep,base_of e (noA e d),d,r⟩
  have hKb:K.In (oS s₁.heap H):=fun b o e=>base_of (KX b o e) (by
   cases q:H b with
   | none=>rfl
   | some u=>
    have e':b=a:=hA b (by rw[q];simp)
    subst e'
    rw[hK (by rw[q];simp)] at e;cases e)
  have hM:Mod K mg (oS s₁.heap H):=⟨hKb,nsK hns,⟨mb,nsK hb,hbb⟩,let ⟨mc,h1,h2⟩:=hlim;⟨mc,nsK h1,h2⟩⟩
  have e0:z_ P w K mg (oS s₁.heap H) callerA [] s₁ H:=⟨rfl,hM,fun b o e=>Am e,Nat.le_of_eq (vE _ _),trivial,fun b hb=>absurd (show b∈([]:List Addr) from hb) (by simp),hok,.of_eq hg⟩
  refine codeAny_mono ((F _ hKb (nsK hns)).run callerA [] s₁ H ⟨[.ref a],[]⟩ [.ref a] [.ref a] _ _ hr e0 (hbind s₁ (.ref a)) (.cons rfl .nil) (hsp H hO hS)) fun r s' h=>?_
  cases r with
  | error e=>exact(hCX H e s' h).elim
  | ok fl=>
   cases fl with
   | next=>exact False.elim h
   | brk=>exact False.elim h
   | cont=>exact False.elim h
   | ret u=>
    obtain⟨v,H',os,bare,un,hok',r',q⟩:=h
    have q':v=.bl true:=q
    subst q'
    obtain rfl:u=Value.bool true:=r'
    refine⟨rfl,OldK.of_keep fun b o e=>?_,os,bare⟩
    cases q:H b with
    | none=>exact un.keep b o e q (by intro z;exact absurd (show b∈([]:List Addr) from z) (by simp)) (by simp)
    | some u=>
     rcases hO b with z | ⟨ob,xs,z⟩
     ·rw[q] at z;cases z
     ·have z2:=un.mL b ob _ z
      obtain⟨e1,_⟩:=hok b _ z
      obtain⟨e2,_⟩:=hok' b _ z2
      rw[e] at e1;cases e1
      exact e2
 cases hk:K.lookup a with
 | some o=>
  -- the script is one of the module's own objects
  have e:=KX a o hk
  rw[ha] at e
  cases e
  refine core (fun _=>none) (fun _=>.inl rfl) (.inr ⟨_,vs.toArray,_,hk,rfl,rfl,rfl,by rw[List.size_toArray,lenV];exact hl,by simpa using rv⟩) (fun b u z=>by have z':(none:Option HO)=some u:=z;cases z') (fun b z=>absurd rfl z) fun z=>absurd rfl z
 | none=>
  refine core (fun b=>if b=a then some (.frz { cls:=.type "list", data:=.seq vs.toArray } (.lst (ns.map V.int))) else none) (fun b=>?_) (.inl (.inr ⟨{ cls:=.type "list", data:=.seq vs.toArray },if_pos rfl⟩)) (fun b u z=>?_) (fun b z=>?_) fun _=>hk
  ·by_cases hb:b=a
   ·exact .inr ⟨_,_,if_pos hb⟩
   ·exact .inl (if_neg hb)
  ·by_cases hb:b=a
   ·have z':=(if_pos hb).symm.trans z
    cases z'
    subst hb
    exact⟨ha,by rw[List.length_map];exact hl,vs,_,rv,ha⟩
   ·have z':=(if_neg hb).symm.trans z
    cases z'
  ·by_cases hb:b=a
   ·exact hb
   ·exact absurd (if_neg hb) z
noncomputable abbrev KOf {K:PySem.W.Frag} {h:Heap} (_:K.In h):PySem.W.Frag:=K
theorem zp {l:PySem.W.OpenLaw} {n k:Nat} {q:Program} {loose:List Str} {XP:(Str->Option Value)->Heap->Prop} {YP:World->Heap->Prop} {d:DefRec} {K:Params->PySem.W.Frag} {CX:World->CXT} {sp:World->Sp} {x:Str}
  (hn:l.most=some n) (hn2:n<=sizeLine) (hdf:d.params.defaults=[]) (hr:fN k callerA)
  (hY:∀(w:World) (h:Heap),YP w h->(K w.params).In h)
  (F:∀(w:World) (mg:Str->Option Value) (fa:Addr) (h:Heap),(K w.params).In h->h.Ns mainGlobals mg->mg d.name=some (.ref fa) →
   ∃fd:FuncData,(∀(s:Shared) (u:Value),BindsTo s fd ⟨[u],[]⟩ [(x,u)]) ∧
    ∀base:Heap,(K w.params).In base->base.Ns mainGlobals mg->eL l.prog w (K w.params) mg base (CX w) k fa fd [x] (sp w))
  (hsp:∀(w:World) (H:Hp) (a:Addr) (ns:List Int),ns.length<=n->zv H->SqL (K w.params) H a (ns.map V.int)->sp w [.ref a] H (fun v _=>v=.bl true) fun _ _ _=>False)
  (hCX:∀(w:World) (H:Hp) (s:Shared) (e:Value) (s':Shared),CX w [] H s (fun _ _ _=>False) e s'->False) :
  PySem.W.WalkO q loose XP YP l.row.toRowW d [] (fun f vs=>PySem.call f vs):=by
 refine Att.qQ hn hdf fun w ao s₁ mg mb fa o pm cd doc a vs ns G Y ho hd hcd hmg hobj hints hlen hg=>?_
 have KX:=hY w _ Y
 obtain⟨fd,hb,hF⟩:=F w mg fa _ KX G.T.g hmg
 exact yk KX G.T.g G.T.b G.T.builtins G.T.nolimit hg hobj hints (Nat.le_trans hlen hn2) hr hF hb (fun H hO hS=>hsp w H a ns hlen hO hS) fun H e s'=>hCX w H s₁ e s'
end L2
/- THE LAST THEOREM (shape;LID,My.* are yours):
  My.Adr: a structure of the addresses that your layer names (classes,functions);My.Txt K t: a structure (Prop) of the equations over K;
  My.txt_mk:{K} {implicit addresses ..} (e1:nsIn K mainGlobals "law" = some (some (.ref f))) (e2:K.lookup f=some ⟨oc,od,.func (fnOf "law" "law" params body scope dV kV doc pm an cdv ct),sl⟩) (e3:codeIn K cdv "law" = true) .. : ∃t,My.Txt K t
(the tactic k_is has no namespace: write k_is) -/
namespace L2
open PySem PySem.Spec PyProof.Rows
noncomputable def jA (s:Stmt):Arguments:=match s with
 | .FunctionDef _ a _ _ _ _ _ _ _ _=>a
 | _=>{ posonlyargs:=[],args:=[],vararg:=none,kwonlyargs:=[],kw_defaults:=[],kwarg:=none,defaults:=[] }
noncomputable def fU (s:Stmt):List Stmt:=match s with
 | .FunctionDef _ _ b _ _ _ _ _ _ _=>b
 | _=>[]
noncomputable def aw (s:Stmt):Scope:=match s with
 | .FunctionDef _ _ _ _ _ _ sc _ _ _=>sc
 | _=>{ kind:=.function,names:=[],isGenerator:=false,isCoroutine:=false }
noncomputable abbrev CX0:CXT:=fun _ _ _ _ _ _=>False
noncomputable abbrev E0:XK:=fun _ _ _=>False
theorem D1 {X:Cx}:Passes CX0 X E0:=fun _ _ _ _ _ _ _ h=>h.elim
structure Fun (K:PySem.W.Frag) (x qual:Str) (st:Stmt) (f:Addr) (fd:FuncData):Prop where
 ex:∃(oc:Value) (od:Option Addr) (kV doc pm:Value) (an:Option Addr) (cdv ct:Value) (osl:Array (Option Value)),
  fd=PySem.W.fnOf x qual (jA st) (fU st) (aw st) .none kV doc pm an cdv ct/\K.lookup f=some ⟨oc,od,.func fd,osl⟩/\PySem.W.codeIn K cdv qual=true
 kp:PySem.W.keepIn K (.ref f)=true
section
variable {P:Program} {w:World} {K:PySem.W.Frag} {mg:Str->Option Value} {base:Heap}
theorem Fun.ok {x qual:Str} {st:Stmt} {f:Addr} {fd:FuncData} {N ps:List Str} {k:Nat} {sp:Sp} (F:Fun K x qual st f fd) (S:aY N ps (aw st)) (len:∀vs H Q E,sp vs H Q E->vs.length=ps.length)
  (hbody:∀(cdv:Value) (A:Around) (outer:List Env) (s:Shared) (H:Hp) (vs:List V) (Q:VK) (E:XK),fN k (A.deeper (envOfC qual (aw st) s.heap.objs.size f cdv))->sp vs H Q E →
   ∃t,PSs (tL CX0 P w K mg base N qual (aw st) f cdv A outer s H E).nox (fU st) t/\t { nx:=fun _ H'=>Q .non H',rt:=Q } (start N vs) H):eL P w K mg base CX0 (k+1) f fd ps sp:=by
 obtain⟨oc,od,kV,doc,pm,an,cdv,ct,osl,rfl,lk,hcd⟩:=F.ex
 refine CV lk hcd S len fun A outer s H vs Q E hr hsp=>?_
 obtain⟨t,h,q⟩:=hbody cdv A outer s H vs Q E hr hsp
 exact⟨t,h.nox,q⟩
theorem Fun.binds {x qual:Str} {st:Stmt} {f:Addr} {fd:FuncData} {ps:List Str} (F:Fun K x qual st f fd)
  (h:∀(kV doc pm:Value) (an:Option Addr) (cdv ct:Value) (us:List Value),us.length=ps.length->bindArgs (PySem.W.fnOf x qual (jA st) (fU st) (aw st) .none kV doc pm an cdv ct) ⟨us,[]⟩=pure (ps.zip us)):Binds K fd ps []:=by
 obtain⟨oc,od,kV,doc,pm,an,cdv,ct,osl,rfl,lk,hcd⟩:=F.ex
 exact .all (h kV doc pm an cdv ct)
theorem CF {x qual:Str} {st:Stmt} {f:Addr} {oc:Value} {od an:Option Addr} {osl:Array (Option Value)} {kV doc pm cdv ct:Value} (l:K.lookup f=some ⟨oc,od,.func (PySem.W.fnOf x qual (jA st) (fU st) (aw st) .none kV doc pm an cdv ct),osl⟩)
  (c:PySem.W.codeIn K cdv qual=true) (k:PySem.W.keepIn K (.ref f)=true):Fun K x qual st f (PySem.W.fnOf x qual (jA st) (fU st) (aw st) .none kV doc pm an cdv ct):=⟨⟨oc,od,kV,doc,pm,an,cdv,ct,osl,rfl,l,c⟩,k⟩
end
noncomputable def PTs (X:Cx) (ifs:List Expr) (t:TT):Prop:=
 ∀(pins:List (Addr × Obj)) (s:Shared) (σ:St) (H:Hp) (Q:Bool->Hp->Prop),Inv X pins σ H s->t σ H Q →
  wpAny (model X.prog X.w) X.A (forIn ifs true fun c r=>if r=true then do let ok ← isTrue c X.env (eval c X.env);pure (ForInStep.yield ok) else pure (ForInStep.yield r)) (TP X pins σ Q) X.xe s
noncomputable def Ej:TT:=fun _ H Q=>Q true H
theorem zI {X:Cx}:PTs X [] Ej:=fun _ _ _ H _ I h=>wpAny_tests_nil ⟨H,I,h⟩
theorem zN {X:Cx} {c:Expr} {t:TT} (h:PT X c t):PTs X [c] t:=fun pins s σ H Q I q=>wpAny_tests_one (h pins s σ H Q I q)
theorem rD {prog:Program} {w:World} {A:Around} {R:Result->Shared->Prop} {s:Shared} {elt target iter:Expr} {ifs:List Expr} {scope:Scope} {pos:Pos} {it acc:Value} {env:Env} (I:Nat->Shared->Prop)
  (turn:∀n s,I n s->wpAny (model prog w) A (pyNext it) (fun r s₁=>match r with
   | none=>R (.ok .next) s₁
   | some v=>wpAny (model prog w) A (letOwnedTupleGo target it v) (fun _ s₁=>wpAny (model prog w) A (assign target env v) (fun _ s₂=>
     wpAny (model prog w) A (forIn ifs true fun c r=>if r=true then do let ok ← isTrue c env (eval c env);pure (ForInStep.yield ok) else pure (ForInStep.yield r)) (fun ok s₃=>
      if ok=true then wpAny (model prog w) A (eval elt env) (fun x s₄=>
       wpAny (model prog w) A (call (.builtin "list.append") [acc,x]) (fun _ s₅=>∃m,m<n/\I m s₅) (fun _ _=>False) s₄) (fun _ _=>False) s₃
      else ∃m,m<n/\I m s₃) (fun _ _=>False) s₂) (fun _ _=>False) s₁) (fun _ _=>False) s₁) (fun _ _=>False) s)
  (n:Nat) (h:I n s) :
  codeAny (model prog w) A (.compLoop (.ListComp elt [⟨target,iter,ifs,0⟩] scope pos) 0 it acc env) R s:=by
 refine codeAny_loop rfl I (fun n s hI=>?_) n h
 show wpAny _ A ((compTurn (.ListComp elt [⟨target,iter,ifs,0⟩] scope pos) 0 it acc env).onRaise (fun x=>do noteFrame x env;theTreesLotGoes x)) _ _ s
 refine wpAny_noted ?_
 rw[compTurn_list]
 refine wpAny_noRaise ?_
 refine wpAny_bind (wpAny_standAt (wpAny_bind (wpAny_mono (turn n s hI) (fun r s₁ h₁=>?_) fun _ _ h'=>h')))
 cases r with
 | none=>exact wpAny_pure h₁
 | some v=>
  refine wpAny_bind (wpAny_mono h₁ (fun _ s₁' h₁'=>?_) fun _ _ h'=>h')
  refine wpAny_bind (wpAny_mono h₁' (fun _ s₂ h₂=>wpAny_bind (wpAny_mono h₂ (fun ok s₃ h₃=>?_) fun _ _ h'=>h')) fun _ _ h'=>h')
  cases ok with
  | false=>exact wpAny_pure ⟨rfl,h₃⟩
  | true=>
   exact wpAny_bind (wpAny_bind (wpAny_mono h₃ (fun x s₄ h₄=>wpAny_bind (wpAny_mono h₄ (fun _ s₅ h₅=>wpAny_pure (wpAny_pure ⟨rfl,h₅⟩)) fun _ _ h'=>h')) fun _ _ h'=>h'))
noncomputable def aB (X:Cx) (scope:Scope) (cl:List (Str × Addr)) (C:Addr) (ao:Shared) (ar:Hp) (fp:List Addr) (N':List Str):Cx:=
 { X with N:=N',ao:=ao,ar:=ar,env:=compEnvC scope cl C X.env,outer:=X.stack,ex:=fp,fn:=fun _=>false,pn:=[] }
theorem iZ {env:Env}:∀(names:List (Str × NameKind)) (cs:List (Str × Addr)),(∀y∈names,y.2=.free->∃a,env.cells.lookup y.1=some a)->(∀x c,cs.lookup x=some c->env.cells.lookup x=some c) →
  ∃cl:List (Str × Addr),(forIn names cs fun(y:Str × NameKind) (r:List (Str × Addr))=>if (y.2 == NameKind.free)=true then do let a ← cellOf env y.1;pure (ForInStep.yield ((y.1,a)::r)) else pure (ForInStep.yield r):Sem (List (Str × Addr)))=pure cl ∧
   (∀x c,cl.lookup x=some c->env.cells.lookup x=some c)/\(∀x,((x,NameKind.free)∈names\/∃c,cs.lookup x=some c)->∃c,cl.lookup x=some c)
 | [],cs,_,h=>⟨cs,rfl,h,fun x hx=>by
   rcases hx with z | z
   ·cases z
   ·exact z⟩
 | (n,k)::r,cs,hf,h=>by
  by_cases hk:k=.free
  ·subst hk
   obtain⟨a,ha⟩:=hf (n,.free) (by simp) rfl
   obtain⟨cl,e,h1,h2⟩:=iZ r ((n,a)::cs) (fun y hy=>hf y (List.mem_cons_of_mem _ hy)) (fun x c q=>by
    rw[List.lookup_cons] at q
    cases hx:x == n with
    | true=>
     rw[hx] at q
     have:x=n:=by simpa using hx
     subst this
     cases q;exact ha
    | false=>rw[hx] at q;exact h x c q)
   refine⟨cl,?_,h1,fun x hx=>?_⟩
   ·rw[List.forIn_cons]
    have e0:cellOf env n=pure a:=by unfold cellOf;rw[ha]
    simp only[beq_self_eq_true,if_true,e0]
    exact e
   ·have hc:∀z c,cs.lookup z=some c->∃c,((n,a)::cs).lookup z=some c:=fun z c q=>by
     rw[List.lookup_cons]
     cases z == n with
     | true=>exact⟨a,rfl⟩
     | false=>exact⟨c,q⟩
    rcases hx with z | ⟨c,z⟩
    ·rcases List.mem_cons.mp z with q | q
     ·cases q
      exact h2 n (.inr ⟨a,by simp[List.lookup_cons]⟩)
     ·exact h2 x (.inl q)
    ·exact h2 x (.inr (hc x c z))
  ·obtain⟨cl,e,h1,h2⟩:=iZ r cs (fun y hy=>hf y (List.mem_cons_of_mem _ hy)) h
   have hb:(k == NameKind.free)=false:=by simpa using hk
   refine⟨cl,?_,h1,fun x hx=>?_⟩
   ·rw[List.forIn_cons]
    simp only[hb,Bool.false_eq_true,if_false]
    exact e
   ·rcases hx with z | z
    ·rcases List.mem_cons.mp z with q | q
     ·cases q;exact absurd rfl hk
     ·exact h2 x (.inl q)
    ·exact h2 x (.inr z)
theorem fk {env:Env} {scope:Scope} (h:∀y∈scope.names,y.2=.free->∃a,env.cells.lookup y.1=some a) :
  ∃cl:List (Str × Addr),closureFor scope env=pure cl/\(∀x c,cl.lookup x=some c->env.cells.lookup x=some c)/\(∀x,(x,NameKind.free)∈scope.names->∃c,cl.lookup x=some c):=by
 obtain⟨cl,e,h1,h2⟩:=iZ (env:=env) scope.names [] h (fun x c q=>by cases q)
 refine⟨cl,?_,h1,fun x hx=>h2 x (.inl hx)⟩
 exact Eq.trans (congrArg (fun t:Sem (List (Str × Addr))=>t >>= fun cs=>pure cs) e) rfl
theorem lookup_mem {x:Str} {k:NameKind}:∀{names:List (Str × NameKind)},names.lookup x=some k->(x,k)∈names
 | [],h=>by cases h
 | (n,j)::r,h=>by
  rw[List.lookup_cons] at h
  cases hx:x == n with
  | true=>
   rw[hx] at h
   have:x=n:=by simpa using hx
   subst this
   cases h;simp
  | false=>rw[hx] at h;exact List.mem_cons_of_mem _ (lookup_mem h)
theorem bJ {env:Env} (hf:env.scope.kind=.function):∀{names:List (Str × NameKind)} {x:Str},names.lookup x=some .free->env.kindOf x=some .cell →
  (names.map fun(n,k)=>if (k == NameKind.free&&env.scope.kind == .function&&env.kindOf n == some .cell) then (n,NameKind.cell) else (n,k)).lookup x=some .cell
 | [],_,h,_=>by cases h
 | (n,k)::r,x,h,hc=>by
  have ih:=@bJ env hf r x
  show List.lookup x ((if (k == NameKind.free&&env.scope.kind == .function&&env.kindOf n == some .cell)=true then (n,NameKind.cell) else (n,k))::_)=_
  cases hx:x == n with
  | true=>
   have:x=n:=by simpa using hx
   subst this
   simp only[List.lookup_cons,hx] at h
   cases h
   rw[if_pos (by simp[hf,hc])]
   simp[List.lookup_cons]
  | false=>
   simp only[List.lookup_cons,hx] at h
   by_cases hq:(k == NameKind.free&&env.scope.kind == .function&&env.kindOf n == some .cell)=true
   ·rw[if_pos hq];simp only[List.lookup_cons,hx];exact ih h hc
   ·rw[if_neg hq];simp only[List.lookup_cons,hx];exact ih h hc
theorem bU {env:Env}:∀{names:List (Str × NameKind)} {x:Str} {k:NameKind},(names.map fun(n,k)=>if (k == NameKind.free&&env.scope.kind == .function&&env.kindOf n == some .cell) then (n,NameKind.cell) else (n,k)).lookup x=some k →
  names.lookup x=some k\/(names.lookup x=some .free/\k=.cell)
 | [],_,_,h=>by cases h
 | (n,j)::r,x,k,h=>by
  have ih:=@bU env r x k
  have h':List.lookup x ((if (j == NameKind.free&&env.scope.kind == .function&&env.kindOf n == some .cell)=true then (n,NameKind.cell) else (n,j))::(r.map fun(n,k)=>if (k == NameKind.free&&env.scope.kind == .function&&env.kindOf n == some .cell) then (n,NameKind.cell) else (n,k)))=some k:=h
  by_cases hq:(j == NameKind.free&&env.scope.kind == .function&&env.kindOf n == some .cell)=true
  ·rw[if_pos hq] at h'
   have hj:j=.free:=by
    have:=Bool.and_eq_true_iff.mp (Bool.and_eq_true_iff.mp hq).1
    simpa using this.1
   simp only[List.lookup_cons] at h' ⊢
   cases hx:x == n with
   | true=>rw[hx] at h';cases h';exact .inr ⟨by rw[hj],rfl⟩
   | false=>rw[hx] at h';exact ih h'
  ·rw[if_neg hq] at h'
   simp only[List.lookup_cons] at h' ⊢
   cases hx:x == n with
   | true=>rw[hx] at h';cases h';exact .inl rfl
   | false=>rw[hx] at h';exact ih h'
noncomputable def mj (ix:List Nat) (σ:St):St:=none::ix.map fun i=>(σ[i]?).join
noncomputable abbrev DS (J:It) (tt:TT) (te:TE) (σ':V->St) (acc:Addr) (H1:Hp) (Q:VK):Prop:=
 ∃W:Nat->Nat->List V->Hp->Prop,(∃m,W 0 m [] (upd H1 acc (.lst [])))/\∀i m ys H,W i m ys H →
  (J.stop i H/\Q (.ref acc) H)\/(J.go i H/\∀x H',J.yld i H x H'->tt (σ' x) H' fun b H2=>if b=true then te (σ' x) H2 fun y H3=>
    H3 acc=some (.lst ys)/\ys.length<sizeLine/\∃m',m'<m/\W (i+1) m' (ys++[y]) (upd H3 acc (.lst (ys++[y])))
   else ∃m',m'<m/\W (i+1) m' ys H2)
noncomputable def AR (wi:TI) (ix:List Nat) (tt:TT) (te:TE):TE:=fun σ H Q=>wi σ H fun J H1=>∀acc,H1 acc=none->DS J tt te (fun x=>(mj ix σ).set 0 (some x)) acc H1 Q
theorem HOk.sameBut {P:Program} {w:World} {H:Hp} {h h':Heap} {C:Addr} (x:HOk P w H h) (hn:H C=none) (k:∀b u,b≠C->h.get? b=some u->h'.get? b=some u):HOk P w H h':=fun b u e=>by
 have nC:∀b u,H b=some u->b≠C:=fun b u e z=>by rw[z,hn] at e;cases e
 refine(x b u e).lY (fun c v hc q=>k c v ?_ q) (fun _ q=>q) fun _ _ q=>q
 rcases hc with z | z
 ·rw[z];exact nC b u e
 ·exact nC c _ z
section
variable {X:Cx}
theorem rJ:ba X (.builtin "isinstance") (fun vs H Q=>∃x t n b,vs=[x,.ty n]/\i4 X.K H x t/\PySem.W.kitOne X.K t (.type n)=some b/\Q (.bl b) H):=by
 intro pins s σ H xs us Q I r h
 obtain⟨x,t,n,b,rfl,ty,e,q⟩:=h
 obtain⟨u,w',rfl,r1,r2⟩:=vals2 r
 cases r2
 exact vy I r1 ty e fun tk=>⟨.bl b,H,I.tok tk,rfl,q⟩
theorem m_:ba X (.builtin "len") (fun vs H Q=>∃p S n,vs=[.ref p]/\H p=some (.set S n)/\Q (.int n) H):=by
 intro pins s σ H xs us Q I r h
 obtain⟨p,S,n,rfl,hH,q⟩:=h
 obtain⟨u,rfl,rx⟩:=vals1 r
 cases rx
 obtain⟨o,es,ep,tb,ho,hex,hd,hel,hmem,hsz,hfit,rfl⟩:=(show s.heap.SetOf (intKind X.prog X.w) p S n from I.hok p _ hH)
 have hb:(es.size:Int)<2 ^ 63:=by unfold scanBound at hsz;omega
 exact PySem.call_len_set ho hex hd hfit hb ⟨.int es.size,H,I.tok _,⟨_,rfl⟩,q⟩
theorem iM {prog:Program} {w:World} {A:Around} {E:Value->Shared->Prop} {s:Shared} {t sl:Addr} {items:Array Value} {vl vu:Value} {lo hi:Option Int} {Q:Value->Shared->Prop} (ht:IsTup s.heap t items) (hs:s.heap.IsSliceOf sl vl vu .none) (pl:IsPart vl lo) (pu:IsPart vu hi)
  (h1:HT.sIx items.size 0 lo=0) (h2:HT.sIx items.size items.size hi=items.size) (h:Q (.ref t) s):wpAny (model prog w) A (getItem (.ref t) (.ref sl)) Q E s:=by
 obtain⟨os,hos,hcs,hds⟩:=id hs
 have hTs:s.TypeIs (.ref sl) "slice" := ⟨os,hos,hcs⟩
 unfold getItem
 try with_reducible refine wpAny_holding ?_
 first | refine wpAny_bind (wpAny_pure ?_) | skip
 refine wpAny_bind (wpAny_sequenceKey ht.typeIs (by decide) ?_)
 refine wpAny_bind (wpAny_callSpecial?_slot (name:=Str.ofString "__getitem__") ht.typeIs PyProof.Rows.slot_tuple_getitem (wpAny_call_entry PyProof.Rows.slot_tuple_getitem ht.typeIs entry_tuple_getitem ?_ (args_tuple_getitem _ _)))
 show wpAny _ _ (Builtin.Tuple.tupleItemsOf (.ref t) >>= _) _ _ s
 refine wpAny_bind (tupleItemsOf_ ht (wpAny_bind (wpAny_typeOf hTs ?_)))
 rw[if_pos (by decide)]
 refine wpAny_bind (HT.fH hs pl pu ?_)
 rw[h1,h2]
 show wpAny _ _ (if (((0:Nat):Int) == 0&&(1:Int) == 1&&(items.size - 0) == items.size)=true then _ else _) _ _ s
 rw[if_pos (by simp)]
 show wpAny _ _ (Builtin.Tuple.tupleIsExact (.ref t) >>= _) _ _ s
 unfold Builtin.Tuple.tupleIsExact
 refine wpAny_bind (wpAny_bind (wpAny_typeOf ht.typeIs (wpAny_pure ?_)))
 show wpAny _ _ (if (Value.type "tuple" == Value.type "tuple")=true then _ else _) _ _ s
 rw[if_pos (by decide)]
 refine wpAny_bind (wpAny_rule ?_)
 first
  | exact wpAny_pure ⟨_,rfl,wpAny_pure h⟩
  | exact wpAny_bind (wpAny_pure (wpAny_pure ⟨_,rfl,wpAny_pure h⟩))
noncomputable def C1 (K:PySem.W.Frag):V->Option Int->Option Int->Hp->VK->Prop:=fun x lo hi H Q=>∃a xs,x=.ref a/\SqT K H a xs/\HT.sIx xs.length 0 lo=0/\HT.sIx xs.length xs.length hi=xs.length/\Q (.ref a) H
theorem zF:SlR X (C1 X.K):=by
 intro pins s σ H x v vl vu lo hi sl Q I rx hs pl pu h
 obtain⟨a,xs,rfl,hx,h1,h2,q⟩:=h
 cases rx
 obtain⟨its,r,ht,hz⟩:=I.tuple hx
 have hlen:its.toArray.size=xs.length:=by rw[List.size_toArray];exact r.length.symm
 refine⟨"tuple", _,PyProof.Rows.slot_tuple_getitem.lookup,ht.typeIs,?_⟩
 exact iM ht hs pl pu (by rw[hlen];exact h1) (by rw[hlen];exact h2) ⟨.ref a,H,I,rfl,q⟩
noncomputable def wJ (K:PySem.W.Frag):R2:=fun x y H Q=>∃a b ys,x=.ref a/\y=.ref b/\SqT K H a []/\SqT K H b ys/\Q (.ref b) H
theorem wC:OpR X (binaryOp .Add) (wJ X.K):=by
 intro pins s σ H x y v u Q I rx ry h
 obtain⟨a,b,ys,rfl,rfl,ha,hb,q⟩:=h
 cases rx
 cases ry
 obtain⟨its,r1,p1,_⟩:=I.tuple ha
 obtain⟨its2,r2,p2,_⟩:=I.tuple hb
 cases r1
 obtain⟨⟨cls,dd,data,sl⟩,ho,hc,n,hd⟩:=id p1
 obtain⟨⟨cls2,dd2,data2,sl2⟩,ho2,hc2,n2,hd2⟩:=id p2
 simp only at hc hd hc2 hd2
 subst hc hd hc2 hd2
 exact concat_meets ⟨_,ho,rfl⟩ ⟨_,ho2,rfl⟩ noFill_tuple_add seq_tuple_add PySem.F.slot_tuple_add PySem.F.entry_tuple_add (PySem.F.args_tuple_add_2 _ _)
  (tuple_addW0 a b _ _ n n2 dd dd2 sl sl2 (by simp)) ⟨ho,ho2,⟨.ref b,H,I,rfl,q⟩⟩
end
open AutoSeq1 (wpAny_loadPart')
noncomputable def qf (a:Addr) (lo hi st:Int):HO:=.ext fun h=>∃t u v,h.get? a=some { cls:=.type "range", data:=.fields #[.int lo t,.int hi u,.int st v] }
noncomputable def nc (lo st:Int) (n:Nat):List Int:=(List.range n).map fun(i:Nat)=>lo+(i:Int)*st
theorem kB (lo st:Int) (n:Nat):(nc lo st n).length=n:=by simp[nc]
theorem sv {lo st:Int} {n:Nat} {acc:Array Value} (h:ItemsOf (fun i v=>∃t,v=.int (lo+i*st) t) acc n):Vals ((nc lo st n).map V.int) acc.toList:=by
 obtain⟨hs,hv⟩:=h
 have key:∀(l:List Value) (k:Nat),(∀j v,l[j]?=some v->∃t,v=Value.int (lo+((k+j:Nat):Int)*st) t)->Vals (((List.range' k l.length).map fun(i:Nat)=>lo+(i:Int)*st).map V.int) l:=by
  intro l
  induction l with
  | nil=>intro k _;exact .nil
  | cons a r ih=>
   intro k hk
   rw[List.length_cons,List.range'_succ,List.map_cons,List.map_cons]
   refine .cons ?_ (ih (k+1) fun j v e=>?_)
   ·obtain⟨t,q⟩:=hk 0 a rfl
    exact⟨t,by rw[q];simp⟩
   ·obtain⟨t,q⟩:=hk (j+1) v (by simpa using e)
    exact⟨t,by rw[q];congr 3;omega⟩
 have:=key acc.toList 0 fun j v e=>by
  obtain⟨t,q⟩:=hv j v (by simpa using e)
  exact⟨t,by rw[q];simp⟩
 unfold nc
 rw[List.range_eq_range',<- hs]
 simpa using this
section
variable {X:Cx}
theorem Inv.rng {pins:List (Addr × Obj)} {σ:St} {H:Hp} {s:Shared} {lo hi st:Int} {t u v:Tok} {tk:Nat} (I:Inv X pins σ H s) :
  Inv X pins σ (upd H s.heap.objs.size (qf s.heap.objs.size lo hi st)) { s with heap:=s.heap.push { cls:=.type "range", data:=.fields #[.int lo t,.int hi u,.int st v] },toks:=tk }:=by
 refine I.laid (fun b o e=>Heap.get?_push_of_some _ e) (Nat.le_refl _) ?_
 refine⟨⟨t,u,v,Heap.get?_push_size _ rfl⟩,⟨_,Heap.get?_push_size _ rfl⟩,fun h1 h2 ⟨a,b,c,e⟩ k=>⟨a,b,c,k _ e⟩⟩
theorem vi:ba X (.type "range") (fun vs H Q=>∃j,vs=[.int j]/\∀p,H p=none->Q (.ref p) (upd H p (qf p 0 j 1))):=by
 intro pins s σ H xs us Q I r h
 obtain⟨j,rfl,q⟩:=h
 obtain⟨u,rfl,t,rfl⟩:=vals1 r
 exact call_range_1 ⟨.ref _,_,I.rng,rfl,q _ (I.hok.fresh (Nat.le_refl _))⟩
theorem u3:ba X (.type "range") (fun vs H Q=>∃i j,vs=[.int i,.int j]/\∀p,H p=none->Q (.ref p) (upd H p (qf p i j 1))):=by
 intro pins s σ H xs us Q I r h
 obtain⟨i,j,rfl,q⟩:=h
 obtain⟨u,w',rfl,⟨t,rfl⟩,⟨t',rfl⟩⟩:=vals2 r
 exact call_range_2 ⟨.ref _,_,I.rng,rfl,q _ (I.hok.fresh (Nat.le_refl _))⟩
structure k9 (lo hi st:Int) (n:Nat):Prop where
 sm:Builtin.Range.small lo hi st=true
 sz:Builtin.Range.rangeSize lo hi st=n
 le:n<=2 ^ 20
theorem Inv.Ee {pins:List (Addr × Obj)} {σ:St} {H:Hp} {s:Shared} {p:Addr} {lo hi st:Int} (I:Inv X pins σ H s) (h:H p=some (qf p lo hi st)):∃t u v,IsRange s.heap p lo hi st t u v:=by
 obtain⟨⟨t,u,v,e⟩,_⟩:=I.hok p _ h
 exact⟨t,u,v,e⟩
theorem mW (hc:X.calm=true):ba X (.type "list") (fun vs H Q=>∃p lo hi st n,vs=[.ref p]/\H p=some (qf p lo hi st)/\k9 lo hi st n/\∀l,H l=none->Q (.ref l) (upd H l (.lst ((nc lo st n).map V.int)))):=by
 intro pins s σ H xs us Q I r h
 obtain⟨p,lo,hi,st,n,rfl,hp,ok,q⟩:=h
 obtain⟨u,rfl,rx⟩:=vals1 r
 cases rx
 obtain⟨t,u,v,hr⟩:=I.Ee hp
 have hn:=ok.le
 refine call_list_range (I.ok.hd hc) hr ok.sm ok.sz (by omega) fun h' tk acc c kp e hi=>?_
 have hv:=sv hi
 refine⟨.ref s.heap.objs.size,_,I.laid (t':=tk) kp (Nat.le_refl _) (show bY X.prog X.w _ h' _ (.lst _) from⟨?_,acc.toList,c,hv,by simpa using e⟩),rfl,q _ (I.hok.fresh (Nat.le_refl _))⟩
 rw[List.length_map,kB,sizeLine_eq];omega
end
section
variable {X:Cx}
theorem xZ {a b:Int} (h1:-1000000<=a) (h2:a<=1000000) (h3:-1000000<=b) (h4:b<=1000000) (h:b - a<=1000000):k9 a b 1 (b - a).toNat:=
 ⟨small_one (by omega) (by omega) (by omega) (by omega),by rw[rangeSize_one];split<;>omega,by omega⟩
inductive RdD (K:PySem.W.Frag) (H:Hp):V->PyData->Prop
 | non:RdD K H .non .none
 | bl (b:Bool):RdD K H (.bl b) (.bool b)
 | int (i:Int):RdD K H (.int i) (.int i)
 | str (x:Str):RdD K H (.str x) (.str x)
 | tup {a:Addr} {xs:List V} {ds:List PyData} (h:SqT K H a xs) (hl:xs.length=ds.length) (hx:∀(i:Nat) x d,xs[i]?=some x->ds[i]?=some d->RdD K H x d):RdD K H (.ref a) (.tuple ds)
 | lst {a:Addr} {xs:List V} {ds:List PyData} (h:SqL K H a xs) (hl:xs.length=ds.length) (hx:∀(i:Nat) x d,xs[i]?=some x->ds[i]?=some d->RdD K H x d):RdD K H (.ref a) (.list ds)
theorem iC {h:Heap}:∀{us:List Value} {ds:List PyData},us.length=ds.length->(∀(i:Nat) u d,us[i]?=some u->ds[i]?=some d->∃as,Reads h u d as)->∃as,ReadsAll h us ds as
 | [],[],_,_=>⟨_,.nil⟩
 | [],_::_,hl,_=>by simp at hl
 | _::_,[],hl,_=>by simp at hl
 | u::us,d::ds,hl,hx=>by
  obtain⟨as,h1⟩:=hx 0 u d rfl rfl
  obtain⟨bs,h2⟩:=iC (us:=us) (ds:=ds) (by simpa using hl) fun i u d e1 e2=>hx (i+1) u d (by simpa using e1) (by simpa using e2)
  exact⟨_,.cons h1 h2⟩
theorem Vals.get' {xs:List V} {us:List Value} {i:Nat} {u:Value} (r:Vals xs us) (h:us[i]?=some u):∃x,xs[i]?=some x/\RelV x u:=by
 have hl:=r.length
 have hi:i<xs.length:=by rw[hl];exact(List.getElem?_eq_some_iff.mp h).1
 obtain⟨u',e1,e2⟩:=r.get (List.getElem?_eq_getElem hi)
 rw[h] at e1;cases e1
 exact⟨_,List.getElem?_eq_getElem hi,e2⟩
theorem Inv.reads {pins:List (Addr × Obj)} {σ:St} {H:Hp} {s:Shared} (I:Inv X pins σ H s) {x:V} {d:PyData} (r:RdD X.K H x d):∀u,RelV x u->∃as,Reads s.heap u d as:=by
 induction r with
 | non=>intro u ru;cases (show u=Value.none from ru);exact⟨_,.none⟩
 | bl b=>intro u ru;cases (show u=Value.bool b from ru);exact⟨_,.bool b⟩
 | int i=>intro u ru;obtain⟨t,q⟩:=(show ∃t,u=Value.int i t from ru);cases q;exact⟨_,.int i t⟩
 | str y=>intro u ru;obtain⟨t,q⟩:=(show ∃t,u=Value.str y t from ru);cases q;exact⟨_,.str y t⟩
 | @tup a xs ds h hl hx ih=>
  intro u ru
  cases (show u=Value.ref a from ru)
  obtain⟨its,rv,p,hz⟩:=I.tuple h
  obtain⟨o,ho,hc,n,hd⟩:=p
  obtain⟨as,ra⟩:=iC (h:=s.heap) (us:=its) (ds:=ds) (by rw[<- rv.length,hl]) fun i u d e1 e2=>by
   obtain⟨y,e3,ry⟩:=rv.get' e1
   exact ih i y d e3 e2 u ry
  exact⟨_,.tuple ho hc hd (by simpa using ra)⟩
 | @lst a xs ds h hl hx ih=>
  intro u ru
  cases (show u=Value.ref a from ru)
  obtain⟨its,rv,p,hz⟩:=I.list h
  obtain⟨o,ho,hc,n,hd⟩:=p.isList
  obtain⟨as,ra⟩:=iC (h:=s.heap) (us:=its) (ds:=ds) (by rw[<- rv.length,hl]) fun i u d e1 e2=>by
   obtain⟨y,e3,ry⟩:=rv.get' e1
   exact ih i y d e3 e2 u ry
  exact⟨_,.list ho hc hd (by simpa using ra)⟩
theorem vA (hg:X.A.guards=some []) (hu:X.A.units+64<cLine):ba X (.builtin "repr") (fun vs H Q=>∃p d,vs=[.ref p]/\RdD X.K H (.ref p) d/\d.showable=true/\d.hasDict=false/\d.depth<=60/\d.shown.length<=sizeLine/\Q (.str d.shown) H):=by
 intro pins s σ H xs us Q I r h
 obtain⟨p,d,rfl,rd,hs,hd,hdp,hz,q⟩:=h
 obtain⟨u,rfl,rx⟩:=vals1 r
 cases rx
 obtain⟨as,ra⟩:=I.reads rd (.ref p) rfl
 exact repr_of_reads' ra hs (PyData.noDict_hsm hd) hg (by omega) (fun _ _ e=>e) (fun h' u tk kp=>⟨.str d.shown,H,I.kept kp,⟨_,rfl⟩,q⟩) hz
theorem tR:ba X (.builtin "repr") (fun vs H Q=>∃i,vs=[.int i]/\i.natAbs.log2<1920/\Q (.str (toString i)) H):=by
 intro pins s σ H xs us Q I r h
 obtain⟨i,rfl,hi,q⟩:=h
 obtain⟨u,rfl,t,rfl⟩:=vals1 r
 exact PySem.P.repr_of_int hi ⟨.str (toString i),H,I.tok _,⟨_,rfl⟩,q⟩
end
theorem Inv.AN {X:Cx} {pins:List (Addr × Obj)} {σ:St} {H:Hp} {s:Shared} {C:Addr} {o:Obj} {h':Heap} (I:Inv X (pins++[(C,o)]) σ H s) (cC:∀x c,X.env.cells.lookup x=some c->c≠C) (hC:X.ao.heap.objs.size<=C) (pC:∀p∈X.pn++pins,p.1≠C) (hs:Heap.SameBut C s.heap h'):Inv X pins σ H { s with heap:=h' }:=by
 have kb:∀b u,b≠C->s.heap.get? b=some u->h'.get? b=some u:=fun b u hb z=>hs.extBut b u hb z
 obtain⟨q0,q1,q2,q3,q4⟩:=I.pin (C,o) (List.mem_append_right _ (List.mem_append_right _ (List.mem_singleton.mpr rfl)))
 have J:Inv X pins σ H s:=I.iG fun p hp=>I.pin p (List.mem_append_right _ (List.mem_append_left _ hp))
 refine J.n9 (s':={ s with heap:=h' }) (ch:=[C]) rfl ⟨fun b u z n a c=>kb b u (fun e=>c (by rw[e];exact List.mem_singleton.mpr rfl)) z,fun b u z n a c=>⟨u.slots,kb b _ (fun e=>c (by rw[e];exact List.mem_singleton.mpr rfl)) z⟩,fun b u z n c=>n,fun b u z c=>⟨u,kb b u (fun e=>c (by rw[e];exact List.mem_singleton.mpr rfl)) z⟩,fun b xs z=>z,fun b ob u z=>z,fun b ps z=>⟨#[],by simpa using z⟩⟩ (J.hok.sameBut q1 kb) J.bare fun b hb=>?_
 have e:=List.mem_singleton.mp hb
 subst e
 exact⟨.inr hC,q2,fun x c z=>cC x c z,pC⟩
section
variable {prog:Program} {w:World} {A:Around} {E:Value->Shared->Prop} {s:Shared}
theorem fR {it t:Addr} {i:Nat} {its:Array Value} {x:Value} {Q:Value->Shared->Prop} (hi:s.heap.IsTupleIter it t i) (ht:s.heap.IsTuple t its) (hx:its[i]?=some x) (hQ:∀h',h'.IsTupleIter it t (i+1)->Heap.SameBut it s.heap h'->Q x { s with heap:=h' }) :
  wpAny (model prog w) A (Builtin.SmallTypes.nextOf (.ref it)) Q E s:=by
 obtain⟨oi,h1,h2,h3⟩:=id hi
 obtain⟨ot,k1,_,nt,k2⟩:=ht
 unfold Builtin.SmallTypes.nextOf
 refine wpAny_bind (wpAny_callSpecial?_slot (name:=Str.ofString "__next__") hi.typeIs F.slot_tuple_iterator_next (wpAny_call_entry F.slot_tuple_iterator_next hi.typeIs F.entry_tuple_iterator_next ?_ (F.args_tuple_iterator_next_1 _)))
 refine wpAny_bind (m:=field (.ref it) 0) (wpAny_field h1 h3 (x:=.ref t) rfl ?_)
 show wpAny _ _ (if (Value.ref t == Value.none)=true then _ else field (.ref it) 1 >>= _) _ _ s
 rw[if_neg (show ¬ ((Value.ref t == Value.none)=true) from Bool.false_ne_true)]
 refine wpAny_bind (wpAny_field h1 h3 (x:=.int i 0) rfl (wpAny_bind (m:=seqItems? (.ref t)) (wpAny_seqItems k1 k2 ?_)))
 simp only[Int.toNat_natCast,hx]
 exact wpAny_bind (wpAny_setField h1 h3 (by simp) (wpAny_pure ⟨x,rfl,wpAny_pure (hQ _ ⟨_,Heap.get?_update_self _ h1 (Obj.isFreed_of_fields (Obj.data_mapFields h3 _)),(Obj.cls_mapFields ..).trans h2,by rw[Obj.data_mapFields h3];simp[rawInt]⟩ (Heap.SameBut.update ..))⟩))
theorem iH {it t:Addr} {i:Nat} {its:Array Value} {Q:Value->Shared->Prop} (hh:A.handled=none) (hi:s.heap.IsTupleIter it t i) (ht:s.heap.IsTuple t its) (hx:its[i]?=none)
  (hE:∀h' e,Heap.ExtBut it s.heap h'->(∃o,h'.get? e=some o/\o.cls=.type "StopIteration")->E (.ref e) { s with heap:=h' }):wpAny (model prog w) A (Builtin.SmallTypes.nextOf (.ref it)) Q E s:=by
 obtain⟨oi,h1,h2,h3⟩:=id hi
 obtain⟨ot,k1,_,nt,k2⟩:=ht
 unfold Builtin.SmallTypes.nextOf
 refine wpAny_bind (wpAny_callSpecial?_slot (name:=Str.ofString "__next__") hi.typeIs F.slot_tuple_iterator_next (wpAny_call_entry F.slot_tuple_iterator_next hi.typeIs F.entry_tuple_iterator_next ?_ (F.args_tuple_iterator_next_1 _)))
 refine wpAny_bind (m:=field (.ref it) 0) (wpAny_field h1 h3 (x:=.ref t) rfl ?_)
 show wpAny _ _ (if (Value.ref t == Value.none)=true then _ else field (.ref it) 1 >>= _) _ _ s
 rw[if_neg (show ¬ ((Value.ref t == Value.none)=true) from Bool.false_ne_true)]
 refine wpAny_bind (wpAny_field h1 h3 (x:=.int i 0) rfl (wpAny_bind (m:=seqItems? (.ref t)) (wpAny_seqItems k1 k2 ?_)))
 simp only[Int.toNat_natCast,hx]
 refine wpAny_bind (wpAny_rule (wpAny_bind (wpAny_setField h1 h3 (by simp) (wpAny_bind (m:=newExc (.type "StopIteration") []) ?_))))
 simp only[newExc,newTuple]
 refine wpAny_bind (wpAny_newObj_type (wpAny_bind (m:=firstArgMember _ _) (wpAny_of_eq (a:=Value.none) (by first | rfl | (simp only[firstArgMember];rfl)) (wpAny_newObj_type ?_ (by size_fits)))) (by size_fits))
 simp only[raiseNew]
 refine wpAny_bind (wpAny_handled ?_)
 first | rw[show A.in1.handled=none from hh] | rw[hh]
 exact wpAny_bind (wpAny_pure (wpAny_throw (hE _ _ (((Heap.SameBut.update ..).extBut.push _).push _) ⟨_,Heap.get?_push_size _ rfl,rfl⟩)))
end
theorem Draws.tup {prog:Program} {w:World} {A:Around} (hh:A.handled=none) (it t:Addr) (hne:t≠it) (its:Array Value):Draws prog w A it [it,t] its.size (fun i v=>its[i]?=some v) (fun i h=>h.IsTupleIter it t i/\h.IsTuple t its) where
 live:=fun _ _ z=>let ⟨o,ho,_⟩:=z.1;⟨o,ho⟩
 frame:=fun _ _ _ z hk=>⟨z.1.at fun o e=>hk it (by simp) o e,z.2.at fun o e=>hk t (by simp) o e⟩
 item:=fun i s Q E hi z hQ=>fR z.1 z.2 (x:=its[i]) (by simp[hi]) fun h' a b=>hQ _ h' s.toks (by simp[hi]) ⟨a,z.2.extBut b.extBut hne⟩ b
 done:=fun s Q E z hE=>iH hh z.1 z.2 (by simp) hE
section
open AutoSeq1 (wpAny_loadPart')
theorem tB (t:Addr) (its:Array Value) (n:Nat) (dct:Option Addr) (sl:Array (Option Value)) :
  Meets (Builtin.«enumerate.__new__» ⟨[.type "enumerate", .ref t],[]⟩) (fun _ R s=>s.heap.get? t=some { cls:=.type "tuple", dict:=dct,data:=.seq its n,slots:=sl } ∧
   R (.ok (.ret (.ref (s.heap.push { cls:=.type "tuple_iterator", data:=.fields #[.ref t,.int 0 0] }).objs.size))) { s with heap:=(s.heap.push { cls:=.type "tuple_iterator", data:=.fields #[.ref t,.int 0 0] }).push { cls:=.type "enumerate", data:=.fields #[.none,.bool false,.ref s.heap.objs.size,rawInt 0,.none,.none] } }):=
 .of_wp fun prog w A R s z=>by
  obtain⟨hp,gs,dr,tk,os⟩:=s;obtain⟨ht,z⟩:=z
  have su:=sub_enumerate
  have hT:Heap.IsTuple (Shared.heap ⟨hp,gs,dr,tk,os⟩) t its:=⟨_,ht,rfl,n,rfl⟩
  wp_walk using wpAny_loadPart' ht
  refine wpAny_stack_any fun st=>wpAny_pure ?_
  split
  ·rename_i c _ _ _ _ _
   cases (c == Value.type "enumerate")<;>(wp_walk using wpAny_loadPart' ht,wpAny_pyIter_tuple hT;exact⟨_,rfl,z⟩)
  ·(wp_walk using wpAny_loadPart' ht,wpAny_pyIter_tuple hT);exact⟨_,rfl,z⟩
end
section
variable {prog:Program} {w:World} {A:Around} {E:Value->Shared->Prop} {s:Shared}
theorem CY {t:Addr} {its:Array Value} {Q:Value->Shared->Prop} (hT:s.heap.IsTuple t its)
  (q:∀h',IsEnum h' (s.heap.objs.size+1) s.heap.objs.size 0 .none->h'.IsTupleIter s.heap.objs.size t 0->h'.objs.size=s.heap.objs.size+2->(∀b o,s.heap.get? b=some o->h'.get? b=some o)->Q (.ref (s.heap.objs.size+1)) { s with heap:=h' }) :
  wpAny (model prog w) A (call (.type "enumerate") [.ref t]) Q E s:=by
 obtain⟨⟨c,dct,dt,sl⟩,ht,hc,n,hd⟩:=hT
 replace hc:c=.type "tuple" := hc
 replace hd:dt=.seq its n:=hd
 subst hc hd
 refine callType_new F.called_enumerate (by decide) (F.typeCall_enumerate_1 _) (F.newCall_enumerate_1 _) (fun obj=>F.args_object_init_2 obj _) F.entry_enumerate_new (tB t its n dct sl) ⟨ht,?_⟩
 have hz:(s.heap.push { cls:=.type "tuple_iterator", data:=.fields #[.ref t,.int 0 0] }).objs.size=s.heap.objs.size+1:=Heap.size_push ..
 show _/\_
 rw[hz]
 have he:IsEnum ((s.heap.push { cls:=.type "tuple_iterator", data:=.fields #[.ref t,.int 0 0] }).push { cls:=.type "enumerate", data:=.fields #[.none,.bool false,.ref s.heap.objs.size,rawInt 0,.none,.none] }) (s.heap.objs.size+1) s.heap.objs.size 0 .none:=by
  have y:=Heap.get?_push_size (s.heap.push { cls:=.type "tuple_iterator", data:=.fields #[.ref t,.int 0 0] }) (o:={ cls:=.type "enumerate", data:=.fields #[.none,.bool false,.ref s.heap.objs.size,rawInt 0,.none,.none] }) rfl
  rw[hz] at y;exact y
 exact⟨⟨_,he,rfl⟩,q _ he ⟨_,Heap.get?_push_of_some _ (Heap.get?_push_size _ rfl),rfl,rfl⟩ (by rw[Heap.size_push,hz]) fun b o x=>Heap.get?_push_of_some _ (Heap.get?_push_of_some _ x)⟩
end
theorem Inv.yielded {X:Cx} {pins:List (Addr × Obj)} {σ:St} {H:Hp} {s:Shared} {fp:List Addr} {T:Addr} {o:HO} {h':Heap} {t':Nat} (I:Inv X pins σ H s) (hf:∀b∈fp,i5 X pins H b) (k:∀b u,b∉fp->s.heap.get? b=some u->h'.get? b=some u)
  (hT:s.heap.objs.size<=T) (new:bY X.prog X.w (upd H T o) h' T o):Inv X pins σ (upd H T o) { s with heap:=h',toks:=t' }:=by
 have nT:∀b u,s.heap.get? b=some u->b≠T:=fun b u e z=>absurd (Heap.lt_size e) (by rw[z];exact Nat.not_lt.mpr hT)
 have nH:∀b u,H b=some u->b≠T:=fun b u e z=>absurd (I.hok.lt e) (by rw[z];exact Nat.not_lt.mpr hT)
 have nf:∀b u,H b=some u->b∉fp:=fun b u e z=>by rw[(hf b z).1] at e;cases e
 refine I.n9 (s':={ s with heap:=h',toks:=t' }) (ch:=fp) rfl ⟨fun b u e n _ c=>k b u c e,fun b u e n _ c=>⟨u.slots,k b u c e⟩,fun b u e n c=>by rw[aH (nT b u e)];exact n,fun b u e c=>⟨u,k b u c e⟩,fun b xs e=>by rw[aH (nH b _ e)];exact e,fun b ob u e=>by rw[aH (nH b _ e)];exact e,fun b ps e=>⟨#[],by rw[aH (nH b _ e),e];simp⟩⟩ (fun b u e=>?_) I.bare (fun b hb=>?_)
 ·by_cases hb:b=T
  ·subst hb
   rw[aO] at e
   cases e
   exact new
  ·rw[aH hb] at e
   refine(I.hok b u e).lY (fun c v hc q=>k c v ?_ q) (fun c q=>by rw[aH (nH c _ q)];exact q) fun c xs q=>by rw[aH (nH c _ q)];exact q
   rcases hc with z | z
   ·rw[z];exact nf b u e
   ·exact nf c _ z
 ·obtain⟨_,g1,_,g3,g4,g5⟩:=hf b hb
  exact⟨g3,g1,g4,g5⟩
theorem Inv.kR {X:Cx} {pins:List (Addr × Obj)} {σ:St} {H:Hp} {s:Shared} {fp:List Addr} {h':Heap} {t':Nat} (I:Inv X pins σ H s) (hf:∀b∈fp,i5 X pins H b) (k:∀b u,b∉fp->s.heap.get? b=some u->h'.get? b=some u):Inv X pins σ H { s with heap:=h',toks:=t' }:=by
 have nf:∀b u,H b=some u->b∉fp:=fun b u e z=>by rw[(hf b z).1] at e;cases e
 refine I.n9 (s':={ s with heap:=h',toks:=t' }) (ch:=fp) rfl ⟨fun b u e n _ c=>k b u c e,fun b u e n _ c=>⟨u.slots,k b u c e⟩,fun b u e n c=>n,fun b u e c=>⟨u,k b u c e⟩,fun b xs e=>e,fun b ob u e=>e,fun b ps e=>⟨#[],by rw[e];simp⟩⟩ (fun b u e=>?_) I.bare (fun b hb=>?_)
 ·refine(I.hok b u e).lY (fun c v hc q=>k c v ?_ q) (fun c q=>q) fun c xs q=>q
  rcases hc with z | z
  ·rw[z];exact nf b u e
  ·exact nf c _ z
 ·obtain⟨_,g1,_,g3,g4,g5⟩:=hf b hb
  exact⟨g3,g1,g4,g5⟩
noncomputable def Iel (K:PySem.W.Frag) (a:Addr):It:=
 ⟨fun i H=>∃xs x,SqL K H a xs/\xs[i]?=some x,fun i H x H'=>∃p v,x=.ref p/\H p=none/\(∀xs,SqL K H a xs->xs[i]?=some v)/\H'=upd H p (.tup [.int i,v]),fun i H=>∃xs,SqL K H a xs/\xs.length<=i⟩
noncomputable def Iet (K:PySem.W.Frag) (a:Addr):It:=
 ⟨fun i H=>∃xs x,SqT K H a xs/\xs[i]?=some x,fun i H x H'=>∃p v,x=.ref p/\H p=none/\(∀xs,SqT K H a xs->xs[i]?=some v)/\H'=upd H p (.tup [.int i,v]),fun i H=>∃xs,SqT K H a xs/\xs.length<=i⟩
theorem qx {h:Heap} {e it:Addr} {i:Int} {old:Value} (z:IsEnum h e it i old):∃o,h.get? e=some o/\∀v,o.data≠.cell v:=⟨_,z,fun v q=>nomatch q⟩
theorem lM {prog:Program} {w:World} {A:Around} {it:Addr} {fp:List Addr} {n:Nat} {P:Nat->Value->Prop} {St:Nat->Heap->Prop} (D:Draws prog w A.in1 it fp n P St) (e:Addr) (hei:e≠it) (hef:e∉fp) (i:Nat) (s:Shared) (Q:Option Value->Shared->Prop) (E:Value->Shared->Prop) (hi:i<n)
  (hst:(∃old,IsEnum s.heap e it i old)/\St i s.heap)
  (hQ:∀T vals h' tk,(∃t x,P i x/\vals = #[.int i t,x])->s.heap.objs.size<=T->j7 h' T vals->((∃x,IsEnumOut h' e it ((i:Int)+1) x T)/\St (i+1) h'/\T≠e/\T≠it)->(∀b o,b∉[e,it]->s.heap.get? b=some o->h'.get? b=some o)->Q (some (.ref T)) { s with heap:=h',toks:=tk }) :
  wpAny (model prog w) A (pyNext (.ref e)) Q E s:=by
 obtain⟨⟨old,he⟩,hs⟩:=hst
 refine wpAny_pyNext_enum_itemD D he hs hi hei hef fun x h1 tk hP ho hs1 hT _ hk=>?_
 refine hQ s.heap.objs.size #[.int i tk,x] h1 (tk+1) ⟨tk,x,hP,rfl⟩ (Nat.le_refl _) ⟨_,hT,⟨rfl,_,rfl⟩,rfl⟩ ⟨⟨_,ho⟩,hs1,Nat.ne_of_gt (Heap.lt_size he),?_⟩ fun b o hb y=>hk b o (fun z=>hb (by simp[z])) (fun z=>hb (by simp[z])) y
 obtain⟨_,y⟩:=D.live _ _ hs
 exact Nat.ne_of_gt (Heap.lt_size y)
theorem sC {P:Program} {w:World} {K:PySem.W.Frag} {elts:List Expr} {k:Nat} {pos:Pos} {a it e:Addr} (hei:e≠it):Turn P w K (.Tuple elts k pos) (Iel K a) [e,it] e (fun i h=>(∃old,IsEnum h e it i old)/\h.IsListIter it a i) where
 mem:=by simp
 obj:=fun i h z b hb=>by
  obtain⟨⟨old,z1⟩,z2⟩:=z
  rcases List.mem_cons.mp hb with rfl | hb
  ·exact qx z1
  ·rw[List.mem_singleton.mp hb]
   obtain⟨o,q,_,d⟩:=z2
   exact⟨o,q,fun v y=>by rw[d] at y;cases y⟩
 keep:=fun i h h' z kk=>⟨let ⟨old,z1⟩:=z.1;⟨old,kk e (by simp) _ z1⟩,z.2.at fun o q=>kk it (by simp) o q⟩
 item:=by
  intro X hP hw hK hc i pins s σ H E I hf st hg
  subst hP hw hK
  obtain⟨xs,x,hq,hx⟩:=hg
  obtain⟨its,rv,p,hz⟩:=I.list hq
  obtain⟨u,hu,ru⟩:=rv.get hx
  have hl:=rv.length
  have plt:a<s.heap.objs.size:=by obtain⟨o,q,_⟩:=p.isList;exact Heap.lt_size q
  have hai:a≠it/\a≠e:=by
   obtain⟨oa,qa,ca,_⟩:=p.isList
   obtain⟨⟨old,z1⟩,oi,qi,ci,_⟩:=st
   exact⟨(fun q=>by rw[q,qi] at qa;cases qa;rw[ci] at ca;injection ca with y;exact absurd y (by decide)),(fun q=>by rw[q,z1] at qa;cases qa;injection ca with y;exact absurd y (by decide))⟩
  have DD:=(Draws.list (prog:=X.prog) (w:=X.w) (A:=X.A.in1) (I.ok.hd hc) it a hai.1 its.toArray)
  have hef0:e∉[it,a]:=by simp;exact⟨hei,fun q=>hai.2 q.symm⟩
  have W:=WalksT.enumerateD (prog:=X.prog) (w:=X.w) (A:=X.A) DD e hei hef0 (by simp)
  refine lM DD e hei hef0 i s _ _ (by rw[List.size_toArray,<- hl];exact(List.getElem?_eq_some_iff.mp hx).1) ⟨st.1,st.2,p.isList⟩ fun T vals h1 tk hv hT ht hm k1=>?_
  obtain⟨t,v,hv1,hv2⟩:=hv
  have ev:v=u:=by
   have:its[i]?=some v:=by simpa using hv1
   rw[hu] at this;exact(Option.some.inj this).symm
  subst ev
  refine⟨.ref T,rfl,W.go elts k pos i T { s with heap:=h1,toks:=tk } _ _ hm fun h2 st2 k2=>?_⟩
  have kk:∀b o,b∉[e,it]->s.heap.get? b=some o->h2.get? b=some o:=fun b o hb q=>k2 b o hb (k1 b o hb q)
  have hT2:j7 h2 T vals:=by
   obtain⟨o,q,c⟩:=ht
   exact⟨o,k2 T o (fun z=>W.apart _ _ _ hm z) q,c⟩
  have hn:H T=none:=I.hok.fresh hT
  have nTf:∀b∈[e,it],b≠T:=fun b hb z=>by
   have hlt:b<s.heap.objs.size:=by
    rcases List.mem_cons.mp hb with rfl | hb
    ·obtain⟨old,z1⟩:=st.1;exact Heap.lt_size z1
    ·rw[List.mem_singleton.mp hb];obtain⟨o,q,_⟩:=st.2;exact Heap.lt_size q
   rw[z] at hlt;exact absurd hlt (Nat.not_lt.mpr hT)
  refine⟨.ref T,upd H T (.tup [.int i,x]),I.yielded (t':=tk) hf kk hT ⟨by show 2<=sizeLine;decide,[.int i t,v],.cons ⟨t,rfl⟩ (.cons ru .nil),?_⟩,rfl,⟨T,x,rfl,hn,fun ys hy=>by rw[I.gW hy hq];exact hx,rfl⟩,⟨st2.1,st2.2.1⟩,fun b hb=>by rw[aH (nTf b hb)];exact(hf b hb).1⟩
  rw[hv2] at hT2;exact hT2
 done:=by
  intro X hP hw hK hc i pins s σ H E I hf st hg
  subst hP hw hK
  obtain⟨xs,hq,hx⟩:=hg
  obtain⟨its,rv,p,hz⟩:=I.list hq
  obtain⟨⟨old,z1⟩,z2⟩:=st
  have hl:=rv.length
  exact wpAny_pyNext_enum_end (I.ok.hd hc) z1 z2 p.isList (Array.getElem?_eq_none (by rw[List.size_toArray];omega)) fun h' eb=>⟨rfl,I.kR (t':=s.toks) hf fun b u hb q=>eb b u (fun z=>hb (by simp[z])) q⟩
 self:=fun A i s Q E z q=>by
  obtain⟨⟨old,z1⟩,z2⟩:=z
  exact wpAny_pyIter_enum z1 q
theorem sD {P:Program} {w:World} {K:PySem.W.Frag} {elts:List Expr} {k:Nat} {pos:Pos} {a it e:Addr} (hei:e≠it):Turn P w K (.Tuple elts k pos) (Iet K a) [e,it] e (fun i h=>(∃old,IsEnum h e it i old)/\h.IsTupleIter it a i) where
 mem:=by simp
 obj:=fun i h z b hb=>by
  obtain⟨⟨old,z1⟩,z2⟩:=z
  rcases List.mem_cons.mp hb with rfl | hb
  ·exact qx z1
  ·rw[List.mem_singleton.mp hb]
   obtain⟨o,q,_,d⟩:=z2
   exact⟨o,q,fun v y=>by rw[d] at y;cases y⟩
 keep:=fun i h h' z kk=>⟨let ⟨old,z1⟩:=z.1;⟨old,kk e (by simp) _ z1⟩,z.2.at fun o q=>kk it (by simp) o q⟩
 item:=by
  intro X hP hw hK hc i pins s σ H E I hf st hg
  subst hP hw hK
  obtain⟨xs,x,hq,hx⟩:=hg
  obtain⟨its,rv,p,hz⟩:=I.tuple hq
  obtain⟨u,hu,ru⟩:=rv.get hx
  have hl:=rv.length
  have plt:a<s.heap.objs.size:=by obtain⟨o,q,_⟩:=(show s.heap.IsTuple a its.toArray from p);exact Heap.lt_size q
  have hai:a≠it/\a≠e:=by
   obtain⟨oa,qa,ca,_⟩:=(show s.heap.IsTuple a its.toArray from p)
   obtain⟨⟨old,z1⟩,oi,qi,ci,_⟩:=st
   exact⟨(fun q=>by rw[q,qi] at qa;cases qa;rw[ci] at ca;injection ca with y;exact absurd y (by decide)),(fun q=>by rw[q,z1] at qa;cases qa;injection ca with y;exact absurd y (by decide))⟩
  have DD:=(Draws.tup (prog:=X.prog) (w:=X.w) (A:=X.A.in1) (I.ok.hd hc) it a hai.1 its.toArray)
  have hef0:e∉[it,a]:=by simp;exact⟨hei,fun q=>hai.2 q.symm⟩
  have W:=WalksT.enumerateD (prog:=X.prog) (w:=X.w) (A:=X.A) DD e hei hef0 (by simp)
  refine lM DD e hei hef0 i s _ _ (by rw[List.size_toArray,<- hl];exact(List.getElem?_eq_some_iff.mp hx).1) ⟨st.1,st.2,(show s.heap.IsTuple a its.toArray from p)⟩ fun T vals h1 tk hv hT ht hm k1=>?_
  obtain⟨t,v,hv1,hv2⟩:=hv
  have ev:v=u:=by
   have:its[i]?=some v:=by simpa using hv1
   rw[hu] at this;exact(Option.some.inj this).symm
  subst ev
  refine⟨.ref T,rfl,W.go elts k pos i T { s with heap:=h1,toks:=tk } _ _ hm fun h2 st2 k2=>?_⟩
  have kk:∀b o,b∉[e,it]->s.heap.get? b=some o->h2.get? b=some o:=fun b o hb q=>k2 b o hb (k1 b o hb q)
  have hT2:j7 h2 T vals:=by
   obtain⟨o,q,c⟩:=ht
   exact⟨o,k2 T o (fun z=>W.apart _ _ _ hm z) q,c⟩
  have hn:H T=none:=I.hok.fresh hT
  have nTf:∀b∈[e,it],b≠T:=fun b hb z=>by
   have hlt:b<s.heap.objs.size:=by
    rcases List.mem_cons.mp hb with rfl | hb
    ·obtain⟨old,z1⟩:=st.1;exact Heap.lt_size z1
    ·rw[List.mem_singleton.mp hb];obtain⟨o,q,_⟩:=st.2;exact Heap.lt_size q
   rw[z] at hlt;exact absurd hlt (Nat.not_lt.mpr hT)
  refine⟨.ref T,upd H T (.tup [.int i,x]),I.yielded (t':=tk) hf kk hT ⟨by show 2<=sizeLine;decide,[.int i t,v],.cons ⟨t,rfl⟩ (.cons ru .nil),?_⟩,rfl,⟨T,x,rfl,hn,fun ys hy=>by rw[I.fI hy hq];exact hx,rfl⟩,⟨st2.1,st2.2.1⟩,fun b hb=>by rw[aH (nTf b hb)];exact(hf b hb).1⟩
  rw[hv2] at hT2;exact hT2
 done:=by
  intro X hP hw hK hc i pins s σ H E I hf st hg
  subst hP hw hK
  obtain⟨xs,hq,hx⟩:=hg
  obtain⟨its,rv,p,hz⟩:=I.tuple hq
  obtain⟨⟨old,z1⟩,z2⟩:=st
  have hl:=rv.length
  have pt:s.heap.IsTuple a its.toArray:=p
  have DD:Draws X.prog X.w X.A.in1 it [it,a] i (fun _ _=>True) (fun j h=>j=i/\h.IsTupleIter it a j/\h.IsTuple a its.toArray):={
   live:=fun _ _ z=>let ⟨o,ho,_⟩:=z.2.1;⟨o,ho⟩
   frame:=fun _ _ _ z hk=>⟨z.1,z.2.1.at fun o e=>hk it (by simp) o e,z.2.2.at fun o e=>hk a (by simp) o e⟩
   item:=fun j s Q E hj z hQ=>absurd z.1 (Nat.ne_of_lt hj)
   done:=fun s Q E z hE=>iH (I.ok.hd hc) z.2.1 z.2.2 (Array.getElem?_eq_none (by rw[List.size_toArray];omega)) hE }
  exact wpAny_pyNext_enum_endD DD z1 ⟨rfl,z2,pt⟩ fun h' eb=>⟨rfl,I.kR (t':=s.toks) hf fun b u hb q=>eb b u (fun z=>hb (by simp[z])) q⟩
 self:=fun A i s Q E z q=>by
  obtain⟨⟨old,z1⟩,z2⟩:=z
  exact wpAny_pyIter_enum z1 q
noncomputable def DO (K:PySem.W.Frag) (tl:TE):TI:=fun σ H R=>tl σ H fun x H1=>∃a,x=.ref a/\(((∃xs,SqL K H1 a xs)/\R (Iel K a) H1)\/((∃xs,SqT K H1 a xs)/\R (Iet K a) H1))
theorem Au {X:Cx} {elts:List Expr} {kt:Nat} {tp p pos:Pos} {l:Expr} {tl:TE} (hg:Gl X "enumerate") (hm:X.mg "enumerate" = none) (hl:PE X l tl) (hs:starEach [l] X.env=[(false,eval l X.env)]:=by rfl) :
  PI X (.Tuple elts kt tp) (.Call (.Name "enumerate" p) [l] [] pos) (DO X.K tl):=by
 intro pins s σ H R I h
 have h':A7 tl Dk σ H (fun vs H1=>match vs with
  | [x]=>∃a,x=.ref a/\(((∃xs,SqL X.K H1 a xs)/\R (Iel X.K a) H1)\/((∃xs,SqT X.K H1 a xs)/\R (Iet X.K a) H1))
  | _=>False):=h
 refine Call_ (gU I hg hm PyProof.Rows.boot_enumerate (PyProof.Rows.callWith_type1 (thn (jJ hl oX hs pos pins s σ H _ I h') fun us s1 ⟨vs,H1,I1,r1,q1⟩=>?_) hs rfl))
 cases r1 with
 | nil=>exact q1.elim
 | cons r rr=>
  cases rr with
  | cons _ _=>exact q1.elim
  | nil=>
   obtain⟨a,rfl,q⟩:=q1
   cases r
   have fp:∀{h':Heap},∀b∈[s1.heap.objs.size+1,s1.heap.objs.size],i5 X pins H1 b:=fun{h'} b hb=>by
    have hb':s1.heap.objs.size<=b:=by
     rcases List.mem_cons.mp hb with z | hb
     ·omega
     ·have:=List.mem_singleton.mp hb;omega
    exact I1.vd hb' (I1.hok.fresh hb')
   rcases q with⟨⟨xs,hq⟩,q⟩ | ⟨⟨xs,hq⟩,q⟩
   ·obtain⟨its,rv,pl,hz⟩:=I1.list hq
    refine call_enumerate_list pl.isList fun h2 z1 z2 hsz kp=>wpAny_pyIter_enum (s:={ s1 with heap:=h2 }) z1 ?_
    exact⟨s1.heap.objs.size+1,[s1.heap.objs.size+1,s1.heap.objs.size],_,_,H1,rfl,I1.kept (t':=s1.toks) kp,sC (a:=a) (Nat.succ_ne_self _),⟨⟨_,z1⟩,z2⟩,fp (h':=h2),q⟩
   ·obtain⟨its,rv,pl,hz⟩:=I1.tuple hq
    refine CY (show s1.heap.IsTuple a its.toArray from pl) fun h2 z1 z2 hsz kp=>wpAny_pyIter_enum (s:={ s1 with heap:=h2 }) z1 ?_
    exact⟨s1.heap.objs.size+1,[s1.heap.objs.size+1,s1.heap.objs.size],_,_,H1,rfl,I1.kept (t':=s1.toks) kp,sD (a:=a) (Nat.succ_ne_self _),⟨⟨_,z1⟩,z2⟩,fp (h':=h2),q⟩
noncomputable def ji (nt:Nat) (ix:List Nat) (σ:St):St:=List.replicate nt none++ix.map fun i=>(σ[i]?).join
noncomputable def dz (nt:Nat) (ix:List Nat) (σ σ':St):Prop:=∃ts:St,ts.length=nt/\σ'=ts++ix.map fun i=>(σ[i]?).join
noncomputable abbrev BX (J:It) (nt:Nat) (ix:List Nat) (σ:St) (tg:TG) (tt:TT) (te:TE) (acc:Addr) (H1:Hp) (Q:VK):Prop:=
 ∃W:Nat->Nat->List V->Hp->Prop,(∃m,W 0 m [] (upd H1 acc (.lst [])))/\∀i m ys H,W i m ys H →
  (J.stop i H/\Q (.ref acc) H)\/(J.go i H/\∀σ0 x H',dz nt ix σ σ0->J.yld i H x H'->tg x σ0 H' fun σ2 Hn=>dz nt ix σ σ2/\tt σ2 Hn fun b H2=>if b=true then te σ2 H2 fun y H3=>
    H3 acc=some (.lst ys)/\ys.length<sizeLine/\∃m',m'<m/\W (i+1) m' (ys++[y]) (upd H3 acc (.lst (ys++[y])))
   else ∃m',m'<m/\W (i+1) m' ys H2)
noncomputable def lU (wi:TI) (nt:Nat) (ix:List Nat) (tg:TG) (tt:TT) (te:TE):TE:=fun σ H Q=>wi σ H fun J H1=>∀acc,H1 acc=none->BX J nt ix σ tg tt te acc H1 Q
theorem n_ {X:Cx} {use:Option (Value->Sem Unit)} {Q2:Value->Shared->Prop} {pins:List (Addr × Obj)} {s:Shared} {σ:St} {H:Hp} {Q:VK} {elt iter tg:Expr} {tn':List Str} {tgr:TG} {ifs:List Expr} {scope osc:Scope} {pos:Pos} {wi:TI} {tt:TT} {te:TE} (ix:List Nat) (N':List Str)
  (hxe:X.xe=fun _ _=>False) (hc:X.calm=true) (ho:X.env.scope=osc) (hN:N'=tn'++ix.map fun i=>(X.N[i]?).getD ("" : Str)) (hnd:N'.Nodup)
  (hall:(∀y∈scope.names,y.2=.free->osc.names.lookup y.1=some .cell)/\(∀y∈scope.names,y.2≠.cell)/\scope.kind=.function/\(∀y∈scope.names,y.2=.local->scope.names.lookup y.1=some .local)/\(∀y∈N'.drop tn'.length,scope.names.lookup y=some .free))
  (hi:PI X tg iter wi) (hg:∀cl C ao ar fp,PG (aB X scope cl C ao ar fp N') tg tgr)
  (ht:∀cl C ao ar fp,PTs (aB X scope cl C ao ar fp N') ifs tt)
  (he:∀cl C ao ar fp,PE (aB X scope cl C ao ar fp N') elt te)
  (hs:∀x,foldedSetIterable iter X.env x=pure x) (I:Inv X pins σ H s) (h:lU wi tn'.length ix tgr tt te σ H Q)
  (hfin:∀(acc C:Addr) (H5:Hp) (s5:Shared) (o:Obj),Inv X (pins++[(C,o)]) σ H5 s5->(∀x c,X.env.cells.lookup x=some c->c≠C)->X.ao.heap.objs.size<=C->(∀p∈X.pn++pins,p.1≠C)->(∃m,∀h':Heap,h'.get? C=some o->h'.Ns C m)->Q (.ref acc) H5->compPost (model X.prog X.w) X.A X.xe use Q2 (.ref acc) C (.ok .next) s5) :
  wpAny (model X.prog X.w) X.A (comprehension (.ListComp elt [⟨tg,iter,ifs,0⟩] scope pos) scope X.env (firstIterPos [⟨tg,iter,ifs,0⟩] pos) (newList []) false (eval iter X.env) use) Q2 X.xe s:=by
 obtain⟨hfr,hcell,hkind,hnames,hcap⟩:=hall
 subst ho
 have outc:∀y∈scope.names,y.2=.free->X.env.kindOf y.1=some .cell:=fun y hy q=>hfr y hy q
 obtain⟨cl,hclos,hcl1,hcl2⟩:=fk (env:=X.env) (scope:=scope) fun y hy q=>I.ok.has y.1 (.inl (outc y hy q))
 refine wpAny_comprehension_free (use:=use) rfl hs hclos hkind hnames (thn (hi pins s σ H _ I h) fun v s1 h1=>thn h1 fun itv s2 h2=>?_)
 obtain⟨it,fp,tn,J,H2,e,I2,T,st2,f2,rest⟩:=h2
 subst e
 have hf2:H2 s2.heap.objs.size=none:=I2.hok.fresh (Nat.le_refl _)
 obtain⟨W,⟨m0,w0⟩,turn⟩:=rest s2.heap.objs.size hf2
 -- the list
 refine wpAny_newObj_type ?_
 have I3:Inv X pins σ (upd H2 s2.heap.objs.size (.lst [])) { s2 with heap:=s2.heap.push { cls:=.type "list", dict:=none,data:=.seq ([]:List Value).toArray } }:=I2.xv (its:=[]) (t':=s2.toks) .nil (Nat.zero_le _)
 have keep3:∀b o,s2.heap.get? b=some o->(s2.heap.push { cls:=.type "list", dict:=none,data:=.seq ([]:List Value).toArray }).get? b=some o:=fun b o q=>Heap.get?_push_of_some _ q
 have fp3:∀b∈fp,∃o,s2.heap.get? b=some o/\∀v,o.data≠.cell v:=T.obj _ _ st2
 have st3:tn 0 (s2.heap.push { cls:=.type "list", dict:=none,data:=.seq ([]:List Value).toArray }):=T.keep _ _ _ st2 fun b _ o q=>keep3 b o q
 have fpn:∀b∈fp,(upd H2 s2.heap.objs.size (HO.lst [])) b=none:=fun b hb=>by
  obtain⟨o,q,_⟩:=fp3 b hb
  rw[aH (Nat.ne_of_lt (Heap.lt_size q))]
  exact(f2 b hb).1
 revert I3 keep3 st3 fpn w0
 generalize hS3:({ s2 with heap:=s2.heap.push { cls:=.type "list", dict:=none,data:=.seq ([]:List Value).toArray } }:Shared)=s3
 generalize hH3:upd H2 s2.heap.objs.size (HO.lst [])=H3
 intro w0 I3 keep3 st3 fpn
 have acc3:H3 s2.heap.objs.size=some (.lst []):=by rw[<- hH3];exact aO
 generalize s2.heap.objs.size=acc at *
 have e3:s2.heap.push { cls:=.type "list", dict:=none,data:=.seq ([]:List Value).toArray }=s3.heap:=by rw[<- hS3]
 have keep3':∀b o,s2.heap.get? b=some o->s3.heap.get? b=some o:=fun b o q=>by rw[<- e3];exact keep3 b o q
 have st3':tn 0 s3.heap:=by rw[<- e3];exact st3
 refine wpAny_newFunctionEnv hcell (by intro y hy;simp at hy) (fun h₁ hns₁ hsb₁=>?_) hkind
 have hC:s3.heap.objs.size=s3.heap.objs.size:=rfl
 have keep4:∀b o,s3.heap.get? b=some o->h₁.get? b=some o:=fun b o q=>hsb₁.extBut b o (Nat.ne_of_lt (Heap.lt_size q)) (Heap.get?_push_of_some _ q)
 have fpC:∀b∈fp,b≠s3.heap.objs.size:=fun b hb=>by
  obtain⟨o,q,_⟩:=fp3 b hb
  exact Nat.ne_of_lt (Heap.lt_size (keep3' b o q))
 -- the block's context
 generalize hX':aB X scope cl s3.heap.objs.size s3 H3 fp N'=X'
 have hXp:X'.prog=X.prog:=by rw[<- hX'];rfl
 have hXw:X'.w=X.w:=by rw[<- hX'];rfl
 have hXK:X'.K=X.K:=by rw[<- hX'];rfl
 have hXA:X'.A=X.A:=by rw[<- hX'];rfl
 have hXe:X'.env=compEnvC scope cl s3.heap.objs.size X.env:=by rw[<- hX'];rfl
 have hXc:X'.calm=true:=by rw[<- hX'];exact hc
 have hXx:X'.xe=fun _ _=>False:=by rw[<- hX'];exact hxe
 have hXf:X'.fs=frs X.stack:=by rw[<- hX'];rfl
 have hXex:X'.ex=fp:=by rw[<- hX'];rfl
 have hXN:X'.N=N':=by rw[<- hX'];rfl
 have hXs:X'.ao=s3:=by rw[<- hX'];rfl
 have hXH:X'.ar=H3:=by rw[<- hX'];rfl
 have hXpn:X'.pn=[]:=by rw[<- hX'];rfl
 have okX:X'.Ok:=by
  rw[<- hX']
  refine⟨I3.ok.mod,hkind,I3.ok.glob,I3.ok.blt,Nat.le_refl _,fun a b c p q=>I3.ok.inj a b c (hcl1 a c p) (hcl1 b c q),fun y hy=>?_,fun _ _ z=>(by cases z),I3.ok.hd,I3.ok.frames,.inl rfl,fun b hb=>⟨fpC b hb,fun y c p=>(f2 b hb).2.2.2.2.1 y c (hcl1 y c p)⟩,
   I3.bs,Nat.le_trans I3.ok.bsz I3.sz,fun b o p hb=>?_,fun b hb z=>?_,I3.stack,I3.kW⟩
  ·have hy':(relabel scope X.env).names.lookup y=some .cell\/(relabel scope X.env).names.lookup y=some .free:=hy
   have free:scope.names.lookup y=some .free->∃c,cl.lookup y=some c:=fun q=>hcl2 y (lookup_mem q)
   rcases hy' with q | q
   ·rcases bU q with z | ⟨z,_⟩
    ·exact absurd rfl (hcell _ (lookup_mem z))
    ·exact free z
   ·rcases bU q with z | ⟨_,z⟩
    ·exact free z
    ·cases z
  ·rcases(f2 b hb).2.2.2.1 with z | z
   ·exact I3.ok.tU b o p z
   ·exact absurd (Nat.lt_of_lt_of_le (Heap.lt_size p) (Nat.le_trans I3.ok.bsz z)) (Nat.lt_irrefl _)
  ·rcases List.mem_cons.mp (I3.iy b z) with q | q
   ·exact(f2 b hb).2.1 q
   ·exact(f2 b hb).2.2.1 q
 have I4:∀tk,Inv X' [] (ji tn'.length ix σ) H3 { s3 with heap:=h₁,toks:=tk }:=fun tk=>by
  have hloc:=I3.loc
  refine⟨okX,by rw[hXs],I3.bare,?_,⟨fun y=>([]:List (Str × Value)).reverse.lookup y,by rw[hXe];exact hns₁,fun i y v e1 e2 e3=>?_⟩,fun y c p=>?_,?_,fun y c p=>?_,fun p hp=>?_,?_,?_⟩
  ·rw[hXf,hXex,hXH,hXs];exact Un.kept keep4
  ·rw[hXN,hN] at e1
   by_cases hit':i<tn'.length
   ·exfalso
    unfold ji at e2
    rw[List.getElem?_append_left (by simpa using hit'),List.getElem?_replicate,if_pos hit'] at e2
    cases e2
   ·have e10:N'[i]?=some y:=by rw[hN];exact e1
    obtain⟨j,rfl⟩:∃j,i=tn'.length+j:=⟨i - tn'.length,by omega⟩
    have e1':(ix.map fun i=>(X.N[i]?).getD ("" : Str))[j]?=some y:=by
     rw[List.getElem?_append_right (by omega)] at e1
     rw[show tn'.length+j - tn'.length=j by omega] at e1
     exact e1
    have e2':(ix.map fun i=>(σ[i]?).join)[j]?=some (some v):=by
     unfold ji at e2
     rw[List.getElem?_append_right (by simp)] at e2
     simpa using e2
    rw[List.getElem?_map] at e1' e2'
    cases hj:ix[j]? with
    | none=>rw[hj] at e1';cases e1'
    | some i0=>
     rw[hj] at e1' e2'
     have e1'':(X.N[i0]?).getD ("" : Str)=y:=by simpa using e1'
     have e2'':(σ[i0]?).join=some v:=by simpa using e2'
     have hsv:σ[i0]?=some (some v):=by
      cases q:σ[i0]? with
      | none=>rw[q] at e2'';cases e2''
      | some z=>rw[q] at e2'';have:z=some v:=by simpa using e2''
                rw[this]
     have hlt:i0<X.N.length:=by
      have:=(List.getElem?_eq_some_iff.mp hsv).1
      rw[I3.len] at this;exact this
     have hNy:X.N[i0]?=some y:=by
      rw[List.getElem?_eq_getElem hlt] at e1'' ⊢
      simpa using e1''
     have hyt:y∈N'.drop tn'.length:=by
      refine List.mem_of_getElem? (i:=j) ?_
      rw[List.getElem?_drop];exact e10
     have hyf:=hcap y hyt
     have hyc:=outc (y,.free) (lookup_mem hyf) rfl
     obtain⟨m,hn,hl⟩:=hloc
     obtain⟨u,r,l⟩:=hl i0 y v hNy hsv (.inr (.inl hyc))
     refine⟨u,r,?_⟩
     rcases l with⟨k1,_⟩ | ⟨_,c,p,z⟩
     ·have hyc':X.env.kindOf y=some .cell:=hyc
      rw[k1] at hyc';cases hyc'
     ·obtain⟨c',p'⟩:=hcl2 y (lookup_mem hyf)
      have pc:c'=c:=by
       have:=hcl1 y c' p'
       rw[p] at this;cases this;rfl
      subst pc
      refine .inr ⟨.inl ?_,c',by rw[hXe];exact p',?_⟩
      ·rw[hXe];exact bJ I3.ok.kind hyf hyc
      ·obtain⟨o,q1,q2⟩:=z
       exact⟨o,keep4 c' o q1,q2⟩
  ·rw[hXe] at p
   obtain⟨v,o,q1,q2⟩:=I3.cell y c (hcl1 y c p)
   exact⟨v,o,keep4 c o q1,q2⟩
  ·rw[hXe];exact I3.hok.fresh (Nat.le_refl _)
  ·rw[hXe] at p;exact I3.gw y c (hcl1 y c p)
  ·rw[hXpn] at hp;cases hp
  ·rw[hXp,hXw];exact I3.hok.kept keep4
  ·rw[hXN,hN];simp[ji]
 -- the loop
 have stat:∀{H':Hp},(∀b∈fp,H' b=none)->∀b∈fp,i5 X' [] H' b:=fun hn b hb=>by
  refine⟨hn b hb,by rw[hXe];exact fpC b hb,?_,.inl (by rw[hXex];exact hb),fun y c p=>?_,fun p hp=>by rw[hXpn] at hp;cases hp⟩
  ·rw[hXf];intro z
   rcases List.mem_cons.mp (I3.iy b z) with q | q
   ·exact(f2 b hb).2.1 q
   ·exact(f2 b hb).2.2.1 q
  ·rw[hXe] at p;exact(f2 b hb).2.2.2.2.1 y c (hcl1 y c p)
 have fin:∀{H5:Hp} {s5:Shared} {σ5:St},Inv X' [] σ5 H5 s5->Q (.ref acc) H5->compPost (model X.prog X.w) X.A X.xe use Q2 (.ref acc) s3.heap.objs.size (.ok .next) s5:=fun{H5 s5 σ5} I5 q=>by
  obtain⟨m,hn,_⟩:=I5.loc
  rw[hXe] at hn
  have hn':s5.heap.Ns s3.heap.objs.size m:=hn
  obtain⟨oC,esC,epC,hC1,hC2,hC3⟩:=hn'
  have u5:=I5.base
  rw[hXf,hXex,hXH,hXs] at u5
  have fr:H5 s3.heap.objs.size=none:=by have:=I5.free;rw[hXe] at this;exact this
  have hok5:=I5.hok
  rw[hXp,hXw] at hok5
  have hos:s5.os=s3.os:=by have:=I5.os;rw[hXs] at this;exact this
  have IX:Inv X pins σ H5 s5:=I3.n9 (s':=s5) (ch:=fp) hos u5 hok5 I5.bare (fun b hb=>by
   obtain⟨g0,g1,g2,g3,g4,g5⟩:=f2 b hb
   exact⟨g3,g1,g4,g5⟩)
  have cC:∀x c,X.env.cells.lookup x=some c->c≠s3.heap.objs.size:=fun x c z e=>by
   obtain⟨v,q⟩:=I3.cell x c z
   exact absurd q.lt (by rw[e];exact Nat.lt_irrefl _)
  have pC:∀p∈X.pn++pins,p.1≠s3.heap.objs.size:=fun p hp e=>by
   have:=Heap.lt_size (I3.pin p hp).1
   rw[e] at this
   exact Nat.lt_irrefl _ this
  refine hfin acc s3.heap.objs.size H5 s5 oC (IX.iG fun p hp=>?_) cC I3.sz pC ⟨m,fun h' z=>⟨oC,esC,epC,z,hC2,hC3⟩⟩ q
  rcases List.mem_append.mp hp with z | z
  ·exact IX.pin p (List.mem_append_right _ z)
  ·have e:=List.mem_singleton.mp z
   subst e
   refine⟨hC1,fr,Nat.ne_of_gt I3.lt,I3.zw (Nat.le_refl _),fun v e=>?_⟩
   have e':oC.data=.cell v:=e
   rw[hC2] at e';cases e'
 have loop:∀tk,codeAny (model X.prog X.w) X.A (.compLoop (.ListComp elt [⟨tg,iter,ifs,0⟩] scope pos) 0 (.ref it) (.ref acc) (compEnvC scope cl s3.heap.objs.size X.env))
   (compPost (model X.prog X.w) X.A X.xe use Q2 (.ref acc) s3.heap.objs.size) { s3 with heap:=h₁,toks:=tk }:=fun tk=>by
  refine rD (fun n s'=>∃i ys σ' H',Inv X' [] σ' H' s'/\dz tn'.length ix σ σ'/\tn i s'.heap/\(∀b∈fp,H' b=none)/\W i n ys H') (fun n s5 h5=>?_) m0
   ⟨0,[],ji tn'.length ix σ,H3,I4 tk,⟨_,List.length_replicate,rfl⟩,T.keep _ _ _ st3' fun b _ o q=>keep4 b o q,fpn,w0⟩
  obtain⟨i,ys,σ5,H5,I5,hσ,st5,fr5,w5⟩:=h5
  rcases turn i n ys H5 w5 with⟨stop,q⟩ | ⟨go,step⟩
  ·have d:=T.done X' hXp hXw hXK hXc i [] s5 σ5 H5 (fun _ _=>False) I5 (stat fr5) st5 stop
   rw[hXA] at d
   refine thn d fun r s6 ⟨hr,I6⟩=>?_
   subst hr
   exact fin I6 q
  ·have d:=T.item X' hXp hXw hXK hXc i [] s5 σ5 H5 (fun _ _=>False) I5 (stat fr5) st5 go
   rw[hXA] at d
   refine thn d fun r s6 ⟨u,hr,h6⟩=>?_
   subst hr
   refine thn h6 fun _ s7 ⟨z,H7,I7,r7,y7,st7,fr7⟩=>?_
   have I7':=I7.pinned (stat fr7) (T.obj _ _ st7)
   have again:∀{H9:Hp} {s9:Shared} {ys9:List V} {σ9:St},Inv X' ([]++eG fp s7.heap) σ9 H9 s9->dz tn'.length ix σ σ9->(∃m',m'<n/\W (i+1) m' ys9 H9)->∃m',m'<n/\∃i ys σ' H',Inv X' [] σ' H' s9/\dz tn'.length ix σ σ'/\tn i s9.heap/\(∀b∈fp,H' b=none)/\W i m' ys H':=fun{H9 s9 ys9 σ9} I9 c9 ⟨m',hm,w9⟩=>by
    refine⟨m',hm,i+1,ys9,_,H9,I9.dG,c9,T.keep _ _ _ st7 fun b hb o e=>(I9.pin (b,o) (List.mem_append_right _ (List.mem_append_right _ (br hb e)))).1,fun b hb=>?_,w9⟩
    obtain⟨o,e,_⟩:=T.obj _ _ st7 b hb
    exact(I9.pin (b,o) (List.mem_append_right _ (List.mem_append_right _ (br hb e)))).2.1
   have ht':=ht cl s3.heap.objs.size s3 H3 fp
   have he':=he cl s3.heap.objs.size s3 H3 fp
   have hg':=hg cl s3.heap.objs.size s3 H3 fp
   rw[hX'] at ht' he' hg'
   rw[<- hXe]
   have a0:=hg' _ s7 σ5 H7 z u _ I7' r7 (step σ5 z H7 hσ y7)
   rw[hXp,hXw,hXA,hXx] at a0
   refine thn a0 fun _ s8 ⟨σ8,H8,I8,c8,q8⟩=>?_
   have a1:=ht' _ s8 _ H8 _ I8 q8
   rw[hXp,hXw,hXA,hXx] at a1
   refine thn a1 fun b s9 ⟨H9,I9,q9⟩=>?_
   cases b with
   | false=>exact again I9 c8 q9
   | true=>
    have a2:=he' _ s9 _ H9 _ I9 q9
    rw[hXp,hXw,hXA,hXx] at a2
    refine thn a2 fun yv s10 ⟨y,H10,I10,r10,q1,q2,q3⟩=>?_
    have a3:=eh (X:=X') _ s10 _ H10 (.ref acc) [y] (.ref acc) [yv] (fun _ Hq=>∃m',m'<n/\W (i+1) m' (ys++[y]) Hq) I10 rfl (.cons r10 .nil) ⟨acc,ys,y,rfl,rfl,q1,q2,q3⟩
    rw[hXp,hXw,hXA,hXx] at a3
    exact thn a3 fun _ s11 ⟨_,H11,I11,_,q11⟩=>again I11 c8 q11
 refine codeAny_compStart_list (loop _) ?_
 exact T.self _ 0 _ _ _ (T.keep _ _ _ st3' fun b _ o q=>keep4 b o q) (loop _)
section
variable {X:Cx} {elt iter tg:Expr} {tn':List Str} {tgr:TG} {ifs:List Expr} {scope osc:Scope} {pos:Pos} {wi:TI} {tt:TT} {te:TE}
theorem r_ (ix:List Nat) (tn' N':List Str)
  (hxe:X.xe=fun _ _=>False) (hc:X.calm=true) (ho:X.env.scope=osc) (hN:N'=tn'++ix.map fun i=>(X.N[i]?).getD ("" : Str)) (hnd:N'.Nodup)
  (hall:(∀y∈scope.names,y.2=.free->osc.names.lookup y.1=some .cell)/\(∀y∈scope.names,y.2≠.cell)/\scope.kind=.function/\(∀y∈scope.names,y.2=.local->scope.names.lookup y.1=some .local)/\(∀y∈N'.drop tn'.length,scope.names.lookup y=some .free))
  (hi:PI X tg iter wi) (hg:∀cl C ao ar fp,PG (aB X scope cl C ao ar fp N') tg tgr)
  (ht:∀cl C ao ar fp,PTs (aB X scope cl C ao ar fp N') ifs tt)
  (he:∀cl C ao ar fp,PE (aB X scope cl C ao ar fp N') elt te)
  (hs:∀x,foldedSetIterable iter X.env x=pure x:=by intro _;rfl) :
  PE X (.ListComp elt [⟨tg,iter,ifs,0⟩] scope pos) (lU wi tn'.length ix tgr tt te):=by
 intro pins s σ H Q I h
 have e:eval (.ListComp elt [⟨tg,iter,ifs,0⟩] scope pos) X.env=comprehension (.ListComp elt [⟨tg,iter,ifs,0⟩] scope pos) scope X.env (firstIterPos [⟨tg,iter,ifs,0⟩] pos) (newList []) false (eval iter X.env) none:=by
  rw[eval_ListComp];rfl
 rw[e]
 refine n_ (use:=none) (Q2:=EP X pins σ Q) ix N' hxe hc ho hN hnd hall hi hg ht he hs I h fun acc C H5 s5 o I5 cC hC pC hm q=>?_
 obtain⟨m,hm⟩:=hm
 exact⟨m,hm _ (I5.pin (C,o) (List.mem_append_right _ (List.mem_append_right _ (List.mem_singleton.mpr rfl)))).1,fun h' hs'=>⟨.ref acc,H5,I5.AN cC hC pC hs',rfl,q⟩⟩
theorem r9 {y:Str} {py spos:Pos} {i:Nat} (ix:List Nat) (tn' N':List Str)
  (hxe:X.xe=fun _ _=>False) (hc:X.calm=true) (ho:X.env.scope=osc) (hN:N'=tn'++ix.map fun i=>(X.N[i]?).getD ("" : Str)) (hnd:N'.Nodup)
  (hall:(∀y∈scope.names,y.2=.free->osc.names.lookup y.1=some .cell)/\(∀y∈scope.names,y.2≠.cell)/\scope.kind=.function/\(∀y∈scope.names,y.2=.local->scope.names.lookup y.1=some .local)/\(∀y∈N'.drop tn'.length,scope.names.lookup y=some .free))
  (hi:PI X tg iter wi) (hg:∀cl C ao ar fp,PG (aB X scope cl C ao ar fp N') tg tgr)
  (ht:∀cl C ao ar fp,PTs (aB X scope cl C ao ar fp N') ifs tt)
  (he:∀cl C ao ar fp,PE (aB X scope cl C ao ar fp N') elt te)
  (hNN:X.N.Nodup) (hy:X.N[i]?=some y) (hl:X.env.scope.names.lookup y=some .local)
  (hsw:swapsWith (.ListComp elt [⟨tg,iter,ifs,0⟩] scope pos) (some (.Name y py)) spos.line X.env=pure true:=by rfl)
  (hs:∀x,foldedSetIterable iter X.env x=pure x:=by intro _;rfl) :
  PS X (.Assign [.Name y py] (.ListComp elt [⟨tg,iter,ifs,0⟩] scope pos) spos) (yY (lU wi tn'.length ix tgr tt te) (cf i)):=by
 intro pins s σ H D I h
 rw[exec_Assign_Name_used _ _ _ _ hsw]
 refine wpAny_bind (wpAny_standAt ?_)
 show wpAny _ _ (evalThenUse (.ListComp elt [⟨tg,iter,ifs,0⟩] scope pos) X.env (assign (.Name y py) X.env) >>= fun _=>pure Flow.next) _ _ _
 refine wpAny_bind ?_
 show wpAny _ _ (comprehension (.ListComp elt [⟨tg,iter,ifs,0⟩] scope pos) scope X.env (firstIterPos [⟨tg,iter,ifs,0⟩] pos) (newList []) false (eval iter X.env) (some (assign (.Name y py) X.env)) >>= fun _=>pure ()) _ _ _
 refine wpAny_bind (n_ (use:=some (assign (.Name y py) X.env)) ix N' hxe hc ho hN hnd hall hi hg ht he hs I h fun acc C H5 s5 o I5 cC hC pC hm q=>?_)
 obtain⟨m,hm⟩:=hm
 refine wpAny_assign_Name (fK (i:=i) (v:=.ref acc) I5 hNN hy (.inl hl) rfl (fun s6 I6=>?_) (.inr hl))
 refine⟨m,hm _ (I6.pin (C,o) (List.mem_append_right _ (List.mem_append_right _ (List.mem_singleton.mpr rfl)))).1,fun h' hs'=>?_⟩
 exact wpAny_pure (wpAny_pure ⟨_,H5,I6.AN cC hC pC hs',q⟩)
end
section
variable {κ:Type} [DecidableEq κ]
noncomputable def oN (kvs:List (κ × V)) (k:κ):Option V:=(kvs.find? fun kv=>decide (kv.1=k)).map (·.2)
theorem rK {p:κ × V} {r:List (κ × V)} {k:κ} (e:p.1=k):oN (p::r) k=some p.2:=by simp[oN,List.find?_cons,e]
theorem rg {p:κ × V} {r:List (κ × V)} {k:κ} (e:¬ p.1=k):oN (p::r) k=oN r k:=by simp[oN,List.find?_cons,e]
end
end L2
namespace L2.FE
open PySem PySem.Spec PyProof.Rows
inductive D where
 | non | bl (b:Bool) | int (i:Int) | str (x:Str) | tup (ds:List D) | frl (ds:List D) | ref (n:Nat) | fn (x:Str) | edic | scr (ds:List D) | exc (c:Str) (fs:List (Str × Int))
inductive O where
 | lst (ds:List D) | set (ns:List Int) | dic (kvs:List (Key × D)) | dit (kvs:List (List Key × D))
noncomputable abbrev Hh:=List O
noncomputable abbrev En:=List (Option D)
structure Xc where
 cls:Str
 fs:List (Str × Int)
inductive R (β:Type) where
 | ok (b:β) (h:Hh)
 | err (x:Xc) (h:Hh)
 | bad
noncomputable def R.bind {β γ:Type} (r:R β) (f:β->Hh->R γ):R γ:=match r with
 | .ok b h=>f b h
 | .err x h=>.err x h
 | .bad=>.bad
inductive Fl where
 | nx (e:En) | bk (e:En) | ct (e:En) | rt (d:D)
noncomputable abbrev ME:=En->Hh->R D
noncomputable abbrev MT:=En->Hh->R Bool
noncomputable abbrev MA:=En->Hh->R (List D)
noncomputable abbrev MS:=En->Hh->R Fl
noncomputable def Fro (K:PySem.W.Frag) (H:Hp) (p:Addr) (vs:List V):Prop:=
 (∃o,H p=some (.frz o (.lst vs)))\/∃(o:Obj) (its:Array Value) (n:Nat),K.lookup p=some o/\o.cls=.type "list" /\ o.dict=none/\o.data=.seq its n/\its.size<=sizeLine/\Vals vs its.toList
theorem Fro.sq {K:PySem.W.Frag} {H:Hp} {p:Addr} {vs:List V} (h:Fro K H p vs):SqL K H p vs:=by
 rcases h with⟨o,h⟩ | h
 ·exact .inl (.inr ⟨o,h⟩)
 ·exact .inr h
noncomputable def Fr1 (H:Hp) (p:Addr) (vs:List V):Prop:=∃o,H p=some (.frz o (.lst vs))
theorem Fr1.fro {K:PySem.W.Frag} {H:Hp} {p:Addr} {vs:List V} (h:Fr1 H p vs):Fro K H p vs:=.inl h
theorem Fr1.sq {K:PySem.W.Frag} {H:Hp} {p:Addr} {vs:List V} (h:Fr1 H p vs):SqL K H p vs:=let ⟨o,h⟩:=h;.inl (.inr ⟨o,h⟩)
theorem Fr1.rd {H:Hp} {p:Addr} {vs:List V} (h:Fr1 H p vs):Rd H p (.lst vs):=.inr h
noncomputable def AtO (p:Addr) (o:Obj):HO:=.frz o (.ext fun h=>h.get? p=some o)
noncomputable def XFs (H:Hp) (dc:Option Addr) (fs:List (Str × Int)):Prop:=(dc=none/\fs=[])\/∃dx od,dc=some dx/\H dx=some (.frz od (.xd (fs.map fun x=>(x.1,V.int x.2))))
mutual
inductive aC (K:PySem.W.Frag) (g:Str->Option Addr) (α:List Addr) (H:Hp):D->V->Prop where
 | non:aC K g α H .non .non
 | bl (b):aC K g α H (.bl b) (.bl b)
 | int (i):aC K g α H (.int i) (.int i)
 | str (x):aC K g α H (.str x) (.str x)
 | ref {n p}:α[n]?=some p->aC K g α H (.ref n) (.ref p)
 | tup {ds p vs}:H p=some (.tup vs)->av K g α H ds vs->aC K g α H (.tup ds) (.ref p)
 | frl {ds p vs}:Fr1 H p vs->av K g α H ds vs->aC K g α H (.frl ds) (.ref p)
 | scr {ds p vs}:Fro K H p vs->av K g α H ds vs->aC K g α H (.scr ds) (.ref p)
 | fn {x f}:g x=some f->aC K g α H (.fn x) (.ref f)
 | edic {p o}:H p=some (.frz o (.dK []))->aC K g α H .edic (.ref p)
 | exc {c C p o fs}:g c=some C->H p=some (AtO p o)->o.cls=.ref C->(∃vs,o.data=.fields vs)->XFs H o.dict fs->aC K g α H (.exc c fs) (.ref p)
inductive av (K:PySem.W.Frag) (g:Str->Option Addr) (α:List Addr) (H:Hp):List D->List V->Prop where
 | nil:av K g α H [] []
 | cons {d v ds vs}:aC K g α H d v->av K g α H ds vs->av K g α H (d::ds) (v::vs)
end
structure Ex0 (K:PySem.W.Frag) (α:List Addr) (H:Hp) (α':List Addr) (H':Hp):Prop where
 pre:α <+: α'
 tup:∀(p:Addr) (xs:List V),H p=some (.tup xs)->H' p=some (.tup xs)
 frz:∀(p:Addr) (o:Obj) (u:HO),H p=some (.frz o u)->H' p=some (.frz o u)
theorem Ex0.fro {K:PySem.W.Frag} {α α':List Addr} {H H':Hp} (e:Ex0 K α H α' H') (p:Addr) (xs:List V) (h:Fro K H p xs):Fro K H' p xs:=by
 rcases h with⟨o,h⟩ | h
 ·exact .inl ⟨o,e.frz _ _ _ h⟩
 ·exact .inr h
theorem Ex0.fr1 {K:PySem.W.Frag} {α α':List Addr} {H H':Hp} (e:Ex0 K α H α' H') (p:Addr) (xs:List V) (h:Fr1 H p xs):Fr1 H' p xs:=let ⟨o,h⟩:=h;⟨o,e.frz _ _ _ h⟩
structure Ext (K:PySem.W.Frag) (α:List Addr) (H:Hp) (α':List Addr) (H':Hp):Prop extends Ex0 K α H α' H' where
 keep:∀p o,H p=some o->p∉α->H' p=some o
 new:∀p,p∈α'->p∉α->H p=none
section
variable {K:PySem.W.Frag} {g:Str->Option Addr} {α α' α'':List Addr} {H H' H'':Hp}
theorem Ex0.refl:Ex0 K α H α H:=⟨List.prefix_refl _,fun _ _ h=>h,fun _ _ _ h=>h⟩
theorem Ex0.trans (a:Ex0 K α H α' H') (b:Ex0 K α' H' α'' H''):Ex0 K α H α'' H'':=⟨a.pre.trans b.pre,fun p xs h=>b.tup p xs (a.tup p xs h),fun p o u h=>b.frz p o u (a.frz p o u h)⟩
theorem Ext.refl:Ext K α H α H:=⟨.refl,fun _ _ h _=>h,fun _ h n=>absurd h n⟩
theorem Ext.trans (a:Ext K α H α' H') (b:Ext K α' H' α'' H''):Ext K α H α'' H'':=⟨a.toEx0.trans b.toEx0,fun p o h n=>b.keep p o (a.keep p o h n) (fun z=>by rw[a.new p z n] at h;cases h),fun p z n=>by
  by_cases q:p∈α'
  ·exact a.new p q n
  ·have:=b.new p z q
   cases e:H p with
   | none=>rfl
   | some o=>rw[a.keep p o e n] at this;cases this⟩
theorem Ex0.get (e:Ex0 K α H α' H') {n:Nat} {p:Addr} (h:α[n]?=some p):α'[n]?=some p:=by
 obtain⟨t,rfl⟩:=e.pre
 have hl:n<α.length:=by
  by_cases hl:n<α.length
  ·exact hl
  ·rw[List.getElem?_eq_none (by omega)] at h;cases h
 rw[List.getElem?_append_left hl];exact h
mutual
theorem aC.ex0 (e:Ex0 K α H α' H'):∀{d:D} {v:V},aC K g α H d v->aC K g α' H' d v
 | _,_,.non=>.non
 | _,_,.bl b=>.bl b
 | _,_,.int i=>.int i
 | _,_,.str x=>.str x
 | _,_,.ref h=>.ref (e.get h)
 | _,_,.tup h r=>.tup (e.tup _ _ h) (av.ex0 e r)
 | _,_,.frl h r=>.frl (e.fr1 _ _ h) (av.ex0 e r)
 | _,_,.scr h r=>.scr (e.fro _ _ h) (av.ex0 e r)
 | _,_,.fn h=>.fn h
 | _,_,.edic h=>.edic (e.frz _ _ _ h)
 | _,_,.exc hg h hc hd hf=>.exc hg (e.frz _ _ _ h) hc hd (hf.elim .inl fun⟨dx,od,a,b⟩=>.inr ⟨dx,od,a,e.frz _ _ _ b⟩)
theorem av.ex0 (e:Ex0 K α H α' H'):∀{ds:List D} {vs:List V},av K g α H ds vs->av K g α' H' ds vs
 | _,_,.nil=>.nil
 | _,_,.cons r t=>.cons (aC.ex0 e r) (av.ex0 e t)
end
theorem aC.ext (e:Ext K α H α' H') {d:D} {v:V} (r:aC K g α H d v):aC K g α' H' d v:=r.ex0 e.toEx0
theorem av.ext (e:Ext K α H α' H') {d:List D} {v:List V} (r:av K g α H d v):av K g α' H' d v:=r.ex0 e.toEx0
theorem av.length:∀{ds:List D} {vs:List V},av K g α H ds vs->ds.length=vs.length
 | _,_,.nil=>rfl
 | _,_,.cons _ t=>by simp[av.length t]
theorem av.append:∀{ds es:List D} {vs us:List V},av K g α H ds vs->av K g α H es us->av K g α H (ds++es) (vs++us)
 | _,_,_,_,.nil,s=>s
 | _,_,_,_,.cons r t,s=>.cons r (av.append t s)
theorem av.get:∀{ds:List D} {vs:List V} {i:Nat} {d:D},av K g α H ds vs->ds[i]?=some d->∃v,vs[i]?=some v/\aC K g α H d v
 | _,_,_,_,.nil,e=>by simp at e
 | _,_,0,_,.cons r _,e=>by simp at e;subst e;exact⟨_,rfl,r⟩
 | _,_,i+1,d,.cons _ t,e=>by
  obtain⟨u,h1,h2⟩:=av.get (i:=i) (d:=d) t (by simpa using e)
  exact⟨u,by simpa using h1,h2⟩
theorem av.set {d:D} {v:V} (r:aC K g α H d v):∀{ds:List D} {vs:List V} (i:Nat),av K g α H ds vs->av K g α H (ds.set i d) (vs.set i v)
 | _,_,_,.nil=>.nil
 | _,_,0,.cons _ t=>.cons r t
 | _,_,i+1,.cons q t=>.cons q (av.set r i t)
theorem av.take:∀{ds:List D} {vs:List V} (n:Nat),av K g α H ds vs->av K g α H (ds.take n) (vs.take n)
 | _,_,0,_=>.nil
 | _,_,_+1,.nil=>.nil
 | _,_,n+1,.cons r t=>.cons r (av.take n t)
theorem av.drop:∀{ds:List D} {vs:List V} (n:Nat),av K g α H ds vs->av K g α H (ds.drop n) (vs.drop n)
 | _,_,0,r=>r
 | _,_,_+1,.nil=>.nil
 | _,_,n+1,.cons _ t=>av.drop n t
theorem av.ints (ns:List Int):av K g α H (ns.map D.int) (ns.map V.int):=by
 induction ns with
 | nil=>exact .nil
 | cons n r ih=>exact .cons (.int n) ih
theorem av.uJ:∀{ns:List Int} {vs:List V},av K g α H (ns.map D.int) vs->vs=ns.map V.int
 | [],_,.nil=>rfl
 | n::r,_,.cons (.int _) t=>by rw[av.uJ t];rfl
theorem av.flat {ds:List D} {vs:List V} (r:av K g α H ds vs):∀k,av K g α H (List.replicate k ds).flatten (List.replicate k vs).flatten
 | 0=>.nil
 | k+1=>by rw[List.replicate_succ,List.replicate_succ,List.flatten_cons,List.flatten_cons];exact r.append (av.flat r k)
end
noncomputable def OAt (K:PySem.W.Frag) (g:Str->Option Addr) (α:List Addr) (H:Hp) (p:Addr):O->Prop
 | .lst ds=>∃vs,H p=some (.lst vs)/\av K g α H ds vs
 | .set ns=>H p=some (.set (fun k=>ns.any (· == k)) ns.length)
 | .dic kvs=>∃kws,H p=some (.dK kws)/\Paired (fun(a:Key × D) (b:Key × V)=>a.1=b.1/\aC K g α H a.2 b.2) kvs kws
 | .dit kvs=>∃kws,H p=some (.dT kws)/\Paired (fun(a:List Key × D) (b:List Key × V)=>a.1=b.1/\aC K g α H a.2 b.2) kvs kws
structure aM (K:PySem.W.Frag) (g:Str->Option Addr) (α:List Addr) (H:Hp) (h:Hh):Prop where
 len:α.length=h.length
 inj:∀(n m:Nat) (p:Addr),α[n]?=some p->α[m]?=some p->n=m
 here:∀(n:Nat) (p:Addr) (o:O),α[n]?=some p->h[n]?=some o->OAt K g α H p o
section
variable {K:PySem.W.Frag} {g:Str->Option Addr} {α α':List Addr} {H H':Hp} {h:Hh}
theorem Paired.DF {kvs:List (Key × D)} {kws:List (Key × V)} (e:Ex0 K α H α' H') (r:Paired (fun(a:Key × D) (b:Key × V)=>a.1=b.1/\aC K g α H a.2 b.2) kvs kws) :
  Paired (fun(a:Key × D) (b:Key × V)=>a.1=b.1/\aC K g α' H' a.2 b.2) kvs kws:=L2.Paired.Ar r fun _ _ q=>⟨q.1,q.2.ex0 e⟩
theorem Paired.Dg {kvs:List (List Key × D)} {kws:List (List Key × V)} (e:Ex0 K α H α' H') (r:Paired (fun(a:List Key × D) (b:List Key × V)=>a.1=b.1/\aC K g α H a.2 b.2) kvs kws) :
  Paired (fun(a:List Key × D) (b:List Key × V)=>a.1=b.1/\aC K g α' H' a.2 b.2) kvs kws:=L2.Paired.Ar r fun _ _ q=>⟨q.1,q.2.ex0 e⟩
theorem OAt.isS {p:Addr} {o:O} (h:OAt K g α H p o):∃u,H p=some u/\(∀ys,u≠.tup ys)/\∀w ys,u≠.frz w ys:=by
 cases o with
 | lst ds=>obtain⟨vs,e,_⟩:=h;exact⟨_,e,fun _ z=>(nomatch z),fun _ _ z=>nomatch z⟩
 | set n=>exact⟨_,h,fun _ z=>(nomatch z),fun _ _ z=>nomatch z⟩
 | dic kvs=>obtain⟨vs,e,_⟩:=h;exact⟨_,e,fun _ z=>(nomatch z),fun _ _ z=>nomatch z⟩
 | dit kvs=>obtain⟨vs,e,_⟩:=h;exact⟨_,e,fun _ z=>(nomatch z),fun _ _ z=>nomatch z⟩
theorem aM.mem (r:aM K g α H h) {p:Addr} (hp:p∈α):∃u,H p=some u/\(∀ys,u≠.tup ys)/\∀w ys,u≠.frz w ys:=by
 obtain⟨n,hn,e⟩:=List.getElem_of_mem hp
 have hn':n<h.length:=by rw[<- r.len];exact hn
 exact(r.here n p _ (by rw[List.getElem?_eq_getElem hn,e]) (List.getElem?_eq_getElem hn')).isS
theorem OAt.ex0 {p:Addr} {o:O} (e:Ex0 K α H α' H') (h:OAt K g α H p o) (k:∀u,H p=some u->H' p=some u):OAt K g α' H' p o:=by
 cases o with
 | lst ds=>obtain⟨vs,a,r⟩:=h;exact⟨vs,k _ a,r.ex0 e⟩
 | set n=>exact k _ h
 | dic kvs=>obtain⟨kws,a,r⟩:=h;exact⟨kws,k _ a,Paired.DF e r⟩
 | dit kvs=>obtain⟨kws,a,r⟩:=h;exact⟨kws,k _ a,Paired.Dg e r⟩
noncomputable def wo (H:Hp) (p:Addr):Prop:=H p=none\/∃u,H p=some u/\(∀ys,u≠.tup ys)/\∀w ys,u≠.frz w ys
theorem Ex0.upd {p:Addr} {o:HO} (n:wo H p):Ex0 K α H α (upd H p o):=by
 have ne:∀q u,H q=some u->((∃ys,u=.tup ys)\/∃w ys,u=.frz w ys)->q≠p:=by
  rintro q u e z rfl
  rcases n with n | ⟨u',e',n1,n2⟩
  ·rw[e] at n;cases n
  ·rw[e] at e';cases e'
   rcases z with⟨ys,z⟩ | ⟨w,ys,z⟩
   ·exact n1 _ z
   ·exact n2 _ _ z
 refine⟨List.prefix_refl _,fun q xs h=>?_,fun q o u h=>?_⟩
 ·rw[aH (ne q _ h (.inl ⟨_,rfl⟩))];exact h
 ·rw[aH (ne q _ h (.inr ⟨_,_,rfl⟩))];exact h
theorem Ex0.more (e:Ex0 K α H α H') (l:List Addr):Ex0 K α H (α++l) H':=⟨List.prefix_append _ _,e.tup,e.frz⟩
theorem Ext.fresh {p:Addr} {o:HO} (n:H p=none):Ext K α H α (upd H p o):=⟨Ex0.upd (.inl n),fun q u h _=>by rw[aH (bH h n)];exact h,fun _ z m=>absurd z m⟩
theorem Ext.push {p:Addr} {o:HO} (n:H p=none):Ext K α H (α++[p]) (upd H p o):=⟨(Ex0.upd (.inl n)).more _,fun q u h _=>by rw[aH (bH h n)];exact h,fun q z m=>by
 rcases List.mem_append.mp z with z | z
 ·exact absurd z m
 ·rw[List.mem_singleton.mp z];exact n⟩
theorem aM.off {p:Addr} {o:HO} (r:aM K g α H h) (n:wo H p) (m:p∉α):aM K g α (upd H p o) h:=by
 refine⟨r.len,r.inj,fun k q u a b=>(r.here k q u a b).ex0 (Ex0.upd n) fun w e=>?_⟩
 rw[aH];exact e
 rintro rfl;exact m (List.mem_of_getElem? a)
theorem aM.free (r:aM K g α H h) {p:Addr} (n:H p=none):p∉α:=fun z=>by
 obtain⟨u,e,_⟩:=r.mem z
 rw[n] at e;cases e
theorem aM.grow {p:Addr} {o:HO} (r:aM K g α H h) (n:H p=none):aM K g α (upd H p o) h:=r.off (.inl n) (r.free n)
theorem aM.adopt {p:Addr} {u:O} (r:aM K g α H h) (n:p∉α) (a:OAt K g (α++[p]) H p u):aM K g (α++[p]) H (h++[u]):=by
 have old:∀{m:Nat} {q:Addr},(α++[p])[m]?=some q->(α[m]?=some q)\/(m=α.length/\q=p):=by
  intro m q h1
  by_cases hm:m<α.length
  ·rw[List.getElem?_append_left hm] at h1
   exact .inl h1
  ·have hl:m<(α++[p]).length:=by
    by_cases hl:m<(α++[p]).length
    ·exact hl
    ·rw[List.getElem?_eq_none (by omega)] at h1;cases h1
   have e:m=α.length:=by simp at hl;omega
   subst e
   rw[List.getElem?_append_right (Nat.le_refl _)] at h1
   simp at h1
   exact .inr ⟨rfl,h1.symm⟩
 refine⟨by simp[r.len],fun m k q h1 h2=>?_,fun m q w h1 h2=>?_⟩
 ·rcases old h1 with a1 | ⟨e1,e2⟩
  ·rcases old h2 with a2 | ⟨e3,e4⟩
   ·exact r.inj m k q a1 a2
   ·rw[e4] at a1;exact absurd (List.mem_of_getElem? a1) n
  ·rcases old h2 with a2 | ⟨e3,e4⟩
   ·rw[e2] at a2;exact absurd (List.mem_of_getElem? a2) n
   ·rw[e1,e3]
 ·rcases old h1 with a1 | ⟨e1,e2⟩
  ·have hm:m<α.length:=by
    by_cases hl:m<α.length
    ·exact hl
    ·rw[List.getElem?_eq_none (by omega)] at a1;cases a1
   rw[List.getElem?_append_left (by rw[<- r.len];exact hm)] at h2
   exact(r.here m q w a1 h2).ex0 (Ex0.refl.more _) fun _ z=>z
  ·subst e1 e2
   rw[r.len,List.getElem?_append_right (Nat.le_refl _)] at h2
   simp at h2
   subst h2
   exact a
theorem aM.push {p:Addr} {o:HO} {u:O} (r:aM K g α H h) (n:H p=none) (a:OAt K g (α++[p]) (upd H p o) p u):aM K g (α++[p]) (upd H p o) (h++[u]):=(r.grow n).adopt (r.free n) a
theorem Ext.write {p:Addr} {o:HO} {k:Nat} (r:aM K g α H h) (hk:α[k]?=some p):Ext K α H α (upd H p o):=
 ⟨Ex0.upd (.inr (r.mem (List.mem_of_getElem? hk))),fun q u h m=>by
  rw[aH];exact h
  rintro rfl;exact m (List.mem_of_getElem? hk),fun _ z m=>absurd z m⟩
theorem aM.write {p:Addr} {o:HO} {u':O} {k:Nat} (r:aM K g α H h) (hk:α[k]?=some p) (a:OAt K g α (upd H p o) p u'):aM K g α (upd H p o) (h.set k u'):=by
 have x:Ext K α H α (upd H p o):=Ext.write r hk
 refine⟨by simp[r.len],r.inj,fun m q w h1 h2=>?_⟩
 rw[List.getElem?_set] at h2
 by_cases hm:k=m
 ·subst hm
  rw[if_pos rfl] at h2
  split at h2
  ·cases h2;rw[h1] at hk;cases hk;exact a
  ·cases h2
 ·rw[if_neg hm] at h2
  refine(r.here m q w h1 h2).ex0 x.toEx0 fun z e=>?_
  rw[aH];exact e
  rintro rfl;exact hm (r.inj _ _ _ hk h1)
end
noncomputable abbrev GG:=Str->Option Addr
noncomputable abbrev EE:=List Addr->Hp->Xc->Prop
structure ie (K:PySem.W.Frag) (g:GG) (α:List Addr) (H:Hp) (env:En) (σ:St):Prop where
 len:env.length=σ.length
 vars:∀(i:Nat) (d:D),env[i]?=some (some d)->∃v,σ[i]?=some (some v)/\aC K g α H d v
structure cG (K:PySem.W.Frag) (g:GG) (α:List Addr) (H:Hp) (env:En) (σ:St) (h:Hh):Prop where
 heap:aM K g α H h
 vs:ie K g α H env σ
noncomputable def WQ (K:PySem.W.Frag) (g:GG) (ε:EE) (α:List Addr) (H:Hp) {β:Type} (r:R β) (k:β->Hh->Prop):Prop:=match r with
 | .ok b h=>k b h
 | .err x h=>∀α' H',Ext K α H α' H'->aM K g α' H' h->ε α' H' x
 | .bad=>False
section
variable {K:PySem.W.Frag} {g:GG} {ε:EE} {α α':List Addr} {H H':Hp} {β γ:Type}
theorem WQ.bind {r:R β} {f:β->Hh->R γ} {k:γ->Hh->Prop} (w:WQ K g ε α H (r.bind f) k):WQ K g ε α H r fun b h=>WQ K g ε α H (f b h) k:=by
 cases r<;>exact w
theorem WQ.ext {r:R β} {k:β->Hh->Prop} (e:Ext K α H α' H') (w:WQ K g ε α H r k):WQ K g ε α' H' r k:=by
 cases r with
 | ok b h=>exact w
 | err x h=>exact fun a b c d=>w a b (e.trans c) d
 | bad=>exact w
theorem WQ.mono {r:R β} {k k':β->Hh->Prop} (w:WQ K g ε α H r k) (m:∀b h,r=.ok b h->k b h->k' b h):WQ K g ε α H r k':=by
 cases r with
 | ok b h=>exact m b h rfl w
 | err x h=>exact w
 | bad=>exact w
theorem ie.ext {env:En} {σ:St} (v:ie K g α H env σ) (e:Ext K α H α' H'):ie K g α' H' env σ:=
 ⟨v.len,fun i d h=>let ⟨x,a,b⟩:=v.vars i d h;⟨x,a,b.ext e⟩⟩
theorem cG.ext {env:En} {σ:St} {h h':Hh} (v:cG K g α H env σ h) (e:Ext K α H α' H') (r:aM K g α' H' h'):cG K g α' H' env σ h':=⟨r,v.vs.ext e⟩
theorem ie.set {env:En} {σ:St} {i:Nat} {d:D} {x:V} (v:ie K g α H env σ) (r:aC K g α H d x):ie K g α H (env.set i (some d)) (σ.set i (some x)):=by
 refine⟨by simp[v.len],fun j e h=>?_⟩
 rw[List.getElem?_set] at h ⊢
 by_cases hj:i=j
 ·subst hj
  rw[if_pos rfl] at h ⊢
  have hl:=v.len
  split at h
  ·rw[if_pos (by omega)]
   cases h
   exact⟨x,rfl,r⟩
  ·cases h
 ·rw[if_neg hj] at h ⊢
  exact v.vars j e h
end
noncomputable def aI (K:PySem.W.Frag) (g:GG) (α:List Addr) (H:Hp) (Q:VK):D->Hh->Prop:=fun d h=>∀v H' α',Ext K α H α' H'->aM K g α' H' h->aC K g α' H' d v->Q v H'
noncomputable def kr (K:PySem.W.Frag) (g:GG) (α:List Addr) (H:Hp) (Q:Bool->Hp->Prop):Bool->Hh->Prop:=fun b h=>∀H' α',Ext K α H α' H'->aM K g α' H' h->Q b H'
noncomputable def Dc (K:PySem.W.Frag) (g:GG) (α:List Addr) (H:Hp) (Q:List V->Hp->Prop):List D->Hh->Prop:=fun ds h=>∀vs H' α',Ext K α H α' H'->aM K g α' H' h->av K g α' H' ds vs->Q vs H'
noncomputable def cK (K:PySem.W.Frag) (g:GG) (α:List Addr) (H:Hp) (E:Ends):Fl->Hh->Prop:=fun fl h=>∀H' α',Ext K α H α' H'->aM K g α' H' h->match fl with
 | .nx e=>∀σ,ie K g α' H' e σ->E.nx σ H'
 | .bk e=>∀σ,ie K g α' H' e σ->E.bk σ H'
 | .ct e=>∀σ,ie K g α' H' e σ->E.ct σ H'
 | .rt d=>∀v,aC K g α' H' d v->E.rt v H'
noncomputable def tM (K:PySem.W.Frag) (g:GG) (ε:EE) (m:ME):TE:=fun σ H Q=>∃α env h,cG K g α H env σ h/\WQ K g ε α H (m env h) (aI K g α H Q)
noncomputable def tMT (K:PySem.W.Frag) (g:GG) (ε:EE) (m:MT):TT:=fun σ H Q=>∃α env h,cG K g α H env σ h/\WQ K g ε α H (m env h) (kr K g α H Q)
noncomputable def tMA (K:PySem.W.Frag) (g:GG) (ε:EE) (m:MA):TA:=fun σ H Q=>∃α env h,cG K g α H env σ h/\WQ K g ε α H (m env h) (Dc K g α H Q)
noncomputable def tMS (K:PySem.W.Frag) (g:GG) (ε:EE) (m:MS):TS:=fun E σ H=>∃α env h,cG K g α H env σ h/\WQ K g ε α H (m env h) (cK K g α H E)
section
variable {K:PySem.W.Frag} {g:GG} {ε:EE} {α α':List Addr} {H H':Hp} {env:En} {σ:St} {h:Hh}
theorem aI.ext {Q:VK} {d:D} (e:Ext K α H α' H') (p:aI K g α H Q d h):aI K g α' H' Q d h:=fun v H2 α2 e2 r rd=>p v H2 α2 (e.trans e2) r rd
theorem kr.ext {Q:Bool->Hp->Prop} {d:Bool} (e:Ext K α H α' H') (p:kr K g α H Q d h):kr K g α' H' Q d h:=fun H2 α2 e2 r=>p H2 α2 (e.trans e2) r
theorem cK.ext {E:Ends} {d:Fl} (e:Ext K α H α' H') (p:cK K g α H E d h):cK K g α' H' E d h:=fun H2 α2 e2 r=>p H2 α2 (e.trans e2) r
theorem WQ.post {Q:VK} {r:R D} (e:Ext K α H α' H') (w:WQ K g ε α H r (aI K g α H Q)):WQ K g ε α' H' r (aI K g α' H' Q):=(w.ext e).mono fun _ _ _ p=>p.ext e
theorem WQ.Ef {Q:Bool->Hp->Prop} {r:R Bool} (e:Ext K α H α' H') (w:WQ K g ε α H r (kr K g α H Q)):WQ K g ε α' H' r (kr K g α' H' Q):=(w.ext e).mono fun _ _ _ p=>p.ext e
theorem WQ.tZ {E:Ends} {r:R Fl} (e:Ext K α H α' H') (w:WQ K g ε α H r (cK K g α H E)):WQ K g ε α' H' r (cK K g α' H' E):=(w.ext e).mono fun _ _ _ p=>p.ext e
theorem tM.use {m:ME} {Q:VK} {k:D->Hh->Prop} (s:cG K g α H env σ h) (w:WQ K g ε α H (m env h) k)
  (q:∀d h' v H' α',Ext K α H α' H'->cG K g α' H' env σ h'->aC K g α' H' d v->k d h'->Q v H'):tM K g ε m σ H Q:=
 ⟨α,env,h,s,w.mono fun d h' _ kk v H' α' e r rd=>q d h' v H' α' e (s.ext e r) rd kk⟩
theorem tMT.use {m:MT} {Q:Bool->Hp->Prop} {k:Bool->Hh->Prop} (s:cG K g α H env σ h) (w:WQ K g ε α H (m env h) k)
  (q:∀d h' H' α',Ext K α H α' H'->cG K g α' H' env σ h'->k d h'->Q d H'):tMT K g ε m σ H Q:=
 ⟨α,env,h,s,w.mono fun d h' _ kk H' α' e r=>q d h' H' α' e (s.ext e r) kk⟩
theorem tMA.use {m:MA} {Q:List V->Hp->Prop} {k:List D->Hh->Prop} (s:cG K g α H env σ h) (w:WQ K g ε α H (m env h) k)
  (q:∀d h' v H' α',Ext K α H α' H'->cG K g α' H' env σ h'->av K g α' H' d v->k d h'->Q v H'):tMA K g ε m σ H Q:=
 ⟨α,env,h,s,w.mono fun d h' _ kk v H' α' e r rd=>q d h' v H' α' e (s.ext e r) rd kk⟩
theorem aI.now {Q:VK} {d:D} {v:V} (p:aI K g α H Q d h) (r:aM K g α H h) (rd:aC K g α H d v):Q v H:=p v H α Ext.refl r rd
end
theorem PE.imp {X:Cx} {e:Expr} {t t':TE} (h:PE X e t) (i:∀σ H Q,t' σ H Q->t σ H Q):PE X e t':=fun pins s σ H Q I w=>h pins s σ H Q I (i σ H Q w)
theorem PT.imp {X:Cx} {e:Expr} {t t':TT} (h:PT X e t) (i:∀σ H Q,t' σ H Q->t σ H Q):PT X e t':=fun pins s σ H Q I w=>h pins s σ H Q I (i σ H Q w)
theorem PW.imp {X:Cx} {e:Expr} {t t':TT} (h:PW X e t) (i:∀σ H Q,t' σ H Q->t σ H Q):PW X e t':=fun wh pins s σ H Q I w=>h wh pins s σ H Q I (i σ H Q w)
theorem PA.imp {X:Cx} {e:List Expr} {t t':TA} (h:PA X e t) (i:∀σ H Q,t' σ H Q->t σ H Q):PA X e t':=fun p pins s σ H Q I w=>h p pins s σ H Q I (i σ H Q w)
theorem PS.imp {X:Cx} {e:Stmt} {t t':TS} (h:PS X e t) (i:∀σ H Q,t' σ H Q->t σ H Q):PS X e t':=fun pins s σ H Q I w=>h pins s σ H Q I (i Q σ H w)
theorem PSs.imp {X:Cx} {e:List Stmt} {t t':TS} (h:PSs X e t) (i:∀σ H Q,t' σ H Q->t σ H Q):PSs X e t':=fun pins s σ H Q I w=>h pins s σ H Q I (i Q σ H w)
noncomputable def ag (i:Nat):ME:=fun env h=>match env[i]? with
 | some (some d)=>.ok d h
 | _=>.bad
noncomputable def cC (d:D):ME:=fun _ h=>.ok d h
noncomputable def au (f:D->D->Hh->R D) (a b:ME):ME:=fun env h=>(a env h).bind fun x h1=>(b env h1).bind fun y h2=>f x y h2
noncomputable def cUn (f:D->Hh->R D) (a:ME):ME:=fun env h=>(a env h).bind fun x h1=>f x h1
noncomputable def ak:MA:=fun _ h=>.ok [] h
noncomputable def aa (a:ME) (r:MA):MA:=fun env h=>(a env h).bind fun x h1=>(r env h1).bind fun xs h2=>.ok (x::xs) h2
noncomputable def ah (f:List D->Hh->R D) (a:MA):ME:=fun env h=>(a env h).bind fun xs h1=>f xs h1
noncomputable def a_ (f:D->Hh->R Bool) (a:ME):MT:=fun env h=>(a env h).bind fun x h1=>f x h1
noncomputable def lQ (a:MT):MT:=fun env h=>(a env h).bind fun b h1=>.ok (!b) h1
noncomputable def xK (a b:MT):MT:=fun env h=>(a env h).bind fun x h1=>if x=true then b env h1 else .ok false h1
noncomputable def AA (a b:MT):MT:=fun env h=>(a env h).bind fun x h1=>if x=true then .ok true h1 else b env h1
noncomputable def cIf (c:MT) (a b:ME):ME:=fun env h=>(c env h).bind fun x h1=>if x=true then a env h1 else b env h1
noncomputable def asB:D->Hh->R Bool
 | .bl b,h=>.ok b h
 | _,_=>.bad
noncomputable def uM (a b:ME):ME:=fun env h=>(a env h).bind fun x h1=>(asB x h1).bind fun k h2=>if k=true then b env h2 else .ok (.bl false) h2
noncomputable def xq (a:ME):ME:=fun env h=>(a env h).bind fun x h1=>(asB x h1).bind fun k h2=>.ok (.bl (!k)) h2
noncomputable def qc (f f':D->D->Hh->R D) (a b c:ME):ME:=fun env h=>(a env h).bind fun x h1=>(b env h1).bind fun y h2=>(f x y h2).bind fun z h3=>(asB z h3).bind fun k h4=>
 if k=true then (c env h4).bind fun w h5=>f' y w h5 else .ok (.bl false) h4
noncomputable def ec (K:PySem.W.Frag) (g:GG) (ε:EE) (f:D->D->Hh->R D) (r:R2):Prop:=
 ∀(α:List Addr) (H:Hp) (h:Hh) (a b:D) (x y:V) (Q:VK),aM K g α H h->aC K g α H a x->aC K g α H b y->WQ K g ε α H (f a b h) (aI K g α H Q)->r x y H Q
noncomputable def D9 (K:PySem.W.Frag) (g:GG) (ε:EE) (f:D->Hh->R D) (r:V->Hp->VK->Prop):Prop:=
 ∀(α:List Addr) (H:Hp) (h:Hh) (a:D) (x:V) (Q:VK),aM K g α H h->aC K g α H a x->WQ K g ε α H (f a h) (aI K g α H Q)->r x H Q
noncomputable def C2 (K:PySem.W.Frag) (g:GG) (ε:EE) (f:D->Hh->R Bool) (r:V->Hp->(Bool->Hp->Prop)->Prop):Prop:=
 ∀(α:List Addr) (H:Hp) (h:Hh) (a:D) (x:V) (Q:Bool->Hp->Prop),aM K g α H h->aC K g α H a x->WQ K g ε α H (f a h) (kr K g α H Q)->r x H Q
noncomputable def kG (K:PySem.W.Frag) (g:GG) (ε:EE) (f:List D->Hh->R D) (r:List V->Hp->VK->Prop):Prop:=
 ∀(α:List Addr) (H:Hp) (h:Hh) (a:List D) (x:List V) (Q:VK),aM K g α H h->av K g α H a x->WQ K g ε α H (f a h) (aI K g α H Q)->r x H Q
noncomputable def Dl (K:PySem.W.Frag) (g:GG) (ε:EE) (f:D->List D->Hh->R D) (r:V->List V->Hp->VK->Prop):Prop:=
 ∀(α:List Addr) (H:Hp) (h:Hh) (o:D) (a:List D) (y:V) (x:List V) (Q:VK),aM K g α H h->aC K g α H o y->av K g α H a x->WQ K g ε α H (f o a h) (aI K g α H Q)->r y x H Q
section
variable {X:Cx} {g:GG} {ε:EE} {a b c:Expr} {ma mb mc:ME} {pos:Pos}
theorem ae (i:Nat) {x:Str} {pos:Pos} (hN:X.N[i]?=some x:=by rfl) (hv:Vis X.env.scope x:=by first | exact Or.inl rfl | exact Or.inr (Or.inl rfl) | exact Or.inr (Or.inr rfl)) (hd:(x == ("__debug__" : Str))=false:=by decide)
  (hcd:(x == ("__classdict__" : Str))=false:=by decide):PE X (.Name x pos) (tM X.K g ε (ag i)):=by
 refine PE.imp (Cf hN hv hd hcd) fun σ H Q ⟨α,env,h,s,w⟩=>?_
 unfold ag at w
 cases e:env[i]? with
 | none=>rw[e] at w;exact w.elim
 | some d=>
  cases d with
  | none=>rw[e] at w;exact w.elim
  | some d=>
   rw[e] at w
   obtain⟨v,hv,rd⟩:=s.vs.vars i d e
   exact⟨v,hv,aI.now w s.heap rd⟩
theorem ye {v:V} {d:D} {Q:VK} {σ:St} {H:Hp} (rd:∀α,aC X.K g α H d v) (t:tM X.K g ε (cC d) σ H Q):tC v σ H Q:=by
 obtain⟨α,env,h,s,w⟩:=t
 exact aI.now w s.heap (rd α)
theorem aq {i j pos}:PE X (.Constant (.int i) j pos) (tM X.K g ε (cC (.int i))):=PE.imp B5 fun _ _ _ t=>ye (fun _=>.int i) t
theorem nQ {i j pos}:PE X (.Constant (.bool i) j pos) (tM X.K g ε (cC (.bl i))):=PE.imp CZ fun _ _ _ t=>ye (fun _=>.bl i) t
theorem fL {x:Str} {i:Int} {t:Tok} {pos:Pos} (hg:Gl X x) (hm:X.mg x=some (.int i t)) (hd:(x == ("__debug__" : Str))=false:=by decide):PE X (.Name x pos) (tM X.K g ε (cC (.int i))):=
 PE.imp (zX (v:=.int i) hg hm ⟨t,rfl⟩ hd) fun _ _ _ t=>ye (fun _=>.int i) t
theorem pO {f:D->D->Hh->R D} {r:R2} {K:PySem.W.Frag} (im:ec K g ε f r) {σ:St} {H:Hp} {Q:VK} (t:tM K g ε (au f ma mb) σ H Q):tOp r (tM K g ε ma) (tM K g ε mb) σ H Q:=by
 obtain⟨α,env,h,s,w⟩:=t
 refine tM.use s w.bind fun d1 h1 v1 H1 α1 e1 s1 r1 w1=>?_
 refine tM.use s1 (w1.ext e1).bind fun d2 h2 v2 H2 α2 e2 s2 r2 w2=>?_
 exact im α2 H2 h2 d1 d2 v1 v2 Q s2.heap (r1.ext e2) r2 ((w2.ext e2).mono fun _ _ _ p=>p.ext (e1.trans e2))
theorem aA {op:Operator} {r:R2} {f:D->D->Hh->R D} (ho:OpR X (binaryOp op) r) (im:ec X.K g ε f r) (ha:PE X a (tM X.K g ε ma)) (hb:PE X b (tM X.K g ε mb)):PE X (.BinOp a op b pos) (tM X.K g ε (au f ma mb)):=
 PE.imp (Eb ho ha hb) fun _ _ _ t=>pO im t
theorem yB {op:CmpOp} {r:R2} {f:D->D->Hh->R D} (ho:OpR X (compareOp op) r) (im:ec X.K g ε f r) (ha:PE X a (tM X.K g ε ma)) (hb:PE X b (tM X.K g ε mb)) (hm:behindInMarks op b=false):PE X (.Compare a [op] [b] pos) (tM X.K g ε (au f ma mb)):=
 PE.imp (Ax ho ha hb hm) fun _ _ _ t=>pO im t
theorem yu {K:PySem.W.Frag} {m:ME} {t:TE} (ht:∀σ H Q,tM K g ε m σ H Q->t σ H Q) {σ:St} {H:Hp} {Q:Bool->Hp->Prop} (w:tMT K g ε (a_ asB m) σ H Q):Bk t σ H Q:=by
 obtain⟨α,env,h,s,w⟩:=w
 refine ht _ _ _ (tM.use s w.bind fun d1 h1 v1 H1 α1 e1 s1 r1 w1=>?_)
 unfold asB at w1
 cases r1 with
 | bl k=>exact⟨k,rfl,w1 H1 α1 e1 s1.heap⟩
 | _=>exact w1.elim
theorem cH {op:CmpOp} {r:R2} {f:D->D->Hh->R D} (ho:OpR X (compareOp op) r) (im:ec X.K g ε f r) (ha:PE X a (tM X.K g ε ma)) (hb:PE X b (tM X.K g ε mb)) (hm:behindInMarks op b=false):PT X (.Compare a [op] [b] pos) (tMT X.K g ε (a_ asB (au f ma mb))):=
 PT.imp (Af ho ha hb hm) fun _ _ _ t=>yu (fun _ _ _ u=>pO im u) t
theorem u_ {f f':D->D->Hh->R D} {r r':R2} {K:PySem.W.Frag} (im:ec K g ε f r) (im':ec K g ε f' r') {σ:St} {H:Hp} {Q:VK} (t:tM K g ε (qc f f' ma mb mc) σ H Q):xN r r' (tM K g ε ma) (tM K g ε mb) (tM K g ε mc) σ H Q:=by
 obtain⟨α,env,h,s,w⟩:=t
 refine tM.use s w.bind fun d1 h1 v1 H1 α1 e1 s1 r1 w1=>?_
 refine tM.use s1 (w1.ext e1).bind fun d2 h2 v2 H2 α2 e2 s2 r2 w2=>?_
 refine im α2 H2 h2 d1 d2 v1 v2 _ s2.heap (r1.ext e2) r2 ((w2.ext e2).bind.mono fun z h3 _ w3 v3 H3 α3 e3 hr3 r3=>?_)
 have w4:=w3.bind
 unfold asB at w4
 cases r3 with
 | bl k=>
  refine⟨k,rfl,?_⟩
  have s3:=s2.ext e3 hr3
  cases k with
  | true=>
   have w5:WQ K g ε α2 H2 ((mc env h3).bind fun w h5=>f' d2 w h5) _:=w4
   rw[if_pos rfl]
   refine tM.use s3 (w5.ext e3).bind fun d4 h4 v4 H4 α4 e4 s4 r4 w6=>?_
   exact im' α4 H4 h4 d2 d4 v2 v4 Q s4.heap (r2.ext (e3.trans e4)) r4 ((w6.ext e4).mono fun _ _ _ p=>p.ext (e1.trans (e2.trans (e3.trans e4))))
  | false=>
   rw[if_neg Bool.false_ne_true]
   have w5:aI K g α H Q (.bl false) h3:=w4
   exact w5 _ H3 α3 (e1.trans (e2.trans e3)) s3.heap (.bl false)
 | _=>exact w4.elim
theorem yj {op op':CmpOp} {r r':R2} {f f':D->D->Hh->R D} (ho:OpR X (compareOp op) r) (ho':OpR X (compareOp op') r') (im:ec X.K g ε f r) (im':ec X.K g ε f' r') (ha:PE X a (tM X.K g ε ma)) (hb:PE X b (tM X.K g ε mb)) (hc:PE X c (tM X.K g ε mc))
  (hm:lastMarks [op,op'] [b,c]=false:=by with_unfolding_all rfl):PE X (.Compare a [op,op'] [b,c] pos) (tM X.K g ε (qc f f' ma mb mc)):=PE.imp (xy ho ho' ha hb hc hm) fun _ _ _ t=>u_ im im' t
theorem kl {op:UnaryOp} {r:V->Hp->VK->Prop} {f:D->Hh->R D} (ho:UnR X (unaryOp op) r) (im:D9 X.K g ε f r) (ha:PE X a (tM X.K g ε ma)):PE X (.UnaryOp op a pos) (tM X.K g ε (cUn f ma)):=
 PE.imp (C6 ho ha) fun σ H Q ⟨α,env,h,s,w⟩=>tM.use s w.bind fun d1 h1 v1 H1 α1 e1 s1 r1 w1=>im α1 H1 h1 d1 v1 Q s1.heap r1 (w1.post e1)
theorem cJ {r:R2} {f:D->D->Hh->R D} (hr:IxR X r) (im:ec X.K g ε f r) (ha:PE X a (tM X.K g ε ma)) (hb:PE X b (tM X.K g ε mb)) (hs:t6 b):PE X (.Subscript a b pos) (tM X.K g ε (au f ma mb)):=
 PE.imp (Dh hr ha hb hs) fun _ _ _ t=>pO im t
theorem fE {f:D->Hh->R Bool} (im:C2 X.K g ε f (fun x H Q=>∃k,yV X.K x H k/\Q k H)) (ha:PE X a (tM X.K g ε ma)) (he:∀whole,isTrue a X.env whole=(do let v ← whole;standAt a.pos;holding [v] (truthy v))):PT X a (tMT X.K g ε (a_ f ma)):=
 PT.imp (xA ha he) fun σ H Q ⟨α,env,h,s,w⟩=>tM.use s w.bind fun d1 h1 v1 H1 α1 e1 s1 r1 w1=>im α1 H1 h1 d1 v1 Q s1.heap r1 (w1.Ef e1)
theorem pL {mt:MT} (ha:PT X a (tMT X.K g ε mt)):PT X (.UnaryOp .Not a pos) (tMT X.K g ε (lQ mt)):=
 PT.imp (Bx ha) fun σ H Q ⟨α,env,h,s,w⟩=>tMT.use s w.bind fun d1 h1 H1 α1 e1 s1 w1=>w1 H1 α1 e1 s1.heap
end
section
variable {X:Cx} {g:GG} {ε:EE} {a b c e:Expr} {es:List Expr} {rest:List Expr} {ma mb mc me:ME} {mt mu:MT} {pos:Pos}
theorem zq (ha:PT X a (tMT X.K g ε mt)):PW X (.BoolOp .And [a] pos) (tMT X.K g ε mt):=pw_and1 ha
theorem BN (ha:PT X a (tMT X.K g ε mt)):PW X (.BoolOp .Or [a] pos) (tMT X.K g ε mt):=pw_or1 ha
theorem BM (ha:PT X a (tMT X.K g ε mt)) (hb:PW X (.BoolOp .And (b::rest) pos) (tMT X.K g ε mu)):PW X (.BoolOp .And (a::b::rest) pos) (tMT X.K g ε (xK mt mu)):=
 PW.imp (pw_and ha hb) fun σ H Q ⟨α,env,h,s,w⟩=>tMT.use s w.bind fun d1 h1 H1 α1 e1 s1 w1=>by
  cases d1 with
  | true=>rw[if_pos rfl] at w1 ⊢;exact tMT.use s1 (w1.ext e1) fun d2 h2 H2 α2 e2 s2 w2=>w2 H2 α2 (e1.trans e2) s2.heap
  | false=>rw[if_neg Bool.false_ne_true] at w1 ⊢;exact w1 H1 α1 e1 s1.heap
theorem DY (ha:PT X a (tMT X.K g ε mt)) (hb:PW X (.BoolOp .Or (b::rest) pos) (tMT X.K g ε mu)):PW X (.BoolOp .Or (a::b::rest) pos) (tMT X.K g ε (AA mt mu)):=
 PW.imp (pw_or ha hb) fun σ H Q ⟨α,env,h,s,w⟩=>tMT.use s w.bind fun d1 h1 H1 α1 e1 s1 w1=>by
  cases d1 with
  | true=>rw[if_pos rfl] at w1 ⊢;exact w1 H1 α1 e1 s1.heap
  | false=>rw[if_neg Bool.false_ne_true] at w1 ⊢;exact tMT.use s1 (w1.ext e1) fun d2 h2 H2 α2 e2 s2 w2=>w2 H2 α2 (e1.trans e2) s2.heap
theorem rR (hc:PT X c (tMT X.K g ε mt)) (ha:PE X a (tM X.K g ε ma)) (hb:PE X b (tM X.K g ε mb)):PE X (.IfExp c a b pos) (tM X.K g ε (cIf mt ma mb)):=
 PE.imp (wu hc ha hb) fun σ H Q ⟨α,env,h,s,w⟩=>tMT.use s w.bind fun d1 h1 H1 α1 e1 s1 w1=>by
  cases d1 with
  | true=>rw[if_pos rfl] at w1 ⊢;exact tM.use s1 (w1.ext e1) fun d2 h2 v2 H2 α2 e2 s2 r2 w2=>w2 v2 H2 α2 (e1.trans e2) s2.heap r2
  | false=>rw[if_neg Bool.false_ne_true] at w1 ⊢;exact tM.use s1 (w1.ext e1) fun d2 h2 v2 H2 α2 e2 s2 r2 w2=>w2 v2 H2 α2 (e1.trans e2) s2.heap r2
theorem yc {op} (h:PE X a (tM X.K g ε ma)):PE X (.BoolOp op [a] pos) (tM X.K g ε ma):=Cv h
theorem wL {K:PySem.W.Frag} {α:List Addr} {H H1:Hp} {α1:List Addr} {d:D} {v:V} {h:Hh} {β:Type} {f:Bool->Hh->R β} {k:β->Hh->Prop} (r:aC K g α1 H1 d v) (w:WQ K g ε α H ((asB d h).bind f) k):∃b,v=.bl b/\d=.bl b/\WQ K g ε α H (f b h) k:=by
 cases r with
 | bl b=>exact⟨b,rfl,rfl,w⟩
 | _=>exact w.elim
theorem xw (ha:PE X a (tM X.K g ε ma)) (hb:PE X (.BoolOp .And (b::rest) pos) (tM X.K g ε mb)):PE X (.BoolOp .And (a::b::rest) pos) (tM X.K g ε (uM ma mb)):=
 PE.imp (B9 ha hb) fun σ H Q ⟨α,env,h,s,w⟩=>tM.use s w.bind fun d1 h1 v1 H1 α1 e1 s1 r1 w1=>by
  obtain⟨k,rfl,rfl,w2⟩:=wL r1 w1
  refine⟨k,rfl,?_⟩
  cases k with
  | true=>rw[if_pos rfl] at w2 ⊢;exact tM.use s1 (w2.ext e1) fun d2 h2 v2 H2 α2 e2 s2 r2 w2=>w2 v2 H2 α2 (e1.trans e2) s2.heap r2
  | false=>rw[if_neg Bool.false_ne_true] at w2 ⊢;exact w2 _ H1 α1 e1 s1.heap (.bl false)
theorem BI (ha:PE X a (tM X.K g ε ma)):PE X (.UnaryOp .Not a pos) (tM X.K g ε (xq ma)):=
 PE.imp (BV ha) fun σ H Q ⟨α,env,h,s,w⟩=>tM.use s w.bind fun d1 h1 v1 H1 α1 e1 s1 r1 w1=>by
  obtain⟨k,rfl,rfl,w2⟩:=wL r1 w1
  exact⟨k,rfl,w2 _ H1 α1 e1 s1.heap (.bl _)⟩
variable {mr:MA}
theorem aj:PA X [] (tMA X.K g ε ak):=PA.imp oX fun σ H Q ⟨α,env,h,s,w⟩=>w [] H α Ext.refl s.heap .nil
theorem af (ha:PE X e (tM X.K g ε ma)) (hr:PA X es (tMA X.K g ε mr)) (hs:starEach (e::es) X.env=(false,eval e X.env)::starEach es X.env:=by rfl):PA X (e::es) (tMA X.K g ε (aa ma mr)):=
 PA.imp (jJ ha hr hs) fun σ H Q ⟨α,env,h,s,w⟩=>tM.use s w.bind fun d1 h1 v1 H1 α1 e1 s1 r1 w1=>tMA.use s1 (w1.ext e1).bind fun d2 h2 v2 H2 α2 e2 s2 r2 w2=>w2 _ H2 α2 (e1.trans e2) s2.heap (.cons (r1.ext e2) r2)
noncomputable def cF:List D->Hh->R D:=fun ds h=>if ds.length<=1000000 then .ok (.tup ds) h else .bad
theorem aI.tup {K:PySem.W.Frag} {α:List Addr} {H:Hp} {h:Hh} {ds:List D} {vs:List V} {Q:VK} {p:Addr} (w:aI K g α H Q (.tup ds) h) (r:aM K g α H h) (rd:av K g α H ds vs) (n:H p=none):Q (.ref p) (upd H p (.tup vs)):=
 w _ _ α (Ext.fresh n) (r.grow n) (.tup aO (rd.ext (Ext.fresh n)))
theorem WQ.dH {K:PySem.W.Frag} {α:List Addr} {H:Hp} {β:Type} {c:Prop} [Decidable c] {r:R β} {k:β->Hh->Prop} (w:WQ K g ε α H (if c then r else .bad) k):c/\WQ K g ε α H r k:=by
 by_cases h:c
 ·rw[if_pos h] at w;exact⟨h,w⟩
 ·rw[if_neg h] at w;exact w.elim
theorem gm {n:Nat} (h:n<=1000000):n<=sizeLine:=by rw[sizeLine_eq];omega
theorem cP {x1} (ha:PA X es (tMA X.K g ε mr)):PE X (.Tuple es x1 pos) (tM X.K g ε (ah cF mr)):=
 PE.imp (Bu ha) fun σ H Q ⟨α,env,h,s,w⟩=>tMA.use s w.bind fun d1 h1 v1 H1 α1 e1 s1 r1 w1=>by
  obtain⟨hl,w2⟩:=WQ.dH w1
  exact⟨gm (by rw[<- r1.length];exact hl),fun p hp=>aI.tup (aI.ext e1 w2) s1.heap r1 hp⟩
theorem x_ {f:List D->Hh->R D} {r:List V->Hp->VK->Prop} {K:PySem.W.Frag} (im:kG K g ε f r) {σ:St} {H:Hp} {Q:VK} (t:tM K g ε (ah f mr) σ H Q):tCB r (tMA K g ε mr) σ H Q:=by
 obtain⟨α,env,h,s,w⟩:=t
 exact tMA.use s w.bind fun d1 h1 v1 H1 α1 e1 s1 r1 w1=>im α1 H1 h1 d1 v1 Q s1.heap r1 (w1.post e1)
theorem aW {id:String} {x:Str} {p:Pos} {f:List D->Hh->R D} {r:List V->Hp->VK->Prop} (hc:ba X (.builtin id) r) (im:kG X.K g ε f r) (hg:Gl X x) (hm:X.mg x=none) (hv:bootBuiltins x=some (.builtin id)) (ha:PA X (e::es) (tMA X.K g ε mr)) (hn:x≠"__name__" := by decide) (hdb:(x == ("__debug__" : Str))=false:=by decide)
  (he:starEach (e::es) X.env=(false,eval e X.env)::starEach es X.env:=by rfl) (hpl:(backTo pos (starEach es X.env)).any (·.1)=false:=by rfl):PE X (.Call (.Name x p) (e::es) [] pos) (tM X.K g ε (ah f mr)):=
 PE.imp (qs hc hg hm hv ha hn hdb he hpl) fun _ _ _ t=>x_ im t
theorem fG {id:String} {x:Str} {p:Pos} {f:List D->Hh->R D} {r:List V->Hp->VK->Prop} (hc:ba X (.type id) r) (im:kG X.K g ε f r) (hg:Gl X x) (hm:X.mg x=none) (hv:bootBuiltins x=some (.type id)) (ha:PA X (e::es) (tMA X.K g ε mr)) (hn:x≠"__name__" := by decide) (hdb:(x == ("__debug__" : Str))=false:=by decide)
  (he:starEach (e::es) X.env=(false,eval e X.env)::starEach es X.env:=by rfl) (hpl:(backTo pos (starEach es X.env)).any (·.1)=false:=by rfl):PE X (.Call (.Name x p) (e::es) [] pos) (tM X.K g ε (ah f mr)):=
 PE.imp (j3 hc hg hm hv ha hn hdb he hpl) fun _ _ _ t=>x_ im t
end
noncomputable def dI:MS:=fun env h=>.ok (.nx env) h
noncomputable def aF (a b:MS):MS:=fun env h=>(a env h).bind fun fl h1=>match fl with
 | .nx e=>b e h1
 | fl=>.ok fl h1
noncomputable def cV (a:ME):MS:=fun env h=>(a env h).bind fun _ h1=>.ok (.nx env) h1
noncomputable def bO (a:ME):MS:=fun env h=>(a env h).bind fun d h1=>.ok (.rt d) h1
noncomputable def iz (c:MT) (a b:MS):MS:=fun env h=>(c env h).bind fun x h1=>if x=true then a env h1 else b env h1
noncomputable def bb (i:Nat) (a:ME):MS:=fun env h=>(a env h).bind fun d h1=>.ok (.nx (env.set i (some d))) h1
noncomputable def mR (i j:Nat) (a:MA):MS:=fun env h=>(a env h).bind fun ds h1=>match ds with
 | [x,y]=>.ok (.nx ((env.set i (some x)).set j (some y))) h1
 | _=>.bad
noncomputable def pW (f:D->D->D->Hh->R Unit) (o i v:ME):MS:=fun env h=>(v env h).bind fun x h1=>(o env h1).bind fun y h2=>(i env h2).bind fun z h3=>(f y z x h3).bind fun _ h4=>.ok (.nx env) h4
noncomputable def DM:MS:=fun _ _=>.bad
section
variable {X:Cx} {g:GG} {ε:EE} {e:Expr} {me:ME} {ms mu:MS} {mt:MT} {st:Stmt} {rest:List Stmt} {pos:Pos}
theorem cG.nx {K:PySem.W.Frag} {α α':List Addr} {H H':Hp} {env:En} {σ:St} {h':Hh} {E:Ends} (s:cG K g α' H' env σ h') (e:Ext K α H α' H') (w:cK K g α H E (.nx env) h'):E.nx σ H':=w H' α' e s.heap σ s.vs
theorem dg:PSs X [] (tMS X.K g ε dI):=PSs.imp Ay fun E σ H ⟨α,env,h,s,w⟩=>s.nx Ext.refl w
theorem tMS.use {K:PySem.W.Frag} {α:List Addr} {H:Hp} {env:En} {σ:St} {h:Hh} {m:MS} {E:Ends} {k:Fl->Hh->Prop} (s:cG K g α H env σ h) (w:WQ K g ε α H (m env h) k)
  (q:∀fl h' H' α',Ext K α H α' H'->aM K g α' H' h'->k fl h'->match fl with
   | .nx e=>∀σ',cG K g α' H' e σ' h'->E.nx σ' H'
   | .bk e=>∀σ',cG K g α' H' e σ' h'->E.bk σ' H'
   | .ct e=>∀σ',cG K g α' H' e σ' h'->E.ct σ' H'
   | .rt d=>∀v,aC K g α' H' d v->E.rt v H'):tMS K g ε m E σ H:=
 ⟨α,env,h,s,w.mono fun fl h' _ kk H' α' e r=>by
  have:=q fl h' H' α' e r kk
  cases fl with
  | nx e=>exact fun σ' v=>this σ' ⟨r,v⟩
  | bk e=>exact fun σ' v=>this σ' ⟨r,v⟩
  | ct e=>exact fun σ' v=>this σ' ⟨r,v⟩
  | rt d=>exact this⟩
theorem ax (h1:PS X st (tMS X.K g ε ms)) (h2:PSs X rest (tMS X.K g ε mu)):PSs X (st::rest) (tMS X.K g ε (aF ms mu)):=
 PSs.imp (xh h1 h2) fun E σ H ⟨α,env,h,s,w⟩=>tMS.use s w.bind fun fl h' H' α' e r kk=>by
  cases fl with
  | nx env'=>exact fun σ' s'=>⟨α',env',h',s',WQ.tZ e kk⟩
  | bk env'=>exact fun σ' s'=>(show cK X.K g α H E (.bk env') h' from kk) H' α' e r σ' s'.vs
  | ct env'=>exact fun σ' s'=>(show cK X.K g α H E (.ct env') h' from kk) H' α' e r σ' s'.vs
  | rt d=>exact fun v rv=>(show cK X.K g α H E (.rt d) h' from kk) H' α' e r v rv
theorem aJ (h1:PS X st (tMS X.K g ε ms)):PSs X [st] (tMS X.K g ε ms):=An h1
theorem fA (he:PE X e (tM X.K g ε me)) (hs:swapsWith e none pos.line X.env=pure false:=by rfl):PS X (.Expr e pos) (tMS X.K g ε (cV me)):=
 PS.imp (AO he hs) fun E σ H ⟨α,env,h,s,w⟩=>tM.use s w.bind fun d1 h1 v1 H1 α1 e1 s1 r1 w1=>s1.nx e1 w1
theorem bD (he:PE X e (tM X.K g ε me)):PS X (.Return (some e) pos) (tMS X.K g ε (bO me)):=
 PS.imp (CL he) fun E σ H ⟨α,env,h,s,w⟩=>tM.use s w.bind fun d1 h1 v1 H1 α1 e1 s1 r1 w1=>(show cK X.K g α H E (.rt d1) h1 from w1) H1 α1 e1 s1.heap v1 r1
theorem k6 {c:Expr} {A B:List Stmt} (hc:PT X c (tMT X.K g ε mt)) (ha:PSs X A (tMS X.K g ε ms)) (hb:PSs X B (tMS X.K g ε mu)):PS X (.If c A B pos) (tMS X.K g ε (iz mt ms mu)):=
 PS.imp (D7 hc ha hb) fun E σ H ⟨α,env,h,s,w⟩=>tMT.use s w.bind fun d1 h1 H1 α1 e1 s1 w1=>by
  cases d1 with
  | true=>rw[if_pos rfl] at w1 ⊢;exact⟨α1,env,h1,s1,WQ.tZ e1 w1⟩
  | false=>rw[if_neg Bool.false_ne_true] at w1 ⊢;exact⟨α1,env,h1,s1,WQ.tZ e1 w1⟩
theorem cu {i:Nat} {x:Str} {pos':Pos} (hN:X.N.Nodup) (hi:X.N[i]?=some x) (hx:Loc X.env.scope x) (he:PE X e (tM X.K g ε me)) (hs:swapsWith e (some (.Name x pos')) pos.line X.env=pure false:=by rfl) (hf:X.fn x=true\/X.env.scope.names.lookup x=some .local:=by first | exact .inl rfl | exact .inr rfl | assumption) :
  PS X (.Assign [.Name x pos'] e pos) (tMS X.K g ε (bb i me)):=
 PS.imp (Ck hN hi hx he hs hf) fun E σ H ⟨α,env,h,s,w⟩=>tM.use s w.bind fun d1 h1 v1 H1 α1 e1 s1 r1 w1=>(show cK X.K g α H E (.nx (env.set i (some d1))) h1 from w1) H1 α1 e1 s1.heap _ (s1.vs.set r1)
theorem Ed {i j:Nat} {x y:Str} {a b:Expr} {ma:MA} {px py pt:Pos} {kt k2 pt2} (hc:X.calm=true) (hN:X.N.Nodup) (hi:X.N[i]?=some x) (hj:X.N[j]?=some y) (hij:i≠j)
  (hx:X.env.scope.names.lookup x=some .local) (hy:X.env.scope.names.lookup y=some .local) (ha:PA X [a,b] (tMA X.K g ε ma))
  (hw:swappedStores [.Tuple [.Name x px,.Name y py] kt pt] (.Tuple [a,b] k2 pt2) X.env=pure (some [x,y]))
  (hs:swapsWithSole [.Tuple [.Name x px,.Name y py] kt pt] (.Tuple [a,b] k2 pt2) pos.line X.env=pure false:=by rfl) :
  PS X (.Assign [.Tuple [.Name x px,.Name y py] kt pt] (.Tuple [a,b] k2 pt2) pos) (tMS X.K g ε (mR i j ma)):=
 PS.imp (Bq hc hN hi hj hij hx hy ha hw hs) fun E σ H ⟨α,env,h,s,w⟩=>tMA.use s w.bind fun d1 h1 v1 H1 α1 e1 s1 r1 w1=>by
  cases r1 with
  | nil=>exact w1.elim
  | cons ra rr=>
   cases rr with
   | nil=>exact w1.elim
   | cons rb rr=>
    cases rr with
    | nil=>exact⟨_,_,rfl,(show cK X.K g α H E (.nx _) h1 from w1) H1 α1 e1 s1.heap _ ((s1.vs.set ra).set rb)⟩
    | cons _ _=>exact w1.elim
noncomputable def DI (K:PySem.W.Frag) (g:GG) (ε:EE) (f:D->D->D->Hh->R Unit) (t:xS):Prop:=
 ∀(α:List Addr) (H:Hp) (h:Hh) (o i v:D) (x y z:V) (Q:Hp->Prop),aM K g α H h->aC K g α H o x->aC K g α H i y->aC K g α H v z->WQ K g ε α H (f o i v h) (fun _ h'=>∀H' α',Ext K α H α' H'->aM K g α' H' h'->Q H')->t x y z H Q
theorem t_ {o i:Expr} {mo mi:ME} {t:xS} {f:D->D->D->Hh->R Unit} {p:Pos} (he:PE X e (tM X.K g ε me)) (ho:PE X o (tM X.K g ε mo)) (hi:PE X i (tM X.K g ε mi)) (hp:B3 X t) (im:DI X.K g ε f t)
  (ha:∀v,assign (.Subscript o i p) X.env v=(do
   let ov ← holding [v] (eval o X.env)
   let iv ← holding [v,ov] (eval i X.env)
   standAt p
   holding [v,ov,iv] (setItem ov iv v)
   release [v,ov,iv] []):=by intro _;rfl)
  (hs:swapsWithSole [.Subscript o i p] e pos.line X.env=pure false:=by rfl) (hw:swappedStores [.Subscript o i p] e X.env=pure none:=by rfl)
  (h1:(assignEach [.Subscript o i p] X.env).map (·.2)=[assign (.Subscript o i p) X.env]:=by rfl):PS X (.Assign [.Subscript o i p] e pos) (tMS X.K g ε (pW f mo mi me)):=
 PS.imp (wA he (Cn ho hi hp ha) hs hw h1) fun E σ H ⟨α,env,h,s,w⟩=>tM.use s w.bind fun d1 h1 v1 H1 α1 e1 s1 r1 w1=>tM.use s1 (w1.ext e1).bind fun d2 h2 v2 H2 α2 e2 s2 r2 w2=>tM.use s2 (w2.ext e2).bind fun d3 h3 v3 H3 α3 e3 s3 r3 w3=>by
  refine im α3 H3 h3 d2 d3 d1 v2 v3 v1 _ s3.heap (r2.ext e3) r3 ((r1.ext e2).ext e3) ((w3.ext e3).bind.mono fun _ h4 _ w4 H4 α4 e4 hr4=>?_)
  exact(show cK X.K g α H E (.nx env) h4 from w4) H4 α4 (e1.trans (e2.trans (e3.trans e4))) hr4 _ (s3.vs.ext e4)
end
theorem uS {X:Cx} {pins:List (Addr × Obj)} {σ:St} {H:Hp} {s:Shared} {p:Addr} {u:HO} (I:Inv X pins σ H s) (h:H p=some u) (mu:Mut (some u)):∃o,Inv X pins σ (upd H p (.frz o u)) s:=by
 obtain⟨o,ho⟩:∃o,s.heap.get? p=some o:=by
  have hl:=(I.hok p _ h).lt
  cases e:s.heap.get? p with
  | some o=>exact⟨o,rfl⟩
  | none=> 
   have q:=I.hok p _ h
   cases u with
   | lst xs=>obtain⟨_,_,_,_,e'⟩:=q;rw[e] at e';cases e'
   | dK kvs=>obtain⟨_,_,_,_,o,_,_,e',_⟩:=q;rw[e] at e';cases e'
   | dT kvs=>obtain⟨_,_,_,_,o,_,_,e',_⟩:=q;rw[e] at e';cases e'
   | set S n=>obtain⟨o,_,_,_,e',_⟩:=q;rw[e] at e';cases e'
   | ins C dx fs=>obtain⟨_,_,_,e',_⟩:=q;rw[e] at e';cases e'
   | ext φ=>obtain⟨_,⟨_,e'⟩,_⟩:=q;rw[e] at e';cases e'
   | _=>exact absurd mu (fun z=>z)
 have nt:∀b xs,H b=some (.tup xs)->b≠p:=fun b xs e z=>by subst z;rw[h] at e;cases e;exact mu
 have nf:∀b o u,H b=some (.frz o u)->b≠p:=fun b o u e z=>by subst z;rw[h] at e;cases e;exact mu
 have nb:∀b ps,H b=some (.tbl ps)->b≠p:=fun b ps e z=>by subst z;rw[h] at e;cases e;exact mu
 have no:∀b y,H b=some (.own y)->b≠p:=fun b ps e z=>by subst z;rw[h] at e;cases e;exact mu
 have hok:HOk X.prog X.w (upd H p (.frz o u)) s.heap:=fun b v q=>by
  by_cases hb:b=p
  ·subst hb
   rw[aO] at q;cases q
   exact⟨ho,(I.hok b _ h).lY (fun _ _ _ z=>z) (fun c z=>by rw[aH (no c _ z)];exact z) fun c xs z=>by rw[aH (nt c xs z)];exact z⟩
  ·rw[aH hb] at q
   exact(I.hok b v q).lY (fun _ _ _ z=>z) (fun c z=>by rw[aH (no c _ z)];exact z) fun c xs z=>by rw[aH (nt c xs z)];exact z
 refine⟨o,?_⟩
 have np:∀b,H b=none->b≠p:=fun b e z=>by subst z;rw[h] at e;cases e
 have:=I.un (H':=upd H p (.frz o u)) (h':=s.heap) (t':=s.toks) ⟨fun b o q _ _ _=>q,fun b o q _ _ _=>⟨o.slots,q⟩,fun b v q n _=>(by rw[aH (np b n)];exact n),fun b o q _=>⟨o,q⟩,fun b xs q=>(by rw[aH (nt b xs q)];exact q),fun b o v q=>(by rw[aH (nf b o v q)];exact q),fun b ps q=>⟨#[],by rw[aH (nb b ps q),q];simp⟩⟩ hok
 exact this
noncomputable def gn (Q:VK):VK:=fun v H=>Q v H\/∃p u,v=.ref p/\H p=some u/\Mut (some u)/\∀o,Q v (upd H p (.frz o u))
theorem EP.frz {X:Cx} {pins:List (Addr × Obj)} {σ:St} {Q:VK} {u:Value} {s':Shared} (h:EP X pins σ (gn Q) u s'):EP X pins σ Q u s':=by
 obtain⟨v,H',I,r,q | ⟨p,u,rfl,e,m,q⟩⟩:=h
 ·exact⟨v,H',I,r,q⟩
 ·obtain⟨o,I'⟩:=uS I e m
  exact⟨_,_,I',r,q o⟩
theorem PE.frz {X:Cx} {e:Expr} {t:TE} (h:PE X e t):PE X e fun σ H Q=>t σ H (gn Q):=fun pins s σ H Q I w=>thn (h pins s σ H _ I w) fun _ _ z=>EP.frz z
theorem OpR.frz {X:Cx} {f:Value->Value->Sem Value} {r:R2} (h:OpR X f r):OpR X f fun x y H Q=>r x y H (gn Q):=fun pins s σ H x y v u Q I rx ry q=>thn (h pins s σ H x y v u _ I rx ry q) fun _ _ z=>EP.frz z
theorem ba.frz {X:Cx} {f:Value} {r:List V->Hp->VK->Prop} (h:ba X f r):ba X f fun xs H Q=>r xs H (gn Q):=fun pins s σ H xs us Q I rx q=>thn (h pins s σ H xs us _ I rx q) fun _ _ z=>EP.frz z
noncomputable def CS (D:Ends):Ends:={ D with nx:=fun σ H=>D.nx σ H\/∃p u,H p=some u/\Mut (some u)/\∀o,D.nx σ (upd H p (.frz o u)) }
theorem PS.frz {X:Cx} {st:Stmt} {t:TS} (h:PS X st t):PS X st fun E σ H=>t (CS E) σ H:=fun pins s σ H E I w=>thn (h pins s σ H _ I w) fun fl s' z=>by
 cases fl with
 | next=>
  obtain⟨σ',H',I,q | ⟨p,u,e,m,q⟩⟩:=z
  ·exact⟨σ',H',I,q⟩
  ·obtain⟨o,I'⟩:=uS I e m
   exact⟨σ',_,I',q o⟩
 | brk=>exact z
 | cont=>exact z
 | ret u=>exact z
theorem za {E:Ends} {σ:St} {i:Nat} {v:V} {H1:Hp} (z:gn (fun v H1=>E.nx (σ.set i (some v)) H1) v H1):(CS E).nx (σ.set i (some v)) H1:=by
 rcases z with z | ⟨p,u,_,e,m,q⟩
 ·exact .inl z
 ·exact .inr ⟨p,u,e,m,q⟩
noncomputable abbrev NL:=List D->Hh->R D
noncomputable def p9:NL:=fun ys h2=>.ok (.ref h2.length) (h2++[O.lst ys])
noncomputable def aD:NL:=fun ys h2=>.ok (.frl ys) h2
class gH (nl:NL):Prop where
 at':∀{K:PySem.W.Frag} {g:GG} {ε:EE} {α1 α2:List Addr} {H1 H2:Hp} {h:Hh} {as:List D} {ys:List V} {acc:Addr} {Q:D->Hh->Prop} {R:VK},WQ K g ε α1 H1 (nl as h) Q->(∀d h',Q d h'->aI K g α1 H1 R d h')->Ext K α1 H1 α2 H2->aM K g α2 H2 h->av K g α2 H2 as ys->H2 acc=some (.lst ys)->acc∉α2->H1 acc=none->gn R (.ref acc) H2
instance:gH p9 where
 at':=fun{K g ε α1 α2 H1 H2 h as ys acc Q R} w hq x2 hr2 ra ha hna hacc=>by
  have x3:Ext K α1 H1 (α2++[acc]) H2:=⟨x2.toEx0.trans (Ex0.refl.more _),x2.keep,fun p z n=>by
   rcases List.mem_append.mp z with z | z
   ·exact x2.new p z n
   ·rw[List.mem_singleton.mp z];exact hacc⟩
  refine .inl (hq _ _ w _ H2 (α2++[acc]) x3 (hr2.adopt hna ⟨ys,ha,ra.ex0 (Ex0.refl.more _)⟩) (.ref ?_))
  rw[<- hr2.len,List.getElem?_append_right (Nat.le_refl _)];simp
instance:gH aD where
 at':=fun{K g ε α1 α2 H1 H2 h as ys acc Q R} w hq x2 hr2 ra ha hna hacc=>by
  refine .inr ⟨acc,_,rfl,ha,trivial,fun o=>?_⟩
  have soft:wo H2 acc:=.inr ⟨_,ha,fun _ z=>(nomatch z),fun _ _ z=>nomatch z⟩
  have x6:Ex0 K α2 H2 α2 (upd H2 acc (.frz o (.lst ys))):=Ex0.upd soft
  refine hq _ _ w _ _ α2 ⟨x2.toEx0.trans x6,fun p u z n=>?_,x2.new⟩ (hr2.off soft hna) (.frl ⟨o,aO⟩ (ra.ex0 x6))
  rw[aH (bH z hacc)];exact x2.keep p u z n
theorem NL.post {nl:NL} [gH nl] {K:PySem.W.Frag} {g:GG} {ε:EE} {α:List Addr} {H:Hp} {h:Hh} {ds:List D} {vs:List V} {Q:VK} {p:Addr} (w:WQ K g ε α H (nl ds h) (aI K g α H Q)) (r:aM K g α H h) (rd:av K g α H ds vs) (n:H p=none):gn Q (.ref p) (upd H p (.lst vs)):=
 gH.at' w (fun _ _ z=>z) (Ext.fresh n) (r.grow n) (rd.ext (Ext.fresh n)) aO (r.free n) n
noncomputable def eR (nl:NL):List D->Hh->R D:=fun ds h=>if ds.length<=1000000 then nl ds h else .bad
theorem eN {X:Cx} {g:GG} {ε:EE} {es:List Expr} {mr:MA} {pos:Pos} {nl:NL} [gH nl] (ha:PA X es (tMA X.K g ε mr)):PE X (.List es pos) (tM X.K g ε (ah (eR nl) mr)):=
 PE.imp (PE.frz (Ct ha)) fun σ H Q ⟨α,env,h,s,w⟩=>tMA.use s w.bind fun d1 h1 v1 H1 α1 e1 s1 r1 w1=>by
  obtain⟨hl,w2⟩:=WQ.dH w1
  exact⟨gm (by rw[<- r1.length];exact hl),fun p hp=>NL.post (w2.post e1) s1.heap r1 hp⟩
noncomputable def ay (h:Hh) (n:Nat):Option (List D):=match h[n]? with
 | some (.lst ds)=>some ds
 | _=>none
inductive Src where
 | snap (ds:List D)
 | live (n:Nat)
 | liveE (n:Nat)
noncomputable abbrev MI:=En->Hh->R Src
noncomputable abbrev Rdr:=Hh->Nat->Option (Option D)
noncomputable def Src.rdr:Src->Rdr
 | .snap ds=>fun _ i=>some ds[i]?
 | .live n=>fun h i=>(ay h n).map fun ds=>ds[i]?
 | .liveE n=>fun h i=>(ay h n).map fun ds=>(ds[i]?).map fun d=>D.tup [.int i,d]
noncomputable def Src.fuel (s:Src) (h:Hh):Nat:=match s with
 | .snap ds=>ds.length
 | .live n=>((ay h n).getD []).length
 | .liveE n=>((ay h n).getD []).length
noncomputable def Reads (K:PySem.W.Frag) (g:GG) (J:It) (rd:Rdr) (α₀:List Addr) (ar:Hp):Prop:=
 ∀(α:List Addr) (H:Hp) (h:Hh),Ext K α₀ ar α H->aM K g α H h->∀i,match rd h i with
  | none=>True
  | some none=>J.stop i H
  | some (some d)=>J.go i H/\∀x H',J.yld i H x H'->∃α',Ext K α H α' H'/\aM K g α' H' h/\aC K g α' H' d x
noncomputable def tMI (K:PySem.W.Frag) (g:GG) (ε:EE) (m:MI):TI:=fun σ H T=>∃α env h,cG K g α H env σ h/\WQ K g ε α H (m env h) fun sr h'=>∀J H' α',Ext K α H α' H'->aM K g α' H' h'->Reads K g J sr.rdr α' H'->T J H'
theorem PI.imp {X:Cx} {tg e:Expr} {t t':TI} (h:PI X tg e t) (i:∀σ H Q,t' σ H Q->t σ H Q):PI X tg e t':=fun pins s σ H Q I w=>h pins s σ H Q I (i σ H Q w)
noncomputable def j_ (rd:Rdr) (tg:D->En->Hh->R En) (body:MS):Nat->Nat->En->Hh->R Fl
 | k,i,env,h=>match rd h i with
  | none=>.bad
  | some none=>.ok (.nx env) h
  | some (some d)=>match k with
   | 0=>.bad
   | k+1=>(tg d env h).bind fun e1 h1=>(body e1 h1).bind fun fl h2=>match fl with
    | .nx e=>j_ rd tg body k (i+1) e h2
    | .ct e=>j_ rd tg body k (i+1) e h2
    | .bk e=>.ok (.nx e) h2
    | .rt d=>.ok (.rt d) h2
noncomputable def cS (tg:D->En->Hh->R En) (body:MS):List D->En->Hh->R Fl
 | [],env,h=>.ok (.nx env) h
 | d::ds,env,h=>(tg d env h).bind fun e1 h1=>(body e1 h1).bind fun fl h2=>match fl with
  | .nx e=>cS tg body ds e h2
  | .ct e=>cS tg body ds e h2
  | .bk e=>.ok (.nx e) h2
  | .rt d=>.ok (.rt d) h2
theorem zP (tg:D->En->Hh->R En) (body:MS) (all:List D):∀(ds:List D) (i:Nat) (env:En) (h:Hh),all.drop i=ds->j_ (Src.snap all).rdr tg body ds.length i env h=cS tg body ds env h:=by
 intro ds
 induction ds with
 | nil=>
  intro i env h e
  have:all[i]?=none:=by
   have:=congrArg List.length e
   simp at this
   exact List.getElem?_eq_none (by omega)
  unfold j_ cS Src.rdr
  simp[this]
 | cons d ds ih=>
  intro i env h e
  have h0:all[i]?=some d:=by
   have:=congrArg (fun l=>l[0]?) e
   simpa using this
  have h1:all.drop (i+1)=ds:=by
   have:=congrArg List.tail e
   simpa using this
  unfold j_ cS
  have:(Src.snap all).rdr h i=some (some d):=by unfold Src.rdr;simp[h0]
  rw[this]
  show((tg d env h).bind _)=_
  congr 1
  funext e1 h2
  congr 1
  funext fl h3
  cases fl with
  | nx e=>exact ih (i+1) e h3 h1
  | ct e=>exact ih (i+1) e h3 h1
  | bk e=>rfl
  | rt d=>rfl
noncomputable def dU (mi:MI) (tg:D->En->Hh->R En) (body:MS):MS:=fun env h=>(mi env h).bind fun sr h1=>match sr with
 | .snap ds=>cS tg body ds env h1
 | .live n=>j_ (Src.live n).rdr tg body ((ay h1 n).getD []).length 0 env h1
 | .liveE n=>j_ (Src.liveE n).rdr tg body ((ay h1 n).getD []).length 0 env h1
theorem zU {mi:MI} {tg:D->En->Hh->R En} {body:MS} {env:En} {h:Hh}:dU mi tg body env h=(mi env h).bind fun sr h1=>j_ sr.rdr tg body (sr.fuel h1) 0 env h1:=by
 unfold dU
 congr 1
 funext sr h1
 cases sr with
 | snap ds=>exact(zP tg body ds ds 0 env h1 rfl).symm
 | live n=>rfl
 | liveE n=>rfl
noncomputable def gN (i:Nat):D->En->Hh->R En:=fun d env h=>.ok (env.set i (some d)) h
noncomputable def gT2 (i j:Nat):D->En->Hh->R En:=fun d env h=>match d with
 | .tup [x,y]=>.ok ((env.set i (some x)).set j (some y)) h
 | _=>.bad
noncomputable def Br (K:PySem.W.Frag) (g:GG) (ε:EE) (tg:D->En->Hh->R En) (t:TG):Prop:=
 ∀(α:List Addr) (H:Hp) (h:Hh) (env:En) (σ:St) (d:D) (x:V) (Q:St->Hp->Prop),cG K g α H env σ h->aC K g α H d x →
  WQ K g ε α H (tg d env h) (fun e1 h1=>∀σ' H' α',Ext K α H α' H'->cG K g α' H' e1 σ' h1->Q σ' H')->t x σ H Q
theorem dD {K:PySem.W.Frag} {g:GG} {ε:EE} {i:Nat}:Br K g ε (gN i) (cf i):=fun α H h env σ d x Q s r w=>w _ H α Ext.refl ⟨s.heap,s.vs.set r⟩
theorem xH {K:PySem.W.Frag} {g:GG} {ε:EE} {i j:Nat}:Br K g ε (gT2 i j) (xQ K 2 (jr (cf i) (jr (cf j) yt))):=fun α H h env σ d x Q s r w=>by
 unfold gT2 at w
 cases r with
 | tup hq rs=>
  cases rs with
  | nil=>exact w.elim
  | cons ra rr=>
   cases rr with
   | nil=>exact w.elim
   | cons rb rr=>
    cases rr with
    | nil=>exact⟨_,_,rfl,SqT.of hq,rfl,_,_,rfl,_,_,rfl,rfl,w _ H α Ext.refl ⟨s.heap,(s.vs.set ra).set rb⟩⟩
    | cons _ _=>exact w.elim
 | _=>exact w.elim
section
variable {X:Cx} {g:GG} {ε:EE}
theorem iE {tg iter:Expr} {body:List Stmt} {mi:MI} {t:TG} {fg:D->En->Hh->R En} {mb:MS} {pos:Pos} (hp:PassesOwn (model X.prog X.w) X.A X.env X.xe) (hc:X.calm=true) (hi:PI X tg iter (tMI X.K g ε mi)) (hg:PG X tg t) (ig:Br X.K g ε fg t) (hb:PSs X body (tMS X.K g ε mb))
  (hs:∀x,foldedSetIterable iter X.env x=pure x:=by intro _;rfl):PS X (.For tg iter body [] pos) (tMS X.K g ε (dU mi fg mb)):=by
 refine PS.imp (By hp hc hi hg hb hs) fun E σ H ⟨α,env,h,s,w⟩=>?_
 rw[zU] at w
 refine⟨α,env,h,s,w.bind.mono fun sr h1 _ w1 J H1 α1 e1 hr1 rd=>?_⟩
 refine⟨fun i m σ H=>∃α env h,Ext X.K α1 H1 α H/\cG X.K g α H env σ h/\WQ X.K g ε α H (j_ sr.rdr fg mb m i env h) (cK X.K g α H E),⟨sr.fuel h1,α1,env,h1,Ext.refl,s.ext e1 hr1,w1.tZ e1⟩,?_⟩
 rintro i m σ2 H2 ⟨α2,env2,h2,x2,s2,w2⟩
 have q:=rd α2 H2 h2 x2 s2.heap i
 unfold j_ at w2
 cases e:sr.rdr h2 i with
 | none=>rw[e] at w2;exact w2.elim
 | some od=>
  rw[e] at w2 q
  cases od with
  | none=>exact .inl ⟨q,s2.nx Ext.refl w2⟩
  | some d=>
   cases m with
   | zero=>exact w2.elim
   | succ m=>
    have w3:=WQ.bind (show WQ X.K g ε α2 H2 ((fg d env2 h2).bind _) _ from w2)
    refine .inr ⟨q.1,fun σ' H'=>∃α env h,Ext X.K α1 H1 α H'/\cG X.K g α H' env σ' h/\WQ X.K g ε α H' (j_ sr.rdr fg mb m (i+1) env h) (cK X.K g α H' E),fun σ' H' z=>⟨m,Nat.lt_succ_self _,z⟩,fun x H3 y=>?_⟩
    obtain⟨α3,x3,hr3,rx⟩:=q.2 x H3 y
    refine ig α3 H3 h2 env2 σ2 d x _ (s2.ext x3 hr3) rx ((w3.ext x3).mono fun e4 h4 _ w4 σ4 H4 α4 x4 s4=>?_)
    refine tMS.use s4 ((w4.ext x3).ext x4).bind fun fl h5 H5 α5 x5 hr5 w5=>?_
    have tr:Ext X.K α2 H2 α5 H5:=x3.trans (x4.trans x5)
    cases fl with
    | nx e=>exact fun σ' s'=>⟨α5,e,h5,x2.trans tr,s',((w5.ext x5)).mono fun _ _ _ p=>p.ext tr⟩
    | ct e=>exact fun σ' s'=>⟨α5,e,h5,x2.trans tr,s',((w5.ext x5)).mono fun _ _ _ p=>p.ext tr⟩
    | bk e=>exact fun σ' s'=>(show cK X.K g α2 H2 E (.nx e) h5 from w5) H5 α5 tr hr5 σ' s'.vs
    | rt d=>exact fun v rv=>(show cK X.K g α2 H2 E (.rt d) h5 from w5) H5 α5 tr hr5 v rv
theorem aM.lst {K:PySem.W.Frag} {α:List Addr} {H:Hp} {h:Hh} {n:Nat} {ds:List D} (r:aM K g α H h) (e:ay h n=some ds) {p:Addr} (hp:α[n]?=some p):∃vs,H p=some (.lst vs)/\av K g α H ds vs:=by
 unfold ay at e
 cases o:h[n]? with
 | none=>rw[o] at e;cases e
 | some o'=>
  rw[o] at e
  have q:=r.here n p o' hp o
  cases o' with
  | lst ds'=>cases e;obtain⟨vs,a,b⟩:=q;exact⟨vs,a,b⟩
  | set n=>cases e
  | dic k=>cases e
  | dit k=>cases e
noncomputable def qm:D->Hh->R Src
 | .tup ds,h=>.ok (.snap ds) h
 | .frl ds,h=>.ok (.snap ds) h
 | .scr ds,h=>.ok (.snap ds) h
 | .ref n,h=>match ay h n with
  | some _=>.ok (.live n) h
  | none=>.bad
 | _,_=>.bad
noncomputable def bo (a:ME):MI:=fun env h=>(a env h).bind qm
noncomputable def EX (K:PySem.W.Frag) (tl:TE):TI:=fun σ H R=>tl σ H fun x H1=>∃a,x=.ref a/\(((∃xs,SqL K H1 a xs)/\R (Itl K a) H1)\/((∃xs,SqT K H1 a xs)/\R (Itt K a) H1))
theorem BA {tg l:Expr} {tl:TE} (hl:PE X l tl):PI X tg l (EX X.K tl):=by
 intro pins s σ H R I h
 refine thn (hl pins s σ H _ I h) fun v s1 ⟨x,H1,I1,r1,q1⟩=>?_
 obtain⟨a,e,q⟩:=q1
 subst e
 cases r1
 rcases q with⟨⟨xs,hq⟩,q⟩ | ⟨⟨xs,hq⟩,q⟩
 ·obtain⟨its,rv,p,hz⟩:=I1.list hq
  refine wpAny_pyIter_list p.isList ?_
  refine⟨s1.heap.objs.size,[s1.heap.objs.size],_,_,H1,rfl,I1.kept (t':=s1.toks) fun b o e=>Heap.get?_push_of_some _ e,vx a _,⟨_,Heap.get?_push_size _ rfl,rfl,rfl⟩,fun b hb=>?_,q⟩
  have e:b=s1.heap.objs.size:=by simpa using hb
  subst e
  exact I1.vd (Nat.le_refl _) (I1.hok.fresh (Nat.le_refl _))
 ·obtain⟨its,rv,p,hz⟩:=I1.tuple hq
  refine wpAny_pyIter_tuple (show s1.heap.IsTuple a its.toArray from p) ?_
  refine⟨s1.heap.objs.size,[s1.heap.objs.size],_,_,H1,rfl,I1.kept (t':=s1.toks) fun b o e=>Heap.get?_push_of_some _ e,tK a _,⟨_,Heap.get?_push_size _ rfl,rfl,rfl⟩,fun b hb=>?_,q⟩
  have e:b=s1.heap.objs.size:=by simpa using hb
  subst e
  exact I1.vd (Nat.le_refl _) (I1.hok.fresh (Nat.le_refl _))
theorem vY {K:PySem.W.Frag} {α:List Addr} {H:Hp} {a:Addr} {ds:List D} {vs:List V} (hq':H a=some (.tup vs)) (rs:av K g α H ds vs):Reads K g (Itt K a) (Src.snap ds).rdr α H:=by
 intro α2 H2 h2 x2 hr i
 have hq2:SqT K H2 a vs:=SqT.of (x2.tup _ _ hq')
 have rs2:=rs.ext x2
 show match some ds[i]? with | none=>True | some none=>_ | some (some d)=>_
 cases e:ds[i]? with
 | none=>
  have:ds.length<=i:=List.getElem?_eq_none_iff.mp e
  exact⟨vs,hq2,by rw[<- rs.length];exact this⟩
 | some d=>
  obtain⟨v,ev,rv⟩:=rs2.get e
  refine⟨⟨vs,v,hq2,ev⟩,fun x H' y=>?_⟩
  obtain⟨e1,e2⟩:=y
  subst e1
  have:=e2 vs hq2
  rw[ev] at this
  cases this
  exact⟨α2,Ext.refl,hr,rv⟩
theorem oz {K:PySem.W.Frag} {α:List Addr} {H:Hp} {a:Addr} {ds:List D} {vs:List V} (hq:Fro K H a vs) (rs:av K g α H ds vs):Reads K g (Itl K a) (Src.snap ds).rdr α H:=by
 intro α2 H2 h2 x2 hr i
 have hq2:=x2.fro _ _ hq
 have rs2:=rs.ext x2
 show match some ds[i]? with | none=>True | some none=>_ | some (some d)=>_
 cases e:ds[i]? with
 | none=>
  have:ds.length<=i:=List.getElem?_eq_none_iff.mp e
  exact⟨vs,hq2.sq,by rw[<- rs.length];exact this⟩
 | some d=>
  obtain⟨v,ev,rv⟩:=rs2.get e
  refine⟨⟨vs,v,hq2.sq,ev⟩,fun x H' y=>?_⟩
  obtain⟨e1,e2⟩:=y
  subst e1
  have:=e2 vs hq2.sq
  rw[ev] at this
  cases this
  exact⟨α2,Ext.refl,hr,rv⟩
theorem vz {K:PySem.W.Frag} {α:List Addr} {H:Hp} {a:Addr} {n:Nat} (ha:α[n]?=some a):Reads K g (Itl K a) (Src.live n).rdr α H:=by
 intro α2 H2 h2 x2 hr i
 show match (ay h2 n).map fun ds=>ds[i]? with | none=>True | some none=>_ | some (some d)=>_
 cases e:ay h2 n with
 | none=>trivial
 | some ds=>
  obtain⟨vs,hq',rs⟩:=hr.lst e (x2.get ha)
  have hq:SqL K H2 a vs:=SqL.of hq'
  show match some ds[i]? with | none=>True | some none=>_ | some (some d)=>_
  cases ei:ds[i]? with
  | none=>
   have:ds.length<=i:=List.getElem?_eq_none_iff.mp ei
   exact⟨vs,hq,by rw[<- rs.length];exact this⟩
  | some d=>
   obtain⟨v,ev,rv⟩:=rs.get ei
   refine⟨⟨vs,v,hq,ev⟩,fun x H' y=>?_⟩
   obtain⟨e1,e2⟩:=y
   subst e1
   have:=e2 vs hq
   rw[ev] at this
   cases this
   exact⟨α2,Ext.refl,hr,rv⟩
theorem cE {tg e:Expr} {me:ME} (he:PE X e (tM X.K g ε me)):PI X tg e (tMI X.K g ε (bo me)):=
 PI.imp (BA he) fun σ H T ⟨α,env,h,s,w⟩=>tM.use s w.bind fun d1 h1 v1 H1 α1 e1 s1 r1 w1=>by
  unfold qm at w1
  cases r1 with
  | tup hq rs=>exact⟨_,rfl,.inr ⟨⟨_,SqT.of hq⟩,w1 _ H1 α1 e1 s1.heap (vY hq rs)⟩⟩
  | frl hq rs=>exact⟨_,rfl,.inl ⟨⟨_,hq.sq⟩,w1 _ H1 α1 e1 s1.heap (oz hq.fro rs)⟩⟩
  | scr hq rs=>exact⟨_,rfl,.inl ⟨⟨_,hq.sq⟩,w1 _ H1 α1 e1 s1.heap (oz hq rs)⟩⟩
  | @ref n p hp=>
   cases el:ay h1 n with
   | none=>simp only[el] at w1;exact w1.elim
   | some ds=>
    simp only[el] at w1
    obtain⟨vs,hq,_⟩:=s1.heap.lst el hp
    exact⟨p,rfl,.inl ⟨⟨_,SqL.of hq⟩,w1 _ H1 α1 e1 s1.heap (vz hp)⟩⟩
  | _=>exact w1.elim
noncomputable def gv (ds:List D):List D:=(List.range ds.length).map fun(i:Nat)=>D.tup [.int i,ds.getD i .non]
noncomputable def tY:D->Hh->R Src
 | .tup ds,h=>.ok (.snap (gv ds)) h
 | .frl ds,h=>.ok (.snap (gv ds)) h
 | .ref n,h=>match ay h n with
  | some _=>.ok (.liveE n) h
  | none=>.bad
 | _,_=>.bad
noncomputable def pV (a:ME):MI:=fun env h=>(a env h).bind tY
theorem oo {ds:List D} {i:Nat}:(gv ds)[i]?=(ds[i]?).map fun d=>D.tup [.int i,d]:=by
 unfold gv
 rw[List.getElem?_map]
 by_cases hi:i<ds.length
 ·have e:ds.getD i .non=ds[i]:=by rw[List.getD_eq_getElem?_getD,List.getElem?_eq_getElem hi];rfl
  rw[List.getElem?_range hi,List.getElem?_eq_getElem hi,Option.map_some,Option.map_some,e]
 ·rw[List.getElem?_eq_none (by simpa using hi),List.getElem?_eq_none (by omega)];rfl
theorem lB {K:PySem.W.Frag} {α:List Addr} {H:Hp} {h:Hh} {i:Nat} {d:D} {v:V} {p:Addr} (hr:aM K g α H h) (rv:aC K g α H d v) (hp:H p=none) :
  ∃α',Ext K α H α' (upd H p (.tup [.int i,v]))/\aM K g α' (upd H p (.tup [.int i,v])) h/\aC K g α' (upd H p (.tup [.int i,v])) (.tup [.int i,d]) (.ref p):=
 ⟨α,Ext.fresh hp,hr.grow hp,.tup aO (.cons (.int _) (.cons (rv.ext (Ext.fresh hp)) .nil))⟩
theorem qI {K:PySem.W.Frag} {α:List Addr} {H:Hp} {a:Addr} {ds:List D} {vs:List V} (hq':H a=some (.tup vs)) (rs:av K g α H ds vs):Reads K g (Iet K a) (Src.snap (gv ds)).rdr α H:=by
 intro α2 H2 h2 x2 hr i
 have hq2:SqT K H2 a vs:=SqT.of (x2.tup _ _ hq')
 have rs2:=rs.ext x2
 show match some (gv ds)[i]? with | none=>True | some none=>_ | some (some d)=>_
 rw[oo]
 cases e:ds[i]? with
 | none=>
  have:ds.length<=i:=List.getElem?_eq_none_iff.mp e
  exact⟨vs,hq2,by rw[<- rs.length];exact this⟩
 | some d=>
  obtain⟨v,ev,rv⟩:=rs2.get e
  refine⟨⟨vs,v,hq2,ev⟩,fun x H' y=>?_⟩
  obtain⟨p,v',e1,hp,e2,e3⟩:=y
  subst e1 e3
  have:=e2 vs hq2
  rw[ev] at this
  cases this
  exact lB hr rv hp
theorem qz {K:PySem.W.Frag} {α:List Addr} {H:Hp} {a:Addr} {ds:List D} {vs:List V} (hq:Fro K H a vs) (rs:av K g α H ds vs):Reads K g (Iel K a) (Src.snap (gv ds)).rdr α H:=by
 intro α2 H2 h2 x2 hr i
 have hq2:SqL K H2 a vs:=(x2.fro _ _ hq).sq
 have rs2:=rs.ext x2
 show match some (gv ds)[i]? with | none=>True | some none=>_ | some (some d)=>_
 rw[oo]
 cases e:ds[i]? with
 | none=>
  have:ds.length<=i:=List.getElem?_eq_none_iff.mp e
  exact⟨vs,hq2,by rw[<- rs.length];exact this⟩
 | some d=>
  obtain⟨v,ev,rv⟩:=rs2.get e
  refine⟨⟨vs,v,hq2,ev⟩,fun x H' y=>?_⟩
  obtain⟨p,v',e1,hp,e2,e3⟩:=y
  subst e1 e3
  have:=e2 vs hq2
  rw[ev] at this
  cases this
  exact lB hr rv hp
theorem qu {K:PySem.W.Frag} {α:List Addr} {H:Hp} {a:Addr} {n:Nat} (ha:α[n]?=some a):Reads K g (Iel K a) (Src.liveE n).rdr α H:=by
 intro α2 H2 h2 x2 hr i
 show match (ay h2 n).map fun ds=>(ds[i]?).map fun d=>D.tup [.int i,d] with | none=>True | some none=>_ | some (some d)=>_
 cases e:ay h2 n with
 | none=>trivial
 | some ds=>
  obtain⟨vs,hq',rs⟩:=hr.lst e (x2.get ha)
  have hq:SqL K H2 a vs:=SqL.of hq'
  show match some ((ds[i]?).map fun d=>D.tup [.int i,d]) with | none=>True | some none=>_ | some (some d)=>_
  cases ei:ds[i]? with
  | none=>
   have:ds.length<=i:=List.getElem?_eq_none_iff.mp ei
   exact⟨vs,hq,by rw[<- rs.length];exact this⟩
  | some d=>
   obtain⟨v,ev,rv⟩:=rs.get ei
   refine⟨⟨vs,v,hq,ev⟩,fun x H' y=>?_⟩
   obtain⟨p,v',e1,hp,e2,e3⟩:=y
   subst e1 e3
   have:=e2 vs hq
   rw[ev] at this
   cases this
   exact lB hr rv hp
theorem zJ {elts:List Expr} {kt:Nat} {tp p pos:Pos} {e:Expr} {me:ME} (hg:Gl X "enumerate") (hm:X.mg "enumerate" = none) (he:PE X e (tM X.K g ε me)) (hs:starEach [e] X.env=[(false,eval e X.env)]:=by rfl):PI X (.Tuple elts kt tp) (.Call (.Name "enumerate" p) [e] [] pos) (tMI X.K g ε (pV me)):=
 PI.imp (Au hg hm he hs) fun σ H T ⟨α,env,h,s,w⟩=>tM.use s w.bind fun d1 h1 v1 H1 α1 e1 s1 r1 w1=>by
  unfold tY at w1
  cases r1 with
  | tup hq rs=>exact⟨_,rfl,.inr ⟨⟨_,SqT.of hq⟩,w1 _ H1 α1 e1 s1.heap (qI hq rs)⟩⟩
  | frl hq rs=>exact⟨_,rfl,.inl ⟨⟨_,hq.sq⟩,w1 _ H1 α1 e1 s1.heap (qz hq.fro rs)⟩⟩
  | @ref n p hp=>
   cases el:ay h1 n with
   | none=>simp only[el] at w1;exact w1.elim
   | some ds=>
    simp only[el] at w1
    obtain⟨vs,hq,_⟩:=s1.heap.lst el hp
    exact⟨p,rfl,.inl ⟨⟨_,SqL.of hq⟩,w1 _ H1 α1 e1 s1.heap (qu hp)⟩⟩
  | _=>exact w1.elim
noncomputable def bj (lo:Int) (n:Nat):List D:=(List.range n).map fun(i:Nat)=>D.int (lo+i)
noncomputable def fJ:List D->Hh->R Src
 | [.int j],h=>if j.natAbs<=1000000 then .ok (.snap (bj 0 j.toNat)) h else .bad
 | _,_=>.bad
noncomputable def vN:List D->Hh->R Src
 | [.int i,.int j],h=>if i.natAbs<=1000000/\j.natAbs<=1000000 then .ok (.snap (bj i (j - i).toNat)) h else .bad
 | _,_=>.bad
noncomputable def eg (f:List D->Hh->R Src) (a:MA):MI:=fun env h=>(a env h).bind f
theorem om {K:PySem.W.Frag} {α:List Addr} {H:Hp} {lo:Int} {n:Nat}:Reads K g (Itr lo n) (Src.snap (bj lo n)).rdr α H:=by
 intro α2 H2 h2 x2 hr i
 show match some (bj lo n)[i]? with | none=>True | some none=>_ | some (some d)=>_
 unfold bj
 rw[List.getElem?_map]
 by_cases hi:i<n
 ·rw[List.getElem?_range hi]
  refine⟨hi,fun x H' y=>?_⟩
  obtain⟨e1,e2⟩:=y
  subst e1 e2
  exact⟨α2,Ext.refl,hr,.int _⟩
 ·rw[List.getElem?_eq_none (by simpa using hi)]
  exact Nat.le_of_not_lt hi
theorem eX {tg a:Expr} {ma:MA} {p pos:Pos} (hg:Gl X "range") (hm:X.mg "range" = none) (ha:PA X [a] (tMA X.K g ε ma)) (hs:starEach [a] X.env=[(false,eval a X.env)]:=by rfl):PI X tg (.Call (.Name "range" p) [a] [] pos) (tMI X.K g ε (eg fJ ma)):=
 PI.imp (vH hg hm ha hs) fun σ H T ⟨α,env,h,s,w⟩=>tMA.use s w.bind fun d1 h1 v1 H1 α1 e1 s1 r1 w1=>by
  unfold fJ at w1
  cases r1 with
  | nil=>exact w1.elim
  | cons ra rr=>
   cases rr with
   | cons _ _=>cases ra<;>exact w1.elim
   | nil=>
    cases ra with
    | int j=>
     obtain⟨hj,w2⟩:=WQ.dH w1
     exact⟨j,rfl,by omega,by omega,w2 _ H1 α1 e1 s1.heap om⟩
    | _=>exact w1.elim
theorem zS {tg a b:Expr} {ma:MA} {p pos:Pos} (hg:Gl X "range") (hm:X.mg "range" = none) (ha:PA X [a,b] (tMA X.K g ε ma)) (hs:starEach [a,b] X.env=[(false,eval a X.env),(false,eval b X.env)]:=by rfl) (hs2:starEach [b] X.env=[(false,eval b X.env)]:=by rfl):PI X tg (.Call (.Name "range" p) [a,b] [] pos) (tMI X.K g ε (eg vN ma)):=
 PI.imp (v9 hg hm ha hs hs2) fun σ H T ⟨α,env,h,s,w⟩=>tMA.use s w.bind fun d1 h1 v1 H1 α1 e1 s1 r1 w1=>by
  unfold vN at w1
  split at w1
  ·cases r1 with
   | cons ra rr=>
    cases ra
    cases rr with
    | cons rb rr=>
     cases rb
     cases rr
     obtain⟨hj,w2⟩:=WQ.dH w1
     exact⟨_,_,rfl,⟨by omega,by omega,by omega,by omega⟩,w2 _ H1 α1 e1 s1.heap om⟩
  ·exact w1.elim
end
noncomputable abbrev E00:EE:=fun _ _ _=>False
noncomputable abbrev MF:=List D->Hh->R D
noncomputable def cQ (n:Nat) (m:MS):MF:=fun ds h=>(m (ds.map some++List.replicate (n - ds.length) none) h).bind fun fl h1=>match fl with
 | .rt d=>.ok d h1
 | .nx _=>.ok .non h1
 | _=>.bad
noncomputable def spG (K:PySem.W.Frag) (g:GG) (ε:XK->EE) (np:Nat) (m:MF):Sp:=fun vs H Q E=>vs.length=np/\∃α ds h,av K g α H ds vs/\aM K g α H h/\WQ K g (ε E) α H (m ds h) (aI K g α H Q)
noncomputable abbrev spM (K:PySem.W.Frag) (g:GG) (np:Nat) (m:MF):Sp:=spG K g (fun _=>E00) np m
theorem vW {K:PySem.W.Frag} {g:GG} {α:List Addr} {H:Hp} {N:List Str} {ds:List D} {vs:List V} (r:av K g α H ds vs):ie K g α H (ds.map some++List.replicate (N.length - ds.length) none) (start N vs):=by
 have hl:=r.length
 refine⟨by simp[start,hl],fun i d h=>?_⟩
 by_cases hi:i<ds.length
 ·rw[List.getElem?_append_left (by simpa using hi),List.getElem?_map] at h
  cases e:ds[i]? with
  | none=>rw[e] at h;cases h
  | some d'=>
   rw[e] at h
   cases h
   obtain⟨v,ev,rv⟩:=r.get e
   refine⟨v,?_,rv⟩
   unfold start
   rw[List.getElem?_append_left (by simp;omega),List.getElem?_map,ev]
   rfl
 ·rw[List.getElem?_append_right (by simpa using hi),List.getElem?_replicate] at h
  split at h<;>cases h
section
variable {P:Program} {w:World} {K:PySem.W.Frag} {mg:Str->Option Value} {base:Heap} {g:GG}
theorem eT {x qual:Str} {st:Stmt} {f:Addr} {fd:FuncData} {N ps:List Str} {k:Nat} {mb:MS} (F:Fun K x qual st f fd) (S:aY N ps (aw st))
  (hb:∀(cdv:Value) (A:Around) (outer:List Env) (s:Shared) (H:Hp) (E:XK),fN k (A.deeper (envOfC qual (aw st) s.heap.objs.size f cdv)) →
   PSs (tL CX0 P w K mg base N qual (aw st) f cdv A outer s H E).nox (fU st) (tMS K g E00 mb)):eL P w K mg base CX0 (k+1) f fd ps (spM K g ps.length (cQ N.length mb)):=by
 refine F.ok S (fun vs H Q E h=>h.1) fun cdv A outer s H vs Q E hr h=>⟨_,hb cdv A outer s H E hr,?_⟩
 obtain⟨hl,α,ds,h,rs,hh,w⟩:=h
 refine tMS.use ⟨hh,vW rs⟩ w.bind fun fl h' H' α' e r kk=>?_
 cases fl with
 | nx e'=>exact fun σ' s'=>(show aI K g α H Q .non h' from kk) _ H' α' e r .non
 | bk e'=>exact kk.elim
 | ct e'=>exact kk.elim
 | rt d=>exact fun v rv=>(show aI K g α H Q d h' from kk) _ H' α' e r rv
end
section
variable {X:Cx} {g:GG}
theorem aL {k:Nat} {f:Addr} {fd:FuncData} {ps:List Str} {m:MF} {np:Nat} {x:Str} {p pos:Pos} {e:Expr} {es:List Expr} {mr:MA} (F:eL X.prog X.w X.K X.mg X.base CX0 k f fd ps (spM X.K g np m)) (hr:fN k X.A) (hg:Gl X x) (hm:X.mg x=some (.ref f)) (hk:PySem.W.keepIn X.K (.ref f)=true) (hb:Binds X.K fd ps [])
  (ha:PA X (e::es) (tMA X.K g E00 mr)) (hlen:∀env h ds h',mr env h=.ok ds h'->ds.length=np) (hdb:(x == ("__debug__" : Str))=false:=by decide) (he:starEach (e::es) X.env=(false,eval e X.env)::starEach es X.env:=by rfl) (hpl:(backTo pos (starEach es X.env)).any (·.1)=false:=by rfl) :
  PE X (.Call (.Name x p) (e::es) [] pos) (tM X.K g E00 (ah m mr)):=
 PE.imp (zD F hr hg hm hk hb .nil D1 ha hdb he hpl) fun σ H Q ⟨α,env,h,s,w⟩=>⟨α,env,h,s,w.bind.mono fun d1 h1 eq w1 v1 H1 α1 e1 hr1 r1=>by
  show spM X.K g np m (v1++[]) H1 Q E0
  rw[List.append_nil]
  refine⟨?_,α1,d1,h1,r1,hr1,w1.post e1⟩
  rw[<- r1.length]
  exact hlen env h d1 h1 eq⟩
theorem aK:∀env h ds h',ak env h=.ok ds h'->ds.length=0:=fun env h ds h' e=>by cases e;rfl
theorem ai {a:ME} {r:MA} {n:Nat} (q:∀env h ds h',r env h=.ok ds h'->ds.length=n):∀env h ds h',aa a r env h=.ok ds h'->ds.length=n+1:=fun env h ds h' e=>by
 unfold aa at e
 cases e1:a env h with
 | ok d h1=>
  rw[e1] at e
  cases e2:r env h1 with
  | ok ds2 h2=>
   have e3:(R.ok (d::ds2) h2:R (List D))=.ok ds h':=by simpa [R.bind,e2] using e
   cases e3
   simp[q env h1 ds2 h' e2]
  | err x h2=>simp[R.bind,e2] at e
  | bad=>simp[R.bind,e2] at e
 | err x h2=>rw[e1] at e;cases e
 | bad=>rw[e1] at e;cases e
end
noncomputable def hZ (ix:List Nat) (env:En) (d:D):En:=some d::ix.map fun i=>(env[i]?).join
noncomputable def tt1:MT:=fun _ h=>.ok true h
noncomputable def eV (rd:Rdr) (tt:MT) (te:ME) (ee:D->En):Nat->Nat->List D->Hh->R (List D)
 | k,i,acc,h=>match rd h i with
  | none=>.bad
  | some none=>.ok acc h
  | some (some d)=>match k with
   | 0=>.bad
   | k+1=>(tt (ee d) h).bind fun b h1=>if b=true then (te (ee d) h1).bind fun y h2=>eV rd tt te ee k (i+1) (acc++[y]) h2 else eV rd tt te ee k (i+1) acc h1
noncomputable def cU (tt:MT) (te:ME) (ee:D->En):List D->Hh->R (List D)
 | [],h=>.ok [] h
 | d::ds,h=>(tt (ee d) h).bind fun b h1=>if b=true then (te (ee d) h1).bind fun y h2=>(cU tt te ee ds h2).bind fun ys h3=>.ok (y::ys) h3 else cU tt te ee ds h1
theorem aZ {β γ δ:Type} (r:R β) (f:β->Hh->R γ) (k:γ->Hh->R δ):(r.bind f).bind k=r.bind fun b h=>(f b h).bind k:=by cases r<;>rfl
theorem xk (tt:MT) (te:ME) (ee:D->En) (all:List D):∀(ds:List D) (i:Nat) (acc:List D) (h:Hh),all.drop i=ds->eV (Src.snap all).rdr tt te ee ds.length i acc h=(cU tt te ee ds h).bind fun ys h'=>.ok (acc++ys) h':=by
 intro ds
 induction ds with
 | nil=>
  intro i acc h e
  have:all[i]?=none:=by
   have:=congrArg List.length e
   simp at this
   exact List.getElem?_eq_none (by omega)
  unfold eV cU Src.rdr
  simp[this,R.bind]
 | cons d ds ih=>
  intro i acc h e
  have h0:all[i]?=some d:=by
   have:=congrArg (fun l=>l[0]?) e
   simpa using this
  have h1:all.drop (i+1)=ds:=by
   have:=congrArg List.tail e
   simpa using this
  unfold eV cU
  have:(Src.snap all).rdr h i=some (some d):=by unfold Src.rdr;simp[h0]
  rw[this]
  show((tt (ee d) h).bind _)=_
  rw[aZ]
  congr 1
  funext b h2
  cases b with
  | false=>rw[if_neg Bool.false_ne_true,if_neg Bool.false_ne_true];exact ih (i+1) acc h2 h1
  | true=>
   rw[if_pos rfl,if_pos rfl,aZ]
   congr 1
   funext y h3
   rw[aZ]
   have:=ih (i+1) (acc++[y]) h3 h1
   rw[this]
   congr 1
   funext ys h4
   show R.ok (acc++[y]++ys) h4=R.ok (acc++(y::ys)) h4
   simp
noncomputable def bA (nl:NL) (mi:MI) (ix:List Nat) (tt:MT) (te:ME):ME:=fun env h=>(mi env h).bind fun sr h1=>if sr.fuel h1<=1000000 then
 (match sr with
  | .snap ds=>cU tt te (hZ ix env) ds h1
  | .live n=>eV (Src.live n).rdr tt te (hZ ix env) ((ay h1 n).getD []).length 0 [] h1
  | .liveE n=>eV (Src.liveE n).rdr tt te (hZ ix env) ((ay h1 n).getD []).length 0 [] h1).bind nl else .bad
theorem qA {nl:NL} {mi:MI} {ix:List Nat} {tt:MT} {te:ME} {env:En} {h:Hh}:bA nl mi ix tt te env h=(mi env h).bind fun sr h1=>if sr.fuel h1<=1000000 then (eV sr.rdr tt te (hZ ix env) (sr.fuel h1) 0 [] h1).bind nl else .bad:=by
 unfold bA
 congr 1
 funext sr h1
 cases sr with
 | snap ds=>
  have:=xk tt te (hZ ix env) ds ds 0 [] h1 rfl
  simp only[List.nil_append] at this
  have e:(Src.snap ds).fuel h1=ds.length:=rfl
  rw[e,this,aZ]
  rfl
 | live n=>rfl
 | liveE n=>rfl
theorem uD {K:PySem.W.Frag} {g:GG} {α:List Addr} {H:Hp} {env:En} {σ:St} {ix:List Nat} {d:D} {v:V} (s:ie K g α H env σ) (r:aC K g α H d v):ie K g α H (hZ ix env d) ((mj ix σ).set 0 (some v)):=by
 refine⟨by simp[hZ,mj],fun i e h=>?_⟩
 cases i with
 | zero=>
  have:d=e:=by simpa [hZ] using h
  subst this
  exact⟨v,by simp[mj],r⟩
 | succ i=>
  have h':(ix.map fun i=>(env[i]?).join)[i]?=some (some e):=by simpa [hZ] using h
  rw[List.getElem?_map] at h'
  cases ei:ix[i]? with
  | none=>rw[ei] at h';cases h'
  | some j=>
   rw[ei] at h'
   have h2:(env[j]?).join=some e:=by simpa using h'
   cases ej:env[j]? with
   | none=>rw[ej] at h2;cases h2
   | some oe=>
    rw[ej] at h2
    have h3:oe=some e:=by simpa using h2
    subst h3
    obtain⟨u,eu,ru⟩:=s.vars j e ej
    refine⟨u,?_,ru⟩
    simp only[mj,List.set_cons_zero,List.getElem?_cons_succ,List.getElem?_map,ei,Option.map_some,eu]
    rfl
section
variable {X:Cx} {g:GG}
theorem pf:PTs X [] (tMT X.K g E00 tt1):=fun pins s σ H Q I ⟨α,env,h,s',w⟩=>zI pins s σ H Q I (w H α Ext.refl s'.heap)
theorem jm {c:Expr} {mt:MT} (h:PT X c (tMT X.K g E00 mt)):PTs X [c] (tMT X.K g E00 mt):=zN h
theorem qJ {K:PySem.W.Frag} {nl:NL} [gH nl] {mi:MI} {tt:MT} {te:ME} {ix:List Nat} {σ:St} {H:Hp} {Q R:VK} (hR:∀v H,gn Q v H->R v H) (t:tM K g E00 (bA nl mi ix tt te) σ H Q):AR (tMI K g E00 mi) ix (tMT K g E00 tt) (tM K g E00 te) σ H R:=by
 obtain⟨α,env,h,s,w⟩:=t
 rw[qA] at w
 refine⟨α,env,h,s,w.bind.mono fun sr h1 _ w1 J H1 α1 e1 hr1 rd=>fun acc hacc=>?_⟩
 obtain⟨hf,w1⟩:=WQ.dH w1
 have s1:=s.ext e1 hr1
 refine⟨fun i m ys H=>∃α h as,Ext K α1 H1 α H/\aM K g α H h/\av K g α H as ys/\H acc=some (.lst ys)/\acc∉α/\as.length+m<=1000000 ∧
  WQ K g E00 α1 H1 ((eV sr.rdr tt te (hZ ix env) m i as h).bind nl) (aI K g α1 H1 Q),
  ⟨sr.fuel h1,α1,h1,[],Ext.fresh hacc,hr1.grow hacc,.nil,aO,hr1.free hacc,by simpa using hf,w1.post e1⟩,?_⟩
 rintro i m ys H2 ⟨α2,h2,as,x2,hr2,ra,ha,hna,hm,w2⟩
 have q:=rd α2 H2 h2 x2 hr2 i
 unfold eV at w2
 cases e:sr.rdr h2 i with
 | none=>rw[e] at w2;exact w2.elim
 | some od=>
  rw[e] at w2 q
  cases od with
  | none=>
   refine .inl ⟨q,?_⟩
   exact hR _ _ <| gH.at' (show WQ K g E00 α1 H1 (nl as h2) _ from w2) (fun _ _ z=>z) x2 hr2 ra ha hna hacc
  | some d=>
   cases m with
   | zero=>exact w2.elim
   | succ m=>
    rw[aZ] at w2
    have w3:=WQ.bind (show WQ K g E00 α1 H1 ((tt (hZ ix env d) h2).bind _) _ from w2)
    refine .inr ⟨q.1,fun x H3 y=>?_⟩
    obtain⟨α3,x3,hr3,rx⟩:=q.2 x H3 y
    have ha3:=x3.keep _ _ ha hna
    have hna3:acc∉α3:=fun z=>by have:=x3.new _ z hna;rw[ha] at this;cases this
    have s3:cG K g α3 H3 (hZ ix env d) ((mj ix σ).set 0 (some x)) h2:=⟨hr3,uD (s1.vs.ext (x2.trans x3)) rx⟩
    refine tMT.use s3 ((w3.ext x2).ext x3) fun b h4 H4 α4 x4 s4 w4=>?_
    have ha4:=x4.keep _ _ ha3 hna3
    have hna4:acc∉α4:=fun z=>by have:=x4.new _ z hna3;rw[ha3] at this;cases this
    cases b with
    | false=>
     rw[if_neg Bool.false_ne_true] at w4 ⊢
     exact⟨m,Nat.lt_succ_self _,α4,h4,as,x2.trans (x3.trans x4),s4.heap,ra.ext (x3.trans x4),ha4,hna4,by omega,w4⟩
    | true=>
     rw[if_pos rfl] at w4 ⊢
     rw[aZ] at w4
     refine tM.use s4 (((WQ.bind w4).ext x2).ext (x3.trans x4)) fun y h5 v5 H5 α5 x5 s5 r5 w5=>?_
     have ha5:=x5.keep _ _ ha4 hna4
     have hna5:acc∉α5:=fun z=>by have:=x5.new _ z hna4;rw[ha4] at this;cases this
     have soft:wo H5 acc:=.inr ⟨_,ha5,fun _ z=>(nomatch z),fun _ _ z=>nomatch z⟩
     have x6:Ex0 K α5 H5 α5 (upd H5 acc (.lst (ys++[v5]))):=Ex0.upd soft
     have tr:=x2.trans (x3.trans (x4.trans x5))
     refine⟨ha5,?_,m,Nat.lt_succ_self _,α5,h5,as++[y],⟨tr.toEx0.trans x6,fun p o z n=>?_,tr.new⟩,s5.heap.off soft hna5,((ra.ext (x3.trans (x4.trans x5))).append (.cons r5 .nil)).ex0 x6,aO,hna5,by rw[List.length_append];simp;omega,w5⟩
     ·rw[<- ra.length,sizeLine_eq];omega
     ·rw[aH (bH z hacc)];exact tr.keep p o z n
noncomputable def unp {β:Type} (m:En->Hh->R β):En->Hh->R β:=fun env h=>match env with
 | some (.tup [x,y])::r=>m (some x::some y::r) h
 | _=>.bad
theorem BL {K:PySem.W.Frag} {g:GG} {ε:EE} {α α':List Addr} {H H':Hp} {β:Type} {m:En->Hh->R β} {d:D} {x:V} {r:En} {h:Hh} {k:β->Hh->Prop} (rx:aC K g α H d x) (w:WQ K g ε α' H' (unp m (some d::r) h) k) :
  ∃a b p va vb,d=.tup [a,b]/\x=.ref p/\H p=some (.tup [va,vb])/\aC K g α H a va/\aC K g α H b vb/\WQ K g ε α' H' (m (some a::some b::r) h) k:=by
 cases rx with
 | tup hp rs=>
  cases rs with
  | nil=>exact w.elim
  | cons ra rr=>
   cases rr with
   | nil=>exact w.elim
   | cons rb rr=>
    cases rr with
    | nil=>exact⟨_,_,_,_,_,rfl,rfl,hp,ra,rb,w⟩
    | cons _ _=>exact w.elim
 | _=>exact w.elim
theorem wR {K:PySem.W.Frag} {g:GG} {α:List Addr} {H:Hp} {env:En} {σ:St} {ix:List Nat} {d e:D} {v u:V} (s:ie K g α H env σ) (r:aC K g α H d v) (q:aC K g α H e u):ie K g α H (some d::some e::ix.map fun i=>(env[i]?).join) (some v::some u::ix.map fun i=>(σ[i]?).join):=by
 have z:=uD (ix:=ix) s q
 have e1:(mj ix σ).set 0 (some u)=some u::ix.map fun i=>(σ[i]?).join:=rfl
 rw[e1] at z
 refine⟨by simp,fun i x h=>?_⟩
 cases i with
 | zero=>have:d=x:=by simpa using h
         subst this;exact⟨v,rfl,r⟩
 | succ i=>
  obtain⟨y,ey,ry⟩:=z.vars i x (by simpa [hZ] using h)
  exact⟨y,by simpa using ey,ry⟩
theorem vD {K:PySem.W.Frag} {nl:NL} [gH nl] {mi:MI} {tt:MT} {te:ME} {ix:List Nat} {σ:St} {H:Hp} {Q R:VK} (hR:∀v H,gn Q v H->R v H) (t:tM K g E00 (bA nl mi ix (unp tt) (unp te)) σ H Q):lU (tMI K g E00 mi) 2 ix (xQ K 2 (jr (cf 0) (jr (cf 1) yt))) (tMT K g E00 tt) (tM K g E00 te) σ H R:=by
 obtain⟨α,env,h,s,w⟩:=t
 rw[qA] at w
 refine⟨α,env,h,s,w.bind.mono fun sr h1 _ w1 J H1 α1 e1 hr1 rd=>fun acc hacc=>?_⟩
 obtain⟨hf,w1⟩:=WQ.dH w1
 have s1:=s.ext e1 hr1
 refine⟨fun i m ys H=>∃α h as,Ext K α1 H1 α H/\aM K g α H h/\av K g α H as ys/\H acc=some (.lst ys)/\acc∉α/\as.length+m<=1000000 ∧
  WQ K g E00 α1 H1 ((eV sr.rdr (unp tt) (unp te) (hZ ix env) m i as h).bind nl) (aI K g α1 H1 Q),
  ⟨sr.fuel h1,α1,h1,[],Ext.fresh hacc,hr1.grow hacc,.nil,aO,hr1.free hacc,by simpa using hf,w1.post e1⟩,?_⟩
 rintro i m ys H2 ⟨α2,h2,as,x2,hr2,ra,ha,hna,hm,w2⟩
 have q:=rd α2 H2 h2 x2 hr2 i
 unfold eV at w2
 cases e:sr.rdr h2 i with
 | none=>rw[e] at w2;exact w2.elim
 | some od=>
  rw[e] at w2 q
  cases od with
  | none=>
   refine .inl ⟨q,?_⟩
   exact hR _ _ <| gH.at' (show WQ K g E00 α1 H1 (nl as h2) _ from w2) (fun _ _ z=>z) x2 hr2 ra ha hna hacc
  | some d=>
   cases m with
   | zero=>exact w2.elim
   | succ m=>
    rw[aZ] at w2
    have w3:=WQ.bind (show WQ K g E00 α1 H1 ((unp tt (hZ ix env d) h2).bind _) _ from w2)
    refine .inr ⟨q.1,fun σ0 x H3 ⟨ts,tl,e0⟩ y=>?_⟩
    obtain⟨α3,x3,hr3,rx⟩:=q.2 x H3 y
    have ha3:=x3.keep _ _ ha hna
    have hna3:acc∉α3:=fun z=>by have:=x3.new _ z hna;rw[ha] at this;cases this
    obtain⟨da,db,pp,va,vb,rfl,rfl,hq,rda,rdb,w3'⟩:=BL rx ((w3.ext x2).ext x3)
    obtain⟨t0,t1,rfl⟩:∃t0 t1,ts=[t0,t1]:=by
     match ts,tl with
     | [t0,t1],_=>exact⟨t0,t1,rfl⟩
    subst e0
    refine⟨_,_,rfl,SqT.of hq,rfl,_,_,rfl,_,_,rfl,rfl,⟨[some va,some vb],rfl,rfl⟩,?_⟩
    have s3:cG K g α3 H3 (some da::some db::ix.map fun i=>(env[i]?).join) (some va::some vb::ix.map fun i=>(σ[i]?).join) h2:=⟨hr3,wR (s1.vs.ext (x2.trans x3)) rda rdb⟩
    refine tMT.use s3 w3' fun b h4 H4 α4 x4 s4 w4=>?_
    have ha4:=x4.keep _ _ ha3 hna3
    have hna4:acc∉α4:=fun z=>by have:=x4.new _ z hna3;rw[ha3] at this;cases this
    cases b with
    | false=>
     rw[if_neg Bool.false_ne_true] at w4 ⊢
     exact⟨m,Nat.lt_succ_self _,α4,h4,as,x2.trans (x3.trans x4),s4.heap,ra.ext (x3.trans x4),ha4,hna4,by omega,w4⟩
    | true=>
     rw[if_pos rfl] at w4 ⊢
     rw[aZ] at w4
     refine tM.use s4 (((WQ.bind w4).ext x2).ext (x3.trans x4)) fun y h5 v5 H5 α5 x5 s5 r5 w5=>?_
     have ha5:=x5.keep _ _ ha4 hna4
     have hna5:acc∉α5:=fun z=>by have:=x5.new _ z hna4;rw[ha4] at this;cases this
     have soft:wo H5 acc:=.inr ⟨_,ha5,fun _ z=>(nomatch z),fun _ _ z=>nomatch z⟩
     have x6:Ex0 K α5 H5 α5 (upd H5 acc (.lst (ys++[v5]))):=Ex0.upd soft
     have tr:=x2.trans (x3.trans (x4.trans x5))
     refine⟨ha5,?_,m,Nat.lt_succ_self _,α5,h5,as++[y],⟨tr.toEx0.trans x6,fun p o z n=>?_,tr.new⟩,s5.heap.off soft hna5,((ra.ext (x3.trans (x4.trans x5))).append (.cons r5 .nil)).ex0 x6,aO,hna5,by rw[List.length_append];simp;omega,w5⟩
     ·rw[<- ra.length,sizeLine_eq];omega
     ·rw[aH (bH z hacc)];exact tr.keep p o z n
theorem pg2 {X:Cx} {x y:Str} {px py pt:Pos} {kt:Nat} (hc:X.calm=true) (hn:X.N.Nodup) (h0:X.N[0]?=some x) (h1:X.N[1]?=some y) (hx:Loc X.env.scope x/\X.env.scope.names.lookup x=some .local) (hy:Loc X.env.scope y/\X.env.scope.names.lookup y=some .local) :
  PG X (.Tuple [.Name x px,.Name y py] kt pt) (xQ X.K 2 (jr (cf 0) (jr (cf 1) yt))):=sH hc (fM (bf hn h0 hx.1 (.inr hx.2)) (fM (bf hn h1 hy.1 (.inr hy.2)) o7))
theorem lZ {nl:NL} [gH nl] {elt iter:Expr} {x y:Str} {px py pt:Pos} {kt:Nat} {ifs:List Expr} {scope osc:Scope} {pos:Pos} {mi:MI} {tt:MT} {te:ME} (ix:List Nat) (N':List Str)
  (hxe:X.xe=fun _ _=>False) (hc:X.calm=true) (ho:X.env.scope=osc) (hN:N'=[x,y]++ix.map fun i=>(X.N[i]?).getD ("" : Str)) (hnd:N'.Nodup)
  (hall:(∀y∈scope.names,y.2=.free->osc.names.lookup y.1=some .cell)/\(∀y∈scope.names,y.2≠.cell)/\scope.kind=.function/\(∀y∈scope.names,y.2=.local->scope.names.lookup y.1=some .local)/\(∀z∈N'.drop [x,y].length,scope.names.lookup z=some .free))
  (hi:PI X (.Tuple [.Name x px,.Name y py] kt pt) iter (tMI X.K g E00 mi))
  (hx:∀cl C ao ar fp,Loc (aB X scope cl C ao ar fp N').env.scope x/\(aB X scope cl C ao ar fp N').env.scope.names.lookup x=some .local) (hy:∀cl C ao ar fp,Loc (aB X scope cl C ao ar fp N').env.scope y/\(aB X scope cl C ao ar fp N').env.scope.names.lookup y=some .local)
  (ht:∀cl C ao ar fp,PTs (aB X scope cl C ao ar fp N') ifs (tMT X.K g E00 tt))
  (he:∀cl C ao ar fp,PE (aB X scope cl C ao ar fp N') elt (tM X.K g E00 te))
  (hs:∀x,foldedSetIterable iter X.env x=pure x:=by intro _;rfl) :
  PE X (.ListComp elt [⟨.Tuple [.Name x px,.Name y py] kt pt,iter,ifs,0⟩] scope pos) (tM X.K g E00 (bA nl mi ix (unp tt) (unp te))):=by
 refine PE.imp (PE.frz (r_ (tgr:=xQ X.K 2 (jr (cf 0) (jr (cf 1) yt))) ix [x,y] N' hxe hc ho hN hnd hall hi (fun cl C ao ar fp=>pg2 (X:=aB X scope cl C ao ar fp N') hc hnd (show N'[0]?=some x by rw[hN];rfl) (show N'[1]?=some y by rw[hN];rfl) (hx cl C ao ar fp) (hy cl C ao ar fp)) ht he hs)) fun σ H Q t=>?_
 exact vD (fun _ _ z=>z) t
end
noncomputable def sml (i:Int):Bool:=decide (i.natAbs<2 ^ 1900)
theorem lq {i:Int} (h:sml i=true):Builtin.Int.intBits i<=1900:=by
 have h':i.natAbs<2 ^ 1900:=of_decide_eq_true h
 unfold Builtin.Int.intBits
 split
 ·omega
 ·rename_i z
  have z':i.natAbs≠0:=by
   intro q
   apply z
   have:i=0:=Int.natAbs_eq_zero.mp q
   rw[this];rfl
  have:=(Nat.log2_lt z').mpr h'
  omega
theorem pR {i:Int} (h:sml i=true):i.natAbs.log2<1900:=by
 have h':i.natAbs<2 ^ 1900:=of_decide_eq_true h
 by_cases z:i.natAbs=0
 ·rw[z];decide
 ·exact(Nat.log2_lt z).mpr h'
theorem s_ {i:Int} (h:i.natAbs<=10 ^ 560):sml i=true:=by
 refine decide_eq_true (Nat.lt_of_le_of_lt h (by decide +kernel))
section
variable {X:Cx} {K:PySem.W.Frag} {g:GG} {ε:EE}
theorem OpR.or {f:Value->Value->Sem Value} {r r':R2} (h:OpR X f r) (h':OpR X f r'):OpR X f (fun x y H Q=>r x y H Q\/r' x y H Q):=fun pins s σ H x y v u Q I rx ry q=>q.elim (h pins s σ H x y v u Q I rx ry) (h' pins s σ H x y v u Q I rx ry)
noncomputable def gp (d:D) (h:Hh):Option (List D):=match d with
 | .frl ds=>some ds
 | .ref n=>ay h n
 | _=>none
theorem pN {α:List Addr} {H:Hp} {h:Hh} {d:D} {x:V} {ds:List D} (r:aM K g α H h) (rd:aC K g α H d x) (e:gp d h=some ds):∃p vs,x=.ref p/\Rd H p (.lst vs)/\av K g α H ds vs:=by
 unfold gp at e
 cases rd with
 | frl hq rs=>cases e;exact⟨_,_,rfl,hq.rd,rs⟩
 | ref hp=>obtain⟨vs,hv,rs⟩:=r.lst e hp;exact⟨_,vs,rfl,.inl hv,rs⟩
 | _=>cases e
noncomputable def Be:R2:=fun x y H Q=>∃l b xs zs,x=.ref l/\y=.ref b/\Rd H l (.lst xs)/\Rd H b (.lst zs)/\xs.length+zs.length<=sizeLine/\∀p,H p=none->Q (.ref p) (upd H p (.lst (xs++zs)))
theorem Cr {X:Cx} {pins:List (Addr × Obj)} {σ:St} {H:Hp} {s:Shared} {l:Addr} {xs:List V} (I:Inv X pins σ H s) (h:Rd H l (.lst xs)):∃(its:List Value) (n:Nat),xs.length<=sizeLine/\Vals xs its/\xs.length=its.length/\s.heap.get? l=some { cls:=.type "list", data:=.seq its.toArray n }:=by
 obtain⟨z,its,n,r,e⟩:=h.ok I.hok
 exact⟨its,n,z,r,r.length,e⟩
theorem zB:OpR X (binaryOp .Add) Be:=by
 intro pins s σ H x y v u Q I rx ry h
 obtain⟨l,b,xs,zs,rfl,rfl,hH,hB,hz,q⟩:=h
 cases rx
 cases ry
 obtain⟨its,n,z,r,hl,e⟩:=Cr I hH
 obtain⟨its2,n2,z2,r2,hl2,e2⟩:=Cr I hB
 refine PySem.P.add_list e e2 ?_ (by rw[List.size_toArray,List.size_toArray];omega)
 have ea:its.toArray++its2.toArray=(its++its2).toArray:=by simp
 rw[ea]
 exact⟨.ref _,_,I.xv (t':=s.toks) (r.append r2) (by rw[List.length_append];omega),rfl,q _ I.fresh⟩
noncomputable def bQ (nl:NL):D->D->Hh->R D:=fun x y h=>match x,y with
 | .int i,.int j=>.ok (.int (i+j)) h
 | .tup a,.tup b=>if a.length+b.length<=1000000 then .ok (.tup (a++b)) h else .bad
 | .str a,.str b=>if a.length+b.length<=1000000 then .ok (.str (a++b)) h else .bad
 | x,y=>match gp x h,gp y h with
  | some a,some b=>if a.length+b.length<=1000000 then nl (a++b) h else .bad
  | _,_=>.bad
noncomputable abbrev yK (K:PySem.W.Frag):R2:=fun x y H Q=>(rI0 fun i j=>.int (i+j)) x y H Q\/(AW K x y H Q\/wJ K x y H Q)\/Be x y H Q\/∃i j,x=.str i/\y=.str j/\i.length+j.length<=sizeLine/\Q (.str (i++j)) H
theorem bP:OpR X (binaryOp .Add) (fun x y H Q=>yK X.K x y H (gn Q)):=OpR.frz (OpR.or Ca (OpR.or (OpR.or AM wC) (OpR.or zB tq)))
theorem aI.vU {α:List Addr} {H:Hp} {h:Hh} {Q:VK} {d:D} {v:V} (p:aI K g α H Q d h) (r:aM K g α H h) (rd:aC K g α H d v):gn Q v H:=.inl (p.now r rd)
theorem bK {nl:NL} [gH nl]:ec K g ε (bQ nl) (fun x y H Q=>yK K x y H (gn Q)):=by
 intro α H h a b x y Q r ra rb w
 have gen:∀{a b:D} {x y:V},aC K g α H a x->aC K g α H b y->WQ K g ε α H (match gp a h,gp b h with
  | some a,some b=>if a.length+b.length<=1000000 then nl (a++b) h else .bad
  | _,_=>.bad) (aI K g α H Q)->yK K x y H (gn Q):=by
  intro a b x y ra rb w
  cases e1:gp a h with
  | none=>simp only[e1] at w;exact w.elim
  | some da=>
   cases e2:gp b h with
   | none=>simp only[e1,e2] at w;exact w.elim
   | some db=>
    simp only[e1,e2] at w
    obtain⟨p,va,rfl,hva,rsa⟩:=pN r ra e1
    obtain⟨q,vb,rfl,hvb,rsb⟩:=pN r rb e2
    obtain⟨hl,w⟩:=WQ.dH w
    refine .inr (.inr (.inl ⟨p,q,va,vb,rfl,rfl,hva,hvb,gm (by rw[<- rsa.length,<- rsb.length];exact hl),fun l hl'=>?_⟩))
    exact NL.post w r (rsa.append rsb) hl'
 unfold bQ at w
 split at w
 ·cases ra
  cases rb
  exact .inl ⟨_,_,rfl,rfl,aI.vU w r (.int _)⟩
 ·cases ra with
  | @tup da pa va ha rsa=>
   cases rb with
   | @tup db pb vb hb rsb=>
    obtain⟨hl,w⟩:=WQ.dH w
    refine .inr (.inl ?_)
    cases va with
    | nil=>
     cases rsa
     exact .inr ⟨_,_,_,rfl,rfl,SqT.of ha,SqT.of hb,aI.vU w r (.tup hb rsb)⟩
    | cons z zs=>
     refine .inl ⟨_,_,_,_,rfl,rfl,SqT.of ha,SqT.of hb,by simp,gm (by rw[<- rsa.length,<- rsb.length];exact hl),fun e=>?_,fun _ p hp=>.inl (aI.tup w r (rsa.append rsb) hp)⟩
     subst e
     cases rsb
     refine aI.vU w r (.tup ha ?_)
     rw[List.append_nil];exact rsa
 ·cases ra
  cases rb
  obtain⟨hl,w⟩:=WQ.dH w
  exact .inr (.inr (.inr ⟨_,_,rfl,rfl,gm hl,aI.vU w r (.str _)⟩))
 ·exact gen ra rb w
noncomputable def cn:D->D->Hh->R D
 | .int i,.int j,h=>.ok (.int (i - j)) h
 | _,_,_=>.bad
theorem bV:ec K g ε cn (rI0 fun i j=>.int (i - j)):=by
 intro α H h a b x y Q r ra rb w
 unfold cn at w
 cases ra with
 | int i=>
  cases rb with
  | int j=>exact⟨i,j,rfl,rfl,aI.now w r (.int _)⟩
  | _=>exact w.elim
 | _=>exact w.elim
noncomputable def A5:R2:=fun x y H Q=>∃l k xs,x=.ref l/\y=.int k/\Rd H l (.lst xs)/\-(2 ^ 63)<=k/\k<2 ^ 63/\xs.length*k.toNat<=sizeLine ∧
 ∀p,H p=none->Q (.ref p) (upd H p (.lst (List.replicate k.toNat xs).flatten))
theorem zi:OpR X (binaryOp .Mult) A5:=by
 intro pins s σ H x y v u Q I rx ry h
 obtain⟨l,k,xs,rfl,rfl,hH,h1,h2,hz,q⟩:=h
 cases rx
 obtain⟨t,rfl⟩:=ry
 obtain⟨its,n,z,r,hl,e⟩:=Cr I hH
 have hlen:its.toArray.size*k.toNat<=sizeLine:=by rw[List.size_toArray,<- hl];exact hz
 have hcap:¬ its.toArray.size*k.toNat > (2 ^ 63 - 1) / 8:=by
  have:(sizeLine:Nat)<=(2 ^ 63 - 1) / 8:=by decide
  omega
 have hfit:¬ (!Builtin.List.listFitsIndex k)=true:=by
  rw[fitsIndex_both h1 h2]
  exact Bool.false_ne_true
 have hlong:¬ Builtin.List.listTooLong (its.toArray.size*k.toNat)=true:=by
  rw[xC hlen]
  exact Bool.false_ne_true
 have hnew:List.foldl (fun x1 x2=>x1++x2) #[] (List.replicate (if its.toArray.isEmpty=true then 0 else k.toNat) its.toArray)=(List.replicate k.toNat its).flatten.toArray:=by
  have f0:∀m:Nat,List.foldl (fun x1 x2=>x1++x2) #[] (List.replicate m its.toArray)=(List.replicate m its).flatten.toArray:=fun m=>by
   have:=foldl_rep its m []
   rw[List.nil_append] at this
   exact this
  rw[f0]
  cases its with
  | nil=>simp
  | cons a r'=>rw[if_neg (by simp)]
 refine wpAny_binaryOp_repeat_ref (T:="list") (U:="int") (by decide) ⟨_,e,rfl⟩ (fun s'=>typeIs_int s' k t) noFill_list_mul F.fills_int_mul F.slot_int_rmul repeat_list F.slot_int_index.lookup
  (call_meets F.slot_int_rmul (typeIs_int s k t) F.entry_int_rmul (F.args_int_rmul_2 _ _) (int___rmul___int_list k t l its.toArray n)
   ⟨e,rfl,⟨_,e,rfl⟩,call_meets F.slot_list_mul ⟨_,e,rfl⟩ F.entry_list_mul (F.args_list_mul_2 _ _) (AutoListH.list___mul___list_int_3 l its.toArray n k t hfit hcap hlong) ⟨e,?_⟩⟩)
 rw[hnew]
 exact⟨.ref _,_,I.xv (t':=s.toks) (r.rep k.toNat) (by rw[len_rep,Nat.mul_comm];exact hz),rfl,q _ I.fresh⟩
noncomputable def fZ (nl:NL):D->D->Hh->R D:=fun x y h=>match x,y with
 | .int i,.int j=>if sml i=true/\sml j=true then .ok (.int (i*j)) h else .bad
 | x,.int k=>match gp x h with
  | some ds=>if k.natAbs<=1000000/\ds.length*k.toNat<=1000000 then nl (List.replicate k.toNat ds).flatten h else .bad
  | none=>.bad
 | _,_=>.bad
theorem zY:OpR X (binaryOp .Mult) (rI (fun i j=>sml i=true/\sml j=true) fun i j=>.int (i*j)):=opI fun _ _ _ _ _ _ _ hc q=>mul_int q (IntMulOk.of_bits (Nat.le_trans (lq hc.1) (by decide)) (Nat.le_trans (lq hc.2) (by decide)))
noncomputable abbrev w_:R2:=fun x y H Q=>(rI (fun i j=>sml i=true/\sml j=true) fun i j=>.int (i*j)) x y H Q\/A5 x y H Q
theorem gr:OpR X (binaryOp .Mult) (fun x y H Q=>w_ x y H (gn Q)):=OpR.frz (OpR.or zY zi)
theorem gj {nl:NL} [gH nl]:ec K g ε (fZ nl) (fun x y H Q=>w_ x y H (gn Q)):=by
 intro α H h a b x y Q r ra rb w
 have gen:∀{a:D} {k:Int} {x:V},aC K g α H a x->WQ K g ε α H (match gp a h with
  | some ds=>if k.natAbs<=1000000/\ds.length*k.toNat<=1000000 then nl (List.replicate k.toNat ds).flatten h else .bad
  | none=>.bad) (aI K g α H Q)->w_ x (.int k) H (gn Q):=by
  intro a k x ra w
  cases e1:gp a h with
  | none=>simp only[e1] at w;exact w.elim
  | some ds=>
   simp only[e1] at w
   obtain⟨hl,w⟩:=WQ.dH w
   obtain⟨p,vs,rfl,hv,rs⟩:=pN r ra e1
   refine .inr ⟨p,k,vs,rfl,rfl,hv,by omega,by omega,gm (by rw[<- rs.length];exact hl.2),fun l hl'=>?_⟩
   exact NL.post w r (rs.flat k.toNat) hl'
 unfold fZ at w
 split at w
 ·cases ra
  cases rb
  obtain⟨hc,w⟩:=WQ.dH w
  exact .inl ⟨_,_,rfl,rfl,hc,aI.vU w r (.int _)⟩
 ·cases rb
  exact gen ra w
 ·exact w.elim
noncomputable def vC:D->D->Hh->R D
 | .int i,.int j,h=>if 0<j/\sml j=true then .ok (.int (i / j)) h else .bad
 | _,_,_=>.bad
theorem lT:OpR X (binaryOp .FloorDiv) (rI (fun i j=>0<j/\sml j=true) fun i j=>.int (i / j)):=opI fun i j _ _ _ _ _ hc q=>by
 have e:i.fdiv j=i / j:=Int.fdiv_eq_ediv_of_nonneg _ (by omega)
 refine floordiv_int (by omega) ?_ (.inl (PyProof.noPylong_of_log2 (Nat.lt_trans (pR hc.2) (by decide))))
 rw[e];exact q
theorem sP:ec K g ε vC (rI (fun i j=>0<j/\sml j=true) fun i j=>.int (i / j)):=by
 intro α H h a b x y Q r ra rb w
 unfold vC at w
 cases ra with
 | int i=>
  cases rb with
  | int j=>
   obtain⟨hc,w⟩:=WQ.dH w
   exact⟨i,j,rfl,rfl,hc,aI.now w r (.int _)⟩
  | _=>exact w.elim
 | _=>exact w.elim
noncomputable def kO:D->D->Hh->R D
 | .int i,.int j,h=>if 0<j then .ok (.int (i % j)) h else .bad
 | _,_,_=>.bad
theorem je:ec K g ε kO (rI (fun _ j=>0<j) fun i j=>.int (i % j)):=by
 intro α H h a b x y Q r ra rb w
 unfold kO at w
 cases ra with
 | int i=>
  cases rb with
  | int j=>
   obtain⟨hc,w⟩:=WQ.dH w
   exact⟨i,j,rfl,rfl,hc,aI.now w r (.int _)⟩
  | _=>exact w.elim
 | _=>exact w.elim
noncomputable def zQ:D->D->Hh->R D
 | .int i,.int j,h=>if 0<=j/\j.natAbs<=1000/\sml i=true then .ok (.int (i ^ j.toNat)) h else .bad
 | _,_,_=>.bad
theorem yW:OpR X (binaryOp .Pow) (rI (fun i j=>0<=j/\j.natAbs<=1000/\sml i=true) fun i j=>.int (i ^ j.toNat)):=opI fun i j _ _ _ _ _ hc q=>pow_int hc.1 (by
 have:=lq hc.2.2
 have h1:((Builtin.Int.intBits i:Nat):Int)<=1900:=by exact_mod_cast this
 calc ((Builtin.Int.intBits i:Nat):Int)*j<=1900*j:=Int.mul_le_mul_of_nonneg_right h1 hc.1
  _<=1900*1000:=Int.mul_le_mul_of_nonneg_left (show j<=1000 by have:=hc.2.1;omega) (by decide)
  _<=2 ^ 27:=by decide) q
theorem B_:ec K g ε zQ (rI (fun i j=>0<=j/\j.natAbs<=1000/\sml i=true) fun i j=>.int (i ^ j.toNat)):=by
 intro α H h a b x y Q r ra rb w
 unfold zQ at w
 cases ra with
 | int i=>
  cases rb with
  | int j=>
   obtain⟨hc,w⟩:=WQ.dH w
   exact⟨i,j,rfl,rfl,hc,aI.now w r (.int _)⟩
  | _=>exact w.elim
 | _=>exact w.elim
noncomputable def jk:D->Hh->R D
 | .int i,h=>.ok (.int (-i)) h
 | _,_=>.bad
theorem gY:D9 K g ε jk (rU fun i=>.int (-i)):=by
 intro α H h a x Q r ra w
 unfold jk at w
 cases ra with
 | int i=>exact⟨i,rfl,aI.now w r (.int _)⟩
 | _=>exact w.elim
noncomputable def vh (p:Int->Int->Bool):D->D->Hh->R D
 | .int i,.int j,h=>.ok (.bl (p i j)) h
 | _,_,_=>.bad
noncomputable def ltI:Int->Int->Bool
 | .ofNat a,.ofNat b=>Nat.blt a b
 | .ofNat _,.negSucc _=>false
 | .negSucc _,.ofNat _=>true
 | .negSucc a,.negSucc b=>Nat.blt b a
theorem lC:ltI=fun i j=>decide (i<j):=by
 funext i j
 cases i with
 | ofNat a=>
  cases j with
  | ofNat b=>
   show Nat.blt a b=_
   rw[Bool.eq_iff_iff,Nat.blt_eq,decide_eq_true_iff]
   exact Int.ofNat_lt.symm
  | negSucc b=>exact(decide_eq_false (by have:Int.ofNat a=(a:Int):=rfl;omega)).symm
 | negSucc a=>
  cases j with
  | ofNat b=>exact(decide_eq_true (by have:Int.ofNat b=(b:Int):=rfl;omega)).symm
  | negSucc b=>
   show Nat.blt b a=_
   rw[Bool.eq_iff_iff,Nat.blt_eq,decide_eq_true_iff]
   omega
noncomputable def leI (i j:Int):Bool:=!ltI j i
theorem oK:leI=fun i j=>decide (i<=j):=by
 funext i j
 unfold leI
 rw[lC,Bool.eq_iff_iff]
 simp
noncomputable def dLt:D->D->Hh->R D:=vh ltI
noncomputable def dLe:D->D->Hh->R D:=vh leI
noncomputable def dGt:D->D->Hh->R D:=vh fun i j=>ltI j i
noncomputable def dGe:D->D->Hh->R D:=vh fun i j=>leI j i
theorem pK {p:Int->Int->Bool}:ec K g ε (vh p) (rI0 fun i j=>.bl (p i j)):=by
 intro α H h a b x y Q r ra rb w
 unfold vh at w
 cases ra with
 | int i=>
  cases rb with
  | int j=>exact⟨i,j,rfl,rfl,aI.now w r (.bl _)⟩
  | _=>exact w.elim
 | _=>exact w.elim
theorem yE:ec K g ε dLt (rI0 fun i j=>.bl (decide (i<j))):=by
 unfold dLt;rw[lC];exact pK
theorem AU:ec K g ε dLe (rI0 fun i j=>.bl (decide (i<=j))):=by
 unfold dLe;rw[oK];exact pK
theorem yf:ec K g ε dGt (rI0 fun i j=>.bl (decide (j<i))):=by
 unfold dGt;rw[lC];exact pK
theorem DZ:ec K g ε dGe (rI0 fun i j=>.bl (decide (j<=i))):=by
 unfold dGe;rw[oK];exact pK
noncomputable def eW (d:D) (h:Hh):Option (List D):=match d with
 | .tup ds=>some ds
 | .frl ds=>some ds
 | .scr ds=>some ds
 | .ref n=>ay h n
 | _=>none
theorem kS {α:List Addr} {H:Hp} {h:Hh} {d:D} {x:V} {ds:List D} (r:aM K g α H h) (rd:aC K g α H d x) (e:eW d h=some ds):∃p vs,x=.ref p/\(SqL K H p vs\/SqT K H p vs)/\av K g α H ds vs:=by
 unfold eW at e
 cases rd with
 | tup hq rs=>cases e;exact⟨_,_,rfl,.inr (SqT.of hq),rs⟩
 | frl hq rs=>cases e;exact⟨_,_,rfl,.inl hq.sq,rs⟩
 | scr hq rs=>cases e;exact⟨_,_,rfl,.inl hq.sq,rs⟩
 | ref hp=>obtain⟨vs,hv,rs⟩:=r.lst e hp;exact⟨_,vs,rfl,.inl (SqL.of hv),rs⟩
 | _=>cases e
noncomputable def dIx:D->D->Hh->R D:=fun a b h=>match eW a h,b with
 | some ds,.int i=>match atI ds i with
  | some d=>.ok d h
  | none=>.bad
 | _,_=>.bad
theorem zT {α:List Addr} {H:Hp} {ds:List D} {vs:List V} {i:Int} {d:D} (rs:av K g α H ds vs) (e:atI ds i=some d):∃v,atI vs i=some v/\aC K g α H d v:=by
 unfold atI at e ⊢
 rw[<- rs.length]
 cases e1:ixN ds.length i with
 | none=>rw[e1] at e;cases e
 | some j=>
  rw[e1] at e
  exact rs.get e
theorem cO:ec K g ε dIx (rIx K):=by
 intro α H h a b x y Q r ra rb w
 unfold dIx at w
 cases e1:eW a h with
 | none=>simp only[e1] at w;exact w.elim
 | some ds=>
  simp only[e1] at w
  obtain⟨p,vs,rfl,hq,rs⟩:=kS r ra e1
  cases rb with
  | int i=>
   cases e2:atI ds i with
   | none=>simp only[e2] at w;exact w.elim
   | some d=>
    simp only[e2] at w
    obtain⟨v,ev,rv⟩:=zT rs e2
    rcases hq with hq | hq
    ·exact .inl ⟨p,vs,i,v,rfl,rfl,hq,ev,aI.now w r rv⟩
    ·exact .inr (.inl ⟨p,vs,i,v,rfl,rfl,hq,ev,aI.now w r rv⟩)
  | _=>exact w.elim
noncomputable def kc:D->D->D->Hh->R Unit:=fun o i v h=>match o,i with
 | .ref n,.int k=>match ay h n with
  | some ds=>match ixN ds.length k with
   | some j=>.ok () (h.set n (.lst (ds.set j v)))
   | none=>.bad
  | none=>.bad
 | _,_=>.bad
theorem rf:DI K g ε kc Bh:=by
 intro α H h o i v x y z Q r ro ri rv w
 unfold kc at w
 cases ro with
 | @ref n p hp=>
  cases ri with
  | int k=>
   cases e1:ay h n with
   | none=>simp only[e1] at w;exact w.elim
   | some ds=>
    simp only[e1] at w
    cases e2:ixN ds.length k with
    | none=>simp only[e2] at w;exact w.elim
    | some j=>
     simp only[e2] at w
     obtain⟨vs,hv,rs⟩:=r.lst e1 hp
     refine⟨p,vs,k,j,rfl,rfl,hv,by rw[<- rs.length];exact e2,?_⟩
     have x:=Ext.write (o:=.lst (vs.set j z)) r hp
     exact w _ α x (r.write hp ⟨_,aO,(rs.set rv j).ext x⟩)
  | _=>exact w.elim
 | _=>exact w.elim
noncomputable def cutD (xs:List D) (lo hi:Option Int):List D:=(xs.drop (HT.sIx xs.length 0 lo)).take (HT.sIx xs.length xs.length hi - HT.sIx xs.length 0 lo)
theorem js {α:List Addr} {H:Hp} {ds:List D} {vs:List V} (rs:av K g α H ds vs) (lo hi:Option Int):av K g α H (cutD ds lo hi) (mU vs lo hi):=by
 unfold cutD mU
 rw[<- rs.length]
 exact(rs.drop _).take _
noncomputable abbrev MO:=En->Hh->R (Option Int)
noncomputable def dC:MO:=fun _ h=>.ok none h
noncomputable def eZ (a:ME):MO:=fun env h=>(a env h).bind fun d h1=>match d with
 | .int i=>.ok (some i) h1
 | _=>.bad
noncomputable def tMO (K:PySem.W.Frag) (g:GG) (ε:EE) (m:MO):TO:=fun σ H Q=>∃α env h,cG K g α H env σ h/\WQ K g ε α H (m env h) fun o h'=>∀H' α',Ext K α H α' H'->aM K g α' H' h'->Q o H'
theorem PO.imp {e:Option Expr} {t t':TO} (h:PO X e t) (i:∀σ H Q,t' σ H Q->t σ H Q):PO X e t':=fun pins s σ H Q I w=>h pins s σ H Q I (i σ H Q w)
theorem oQ:PO X none (tMO X.K g ε dC):=PO.imp Ao fun σ H Q ⟨α,env,h,s,w⟩=>w H α Ext.refl s.heap
theorem jz {e:Expr} {me:ME} (he:PE X e (tM X.K g ε me)):PO X (some e) (tMO X.K g ε (eZ me)):=PO.imp (zm he) fun σ H Q ⟨α,env,h,s,w⟩=>tM.use s w.bind fun d1 h1 v1 H1 α1 e1 s1 r1 w1=>by
 cases r1 with
 | int i=>exact⟨i,rfl,w1 H1 α1 e1 s1.heap⟩
 | _=>exact w1.elim
noncomputable def yA (nl:NL):D->Option Int->Option Int->Hh->R D:=fun d lo hi h=>match d with
 | .tup ds=>.ok (.tup (cutD ds lo hi)) h
 | .frl ds=>nl (cutD ds lo hi) h
 | .scr ds=>nl (cutD ds lo hi) h
 | .ref n=>match ay h n with
  | some ds=>nl (cutD ds lo hi) h
  | none=>.bad
 | _=>.bad
noncomputable def dM (nl:NL) (a:ME) (l u:MO):ME:=fun env h=>(a env h).bind fun x h1=>(l env h1).bind fun lo h2=>(u env h2).bind fun hi h3=>yA nl x lo hi h3
theorem tMO.use {α:List Addr} {H:Hp} {env:En} {σ:St} {h:Hh} {m:MO} {Q:Option Int->Hp->Prop} {k:Option Int->Hh->Prop} (s:cG K g α H env σ h) (w:WQ K g ε α H (m env h) k)
  (q:∀d h' H' α',Ext K α H α' H'->cG K g α' H' env σ h'->k d h'->Q d H'):tMO K g ε m σ H Q:=
 ⟨α,env,h,s,w.mono fun d h' _ kk H' α' e r=>q d h' H' α' e (s.ext e r) kk⟩
theorem jE {nl:NL} [gH nl] {e:Expr} {me:ME} {lo hi:Option Expr} {ml mh:MO} {p2 pos:Pos} (he:PE X e (tM X.K g ε me)) (hl:PO X lo (tMO X.K g ε ml)) (hu:PO X hi (tMO X.K g ε mh)):PE X (.Subscript e (.Slice lo hi none p2) pos) (tM X.K g ε (dM nl me ml mh)):=
 PE.imp (PE.frz (yJ (SlR.or zd (SlR.or BZ zF)) he hl hu)) fun σ H Q ⟨α,env,h,s,w⟩=>tM.use s w.bind fun d1 h1 v1 H1 α1 e1 s1 r1 w1=>tMO.use s1 (w1.ext e1).bind fun o2 h2 H2 α2 e2 s2 w2=>tMO.use s2 (w2.ext e2).bind fun o3 h3 H3 α3 e3 s3 w3=>by
  have tr:=e1.trans (e2.trans e3)
  have r3:=r1.ext (e2.trans e3)
  have w4:=(w3.ext e3).mono fun _ _ _ p=>aI.ext tr p
  unfold yA at w4
  cases r3 with
  | @frl ds p vs hq rs=>exact .inl ⟨_,_,rfl,hq.sq,fun l hl=>NL.post w4 s3.heap (js rs _ _) hl⟩
  | @scr ds p vs hq rs=>exact .inl ⟨_,_,rfl,hq.sq,fun l hl=>NL.post w4 s3.heap (js rs _ _) hl⟩
  | @ref n p hp=>
   cases e1:ay h3 n with
   | none=>simp only[e1] at w4;exact w4.elim
   | some ds=>
    simp only[e1] at w4
    obtain⟨vs,hv,rs⟩:=s3.heap.lst e1 hp
    exact .inl ⟨_,_,rfl,SqL.of hv,fun l hl=>NL.post w4 s3.heap (js rs _ _) hl⟩
  | @tup ds p vs hq rs=>
   refine .inr ?_
   by_cases hw:HT.sIx vs.length 0 o2=0/\HT.sIx vs.length vs.length o3=vs.length
   ·refine .inr ⟨_,_,rfl,SqT.of hq,hw.1,hw.2,?_⟩
    refine aI.vU w4 s3.heap (.tup hq ?_)
    have:mU vs o2 o3=vs:=by unfold mU;rw[hw.1,hw.2];simp
    have q:=js rs o2 o3
    rw[this] at q
    exact q
   ·exact .inl ⟨_,_,rfl,SqT.of hq,hw,fun l hl=>.inl (aI.tup w4 s3.heap (js rs _ _) hl)⟩
  | _=>exact w4.elim
end
noncomputable def dX:D->Bool
 | .non=>true | .bl _=>true | .int _=>true | .str _=>true
 | _=>false
noncomputable def eqF:D->D->Bool
 | .non,.non=>true
 | .bl a,.bl b=>a == b
 | .bl a,.int b=>(if a then 1 else 0) == b
 | .int a,.bl b=>a == (if b then 1 else 0)
 | .int a,.int b=>a == b
 | .str a,.str b=>a == b
 | _,_=>false
noncomputable def eqL (f:D->D->Option Bool):List D->List D->Option Bool
 | x::xs,y::ys=>match f x y,eqL f xs ys with
  | some b,some c=>some (b&&c)
  | _,_=>none
 | [],[]=>some true
 | _,_=>some false
inductive Vw where
 | fl | tp (ds:List D) | ls (ds:List D) | no
noncomputable def vw (d:D) (h:Hh):Vw:=match d with
 | .non=>.fl | .bl _=>.fl | .int _=>.fl | .str _=>.fl
 | .tup ds=>.tp ds
 | .frl ds=>.ls ds
 | .scr ds=>.ls ds
 | .ref n=>match ay h n with
  | some ds=>.ls ds
  | none=>.no
 | _=>.no
noncomputable def eqD:Nat->Hh->D->D->Option Bool
 | 0,_,_,_=>none
 | k+1,h,a,b=>match vw a h,vw b h with
  | .fl,.fl=>some (eqF a b)
  | .tp xs,.tp ys=>eqL (eqD k h) xs ys
  | .ls xs,.ls ys=>if xs.length=ys.length then eqL (eqD k h) xs ys else some false
  | .fl,.tp _=>some false
  | .fl,.ls _=>some false
  | .tp _,.fl=>some false
  | .tp _,.ls _=>some false
  | .ls _,.fl=>some false
  | .ls _,.tp _=>some false
  | _,_=>none
section
variable {K:PySem.W.Frag} {g:GG} {α:List Addr} {H:Hp} {h:Hh}
theorem lu {f:D->D->Option Bool} (hf:∀a b x c,aC K g α H a x->aC K g α H b x->f a b=some c->c=true):∀{xs ys:List D} {vs:List V} {c:Bool},av K g α H xs vs->av K g α H ys vs->eqL f xs ys=some c->c=true
 | _,_,_,_,.nil,.nil,e=>by simp[eqL] at e;exact e
 | _,_,_,c,.cons r t,.cons r' t',e=>by
  unfold eqL at e
  split at e
  ·rename_i b c' h1 h2
   have e1:=hf _ _ _ _ r r' h1
   have e2:=lu hf t t' h2
   subst e1 e2
   exact(Option.some.inj e).symm
  ·cases e
theorem kx {d:D} {x:V} (rd:aC K g α H d x) (e:vw d h=.fl):dX d=true:=by
 cases rd with
 | ref hp=>unfold vw at e;simp only at e;split at e<;>cases e
 | _=>first | rfl | cases e
theorem ky {d:D} {x:V} {ds:List D} (rd:aC K g α H d x) (e:vw d h=.tp ds):∃p vs,x=.ref p/\SqT K H p vs/\av K g α H ds vs:=by
 cases rd with
 | tup hp rs=>cases e;exact⟨_,_,rfl,SqT.of hp,rs⟩
 | ref hp=>unfold vw at e;simp only at e;split at e<;>cases e
 | _=>cases e
theorem ku {d:D} {x:V} {ds:List D} (r:aM K g α H h) (rd:aC K g α H d x) (e:vw d h=.ls ds):∃p vs,x=.ref p/\SqL K H p vs/\av K g α H ds vs:=by
 cases rd with
 | frl hp rs=>cases e;exact⟨_,_,rfl,hp.sq,rs⟩
 | scr hp rs=>cases e;exact⟨_,_,rfl,hp.sq,rs⟩
 | @ref n p hp=>
  unfold vw at e
  simp only at e
  cases el:ay h n with
  | none=>rw[el] at e;cases e
  | some ds'=>
   rw[el] at e;cases e
   obtain⟨vs,hv,rs⟩:=r.lst el hp
   exact⟨_,_,rfl,SqL.of hv,rs⟩
 | _=>cases e
theorem uj {f:D->D->Option Bool}:∀{xs ys:List D} {c:Bool},eqL f xs ys=some c →
  (∀(j:Nat) (x y:D),xs[j]?=some x->ys[j]?=some y->∃b,f x y=some b)/\c=((List.range (min xs.length ys.length)).all (fun j=>((f (xs.getD j .non) (ys.getD j .non)).getD false))&&xs.length == ys.length)
 | [],[],c,e=>by
  simp[eqL] at e
  refine⟨fun j x y h=>by simp at h,?_⟩
  simp[<- e]
 | [],_::_,c,e=>by
  simp[eqL] at e
  exact⟨fun j x y h=>by simp at h,by simp[<- e]⟩
 | _::_,[],c,e=>by
  simp[eqL] at e
  exact⟨fun j x y _ h=>by simp at h,by simp[<- e]⟩
 | x::xs,y::ys,c,e=>by
  unfold eqL at e
  split at e
  ·rename_i b c' h1 h2
   obtain⟨q1,q2⟩:=uj h2
   refine⟨fun j x' y' hx hy=>?_,?_⟩
   ·cases j with
    | zero=>simp at hx hy;subst hx hy;exact⟨b,h1⟩
    | succ j=>exact q1 j x' y' (by simpa using hx) (by simpa using hy)
   ·have e':=(Option.some.inj e).symm
    rw[e',q2]
    have hm:min (x::xs).length (y::ys).length=min xs.length ys.length+1:=by simp[Nat.succ_min_succ]
    rw[hm,List.range_succ_eq_map,List.all_cons,List.all_map]
    have h0:(f ((x::xs).getD 0 .non) ((y::ys).getD 0 .non)).getD false=b:=by
     show(f x y).getD false=b
     rw[h1];rfl
    rw[h0]
    have hlen:((x::xs).length == (y::ys).length)=(xs.length == ys.length):=by simp
    rw[hlen,Bool.and_assoc]
    rfl
  ·cases e
end
section
variable {X:Cx} {g:GG} {pins:List (Addr × Obj)} {σ:St} {H:Hp} {s:Shared} {α:List Addr} {h:Hh}
open PySem.SeqAt
theorem Al {A:Around} {a b:D} {x y:V} {u v:Value} {K:PySem.W.Frag} (ra:aC K g α H a x) (rb:aC K g α H b y) (ru:RelV x u) (rv:RelV y v) (fa:dX a=true) (fb:dX b=true) :
  EqAt A s u v (eqF a b)/\RcAt A s u v (eqF a b)/\RcNeAt A s u v (!eqF a b):=by
 cases ra with
 | non=>
  cases ru
  cases rb with
  | non=>cases rv;exact⟨.same _,.none_none,.none_none⟩
  | bl z=>cases rv;exact⟨.none_bool z,.none_bool z,.none_bool z⟩
  | int z=>obtain⟨t,rfl⟩:=rv;exact⟨.none_int z t,.none_int z t,.none_int z t⟩
  | str z=>obtain⟨t,rfl⟩:=rv;exact⟨.none_str z t,.none_str z t,.none_str z t⟩
  | _=>cases fb
 | bl q=>
  cases ru
  cases rb with
  | non=>cases rv;exact⟨.bool_none q,.bool_none q,.bool_none q⟩
  | bl z=>cases rv;exact⟨.bool_bool q z,.bool_bool q z,.bool_bool q z⟩
  | int z=>obtain⟨t,rfl⟩:=rv;exact⟨.bool_int q z t,.bool_int q z t,.bool_int q z t⟩
  | str z=>obtain⟨t,rfl⟩:=rv;exact⟨.bool_str q z t,.bool_str q z t,.bool_str q z t⟩
  | _=>cases fb
 | int q=>
  obtain⟨t',rfl⟩:=ru
  cases rb with
  | non=>cases rv;exact⟨.int_none q t',.int_none q t',.int_none q t'⟩
  | bl z=>cases rv;exact⟨.int_bool q t' z,.int_bool q t' z,.int_bool q t' z⟩
  | int z=>obtain⟨t,rfl⟩:=rv;exact⟨.int_int q t' z t,.int_int q t' z t,.int_int q t' z t⟩
  | str z=>obtain⟨t,rfl⟩:=rv;exact⟨.int_str q t' z t,.int_str q t' z t,.int_str q t' z t⟩
  | _=>cases fb
 | str q=>
  obtain⟨t',rfl⟩:=ru
  cases rb with
  | non=>cases rv;exact⟨.str_none q t',.str_none q t',.str_none q t'⟩
  | bl z=>cases rv;exact⟨.str_bool q t' z,.str_bool q t' z,.str_bool q t' z⟩
  | int z=>obtain⟨t,rfl⟩:=rv;exact⟨.str_int q t' z t,.str_int q t' z t,.str_int q t' z t⟩
  | str z=>obtain⟨t,rfl⟩:=rv;exact⟨.str_str q t' z t,.str_str q t' z t,.str_str q t' z t⟩
  | _=>cases fb
 | _=>cases fa
theorem qv {A:Around} {b:D} {y:V} {v:Value} {p:Addr} {its:Array Value} {K:PySem.W.Frag} (ht:s.heap.IsTuple p its) (hu:A.units<cLine) (rb:aC K g α H b y) (rv:RelV y v) (fb:dX b=true) :
  (EqAt A s (.ref p) v false/\RcAt A s (.ref p) v false/\RcNeAt A s (.ref p) v true)/\(EqAt A s v (.ref p) false/\RcAt A s v (.ref p) false/\RcNeAt A s v (.ref p) true):=by
 cases rb with
 | non=>cases rv;exact⟨⟨.tuple_none ht hu,.tuple_none ht hu,.tuple_none ht hu⟩,.none_tuple ht hu,.none_tuple ht hu,.none_tuple ht hu⟩
 | bl z=>cases rv;exact⟨⟨.tuple_bool z ht hu,.tuple_bool z ht hu,.tuple_bool z ht hu⟩,.bool_tuple z ht hu,.bool_tuple z ht hu,.bool_tuple z ht hu⟩
 | int z=>obtain⟨t,rfl⟩:=rv;exact⟨⟨.tuple_int z t ht hu,.tuple_int z t ht hu,.tuple_int z t ht hu⟩,.int_tuple z t ht hu,.int_tuple z t ht hu,.int_tuple z t ht hu⟩
 | str z=>obtain⟨t,rfl⟩:=rv;exact⟨⟨.tuple_str z t ht hu,.tuple_str z t ht hu,.tuple_str z t ht hu⟩,.str_tuple z t ht hu,.str_tuple z t ht hu,.str_tuple z t ht hu⟩
 | _=>cases fb
theorem qY {A:Around} {b:D} {y:V} {v:Value} {p:Addr} {its:Array Value} {K:PySem.W.Frag} (ht:s.heap.IsList p its) (hu:A.units<cLine) (rb:aC K g α H b y) (rv:RelV y v) (fb:dX b=true) :
  (EqAt A s (.ref p) v false/\RcAt A s (.ref p) v false/\RcNeAt A s (.ref p) v true)/\(EqAt A s v (.ref p) false/\RcAt A s v (.ref p) false/\RcNeAt A s v (.ref p) true):=by
 cases rb with
 | non=>cases rv;exact⟨⟨.list_none ht hu,.list_none ht hu,.list_none ht hu⟩,.none_list ht hu,.none_list ht hu,.none_list ht hu⟩
 | bl z=>cases rv;exact⟨⟨.list_bool z ht hu,.list_bool z ht hu,.list_bool z ht hu⟩,.bool_list z ht hu,.bool_list z ht hu,.bool_list z ht hu⟩
 | int z=>obtain⟨t,rfl⟩:=rv;exact⟨⟨.list_int z t ht hu,.list_int z t ht hu,.list_int z t ht hu⟩,.int_list z t ht hu,.int_list z t ht hu,.int_list z t ht hu⟩
 | str z=>obtain⟨t,rfl⟩:=rv;exact⟨⟨.list_str z t ht hu,.list_str z t ht hu,.list_str z t ht hu⟩,.str_list z t ht hu,.str_list z t ht hu,.str_list z t ht hu⟩
 | _=>cases fb
theorem qw {A:Around} {k:Nat} {ds es:List D} {vs us:List V} {its jts:List Value} {c:Bool} (r:aM X.K g α H h)
  (ih:∀(a b:D) (x y:V) (u v:Value) (c:Bool),aC X.K g α H a x->aC X.K g α H b y->RelV x u->RelV y v->eqD k h a b=some c->EqAt A.in1 s u v c)
  (rs:av X.K g α H ds vs) (rt:av X.K g α H es us) (rv:Vals vs its) (ru:Vals us jts) (e:eqL (eqD k h) ds es=some c) :
  (∀j (h1:j<its.toArray.size) (h2:j<jts.toArray.size),EqAt A.in1 s its.toArray[j] jts.toArray[j] ((fun(j:Nat)=>(eqD k h (ds.getD j .non) (es.getD j .non)).getD false) j)) ∧
  c=((List.range (min its.toArray.size jts.toArray.size)).all (fun(j:Nat)=>(eqD k h (ds.getD j .non) (es.getD j .non)).getD false)&&its.toArray.size == jts.toArray.size):=by
 obtain⟨q1,q2⟩:=uj e
 have l1:its.toArray.size=ds.length:=by rw[List.size_toArray,<- rv.length,rs.length]
 have l2:jts.toArray.size=es.length:=by rw[List.size_toArray,<- ru.length,rt.length]
 refine⟨fun j h1 h2=>?_,by rw[l1,l2];exact q2⟩
 have hd:ds[j]?=some (ds.getD j .non):=by rw[List.getD_eq_getElem?_getD,List.getElem?_eq_getElem (by omega)];rfl
 have he:es[j]?=some (es.getD j .non):=by rw[List.getD_eq_getElem?_getD,List.getElem?_eq_getElem (by omega)];rfl
 obtain⟨b,hb⟩:=q1 j _ _ hd he
 obtain⟨x,hx,rx⟩:=rs.get hd
 obtain⟨y,hy,ry⟩:=rt.get he
 obtain⟨u,hu,rxu⟩:=rv.get hx
 obtain⟨v,hv,ryv⟩:=ru.get hy
 have eu:its.toArray[j]=u:=by
  have:=List.getElem?_eq_getElem (l:=its) (i:=j) (by simpa using h1)
  rw[hu] at this
  simpa using(Option.some.inj this).symm
 have ev:jts.toArray[j]=v:=by
  have:=List.getElem?_eq_getElem (l:=jts) (i:=j) (by simpa using h2)
  rw[hv] at this
  simpa using(Option.some.inj this).symm
 rw[eu,ev]
 show EqAt A.in1 s u v ((eqD k h (ds.getD j .non) (es.getD j .non)).getD false)
 rw[hb]
 exact ih _ _ _ _ _ _ _ rx ry rxu ryv hb
theorem uy (I:Inv X pins σ H s) {p:Addr} {vs us:List V} (a:SqT X.K H p vs) (b:SqL X.K H p us):False:=by
 obtain⟨its,r1,⟨o,e,c,_⟩,_⟩:=I.tuple a
 obtain⟨jts,r2,⟨o',n',e',c',_⟩,_⟩:=I.list b
 rw[e] at e';cases e';rw[c] at c';injection c' with z;exact absurd z (by decide)
theorem l9 (I:Inv X pins σ H s) (r:aM X.K g α H h):∀(k:Nat) (a b:D) (x:V) (c:Bool),aC X.K g α H a x->aC X.K g α H b x->eqD k h a b=some c->c=true
 | 0,_,_,_,_,_,_,e=>by cases e
 | k+1,a,b,x,c,ra,rb,e=>by
  unfold eqD at e
  cases ea:vw a h with
  | no=>simp[ea] at e
  | fl=>
   have fa:=kx ra ea
   cases eb:vw b h with
   | no=>simp[ea,eb] at e
   | fl=>
    simp only[ea,eb] at e
    cases e
    have fb:=kx rb eb
    cases ra with
    | non=>cases rb with
     | non=>rfl
    | bl z=>cases rb with
     | bl _=>simp[eqF]
    | int z=>cases rb with
     | int _=>simp[eqF]
    | str z=>cases rb with
     | str _=>simp[eqF]
    | _=>cases fa
   | tp ds=>obtain⟨p,vs,rfl,_⟩:=ky rb eb;cases ra<;>cases fa
   | ls ds=>obtain⟨p,vs,rfl,_⟩:=ku r rb eb;cases ra<;>cases fa
  | tp da=>
   obtain⟨p,va,rfl,hp,rs⟩:=ky ra ea
   cases eb:vw b h with
   | no=>simp[ea,eb] at e
   | fl=>have fb:=kx rb eb;cases rb<;>cases fb
   | tp db=>
    simp only[ea,eb] at e
    obtain⟨q,vb,hpq,hq,rt⟩:=ky rb eb
    cases hpq
    have:=I.fI hp hq
    subst this
    exact lu (fun a b x c=>l9 I r k a b x c) rs rt e
   | ls db=>
    obtain⟨q,vb,hpq,hq,rt⟩:=ku r rb eb
    cases hpq
    exact(uy I hp hq).elim
  | ls da=>
   obtain⟨p,va,rfl,hp,rs⟩:=ku r ra ea
   cases eb:vw b h with
   | no=>simp[ea,eb] at e
   | fl=>have fb:=kx rb eb;cases rb<;>cases fb
   | tp db=>
    obtain⟨q,vb,hpq,hq,rt⟩:=ky rb eb
    cases hpq
    exact(uy I hq hp).elim
   | ls db=>
    simp only[ea,eb] at e
    obtain⟨q,vb,hpq,hq,rt⟩:=ku r rb eb
    cases hpq
    have:=I.gW hp hq
    subst this
    rw[if_pos (by rw[rs.length,rt.length])] at e
    exact lu (fun a b x c=>l9 I r k a b x c) rs rt e
theorem sY (I:Inv X pins σ H s) (r:aM X.K g α H h):∀(k:Nat) (A:Around) (a b:D) (x y:V) (u v:Value) (c:Bool),A.units+k<cLine->aC X.K g α H a x->aC X.K g α H b y->RelV x u->RelV y v->eqD k h a b=some c →
  EqAt A s u v c/\RcAt A s u v c/\RcNeAt A s u v (!c)
 | 0,_,_,_,_,_,_,_,_,_,_,_,_,_,e=>by cases e
 | k+1,A,a,b,x,y,u,v,c,hu,ra,rb,ru,rv,e=>by
  have hu0:A.units<cLine:=by omega
  have ih:∀(a b:D) (x y:V) (u v:Value) (c:Bool),aC X.K g α H a x->aC X.K g α H b y->RelV x u->RelV y v->eqD k h a b=some c->EqAt A.in1 s u v c:=
   fun a b x y u v c h1 h2 h3 h4 h5=>(sY I r k A.in1 a b x y u v c (by show A.units+1+k<_;omega) h1 h2 h3 h4 h5).1
  have whole:=fun x ra rb=>l9 I r (k+1) a b x c ra rb e
  unfold eqD at e
  cases ea:vw a h with
  | no=>simp[ea] at e
  | fl=>
   have fa:=kx ra ea
   cases eb:vw b h with
   | no=>simp[ea,eb] at e
   | fl=>simp only[ea,eb] at e;cases e;exact Al ra rb ru rv fa (kx rb eb)
   | tp db=>
    simp only[ea,eb] at e;cases e
    obtain⟨q,vb,rfl,hq,rt⟩:=ky rb eb
    cases rv
    obtain⟨its,r1,ht,_⟩:=I.tuple hq
    exact(qv ht hu0 ra ru fa).2
   | ls db=>
    simp only[ea,eb] at e;cases e
    obtain⟨q,vb,rfl,hq,rt⟩:=ku r rb eb
    cases rv
    obtain⟨its,r1,ht,_⟩:=I.list hq
    exact(qY ht.isList hu0 ra ru fa).2
  | tp da=>
   obtain⟨p,va,rfl,hp,rs⟩:=ky ra ea
   cases ru
   obtain⟨its,r1,ht,_⟩:=I.tuple hp
   cases eb:vw b h with
   | no=>simp[ea,eb] at e
   | fl=>simp only[ea,eb] at e;cases e;exact(qv ht hu0 rb rv (kx rb eb)).1
   | tp db=>
    simp only[ea,eb] at e
    obtain⟨q,vb,rfl,hq,rt⟩:=ky rb eb
    cases rv
    obtain⟨jts,r2,ht2,_⟩:=I.tuple hq
    obtain⟨h1,h2⟩:=qw r ih rs rt r1 r2 e
    have rc:RcAt A s (.ref p) (.ref q) c:=by rw[h2];exact RcAt.tuples ht ht2 hu0 h1
    refine⟨?_,rc,by rw[h2];exact RcNeAt.tuples ht ht2 hu0 h1⟩
    by_cases hpq:p=q
    ·subst hpq
     rw[whole _ ra rb]
     exact .same _
    ·exact .of_refs hpq rc
   | ls db=>
    simp only[ea,eb] at e;cases e
    obtain⟨q,vb,rfl,hq,rt⟩:=ku r rb eb
    cases rv
    obtain⟨jts,r2,ht2,_⟩:=I.list hq
    exact⟨.tuple_list ht ht2.isList hu0,.tuple_list ht ht2.isList hu0,.tuple_list ht ht2.isList hu0⟩
  | ls da=>
   obtain⟨p,va,rfl,hp,rs⟩:=ku r ra ea
   cases ru
   obtain⟨its,r1,ht',_⟩:=I.list hp
   have ht:=ht'.isList
   cases eb:vw b h with
   | no=>simp[ea,eb] at e
   | fl=>simp only[ea,eb] at e;cases e;exact(qY ht hu0 rb rv (kx rb eb)).1
   | tp db=>
    simp only[ea,eb] at e;cases e
    obtain⟨q,vb,rfl,hq,rt⟩:=ky rb eb
    cases rv
    obtain⟨jts,r2,ht2,_⟩:=I.tuple hq
    exact⟨.list_tuple ht ht2 hu0,.list_tuple ht ht2 hu0,.list_tuple ht ht2 hu0⟩
   | ls db=>
    simp only[ea,eb] at e
    obtain⟨q,vb,rfl,hq,rt⟩:=ku r rb eb
    cases rv
    obtain⟨jts,r2,ht2',_⟩:=I.list hq
    have ht2:=ht2'.isList
    have l1:its.toArray.size=da.length:=by rw[List.size_toArray,<- r1.length,rs.length]
    have l2:jts.toArray.size=db.length:=by rw[List.size_toArray,<- r2.length,rt.length]
    have fin:RcAt A s (.ref p) (.ref q) c/\RcNeAt A s (.ref p) (.ref q) (!c):=by
     by_cases hl:da.length=db.length
     ·rw[if_pos hl] at e
      obtain⟨h1,h2⟩:=qw r ih rs rt r1 r2 e
      have hsz:its.toArray.size=jts.toArray.size:=by omega
      have h2':c=(List.range its.toArray.size).all (fun(j:Nat)=>(eqD k h (da.getD j .non) (db.getD j .non)).getD false):=by
       rw[h2,<- hsz,Nat.min_self];simp
      exact⟨by rw[h2'];exact RcAt.lists ht ht2 hsz hu0 h1,by rw[h2'];exact RcNeAt.lists ht ht2 hsz hu0 h1⟩
     ·rw[if_neg hl] at e
      have e2:c=false:=(Option.some.inj e).symm
      have hsz:(its.toArray.size != jts.toArray.size)=true:=by
       rw[l1,l2];simpa using hl
      rw[e2]
      exact⟨RcAt.lists_lengths ht ht2 hsz hu0,RcNeAt.lists_lengths ht ht2 hsz hu0⟩
    refine⟨?_,fin⟩
    by_cases hpq:p=q
    ·subst hpq
     rw[whole _ ra rb]
     exact .same _
    ·exact .of_refs hpq fin.1
noncomputable abbrev eqN:Nat:=12
noncomputable def dEq:D->D->Hh->R D:=fun a b h=>match eqD eqN h a b with
 | some c=>.ok (.bl c) h
 | none=>.bad
noncomputable def dNe:D->D->Hh->R D:=fun a b h=>match eqD eqN h a b with
 | some c=>.ok (.bl (!c)) h
 | none=>.bad
noncomputable def AG (K:PySem.W.Frag) (g:GG) (neg:Bool):R2:=fun x y H Q=>∃α h a b c,aM K g α H h/\aC K g α H a x/\aC K g α H b y/\eqD eqN h a b=some c/\Q (.bl (if neg then !c else c)) H
theorem jg (hu:X.A.units+64<cLine):OpR X (compareOp .Eq) (AG X.K g false):=by
 intro pins s σ H x y v u Q I rx ry ⟨α,h,a,b,c,r,ra,rb,e,q⟩
 exact(sY I r eqN X.A a b x y v u c (by show X.A.units+12<_;omega) ra rb rx ry e).2.1 _ _ _ _ ⟨.bl c,H,I,rfl,q⟩
theorem tH (hu:X.A.units+64<cLine):OpR X (compareOp .NotEq) (AG X.K g true):=by
 intro pins s σ H x y v u Q I rx ry ⟨α,h,a,b,c,r,ra,rb,e,q⟩
 exact(sY I r eqN X.A a b x y v u c (by show X.A.units+12<_;omega) ra rb rx ry e).2.2 _ _ _ _ ⟨.bl (!c),H,I,rfl,q⟩
theorem mC {ε:EE} {K:PySem.W.Frag}:ec K g ε dEq (AG K g false):=by
 intro α H h a b x y Q r ra rb w
 unfold dEq at w
 cases e:eqD eqN h a b with
 | none=>simp only[e] at w;exact w.elim
 | some c=>simp only[e] at w;exact⟨α,h,a,b,c,r,ra,rb,e,aI.now w r (.bl _)⟩
theorem xU {ε:EE} {K:PySem.W.Frag}:ec K g ε dNe (AG K g true):=by
 intro α H h a b x y Q r ra rb w
 unfold dNe at w
 cases e:eqD eqN h a b with
 | none=>simp only[e] at w;exact w.elim
 | some c=>simp only[e] at w;exact⟨α,h,a,b,c,r,ra,rb,e,aI.now w r (.bl _)⟩
end
noncomputable def cW (f:D->Option PyData):List D->Option (List PyData)
 | []=>some []
 | d::ds=>match f d,cW f ds with
  | some p,some ps=>some (p::ps)
  | _,_=>none
noncomputable def toPy:Nat->Hh->D->Option PyData
 | 0,_,_=>none
 | k+1,h,d=>match d with
  | .non=>some .none
  | .bl b=>some (.bool b)
  | .int i=>if sml i=true then some (.int i) else none
  | .str x=>if x.cps.toList.all (fun c=>decide (c<16 ^ 8))=true then some (.str x) else none
  | .tup ds=>(cW (toPy k h) ds).map .tuple
  | .frl ds=>(cW (toPy k h) ds).map .list
  | .ref n=>match ay h n with
   | some ds=>(cW (toPy k h) ds).map .list
   | none=>none
  | _=>none
structure Ds (k:Nat) (d:PyData):Prop where
 sh:d.showable=true
 nd:d.hasDict=false
 dp:d.depth<=k
 lv:d.leavesShort 1921=true
structure Dx (k:Nat) (ds:List PyData):Prop where
 sh:PyData.showableAll ds=true
 nd:PyData.hasDictAll ds=false
 dp:PyData.depthAll ds<=k
 lv:PyData.leavesShortAll 1921 ds=true
section
variable {K:PySem.W.Frag} {g:GG} {α:List Addr} {H:Hp} {h:Hh}
theorem jG {f:D->Option PyData} {k:Nat} (hf:∀d x p,aC K g α H d x->f d=some p->RdD K H x p/\Ds k p):∀{ds:List D} {vs:List V} {ps:List PyData},av K g α H ds vs->cW f ds=some ps →
  Dx k ps/\vs.length=ps.length/\∀(i:Nat) x d,vs[i]?=some x->ps[i]?=some d->RdD K H x d
 | _,_,_,.nil,e=>by
  cases e
  exact⟨⟨by simp[PyData.showableAll],by simp[PyData.hasDictAll],by simp[PyData.depthAll],by simp[PyData.leavesShortAll]⟩,rfl,fun i x d h=>by simp at h⟩
 | _,_,_,.cons r t,e=>by
  unfold cW at e
  split at e
  ·rename_i p ps h1 h2
   cases e
   obtain⟨a1,a2⟩:=hf _ _ _ r h1
   obtain⟨b1,b2,b3⟩:=jG hf t h2
   refine⟨⟨by rw[PyData.showableAll,a2.sh,b1.sh];rfl,by rw[PyData.hasDictAll,a2.nd,b1.nd];rfl,by rw[PyData.depthAll];exact Nat.max_le.mpr ⟨a2.dp,b1.dp⟩,by rw[PyData.leavesShortAll,a2.lv,b1.lv];rfl⟩,by simp[b2],fun i x d hx hd=>?_⟩
   cases i with
   | zero=>simp at hx hd;subst hx hd;exact a1
   | succ i=>exact b3 i x d (by simpa using hx) (by simpa using hd)
  ·cases e
theorem kX (r:aM K g α H h):∀(k:Nat) (d:D) (x:V) (p:PyData),aC K g α H d x->toPy k h d=some p->RdD K H x p/\Ds k p
 | 0,_,_,_,_,e=>by cases e
 | k+1,d,x,p,rd,e=>by
  unfold toPy at e
  cases rd with
  | non=>cases e;exact⟨.non,by simp[PyData.showable],by simp[PyData.hasDict],by simp[PyData.depth],by simp[PyData.leavesShort]⟩
  | bl b=>cases e;exact⟨.bl b,by simp[PyData.showable],by simp[PyData.hasDict],by simp[PyData.depth],by simp[PyData.leavesShort]⟩
  | int i=>
   simp only at e
   split at e
   ·rename_i hs
    cases e
    have hl:i.natAbs.log2<1920:=Nat.lt_trans (pR hs) (by decide)
    exact⟨.int i,by simp[PyData.showable,hl],by simp[PyData.hasDict],by simp[PyData.depth],by simp only[PyData.leavesShort,decide_eq_true_eq];exact int_text_len_1921 hl⟩
   ·cases e
  | str z=>
   simp only at e
   split at e
   ·rename_i hs
    cases e
    exact⟨.str z,by simp[PyData.showable],by simp[PyData.hasDict],by simp[PyData.depth],by simpa only[PyData.leavesShort] using hs⟩
   ·cases e
  | tup hp rs=>
   simp only at e
   cases e1:cW (toPy k h) _ with
   | none=>rw[e1] at e;cases e
   | some ps=>
    rw[e1] at e
    cases e
    obtain⟨b1,b2,b3⟩:=jG (fun d x p=>kX r k d x p) rs e1
    exact⟨.tup (SqT.of hp) b2 b3,by rw[PyData.showable];exact b1.sh,by rw[PyData.hasDict];exact b1.nd,by rw[PyData.depth];exact Nat.succ_le_succ b1.dp,by rw[PyData.leavesShort];exact b1.lv⟩
  | @ref n p hp=>
   simp only at e
   cases el:ay h n with
   | none=>rw[el] at e;cases e
   | some ds=>
    rw[el] at e
    simp only at e
    obtain⟨vs,hv,rs⟩:=r.lst el hp
    cases e1:cW (toPy k h) ds with
    | none=>rw[e1] at e;cases e
    | some ps=>
     rw[e1] at e
     cases e
     obtain⟨b1,b2,b3⟩:=jG (fun d x p=>kX r k d x p) rs e1
     exact⟨.lst (SqL.of hv) b2 b3,by rw[PyData.showable];exact b1.sh,by rw[PyData.hasDict];exact b1.nd,by rw[PyData.depth];exact Nat.succ_le_succ b1.dp,by rw[PyData.leavesShort];exact b1.lv⟩
  | frl hp rs=>
   simp only at e
   cases e1:cW (toPy k h) _ with
   | none=>rw[e1] at e;cases e
   | some ps=>
    rw[e1] at e
    cases e
    obtain⟨b1,b2,b3⟩:=jG (fun d x p=>kX r k d x p) rs e1
    exact⟨.lst hp.sq b2 b3,by rw[PyData.showable];exact b1.sh,by rw[PyData.hasDict];exact b1.nd,by rw[PyData.depth];exact Nat.succ_le_succ b1.dp,by rw[PyData.leavesShort];exact b1.lv⟩
  | fn _=>cases e
  | edic _=>cases e
  | exc _ _ _ _ _=>cases e
  | scr _ _=>cases e
end
noncomputable def lJ (d:D) (h:Hh):R D:=match toPy 12 h d with
 | some p=>if p.bulk<=8000 then .ok (.str p.shown) h else .bad
 | none=>.bad
noncomputable def eQ:List D->Hh->R D:=fun ds h=>match ds with
 | [.int i]=>if sml i=true then .ok (.str (toString i)) h else .bad
 | [.tup ds]=>lJ (.tup ds) h
 | [.ref n]=>lJ (.ref n) h
 | [.frl ds]=>lJ (.frl ds) h
 | _=>.bad
section
variable {X:Cx} {K:PySem.W.Frag} {g:GG} {ε:EE}
noncomputable abbrev tE (K:PySem.W.Frag):List V->Hp->VK->Prop:=fun vs H Q=>(∃p d,vs=[.ref p]/\RdD K H (.ref p) d/\d.showable=true/\d.hasDict=false/\d.depth<=60/\d.shown.length<=sizeLine/\Q (.str d.shown) H)\/∃i,vs=[.int i]/\i.natAbs.log2<1920/\Q (.str (toString i)) H
theorem kQ (hg:X.A.guards=some []) (hu:X.A.units+64<cLine):ba X (.builtin "repr") (tE X.K):=ba.or (vA hg hu) tR
theorem kY:kG K g ε eQ (tE K):=by
 intro α H h a x Q r ra w
 unfold eQ at w
 cases ra with
 | nil=>exact w.elim
 | cons rd rr=>
  cases rr with
  | cons _ _=>cases rd<;>exact w.elim
  | nil=>
   have gen:∀{d:D} {v:V},aC K g α H d v->(∃p,v=.ref p)->WQ K g ε α H (lJ d h) (aI K g α H Q)->tE K [v] H Q:=by
    intro d v rd ⟨p,hp⟩ w
    subst hp
    unfold lJ at w
    cases e:toPy 12 h d with
    | none=>simp only[e] at w;exact w.elim
    | some pd=>
     simp only[e] at w
     obtain⟨hb,w⟩:=WQ.dH w
     obtain⟨q1,q2⟩:=kX r 12 d _ pd rd e
     have:=PyData.shown_le_bulk 1921 (by decide) pd q2.lv
     exact .inl ⟨p,pd,rfl,q1,q2.sh,q2.nd,Nat.le_trans q2.dp (by decide),by rw[sizeLine_eq];omega,aI.now w r (.str _)⟩
   cases rd with
   | int i=>
    obtain⟨hs,w⟩:=WQ.dH w
    exact .inr ⟨i,rfl,Nat.lt_trans (pR hs) (by decide),aI.now w r (.str _)⟩
   | tup hp rs=>exact gen (.tup hp rs) ⟨_,rfl⟩ w
   | ref hp=>exact gen (.ref hp) ⟨_,rfl⟩ w
   | frl hp rs=>exact gen (.frl hp rs) ⟨_,rfl⟩ w
   | _=>exact w.elim
noncomputable def iK:List D->Hh->R D:=fun ds h=>match ds with
 | [.tup ds]=>.ok (.int ds.length) h
 | [.frl ds]=>.ok (.int ds.length) h
 | [.scr ds]=>.ok (.int ds.length) h
 | [.str x]=>if x.length<=1000000 then .ok (.int x.length) h else .bad
 | [.ref n]=>match h[n]? with
  | some (.lst ds)=>.ok (.int ds.length) h
  | some (.set k)=>.ok (.int k.length) h
  | _=>.bad
 | _=>.bad
noncomputable abbrev Ba (K:PySem.W.Frag):List V->Hp->VK->Prop:=fun xs H Q=>(∃p ys,xs=[.ref p]/\(SqL K H p ys\/SqT K H p ys)/\Q (.int ys.length) H)\/(∃p S n,xs=[.ref p]/\H p=some (.set S n)/\Q (.int n) H)\/∃z,xs=[.str z]/\z.length<=sizeLine/\Q (.int z.length) H
theorem fP:ba X (.builtin "len") (Ba X.K):=ba.or pP (ba.or m_ pq)
theorem jT {α:List Addr} {H:Hp} {h:Hh} {ds:List D} {vs:List V} {f:List D->Hh->R D} {Q:VK} (hf:∀d e r h,f (d::e::r) h=.bad) (hf0:∀h,f [] h=.bad) (rs:av K g α H ds vs) (w:WQ K g ε α H (f ds h) (aI K g α H Q)):∃d v,ds=[d]/\vs=[v]/\aC K g α H d v:=by
 cases rs with
 | nil=>rw[hf0] at w;exact w.elim
 | cons r t=>
  cases t with
  | nil=>exact⟨_,_,rfl,rfl,r⟩
  | cons _ _=>rw[hf] at w;exact w.elim
theorem fO:kG K g ε iK (Ba K):=by
 intro α H h a x Q r ra w
 obtain⟨d,v,rfl,rfl,rd⟩:=jT (f:=iK) (fun d _ _ _=>by cases d<;>rfl) (fun _=>rfl) ra w
 unfold iK at w
 cases rd with
 | tup hp rs=>exact .inl ⟨_,_,rfl,.inr (SqT.of hp),aI.now w r (by rw[<- rs.length];exact .int _)⟩
 | frl hp rs=>exact .inl ⟨_,_,rfl,.inl hp.sq,aI.now w r (by rw[<- rs.length];exact .int _)⟩
 | scr hp rs=>exact .inl ⟨_,_,rfl,.inl hp.sq,aI.now w r (by rw[<- rs.length];exact .int _)⟩
 | str z=>
  obtain⟨hl,w⟩:=WQ.dH w
  exact .inr (.inr ⟨z,rfl,gm hl,aI.now w r (.int _)⟩)
 | @ref n p hp=>
  simp only at w
  cases e:h[n]? with
  | none=>rw[e] at w;exact w.elim
  | some o=>
   rw[e] at w
   have q:=r.here n p o hp e
   cases o with
   | lst ds=>obtain⟨vs,hv,rs⟩:=q;exact .inl ⟨p,vs,rfl,.inl (SqL.of hv),aI.now w r (by rw[<- rs.length];exact .int _)⟩
   | set k=>exact .inr (.inl ⟨p,_,_,rfl,q,aI.now w r (.int _)⟩)
   | dic k=>exact w.elim
   | dit k=>exact w.elim
 | _=>exact w.elim
noncomputable def eJ:List D->Hh->R D:=fun ds h=>match ds with
 | [.tup ds]=>.ok (.tup ds) h
 | [.frl ds]=>.ok (.tup ds) h
 | [.ref n]=>match ay h n with
  | some ds=>.ok (.tup ds) h
  | none=>.bad
 | _=>.bad
theorem jx:kG K g ε eJ (fun xs H Q=>∃p ys,xs=[.ref p]/\((SqL K H p ys/\∀l,H l=none->Q (.ref l) (upd H l (.tup ys)))\/(SqT K H p ys/\Q (.ref p) H))):=by
 intro α H h a x Q r ra w
 obtain⟨d,v,rfl,rfl,rd⟩:=jT (f:=eJ) (fun d _ _ _=>by cases d<;>rfl) (fun _=>rfl) ra w
 unfold eJ at w
 cases rd with
 | tup hp rs=>exact⟨_,_,rfl,.inr ⟨SqT.of hp,aI.now w r (.tup hp rs)⟩⟩
 | frl hp rs=>exact⟨_,_,rfl,.inl ⟨hp.sq,fun l hl=>aI.tup w r rs hl⟩⟩
 | @ref n p hp=>
  simp only at w
  cases e:ay h n with
  | none=>rw[e] at w;exact w.elim
  | some ds=>
   rw[e] at w
   obtain⟨vs,hv,rs⟩:=r.lst e hp
   exact⟨p,vs,rfl,.inl ⟨SqL.of hv,fun l hl=>aI.tup w r rs hl⟩⟩
 | _=>exact w.elim
noncomputable def intsOf:List D->Option (List Int)
 | []=>some []
 | .int i::ds=>(intsOf ds).map (i::·)
 | _::_=>none
theorem cX:∀{ds:List D} {ns:List Int},intsOf ds=some ns->ds=ns.map D.int
 | [],ns,e=>by cases e;rfl
 | .int i::ds,ns,e=>by
  unfold intsOf at e
  cases e1:intsOf ds with
  | none=>rw[e1] at e;cases e
  | some ms=>rw[e1] at e;cases e;rw[cX e1];rfl
 | .non::_,_,e=>by cases e
 | .bl _::_,_,e=>by cases e
 | .str _::_,_,e=>by cases e
 | .tup _::_,_,e=>by cases e
 | .frl _::_,_,e=>by cases e
 | .ref _::_,_,e=>by cases e
 | .fn _::_,_,e=>by cases e
 | .edic::_,_,e=>by cases e
 | .exc _ _::_,_,e=>by cases e
 | .scr _::_,_,e=>by cases e
theorem eK:∀(ns:List Int),intsOf (ns.map D.int)=some ns
 | []=>rfl
 | n::r=>by rw[List.map_cons,intsOf,eK r];rfl
noncomputable def rM:List D->Hh->R D:=fun ds h=>match ds with
 | [.int i,.int j]=>.ok (.int (if j > i then j else i)) h
 | _=>.bad
theorem wO {α:List Addr} {H:Hp} {h:Hh} {ds:List D} {vs:List V} {t:Int->Int->Int} {Q:VK} (r:aM K g α H h) (rs:av K g α H ds vs) (w:WQ K g ε α H (match ds with | [.int i,.int j]=>.ok (.int (t i j)) h | _=>.bad) (aI K g α H Q)):∃i j,vs=[.int i,.int j]/\Q (.int (t i j)) H:=by
 split at w
 ·cases rs with
  | cons r1 t1=>
   cases r1
   cases t1 with
   | cons r2 t2=>
    cases r2
    cases t2
    exact⟨_,_,rfl,aI.now w r (.int _)⟩
 ·exact w.elim
theorem uT:kG K g ε rM (fun xs H Q=>∃i j,xs=[.int i,.int j]/\Q (.int (if j > i then j else i)) H):=fun α H h a x Q r ra w=>wO (t:=fun i j=>if j > i then j else i) r ra w
noncomputable def ya:List D->Hh->R D:=fun ds h=>match ds with
 | [.int i]=>.ok (.int i) h
 | [.bl b]=>.ok (.int (if b then 1 else 0)) h
 | _=>.bad
theorem BQ:kG K g ε ya (fun xs H Q=>(∃i,xs=[.int i]/\Q (.int i) H)\/∃k,xs=[.bl k]/\Q (.int (if k then 1 else 0)) H):=by
 intro α H h a x Q r ra w
 obtain⟨d,v,rfl,rfl,rd⟩:=jT (f:=ya) (fun d _ _ _=>by cases d<;>rfl) (fun _=>rfl) ra w
 unfold ya at w
 cases rd with
 | int i=>exact .inl ⟨i,rfl,aI.now w r (.int _)⟩
 | bl b=>exact .inr ⟨b,rfl,aI.now w r (.int _)⟩
 | _=>exact w.elim
noncomputable def tyD (d:D) (h:Hh):Option String:=match d with
 | .non=>some "NoneType"
 | .bl _=>some "bool"
 | .int _=>some "int"
 | .str _=>some "str"
 | .tup _=>some "tuple"
 | .frl _=>some "list"
 | .edic=>some "dict"
 | .ref n=>match h[n]? with
  | some (.lst _)=>some "list"
  | some (.dic _)=>some "dict"
  | some (.dit _)=>some "dict"
  | _=>none
 | _=>none
noncomputable def uR (t n:String):Option Bool:=
 if n="int" then (if t="int" then some true else if t="bool" then some true else if t="NoneType" \/ t="str" \/ t="tuple" \/ t="list" \/ t="dict" then some false else none)
 else if n="bool" \/ n="tuple" \/ n="list" \/ n="str" then (if t=n then some true else if t="int" \/ t="bool" \/ t="NoneType" \/ t="str" \/ t="tuple" \/ t="list" \/ t="dict" then some false else none)
 else none
noncomputable def rZ (n:String):D->Hh->R D:=fun d h=>match tyD d h with
 | some t=>match uR t n with
  | some b=>.ok (.bl b) h
  | none=>.bad
 | none=>.bad
theorem De {α:List Addr} {H:Hp} {h:Hh} {d:D} {v:V} {t:String} (r:aM K g α H h) (rd:aC K g α H d v) (e:tyD d h=some t):i4 K H v (.type t):=by
 unfold tyD at e
 cases rd with
 | non=>cases e;exact .non
 | bl b=>cases e;exact .bl b
 | int i=>cases e;exact .int i
 | str i=>cases e;exact .str i
 | tup hp rs=>cases e;exact .tup hp
 | frl hp rs=>cases e;obtain⟨o,hp⟩:=hp;exact .frz hp
 | edic hp=>cases e;exact .dO hp
 | @ref n p hp=>
  simp only at e
  cases eo:h[n]? with
  | none=>rw[eo] at e;cases e
  | some o=>
   rw[eo] at e
   have q:=r.here n p o hp eo
   cases o with
   | lst ds=>cases e;obtain⟨vs,hv,_⟩:=q;exact .lst hv
   | set k=>cases e
   | dic k=>cases e;obtain⟨vs,hv,_⟩:=q;exact .dK hv
   | dit k=>cases e;obtain⟨vs,hv,_⟩:=q;exact .dT hv
 | _=>cases e
theorem Aj (K:PySem.W.Frag):PySem.W.kitOne K (.type "int") (.type "int")=some true/\PySem.W.kitOne K (.type "bool") (.type "int")=some true/\PySem.W.kitOne K (.type "NoneType") (.type "int")=some false/\PySem.W.kitOne K (.type "str") (.type "int")=some false
  /\ PySem.W.kitOne K (.type "tuple") (.type "int")=some false/\PySem.W.kitOne K (.type "list") (.type "int")=some false/\PySem.W.kitOne K (.type "dict") (.type "int")=some false:=⟨rfl,rfl,rfl,rfl,rfl,rfl,rfl⟩
theorem yD (K:PySem.W.Frag):PySem.W.kitOne K (.type "int") (.type "bool")=some false/\PySem.W.kitOne K (.type "bool") (.type "bool")=some true/\PySem.W.kitOne K (.type "NoneType") (.type "bool")=some false/\PySem.W.kitOne K (.type "str") (.type "bool")=some false
  /\ PySem.W.kitOne K (.type "tuple") (.type "bool")=some false/\PySem.W.kitOne K (.type "list") (.type "bool")=some false/\PySem.W.kitOne K (.type "dict") (.type "bool")=some false:=⟨rfl,rfl,rfl,rfl,rfl,rfl,rfl⟩
theorem kit_tuple (K:PySem.W.Frag):PySem.W.kitOne K (.type "int") (.type "tuple")=some false/\PySem.W.kitOne K (.type "bool") (.type "tuple")=some false/\PySem.W.kitOne K (.type "NoneType") (.type "tuple")=some false/\PySem.W.kitOne K (.type "str") (.type "tuple")=some false
  /\ PySem.W.kitOne K (.type "tuple") (.type "tuple")=some true/\PySem.W.kitOne K (.type "list") (.type "tuple")=some false/\PySem.W.kitOne K (.type "dict") (.type "tuple")=some false:=⟨rfl,rfl,rfl,rfl,rfl,rfl,rfl⟩
theorem xV (K:PySem.W.Frag):PySem.W.kitOne K (.type "int") (.type "list")=some false/\PySem.W.kitOne K (.type "bool") (.type "list")=some false/\PySem.W.kitOne K (.type "NoneType") (.type "list")=some false/\PySem.W.kitOne K (.type "str") (.type "list")=some false
  /\ PySem.W.kitOne K (.type "tuple") (.type "list")=some false/\PySem.W.kitOne K (.type "list") (.type "list")=some true/\PySem.W.kitOne K (.type "dict") (.type "list")=some false:=⟨rfl,rfl,rfl,rfl,rfl,rfl,rfl⟩
theorem zy (K:PySem.W.Frag):PySem.W.kitOne K (.type "int") (.type "str")=some false/\PySem.W.kitOne K (.type "bool") (.type "str")=some false/\PySem.W.kitOne K (.type "NoneType") (.type "str")=some false/\PySem.W.kitOne K (.type "str") (.type "str")=some true
  /\ PySem.W.kitOne K (.type "tuple") (.type "str")=some false/\PySem.W.kitOne K (.type "list") (.type "str")=some false/\PySem.W.kitOne K (.type "dict") (.type "str")=some false:=⟨rfl,rfl,rfl,rfl,rfl,rfl,rfl⟩
theorem CI {t n:String} {b:Bool} (e:uR t n=some b):PySem.W.kitOne K (.type t) (.type n)=some b:=by
 unfold uR at e
 obtain⟨a1,a2,a3,a4,a5,a6,a7⟩:=Aj K
 obtain⟨b1,b2,b3,b4,b5,b6,b7⟩:=yD K
 obtain⟨c1,c2,c3,c4,c5,c6,c7⟩:=kit_tuple K
 obtain⟨d1,d2,d3,d4,d5,d6,d7⟩:=xV K
 obtain⟨e1,e2,e3,e4,e5,e6,e7⟩:=zy K
 split at e
 ·rename_i hn;subst hn
  split at e
  ·rename_i h;subst h;cases e;exact a1
  ·split at e
   ·rename_i h;subst h;cases e;exact a2
   ·split at e
    ·rename_i h;cases e;rcases h with rfl | rfl | rfl | rfl | rfl<;>assumption
    ·cases e
 ·split at e
  ·rename_i hn
   split at e
   ·rename_i h;subst h;cases e;rcases hn with rfl | rfl | rfl | rfl<;>assumption
   ·rename_i hne
    split at e
    ·rename_i h;cases e;rcases hn with rfl | rfl | rfl | rfl<;>rcases h with rfl | rfl | rfl | rfl | rfl | rfl | rfl<;>first | assumption | exact absurd rfl hne
    ·cases e
  ·cases e
theorem sG {e:Expr} {me:ME} {n:String} {x:Str} {p1 p2 pos:Pos} (he:PE X e (tM X.K g ε me)) (hg:Gl X "isinstance") (hm:X.mg "isinstance" = none) (hg2:Gl X x) (hm2:X.mg x=none) (hb:bootBuiltins x=some (.type n)) (hn:x≠"__name__" := by decide) (hd:(x == ("__debug__" : Str))=false:=by decide)
  (hs1:starEach [e,.Name x p2] X.env=(false,eval e X.env)::starEach [.Name x p2] X.env:=by rfl) (hs2:starEach [.Name x p2] X.env=[(false,eval (.Name x p2) X.env)]:=by rfl) (hpl:(backTo pos (starEach [.Name x p2] X.env)).any (·.1)=false:=by rfl) :
  PE X (.Call (.Name "isinstance" p1) [e,.Name x p2] [] pos) (tM X.K g ε (cUn (rZ n) me)):=
 PE.imp (qs rJ hg hm PyProof.Rows.boot_isinstance (jJ he (jJ (zz (v:=.ty n) hg2 hm2 hb rfl hn hd) oX hs2) hs1) (by decide) (by decide) hs1 hpl) fun σ H Q ⟨α,env,h,s,w⟩=>tM.use s w.bind fun d1 h1 v1 H1 α1 e1 s1 r1 w1=>by
  unfold rZ at w1
  cases et:tyD d1 h1 with
  | none=>simp only[et] at w1;exact w1.elim
  | some t=>
   simp only[et] at w1
   cases es:uR t n with
   | none=>simp only[es] at w1;exact w1.elim
   | some b=>
    simp only[es] at w1
    exact⟨v1,.type t,n,b,rfl,De s1.heap r1 et,CI es,aI.now (aI.ext e1 w1) s1.heap (.bl b)⟩
end
section
variable {X:Cx} {K:PySem.W.Frag} {g:GG} {ε:EE}
noncomputable def jI:D->Hh->R Bool:=fun d h=>match d with
 | .non=>.ok false h
 | .bl b=>.ok b h
 | .int i=>.ok (i != 0) h
 | .tup ds=>.ok (!ds.isEmpty) h
 | .frl ds=>.ok (!ds.isEmpty) h
 | .ref n=>match ay h n with
  | some ds=>.ok (!ds.isEmpty) h
  | none=>.bad
 | _=>.bad
theorem av.isEmpty {α:List Addr} {H:Hp} {ds:List D} {vs:List V} (r:av K g α H ds vs):ds.isEmpty=vs.isEmpty:=by cases r<;>rfl
theorem jW:C2 K g ε jI (fun x H Q=>∃k,yV K x H k/\Q k H):=by
 intro α H h a x Q r ra w
 unfold jI at w
 have now:∀{b:Bool},kr K g α H Q b h->Q b H:=fun p=>p H α Ext.refl r
 cases ra with
 | non=>exact⟨false,rfl,now w⟩
 | bl b=>exact⟨b,rfl,now w⟩
 | int i=>exact⟨_,rfl,now w⟩
 | tup hp rs=>exact⟨_,.inr (.inl ⟨_,SqT.of hp,rfl⟩),now (by rw[<- rs.isEmpty];exact w)⟩
 | frl hp rs=>exact⟨_,.inl ⟨_,hp.sq,rfl⟩,now (by rw[<- rs.isEmpty];exact w)⟩
 | @ref n p hp=>
  simp only at w
  cases e:ay h n with
  | none=>rw[e] at w;exact w.elim
  | some ds=>
   rw[e] at w
   obtain⟨vs,hv,rs⟩:=r.lst e hp
   exact⟨_,.inl ⟨vs,SqL.of hv,rfl⟩,now (by rw[<- rs.isEmpty];exact w)⟩
 | _=>exact w.elim
theorem wq {α:List Addr} {H:Hp} {d:D} {v:V} (r:aC K g α H d v) (f:dX d=true):iX v=true:=by
 cases r<;>first | rfl | cases f
theorem D3 {α:List Addr} {H:Hp} {d e:D} {v u:V} (r:aC K g α H d v) (q:aC K g α H e u) (f:dX d=true) (f':dX e=true):eqF d e=eqV v u:=by
 cases r<;>first | (cases f;done) | (cases q<;>first | rfl | cases f')
theorem A9 {α:List Addr} {H:Hp}:∀{ds:List D} {vs:List V},av K g α H ds vs->ds.all dX=true->vs.all iX=true
 | _,_,.nil,_=>rfl
 | _,_,.cons r t,f=>by
  rw[List.all_cons,Bool.and_eq_true] at f ⊢
  exact⟨wq r f.1,A9 t f.2⟩
theorem Bm {α:List Addr} {H:Hp} {e:D} {u:V} (q:aC K g α H e u) (f':dX e=true):∀{ds:List D} {vs:List V},av K g α H ds vs->ds.all dX=true->(ds.any fun d=>eqF d e)=vs.any fun y=>eqV y u
 | _,_,.nil,_=>rfl
 | _,_,.cons r t,f=>by
  rw[List.all_cons,Bool.and_eq_true] at f
  rw[List.any_cons,List.any_cons,D3 r q f.1 f',Bm q f' t f.2]
noncomputable def dIn (neg:Bool):D->D->Hh->R D:=fun a b h=>match eW b h with
 | some ds=>if dX a=true/\ds.all dX=true then .ok (.bl (if neg then !(ds.any fun d=>eqF d a) else ds.any fun d=>eqF d a)) h else .bad
 | none=>.bad
theorem DX {neg:Bool}:ec K g ε (dIn neg) (rIn K neg):=by
 intro α H h a b x y Q r ra rb w
 unfold dIn at w
 cases e:eW b h with
 | none=>rw[e] at w;exact w.elim
 | some ds=>
  rw[e] at w
  obtain⟨p,vs,rfl,hq,rs⟩:=kS r rb e
  obtain⟨⟨f1,f2⟩,w⟩:=WQ.dH w
  refine⟨p,vs,rfl,hq,wq ra f1,A9 rs f2,?_⟩
  have e2:(ds.any fun d=>eqF d a)=inV x vs:=Bm ra f1 rs f2
  rw[<- e2]
  exact aI.now w r (.bl _)
noncomputable def v8:List D->Option (List D)
 | [.int j]=>if j.natAbs<=1000000 then some (bj 0 j.toNat) else none
 | [.int i,.int j]=>if (i.natAbs<=1000000/\j.natAbs<=1000000)/\(j - i).toNat<=1000000 then some (bj i (j - i).toNat) else none
 | _=>none
noncomputable def ke (nl:NL):List D->Hh->R D:=fun ds h=>match v8 ds with
 | some xs=>nl xs h
 | none=>.bad
theorem yH (lo:Int) (n:Nat) {α:List Addr} {H:Hp}:av K g α H (bj lo n) ((nc lo 1 n).map V.int):=by
 have e:bj lo n=(nc lo 1 n).map D.int:=by
  unfold bj nc
  rw[List.map_map]
  apply List.map_congr_left
  intro i _
  simp
 rw[e]
 exact av.ints _
theorem zj {α:List Addr} {H:Hp} {ds:List D} {vs:List V} {xs:List D} (r:av K g α H ds vs) (e:v8 ds=some xs) :
  (∃j,vs=[.int j]/\k9 0 j 1 j.toNat/\xs=bj 0 j.toNat)\/∃i j,vs=[.int i,.int j]/\k9 i j 1 (j - i).toNat/\xs=bj i (j - i).toNat:=by
 unfold v8 at e
 split at e
 ·rename_i j
  split at e
  ·rename_i hj
   cases e
   cases r with
   | cons r1 t=>
    cases r1
    cases t
    refine .inl ⟨j,rfl,?_,rfl⟩
    have:=xZ (a:=0) (b:=j) (by omega) (by omega) (by omega) (by omega) (by omega)
    rw[Int.sub_zero] at this
    exact this
  ·cases e
 ·rename_i i j
  split at e
  ·rename_i hj
   cases e
   cases r with
   | cons r1 t=>
    cases r1
    cases t with
    | cons r2 t=>
     cases r2
     cases t
     exact .inr ⟨i,j,rfl,xZ (by omega) (by omega) (by omega) (by omega) (by omega),rfl⟩
  ·cases e
 ·cases e
theorem CM:ba X (.type "range") (fun vs H Q=>(∃j,vs=[.int j]/\∀p,H p=none->Q (.ref p) (upd H p (qf p 0 j 1)))\/∃i j,vs=[.int i,.int j]/\∀p,H p=none->Q (.ref p) (upd H p (qf p i j 1))):=ba.or vi u3
section
variable {e:Expr} {es:List Expr} {mr:MA} {p1 p2 q1 q2:Pos}
theorem xf {nl:NL} [gH nl] (hc:X.calm=true) (hg:Gl X "list") (hm:X.mg "list" = none) (hg2:Gl X "range") (hm2:X.mg "range" = none) (ha:PA X (e::es) (tMA X.K g ε mr))
  (he:starEach (e::es) X.env=(false,eval e X.env)::starEach es X.env:=by rfl) (hpl:(backTo q2 (starEach es X.env)).any (·.1)=false:=by rfl)
  (he1:starEach [.Call (.Name "range" p2) (e::es) [] q2] X.env=[(false,eval (.Call (.Name "range" p2) (e::es) [] q2) X.env)]:=by rfl) (hpl1:(backTo q1 (starEach [] X.env)).any (·.1)=false:=by rfl) :
  PE X (.Call (.Name "list" p1) [.Call (.Name "range" p2) (e::es) [] q2] [] q1) (tM X.K g ε (ah (ke nl) mr)):=
 PE.imp (PE.frz (j3 (mW hc) hg hm PyProof.Rows.boot_list (jJ (j3 CM hg2 hm2 PyProof.Rows.boot_range ha (by decide) (by decide) he hpl) oX he1) (by decide) (by decide) he1 hpl1)) fun σ H Q ⟨α,env,h,s,w⟩=>tMA.use s w.bind fun d1 h1 v1 H1 α1 e1 s1 r1 w1=>by
  unfold ke at w1
  cases er:v8 d1 with
  | none=>rw[er] at w1;exact w1.elim
  | some xs=>
   rw[er] at w1
   rcases zj r1 er with⟨j,rfl,ok,rfl⟩ | ⟨i,j,rfl,ok,rfl⟩
   ·refine .inl ⟨j,rfl,fun p hp=>⟨p,0,j,1,j.toNat,rfl,aO,ok,fun l hl=>?_⟩⟩
    have x:=Ext.fresh (K:=X.K) (α:=α1) (o:=qf p 0 j 1) hp
    exact NL.post ((w1.post e1).post x) (s1.heap.grow hp) (yH 0 j.toNat) hl
   ·refine .inr ⟨i,j,rfl,fun p hp=>⟨p,i,j,1,(j - i).toNat,rfl,aO,ok,fun l hl=>?_⟩⟩
    have x:=Ext.fresh (K:=X.K) (α:=α1) (o:=qf p i j 1) hp
    exact NL.post ((w1.post e1).post x) (s1.heap.grow hp) (yH i (j - i).toNat) hl
end
noncomputable def isL (d:D) (h:Hh):Bool:=match d with
 | .ref n=>(ay h n).isSome
 | .frl _=>true
 | _=>false
noncomputable def ij (f:D->List D->Hh->R D) (o:ME) (a:MA):ME:=fun env h=>(o env h).bind fun x h1=>if isL x h1=true then (a env h1).bind fun xs h2=>f x xs h2 else .bad
theorem y0 {α:List Addr} {H:Hp} {h:Hh} {d:D} {x:V} (r:aM K g α H h) (rd:aC K g α H d x) (e:isL d h=true):tyV K "list" x H:=by
 unfold isL at e
 cases rd with
 | @ref n p hp=>
  simp only at e
  obtain⟨ds,e⟩:=Option.isSome_iff_exists.mp e
  obtain⟨vs,hv,_⟩:=r.lst e hp
  exact .inl ⟨rfl,vs,SqL.of hv⟩
 | frl hq rs=>exact .inl ⟨rfl,_,hq.sq⟩
 | _=>cases e
theorem sL {o e:Expr} {es:List Expr} {mo:ME} {mr:MA} {name:Str} {apos cpos:Pos} {id:String} {r:V->List V->Hp->VK->Prop} {f:D->List D->Hh->R D} (slot:Slot "list" name id) (hty:typeOf (.builtin id)=pure (.type "method_descriptor")) (hm:MtM X id r) (im:Dl X.K g ε f r) (ho:PE X o (tM X.K g ε mo)) (ha:PA X (e::es) (tMA X.K g ε mr))
  (hbase:attributeBase o name X.env (eval o X.env)=eval o X.env:=by rfl)
  (hfew:((backTo cpos (starEach (e::es) X.env)).all (fun x=>!x.1)&&(backToKw cpos (keywordEach [] X.env)).all (fun x=>x.1.isSome)
   && decide ((e::es).length+([]:List Keyword).length+(if ([]:List Keyword).isEmpty then 0 else 1)<30))=true:=by rfl)
  (hline:(apos.endLine == cpos.line)=true:=by rfl) (hs:starEach (e::es) X.env=(false,eval e X.env)::starEach es X.env:=by rfl) (hplain:(backTo cpos (starEach es X.env)).any (·.1)=false:=by rfl) :
  PE X (.Call (.Attribute o name apos) (e::es) [] cpos) (tM X.K g ε (ij f mo mr)):=
 PE.imp (DR PySem.F.plainAttrs_list slot hty hm ho ha hbase hfew hline hs hplain) fun σ H Q ⟨α,env,h,s,w⟩=>tM.use s w.bind fun d1 h1 v1 H1 α1 e1 s1 r1 w1=>by
  obtain⟨hl,w1⟩:=WQ.dH w1
  refine⟨y0 s1.heap r1 hl,tMA.use s1 (w1.ext e1).bind fun d2 h2 v2 H2 α2 e2 s2 r2 w2=>?_⟩
  exact im α2 H2 h2 d1 d2 v1 v2 Q s2.heap (r1.ext e2) r2 ((w2.ext e2).mono fun _ _ _ p=>aI.ext (e1.trans e2) p)
noncomputable def c_:D->List D->Hh->R D:=fun o ds h=>match o,ds with
 | .ref n,[d]=>match ay h n with
  | some xs=>if xs.length<1000000 then .ok .non (h.set n (.lst (xs++[d]))) else .bad
  | none=>.bad
 | _,_=>.bad
theorem kg:Dl K g ε c_ uC:=by
 intro α H h o a y x Q r ro ra w
 unfold c_ at w
 cases ro with
 | @ref n p hp=>
  cases ra with
  | nil=>exact w.elim
  | @cons d v _ _ rd rr=>
   cases rr with
   | cons _ _=>exact w.elim
   | nil=>
    simp only at w
    cases e:ay h n with
    | none=>rw[e] at w;exact w.elim
    | some xs=>
     rw[e] at w
     obtain⟨hl,w⟩:=WQ.dH w
     obtain⟨vs,hv,rs⟩:=r.lst e hp
     refine⟨p,vs,_,rfl,rfl,hv,by rw[<- rs.length,sizeLine_eq];omega,?_⟩
     have x:=Ext.write (o:=.lst (vs++[v])) r hp
     exact(show aI K g α H Q _ _ from w) _ _ α x (r.write hp ⟨_,aO,(rs.append (.cons rd .nil)).ext x⟩) .non
 | _=>exact w.elim
theorem ko (ns:List Int):∀k,k<=ns.length->preSum (fun i=>ns.getD i 0) k=(ns.take k).sum
 | 0,_=>by simp[preSum]
 | k+1,h=>by
  rw[preSum,ko ns k (by omega),List.take_succ,List.sum_append]
  rw[List.getD_eq_getElem?_getD,List.getElem?_eq_getElem (by omega)]
  simp
theorem oq (hc:X.calm=true):ba X (.builtin "sum") (fun vs H Q=>∃(p:Addr) (ns:List Int),vs=[.ref p]/\(SqL X.K H p (ns.map V.int)\/SqT X.K H p (ns.map V.int))/\Q (.int ns.sum) H):=by
 intro pins s σ H xs us Q I r h
 obtain⟨p,ns,rfl,hq,q⟩:=h
 obtain⟨u,rfl,rx⟩:=vals1 r
 cases rx
 have hh:X.A.in1.handled=none:=I.ok.hd hc
 have fin:∀{its:List Value} {o:Obj},Vals (ns.map V.int) its->∀s',Moved [s.heap.objs.size] (fun a b=>b=a) { s with heap:=s.heap.push o } s'->∀t',EP X pins σ Q (.int (preSum (fun i=>ns.getD i 0) its.toArray.size) t') s':=fun{its o} rv s' mv t'=>by
  have hl:its.toArray.size=ns.length:=by rw[List.size_toArray,<- rv.length,List.length_map]
  have keep:∀b u,s.heap.get? b=some u->s'.heap.get? b=some u:=fun b u e=>mv.heap b u (by simp;exact Nat.ne_of_lt (Heap.lt_size e)) (Heap.get?_push_of_some _ e)
  have I':Inv X pins σ H s':=by
   obtain⟨hp,gs,dr,tk,os⟩:=s'
   have e1:gs=s.gens:=mv.gens
   have e2:dr=s.drawn:=mv.drawn
   have e3:os=s.os:=mv.os
   subst e1 e2 e3
   exact I.kept (h':=hp) (t':=tk) keep
  refine⟨.int ns.sum,H,I',⟨t',?_⟩,q⟩
  rw[hl,ko ns _ (Nat.le_refl _),List.take_length]
 have val:∀{its:List Value},Vals (ns.map V.int) its->∀i v,its.toArray[i]?=some v->∃t:Tok,v=Value.int (ns.getD i 0) t:=fun{its} rv i v e=>by
  obtain⟨x,hx,rxv⟩:=rv.get' (show its[i]?=some v by simpa using e)
  rw[List.getElem?_map] at hx
  cases en:ns[i]? with
  | none=>rw[en] at hx;cases hx
  | some z=>
   rw[en] at hx
   cases hx
   obtain⟨t,e⟩:=rxv
   exact⟨t,by rw[List.getD_eq_getElem?_getD,en];exact e⟩
 rcases hq with hq | hq
 ·obtain⟨its,rv,pl,hz⟩:=I.list hq
  have plt:p<s.heap.objs.size:=by obtain⟨o,e,_⟩:=pl.isList;exact Heap.lt_size e
  have hne:p≠s.heap.objs.size:=Nat.ne_of_lt plt
  refine call_sum_walkAnyS (wpAny_pyIter_list pl.isList ?_)
  refine⟨s.heap.objs.size,_,_,_,its.toArray.size,_,_,fun i=>ns.getD i 0,rfl,(Walks.list (prog:=X.prog) (w:=X.w) hh s.heap.objs.size p hne its.toArray).toS,⟨⟨_,Heap.get?_push_size _ rfl,rfl,rfl⟩,?_⟩,fun b hb=>?_,val rv,fun s' t' mv=>fin rv s' mv t'⟩
  ·exact pl.isList.at fun o e=>Heap.get?_push_of_some _ e
  ·simp at hb
   rcases hb with rfl | rfl
   ·exact Heap.lt_size (Heap.get?_push_size _ rfl)
   ·exact Nat.lt_trans plt (Heap.lt_size (Heap.get?_push_size _ rfl))
 ·obtain⟨its,rv,pl,hz⟩:=I.tuple hq
  have pt:s.heap.IsTuple p its.toArray:=pl
  have hne:p≠s.heap.objs.size:=Nat.ne_of_lt pl.lt
  refine call_sum_walkAnyS (wpAny_pyIter_tuple pt ?_)
  refine⟨s.heap.objs.size,_,_,_,its.toArray.size,_,_,fun i=>ns.getD i 0,rfl,(Walks.tuple (prog:=X.prog) (w:=X.w) hh s.heap.objs.size p hne its.toArray).toS,⟨⟨_,Heap.get?_push_size _ rfl,rfl,rfl⟩,?_⟩,fun b hb=>?_,val rv,fun s' t' mv=>fin rv s' mv t'⟩
  ·exact pt.at fun o e=>Heap.get?_push_of_some _ e
  ·simp at hb
   rcases hb with rfl | rfl
   ·exact Heap.lt_size (Heap.get?_push_size _ rfl)
   ·exact Nat.lt_trans pl.lt (Heap.lt_size (Heap.get?_push_size _ rfl))
noncomputable def oY:List D->Hh->R D:=fun ds h=>match ds with
 | [d]=>match eW d h with
  | some xs=>match intsOf xs with
   | some ns=>.ok (.int ns.sum) h
   | none=>.bad
  | none=>.bad
 | _=>.bad
theorem xD:kG K g ε oY (fun vs H Q=>∃(p:Addr) (ns:List Int),vs=[.ref p]/\(SqL K H p (ns.map V.int)\/SqT K H p (ns.map V.int))/\Q (.int ns.sum) H):=by
 intro α H h a x Q r ra w
 obtain⟨d,v,rfl,rfl,rd⟩:=jT (f:=oY) (fun _ _ _ _=>rfl) (fun _=>rfl) ra w
 unfold oY at w
 simp only at w
 cases e:eW d h with
 | none=>rw[e] at w;exact w.elim
 | some ds=>
  rw[e] at w
  simp only at w
  cases e2:intsOf ds with
  | none=>rw[e2] at w;exact w.elim
  | some ns=>
   rw[e2] at w
   obtain⟨p,vs,rfl,hq,rs⟩:=kS r rd e
   have e3:=cX e2
   subst e3
   have e4:=rs.uJ
   subst e4
   exact⟨p,ns,rfl,hq,aI.now w r (.int _)⟩
end
section
variable {P:Program} {w:World} {K:PySem.W.Frag} {mg:Str->Option Value} {base:Heap} {g:GG}
noncomputable def aV (K:PySem.W.Frag) (mg:Str->Option Value) (x:Str) (st:Stmt):Prop:=∃f fd,mg x=some (.ref f)/\Fun K x x st f fd
noncomputable def cy (K:PySem.W.Frag) (x:Str) (st:Stmt):Prop:=∃f fd,PySem.W.nsIn K mainGlobals x=some (some (.ref f))/\Fun K x x st f fd
theorem bG {x:Str} {st:Stmt} {f:Addr} {oc:Value} {od an:Option Addr} {osl:Array (Option Value)} {kV doc pm cdv ct:Value} (a:PySem.W.nsIn K mainGlobals x=some (some (.ref f)))
  (l:K.lookup f=some ⟨oc,od,.func (PySem.W.fnOf x x (jA st) (fU st) (aw st) .none kV doc pm an cdv ct),osl⟩) (c:PySem.W.codeIn K cdv x=true) (k:PySem.W.keepIn K (.ref f)=true):cy K x st:=⟨f,_,a,CF l c k⟩
theorem aV.of {h:Heap} {x:Str} {st:Stmt} (X:K.In h) (G:h.Ns mainGlobals mg) (d:cy K x st):aV K mg x st:=
 let ⟨f,fd,a,F⟩:=d;⟨f,fd,PySem.W.mg_of X G a,F⟩
noncomputable def Has (P:Program) (w:World) (K:PySem.W.Frag) (mg:Str->Option Value) (base:Heap) (g:GG) (x:Str) (k:Nat) (ps:List Str) (m:MF):Prop:=
 ∃f fd,eL P w K mg base CX0 k f fd ps (spM K g ps.length m)/\PySem.W.keepIn K (.ref f)=true/\Binds K fd ps []/\mg x=some (.ref f)/\∃(oc:Value) (od:Option Addr) (osl:Array (Option Value)),K.lookup f=some ⟨oc,od,.func fd,osl⟩
noncomputable def gOf (mg:Str->Option Value):GG:=fun x=>match mg x with
 | some (.ref f)=>some f
 | _=>none
theorem bc {x:Str} {st:Stmt} {f:Addr} {fd:FuncData} (F:Fun K x x st f fd):∃(oc:Value) (od:Option Addr) (osl:Array (Option Value)),K.lookup f=some ⟨oc,od,.func fd,osl⟩:=by
 obtain⟨oc,od,kV,doc,pm,an,cdv,ct,osl,rfl,lk,hcd⟩:=F.ex
 exact⟨oc,od,osl,lk⟩
theorem Cw {x:Str} {st:Stmt} {f:Addr} {fd:FuncData} {k:Nat} {ps:List Str} {m:MF} (F:Fun K x x st f fd) (hm:mg x=some (.ref f)) (h:Has P w K mg base g x k ps m):eL P w K mg base CX0 k f fd ps (spM K g ps.length m):=by
 obtain⟨f2,fd2,G,_,_,hm2,oc,od,osl,l2⟩:=h
 obtain⟨oc',od',osl',l1⟩:=bc F
 rw[hm] at hm2
 cases hm2
 rw[l1] at l2
 cases l2
 exact G
end
section
variable {X:Cx} {g:GG} {ε:EE}
noncomputable def BB (i j:Nat) (m:ME):MS:=fun env h=>(m env h).bind fun d h1=>(gT2 i j d env h1).bind fun e h2=>.ok (.nx e) h2
theorem DP {i j:Nat} {x y:Str} {e:Expr} {me:ME} {px py pt pos:Pos} {kt} (hc:X.calm=true) (hN:X.N.Nodup) (hi:X.N[i]?=some x) (hj:X.N[j]?=some y) (he:PE X e (tM X.K g ε me))
  (hx:Loc X.env.scope x:=by first | exact Or.inl rfl | exact Or.inr rfl) (hy:Loc X.env.scope y:=by first | exact Or.inl rfl | exact Or.inr rfl)
  (fx:X.fn x=true\/X.env.scope.names.lookup x=some .local:=by first | exact .inl rfl | exact .inr rfl) (fy:X.fn y=true\/X.env.scope.names.lookup y=some .local:=by first | exact .inl rfl | exact .inr rfl)
  (hs:swapsWithSole [.Tuple [.Name x px,.Name y py] kt pt] e pos.line X.env=pure false:=by rfl) (hw:swappedStores [.Tuple [.Name x px,.Name y py] kt pt] e X.env=pure none:=by rfl) :
  PS X (.Assign [.Tuple [.Name x px,.Name y py] kt pt] e pos) (tMS X.K g ε (BB i j me)):=
 PS.imp (wA he (sH hc (fM (bf hN hi hx fx) (fM (bf hN hj hy fy) o7))) hs hw rfl) fun E σ H ⟨α,env,h,s,w⟩=>tM.use s w.bind fun d1 h1 v1 H1 α1 e1 s1 r1 w1=>by
  refine xH (ε:=ε) α1 H1 h1 env σ d1 v1 _ s1 r1 ((w1.ext e1).bind.mono fun e' h2 _ w2 σ2 H2 α2 e2 s2=>?_)
  exact(show cK X.K g α H E (.nx e') h2 from w2) H2 α2 (e1.trans e2) s2.heap σ2 s2.vs
theorem sN {i j:Nat} {x y:Str} {a b:Expr} {ma:MA} {px py pt pos:Pos} {kt k2 pt2} (hc:X.calm=true) (hN:X.N.Nodup) (hi:X.N[i]?=some x) (hj:X.N[j]?=some y) (hij:i≠j) (ha:PA X [a,b] (tMA X.K g ε ma))
  (hx:X.env.scope.names.lookup x=some .local:=by rfl) (hy:X.env.scope.names.lookup y=some .local:=by rfl)
  (hw:swappedStores [.Tuple [.Name x px,.Name y py] kt pt] (.Tuple [a,b] k2 pt2) X.env=pure (some [x,y]):=by rfl)
  (hs:swapsWithSole [.Tuple [.Name x px,.Name y py] kt pt] (.Tuple [a,b] k2 pt2) pos.line X.env=pure false:=by rfl) :
  PS X (.Assign [.Tuple [.Name x px,.Name y py] kt pt] (.Tuple [a,b] k2 pt2) pos) (tMS X.K g ε (mR i j ma)):=Ed hc hN hi hj hij hx hy ha hw hs
end
theorem Cz {k:Nat} {m:MF} {l:PySem.W.OpenLaw} {q:Program} {loose:List Str} {XP:(Str->Option Value)->Heap->Prop} {YP:World->Heap->Prop} {d:DefRec} {K:Params->PySem.W.Frag} (hn:l.most=some 63) (hdf:d.params.defaults=[]) (hr:fN k callerA)
  (hY:∀(w:World) (h:Heap),YP w h->(K w.params).In h)
  (ok:∀ns:List Int,ns.length<=63->∃h,m [.scr (ns.map D.int)] []=.ok (.bl true) h)
  (F:∀(w:World) (mg:Str->Option Value) (fa:Addr) (h:Heap),(K w.params).In h->h.Ns mainGlobals mg->mg d.name=some (.ref fa) →
   ∃fd:FuncData,(∀(s:Shared) (u:Value),BindsTo s fd ⟨[u],[]⟩ [("_law_script", u)])/\∀base:Heap,(K w.params).In base->base.Ns mainGlobals mg->eL l.prog w (K w.params) mg base CX0 k fa fd ["_law_script"] (spM (K w.params) (gOf mg) 1 m)) :
  PySem.W.WalkO q loose XP YP l.row.toRowW d [] (fun f vs=>PySem.call f vs):=by
 refine L2.zp (n:=63) (k:=k) (x:="_law_script") (CX:=fun _=>CX0) (sp:=fun w=>fun vs H Q _=>∃a ns,vs=[V.ref a]/\ns.length<=63/\zv H/\SqL (K w.params) H a (ns.map V.int)/\∀v H',v=V.bl true->Q v H') hn (by decide) hdf hr hY (fun w mg fa h KX G hmg=>?_) (fun w H a ns hl hO hS=>⟨a,ns,rfl,hl,hO,hS,fun _ _ z=>z⟩) fun _ _ _ _ _ z=>z
 obtain⟨fd,hb,hF⟩:=F w mg fa h KX G hmg
 refine⟨fd,hb,fun base kb nb=>(hF base kb nb).imp fun vs H Q E z=>?_⟩
 obtain⟨a,ns,rfl,hl,hO,hS,hQ⟩:=z
 obtain⟨hh,e⟩:=ok ns hl
 refine⟨rfl,[],[.scr (ns.map D.int)],[],.cons (.scr ?_ (av.ints ns)) .nil,⟨rfl,fun n m p z=>by simp at z,fun n p o z=>by simp at z⟩,?_⟩
 ·rcases hS with(hS | ⟨o,hS⟩) | hS
  ·rcases hO a with z | ⟨o,xs,z⟩
   ·rw[hS] at z;cases z
   ·rw[hS] at z;cases z
  ·exact .inl ⟨o,hS⟩
  ·exact .inr hS
 ·rw[e]
  intro v H' α' _ _ rd
  cases rd
  exact hQ _ _ rfl
section
variable {X:Cx} {K:PySem.W.Frag} {g:GG} {ε:EE}
noncomputable def kj (lo st:Int) (n:Nat):List D:=(nc lo st n).map D.int
noncomputable def xF:List D->Option (List D)
 | [.int a,.int b,.int c]=>if Builtin.Range.small a b c=true/\0<=Builtin.Range.rangeSize a b c/\(Builtin.Range.rangeSize a b c).natAbs<=1000000/\c≠0/\c.natAbs<1073741824 then some (kj a c (Builtin.Range.rangeSize a b c).toNat) else none
 | _=>none
theorem x9 {α:List Addr} {H:Hp} {ds:List D} {vs:List V} {xs:List D} (r:av K g α H ds vs) (e:xF ds=some xs) :
  ∃a b c n,vs=[.int a,.int b,.int c]/\c≠0/\c.natAbs<1073741824/\k9 a b c n/\xs=kj a c n:=by
 unfold xF at e
 split at e
 ·rename_i a b c
  split at e
  ·rename_i hc
   cases e
   cases r with
   | cons r1 t=>
    cases t with
    | cons r2 t=>
     cases t with
     | cons r3 t=>
      cases t;cases r1;cases r2;cases r3
      exact⟨a,b,c,_,rfl,hc.2.2.2.1,hc.2.2.2.2,⟨hc.1,by omega,by omega⟩,rfl⟩
  ·cases e
 ·cases e
end
mutual
noncomputable def jd (k:Nat):D->Bool
 | .ref n=>decide (n<k)
 | .tup ds=>bN k ds
 | .frl ds=>bN k ds
 | .scr ds=>bN k ds
 | _=>true
noncomputable def bN (k:Nat):List D->Bool
 | []=>true
 | d::ds=>jd k d&&bN k ds
end
noncomputable def lj (k:Nat):O->Bool
 | .lst ds=>bN k ds
 | .set _=>true
 | .dic kvs=>bN k (kvs.map (·.2))
 | .dit kvs=>bN k (kvs.map (·.2))
noncomputable def i_ (f:D->Option D):List D->Option (List D)
 | []=>some []
 | d::ds=>match f d,i_ f ds with
  | some e,some es=>some (e::es)
  | _,_=>none
noncomputable def dO (k:Nat) (h:Hh):Nat->D->Option D
 | 0,_=>none
 | f+1,d=>match d with
  | .ref n=>if n<k then some (.ref n) else match ay h n with
   | some ds=>(i_ (dO k h f) ds).map .frl
   | none=>none
  | .tup ds=>(i_ (dO k h f) ds).map .tup
  | .frl ds=>(i_ (dO k h f) ds).map .frl
  | .scr _=>none
  | d=>some d
noncomputable def cB (h:Hh):D->Hh->R D:=fun d h'=>if (h'.take h.length).all (lj h.length)=true then match dO h.length h' 8 d with
 | some e=>.ok e (h'.take h.length)
 | none=>.bad else .bad
noncomputable def lS (h:Hh):D->Hh->R D:=fun d h'=>if (h'.take h.length).all (lj h.length)=true then match d with
 | .ref n=>if h.length<=n then match ay h' n with
  | some ds=>match i_ (dO h.length (h'.set n (.set [])) 8) ds with
   | some es=>.ok (.ref h.length) (h'.take h.length++[.lst es])
   | none=>.bad
  | none=>.bad else .bad
 | _=>.bad else .bad
open Classical in
noncomputable def fF (S:Addr->Prop) (o:Addr->Obj) (H:Hp):Hp:=fun p=>if S p then (H p).map (.frz (o p)) else H p
theorem CJ {P:Program} {w:World} {H:Hp} {h:Heap} {p:Addr} {u:HO} (q:bY P w H h p u) (mu:Mut (some u)):∃o,h.get? p=some o:=by
 cases u with
 | lst xs=>obtain⟨_,_,_,_,e'⟩:=q;exact⟨_,e'⟩
 | dK kvs=>obtain⟨_,_,_,_,o,_,_,e',_⟩:=q;exact⟨_,e'⟩
 | dT kvs=>obtain⟨_,_,_,_,o,_,_,e',_⟩:=q;exact⟨_,e'⟩
 | set S n=>obtain⟨o,_,_,_,e',_⟩:=q;exact⟨_,e'⟩
 | ins C dx fs=>obtain⟨_,_,_,e',_⟩:=q;exact⟨_,e'⟩
 | ext φ=>obtain⟨_,⟨_,e'⟩,_⟩:=q;exact⟨_,e'⟩
 | _=>exact absurd mu (fun z=>z)
theorem yn {outer:List Env} {P:Program} {w:World} {H:Hp} {s:Shared} {Q Q':VK} {u:Value} {s':Shared} (h:CE outer P w H s Q' u s')
  (hQ:∀v H',Q' v H'->∃S:Addr->Prop,(∀p,S p->∃u,H' p=some u/\Mut (some u))/\∀o:Addr->Obj,Q v (fF S o H')):CE outer P w H s Q u s':=by
 obtain⟨v,H',os,bare,un,hok,r,q⟩:=h
 obtain⟨S,hS,q⟩:=hQ v H' q
 have hS1:∀p,S p->∀u,H' p=some u->Mut (some u):=fun p z u e=>by obtain⟨u',e',m⟩:=hS p z;rw[e] at e';cases e';exact m
 have off:∀(o:Addr->Obj) b u,H' b=some u->¬ Mut (some u)->fF S o H' b=some u:=fun o b u e m=>by
  unfold fF
  rw[if_neg fun z=>m (hS1 b z u e)];exact e
 have offn:∀(o:Addr->Obj) b,H' b=none->fF S o H' b=none:=fun o b e=>by
  unfold fF
  split
  ·rw[e];rfl
  ·exact e
 let o:Addr->Obj:=fun b=>(s'.heap.get? b).getD { cls:=.none,data:=.fields #[] }
 refine⟨v,fF S o H',os,bare,⟨un.keep,un.slot,fun b ob e n hx=>offn o b (un.free b ob e n hx),un.there,fun b xs e=>off o b _ (un.oU b xs e) fun z=>z,fun b ob xs e=>off o b _ (un.mL b ob xs e) fun z=>z,fun b ps e=>?_⟩,?_,r,q o⟩
 ·obtain⟨more,e1⟩:=un.oG b ps e
  exact⟨more,off o b _ e1 fun z=>z⟩
 ·intro b u e
  have st:∀u,bY P w H' s'.heap b u->bY P w (fF S o H') s'.heap b u:=fun u x=>x.lY (fun _ _ _ z=>z) (fun c z=>off o c _ z fun z=>z) fun c xs z=>off o c _ z fun z=>z
  unfold fF at e
  split at e
  ·rename_i hb
   obtain⟨u',e',m⟩:=hS b hb
   rw[e'] at e
   cases e
   have x:=hok b u' e'
   obtain⟨ob,eo⟩:=CJ x m
   refine⟨?_,st _ x⟩
   show s'.heap.get? b=some ((s'.heap.get? b).getD _)
   rw[eo];rfl
  ·exact st u (hok b u e)
section
variable {K:PySem.W.Frag} {g:GG} {α α':List Addr} {H H' H2:Hp} {k:Nat}
structure nS (K:PySem.W.Frag) (α α':List Addr) (H' H2:Hp) (k:Nat):Prop where
 pre:∀n,n<k->α[n]?=α'[n]?
 tup:∀p xs,H' p=some (.tup xs)->H2 p=some (.tup xs)
 frz:∀p (o:Obj) (u:HO),H' p=some (.frz o u)->H2 p=some (.frz o u)
mutual
theorem oP (L:nS K α α' H' H2 k):∀{d:D} {v:V},jd k d=true->aC K g α' H' d v->aC K g α H2 d v
 | _,_,_,.non=>.non
 | _,_,_,.bl b=>.bl b
 | _,_,_,.int i=>.int i
 | _,_,_,.str x=>.str x
 | _,_,hl,.ref h=>.ref (by rw[L.pre _ (by simpa [jd] using hl)];exact h)
 | _,_,hl,.tup h r=>.tup (L.tup _ _ h) (gJ L (by simpa [jd] using hl) r)
 | _,_,hl,.frl h r=>.frl (let ⟨o,h⟩:=h;⟨o,L.frz _ _ _ h⟩) (gJ L (by simpa [jd] using hl) r)
 | _,_,hl,.scr h r=>.scr (h.elim (fun⟨o,h⟩=>.inl ⟨o,L.frz _ _ _ h⟩) .inr) (gJ L (by simpa [jd] using hl) r)
 | _,_,_,.fn h=>.fn h
 | _,_,_,.edic h=>.edic (L.frz _ _ _ h)
 | _,_,_,.exc hg h hc hd hf=>.exc hg (L.frz _ _ _ h) hc hd (hf.elim .inl fun⟨dx,od,a,b⟩=>.inr ⟨dx,od,a,L.frz _ _ _ b⟩)
theorem gJ (L:nS K α α' H' H2 k):∀{ds:List D} {vs:List V},bN k ds=true->av K g α' H' ds vs->av K g α H2 ds vs
 | _,_,_,.nil=>.nil
 | _,_,hl,.cons r t=>by
  simp only[bN,Bool.and_eq_true] at hl
  exact .cons (oP L hl.1 r) (gJ L hl.2 t)
end
theorem gX {f:D->Option D} (hf:∀d e v,f d=some e->aC K g α' H' d v->aC K g α H2 e v):∀{ds es:List D} {vs:List V},i_ f ds=some es->av K g α' H' ds vs->av K g α H2 es vs
 | [],es,_,e,.nil=>by cases e;exact .nil
 | d::ds,es,_,e,.cons r t=>by
  unfold i_ at e
  split at e
  ·rename_i e1 es1 h1 h2
   cases e
   exact .cons (hf _ _ _ h1 r) (gX hf h2 t)
  ·cases e
theorem jK {h' hx:Hh} (L:nS K α α' H' H2 k) (r:aM K g α' H' h') (hx':∀n ds,ay hx n=some ds->ay h' n=some ds) (fz:∀n p ds vs,k<=n->ay hx n=some ds->α'[n]?=some p->H' p=some (.lst vs)->Fr1 H2 p vs) :
  ∀(f:Nat) (d e:D) (v:V),dO k hx f d=some e->aC K g α' H' d v->aC K g α H2 e v
 | 0,_,_,_,e,_=>by cases e
 | f+1,d,e,v,he,rd=>by
  unfold dO at he
  cases rd with
  | non=>cases he;exact .non
  | bl b=>cases he;exact .bl b
  | int i=>cases he;exact .int i
  | str x=>cases he;exact .str x
  | fn h=>cases he;exact .fn h
  | edic h=>cases he;exact .edic (L.frz _ _ _ h)
  | exc hg h hc hd hf=>cases he;exact .exc hg (L.frz _ _ _ h) hc hd (hf.elim .inl fun⟨dx,od,a,b⟩=>.inr ⟨dx,od,a,L.frz _ _ _ b⟩)
  | scr _ _=>cases he
  | tup h rs=>
   simp only at he
   cases e1:i_ (dO k hx f) _ with
   | none=>rw[e1] at he;cases he
   | some es=>rw[e1] at he;cases he;exact .tup (L.tup _ _ h) (gX (fun d e v=>jK L r hx' fz f d e v) e1 rs)
  | frl h rs=>
   simp only at he
   cases e1:i_ (dO k hx f) _ with
   | none=>rw[e1] at he;cases he
   | some es=>rw[e1] at he;cases he;exact .frl (let ⟨o,h⟩:=h;⟨o,L.frz _ _ _ h⟩) (gX (fun d e v=>jK L r hx' fz f d e v) e1 rs)
  | @ref n p hp=>
   simp only at he
   split at he
   ·rename_i hn
    cases he
    exact .ref (by rw[L.pre n hn];exact hp)
   ·rename_i hn
    cases el:ay hx n with
    | none=>rw[el] at he;cases he
    | some ds=>
     rw[el] at he
     simp only at he
     cases e1:i_ (dO k hx f) ds with
     | none=>rw[e1] at he;cases he
     | some es=>
      rw[e1] at he;cases he
      obtain⟨vs,hv,rs⟩:=r.lst (hx' n ds el) hp
      exact .frl (fz n p ds vs (by omega) el hp hv) (gX (fun d e v=>jK L r hx' fz f d e v) e1 rs)
end
theorem qt {β:Type} {l:List β} {k n:Nat} {x:β} (e:(l.take k)[n]?=some x):n<k/\l[n]?=some x:=by
 rw[List.getElem?_take] at e
 split at e
 ·exact⟨by assumption,e⟩
 ·cases e
theorem jt {α α':List Addr} (h:α <+: α') {n:Nat} (hn:n<α.length):α[n]?=α'[n]?:=by
 obtain⟨t,rfl⟩:=h
 rw[List.getElem?_append_left hn]
theorem AK {β:Type} {l:List β} {f:β->Bool} (h:l.all f=true) {n:Nat} {x:β} (e:l[n]?=some x):f x=true:=List.all_eq_true.mp h x (List.mem_of_getElem? e)
theorem qF {K:PySem.W.Frag} {g:GG} {α α' α2:List Addr} {H H' H2:Hp} {h h':Hh} (r0:α.length=h.length) (e:Ext K α H α' H') (r:aM K g α' H' h') (hl:(h'.take h.length).all (lj h.length)=true)
  (L:nS K α2 α' H' H2 h.length) (kp:∀n p u,n<h.length->α'[n]?=some p->H' p=some u->H2 p=some u):∀(n:Nat) (p:Addr) (o:O),n<h.length->α'[n]?=some p->(h'.take h.length)[n]?=some o->OAt K g α2 H2 p o:=by
 intro n p o hn hp ho
 have lo:=AK hl ho
 obtain⟨_,ho'⟩:=qt ho
 have q:=r.here n p o hp ho'
 cases o with
 | lst ds=>obtain⟨vs,a,b⟩:=q;exact⟨vs,kp n p _ hn hp a,gJ L lo b⟩
 | set m=>exact kp n p _ hn hp q
 | dic kvs=>
  obtain⟨kws,a,b⟩:=q
  refine⟨kws,kp n p _ hn hp a,?_⟩
  replace lo:bN h.length (kvs.map (·.2))=true:=lo
  clear a ho ho'
  induction b with
  | nil=>exact .nil
  | cons x t ih=>
   simp only[List.map_cons,bN,Bool.and_eq_true] at lo
   exact .cons ⟨x.1,oP L lo.1 x.2⟩ (ih lo.2)
 | dit kvs=>
  obtain⟨kws,a,b⟩:=q
  refine⟨kws,kp n p _ hn hp a,?_⟩
  replace lo:bN h.length (kvs.map (·.2))=true:=lo
  clear a ho ho'
  induction b with
  | nil=>exact .nil
  | cons x t ih=>
   simp only[List.map_cons,bN,Bool.and_eq_true] at lo
   exact .cons ⟨x.1,oP L lo.1 x.2⟩ (ih lo.2)
section
variable {P:Program} {w:World} {K:PySem.W.Frag} {mg:Str->Option Value} {base:Heap} {g:GG} {k np:Nat} {f:Addr} {fd:FuncData} {ps:List Str} {m:MF}
theorem jO {CX:CXT} {ε:XK->EE} (F:eL P w K mg base CX k f fd ps (spG K g ε np m)):eL P w K mg base CX k f fd ps (spG K g ε np fun ds h=>(m ds h).bind (cB h)):=by
 refine⟨fun vs H Q E h=>?_,fun A outer s H args us vs Q E hr e0 hb hv hsp=>?_⟩
 ·obtain⟨hl,α,ds,h,rs,hh,w⟩:=h
  exact F.len vs H (fun _ _=>True) E ⟨hl,α,ds,h,rs,hh,w.bind.mono fun _ _ _ _ _ _ _ _ _ _=>trivial⟩
 ·obtain⟨hl,α,ds,h,rs,hh,w⟩:=hsp
  refine codeAny_mono (F.run A outer s H args us vs (fun v H'=>∃α' d h',Ext K α H α' H'/\aM K g α' H' h'/\aC K g α' H' d v/\WQ K g (ε E) α H (cB h d h') (aI K g α H Q)) E hr e0 hb hv ⟨hl,α,ds,h,rs,hh,w.bind.mono fun d h' _ w1 v H' α' e r rd=>⟨α',d,h',e,r,rd,w1⟩⟩) fun res s' q=>?_
  cases res with
  | error e=>exact q
  | ok fl=>
   cases fl with
   | ret u=>
    refine yn (show CE outer P _ H s _ u s' from q) fun v H' ⟨α',d,h',e,r,rd,w⟩=>?_
    refine⟨fun p=>∃n ds,h.length<=n/\α'[n]?=some p/\ay h' n=some ds,fun p ⟨n,ds,_,hp,hn⟩=>?_,fun o=>?_⟩
    ·obtain⟨vs,hv,_⟩:=r.lst hn hp
     exact⟨_,hv,trivial⟩
    ·unfold cB at w
     obtain⟨hl,w⟩:=WQ.dH w
     cases ez:dO h.length h' 8 d with
     | none=>rw[ez] at w;exact w.elim
     | some e'=>
      rw[ez] at w
      generalize hS:(fun p=>∃n ds,h.length<=n/\α'[n]?=some p/\ay h' n=some ds)=S
      have inS:∀p,S p↔∃n ds,h.length<=n/\α'[n]?=some p/\ay h' n=some ds:=fun p=>by rw[<- hS]
      have k0:α.length=h.length:=hh.len
      have notS:∀p u,H' p=some u->(∀vs,u≠.lst vs)->¬ S p:=fun p u e1 e2 z=>by
       obtain⟨n,ds,_,hp,hn⟩:=(inS p).mp z
       obtain⟨vs,hv,_⟩:=r.lst hn hp
       rw[e1] at hv;cases hv;exact e2 vs rfl
      have off:∀p,¬ S p->fF S o H' p=H' p:=fun p z=>by unfold fF;rw[if_neg z]
      have L:nS K α α' H' (fF S o H') h.length:=⟨fun n hn=>jt e.pre (by omega),fun p xs z=>by rw[off p (notS p _ z fun vs z=>nomatch z)];exact z,fun p o u z=>by rw[off p (notS p _ z fun vs z=>nomatch z)];exact z⟩
      have kp:∀n p u,n<h.length->α'[n]?=some p->H' p=some u->fF S o H' p=some u:=fun n p u hn hp e1=>by
       rw[off p fun z=>?_];exact e1
       obtain⟨m,ds,hm,hp',_⟩:=(inS p).mp z
       have:=r.inj n m p hp hp'
       omega
      have rd2:aC K g α (fF S o H') e' v:=jK L r (fun _ _ z=>z) (fun n p ds vs hn hl hp hv=>⟨o p,by unfold fF;rw[if_pos ((inS p).mpr ⟨n,ds,hn,hp,hl⟩),hv];rfl⟩) 8 d e' v ez rd
      refine(show aI K g α H Q e' (h'.take h.length) from w) v _ α ⟨⟨List.prefix_refl _,fun p xs z=>L.tup p xs (e.tup p xs z),fun p o u z=>L.frz p o u (e.frz p o u z)⟩,fun p u z n=>?_,fun _ z n=>absurd z n⟩ ⟨?_,fun n m p h1 h2=>hh.inj n m p h1 h2,fun n p ob h1 h2=>?_⟩ rd2
      ·rw[off p fun z'=>?_];exact e.keep p u z n
       obtain⟨m,ds,_,hp',_⟩:=(inS p).mp z'
       have:=e.new p (List.mem_of_getElem? hp') n
       rw[z] at this;cases this
      ·rw[List.length_take,<- r.len,k0]
       have:=e.pre.length_le
       omega
      ·have hn:n<h.length:=(qt h2).1
       rw[jt e.pre (by omega)] at h1
       exact qF k0 e r hl L kp n p ob hn h1 h2
   | next=>exact q
   | brk=>exact q
   | cont=>exact q
theorem yG {CX:CXT} {ε:XK->EE} (F:eL P w K mg base CX k f fd ps (spG K g ε np m)):eL P w K mg base CX k f fd ps (spG K g ε np fun ds h=>(m ds h).bind (lS h)):=by
 refine⟨fun vs H Q E h=>?_,fun A outer s H args us vs Q E hr e0 hb hv hsp=>?_⟩
 ·obtain⟨hl,α,ds,h,rs,hh,w⟩:=h
  exact F.len vs H (fun _ _=>True) E ⟨hl,α,ds,h,rs,hh,w.bind.mono fun _ _ _ _ _ _ _ _ _ _=>trivial⟩
 ·obtain⟨hl,α,ds,h,rs,hh,w⟩:=hsp
  refine codeAny_mono (F.run A outer s H args us vs (fun v H'=>∃α' d h',Ext K α H α' H'/\aM K g α' H' h'/\aC K g α' H' d v/\WQ K g (ε E) α H (lS h d h') (aI K g α H Q)) E hr e0 hb hv ⟨hl,α,ds,h,rs,hh,w.bind.mono fun d h' _ w1 v H' α' e r rd=>⟨α',d,h',e,r,rd,w1⟩⟩) fun res s' q=>?_
  cases res with
  | error e=>exact q
  | ok fl=>
   cases fl with
   | ret u=>
    refine yn (show CE outer P _ H s _ u s' from q) fun v H' ⟨α',d,h',e,r,rd,w⟩=>?_
    unfold lS at w
    obtain⟨hl,w⟩:=WQ.dH w
    cases rd with
    | @ref n0 p0 hp0=>
     obtain⟨hk,w⟩:=WQ.dH w
     cases el:ay h' n0 with
     | none=>rw[el] at w;exact w.elim
     | some ds=>
      rw[el] at w
      simp only at w
      cases ez:i_ (dO h.length (h'.set n0 (.set [])) 8) ds with
      | none=>rw[ez] at w;exact w.elim
      | some es=>
       rw[ez] at w
       have hx:∀n ds,ay (h'.set n0 (.set [])) n=some ds->n≠n0/\ay h' n=some ds:=fun n ds z=>by
        by_cases hn:n=n0
        ·subst hn
         unfold ay at z
         rw[List.getElem?_set] at z
         rw[if_pos rfl] at z
         split at z
         ·rename_i q;split at q<;>cases q
         ·cases z
        ·unfold ay at z ⊢
         rw[List.getElem?_set_ne (Ne.symm hn)] at z
         exact⟨hn,z⟩
       refine⟨fun p=>∃n ds,h.length<=n/\n≠n0/\α'[n]?=some p/\ay h' n=some ds,fun p ⟨n,ds,_,_,hp,hn⟩=>?_,fun o=>?_⟩
       ·obtain⟨vs,hv,_⟩:=r.lst hn hp
        exact⟨_,hv,trivial⟩
       ·generalize hS:(fun p=>∃n ds,h.length<=n/\n≠n0/\α'[n]?=some p/\ay h' n=some ds)=S
        have inS:∀p,S p↔∃n ds,h.length<=n/\n≠n0/\α'[n]?=some p/\ay h' n=some ds:=fun p=>by rw[<- hS]
        have k0:α.length=h.length:=hh.len
        have notS:∀p u,H' p=some u->(∀vs,u≠.lst vs)->¬ S p:=fun p u e1 e2 z=>by
         obtain⟨n,ds,_,_,hp,hn⟩:=(inS p).mp z
         obtain⟨vs,hv,_⟩:=r.lst hn hp
         rw[e1] at hv;cases hv;exact e2 vs rfl
        have off:∀p,¬ S p->fF S o H' p=H' p:=fun p z=>by unfold fF;rw[if_neg z]
        have L:nS K (α++[p0]) α' H' (fF S o H') h.length:=⟨fun n hn=>by rw[List.getElem?_append_left (by omega)];exact jt e.pre (by omega),fun p xs z=>by rw[off p (notS p _ z fun vs z=>nomatch z)];exact z,fun p o u z=>by rw[off p (notS p _ z fun vs z=>nomatch z)];exact z⟩
        have kp:∀n p u,n<h.length->α'[n]?=some p->H' p=some u->fF S o H' p=some u:=fun n p u hn hp e1=>by
         rw[off p fun z=>?_];exact e1
         obtain⟨m,ds,hm,_,hp',_⟩:=(inS p).mp z
         have:=r.inj n m p hp hp'
         omega
        obtain⟨vs0,hv0,rs0⟩:=r.lst el hp0
        have p0S:¬ S p0:=fun z=>by
         obtain⟨m,ds,hm,hne,hp',_⟩:=(inS p0).mp z
         exact hne (r.inj m n0 p0 hp' hp0)
        have p0α:p0∉α:=fun z=>by
         obtain⟨m,hm,em⟩:=List.getElem_of_mem z
         have h1:α'[m]?=some p0:=by rw[<- jt e.pre hm,List.getElem?_eq_getElem hm,em]
         have:=r.inj m n0 p0 h1 hp0
         omega
        have rs2:av K g (α++[p0]) (fF S o H') es vs0:=gX (fun d e v=>jK L r (fun n ds z=>(hx n ds z).2) (fun n p ds vs hn hl hp hv=>⟨o p,by unfold fF;rw[if_pos ((inS p).mpr ⟨n,ds,hn,(hx n ds hl).1,hp,(hx n ds hl).2⟩),hv];rfl⟩) 8 d e v) ez rs0
        have tl:(h'.take h.length).length=h.length:=by
         rw[List.length_take,<- r.len]
         have:=e.pre.length_le
         omega
        refine(show aI K g α H Q (.ref h.length) (h'.take h.length++[.lst es]) from w) _ _ (α++[p0]) ⟨⟨List.prefix_append _ _,fun p xs z=>L.tup p xs (e.tup p xs z),fun p o u z=>L.frz p o u (e.frz p o u z)⟩,fun p u z n=>?_,fun p z n=>?_⟩ ⟨?_,fun n m p h1 h2=>?_,fun n p ob h1 h2=>?_⟩ (.ref ?_)
        ·rw[off p fun z'=>?_];exact e.keep p u z n
         obtain⟨m,ds,_,_,hp',_⟩:=(inS p).mp z'
         have:=e.new p (List.mem_of_getElem? hp') n
         rw[z] at this;cases this
        ·rcases List.mem_append.mp z with z | z
         ·exact absurd z n
         ·rw[List.mem_singleton.mp z]
          exact e.new p0 (List.mem_of_getElem? hp0) p0α
        ·rw[List.length_append,List.length_append,tl,k0];rfl
        ·have key:∀i,(α++[p0])[i]?=some p->(i<α.length/\α[i]?=some p)\/(i=α.length/\p=p0):=fun i hi=>by
          by_cases hl:i<α.length
          ·rw[List.getElem?_append_left hl] at hi;exact .inl ⟨hl,hi⟩
          ·rw[List.getElem?_append_right (by omega)] at hi
           by_cases h0:i - α.length=0
           ·rw[h0] at hi;simp at hi;exact .inr ⟨by omega,hi.symm⟩
           ·rw[List.getElem?_eq_none (by simp;omega)] at hi;cases hi
         rcases key n h1 with⟨a1,a2⟩ | ⟨a1,a2⟩<;>rcases key m h2 with⟨b1,b2⟩ | ⟨b1,b2⟩
         ·exact hh.inj n m p a2 b2
         ·rw[b2] at a2;exact absurd (List.mem_of_getElem? a2) p0α
         ·rw[a2] at b2;exact absurd (List.mem_of_getElem? b2) p0α
         ·omega
        ·by_cases hn:n<h.length
         ·rw[List.getElem?_append_left (by omega),jt e.pre (by omega)] at h1
          rw[List.getElem?_append_left (by omega)] at h2
          exact qF k0 e r hl L kp n p ob hn h1 h2
         ·rw[List.getElem?_append_right (by omega)] at h2
          rw[List.getElem?_append_right (by omega)] at h1
          by_cases h0:n - h.length=0
          ·rw[tl,h0] at h2
           rw[k0,h0] at h1
           simp at h1 h2
           subst h1 h2
           exact⟨vs0,by rw[off _ p0S];exact hv0,rs2⟩
          ·rw[k0,List.getElem?_eq_none (by simp;omega)] at h1;cases h1
        ·rw[<- k0,List.getElem?_append_right (Nat.le_refl _)];simp
    | _=>exact w.elim
   | next=>exact q
   | brk=>exact q
   | cont=>exact q
end
end L2.FE
namespace L2
open PySem PySem.Spec PyProof.Rows
noncomputable def Izl (K:PySem.W.Frag) (a b:Addr):It:=
 ⟨fun i H=>∃xs ys x y,SqL K H a xs/\SqL K H b ys/\xs[i]?=some x/\ys[i]?=some y,
  fun i H x H'=>∃p v w,x=.ref p/\H p=none/\(∀xs,SqL K H a xs->xs[i]?=some v)/\(∀ys,SqL K H b ys->ys[i]?=some w)/\H'=upd H p (.tup [v,w]),
  fun i H=>∃xs ys,SqL K H a xs/\SqL K H b ys/\(xs.length<=i\/ys.length<=i)⟩
structure ZA (z TI TO i1 i2:Addr):Prop where
 TIz:TI≠z
 TOz:TO≠z
 i1z:i1≠z
 i2z:i2≠z
 TITO:TI≠TO
 TIi1:TI≠i1
 TIi2:TI≠i2
 TOi1:TO≠i1
 TOi2:TO≠i2
 i12:i1≠i2
noncomputable def AY (z TI TO i1 i2 a b:Addr) (i:Nat) (h:Heap):Prop:=
 IsZip h z TI TO .none/\IsPair h TI (.ref i1) (.ref i2)/\(∃x y,IsPair h TO x y)/\h.IsListIter i1 a i/\h.IsListIter i2 b i
theorem og {z TI TO i1 i2 a b:Addr} {i:Nat} {h:Heap} {xs ys:Array Value} (A:ZA z TI TO i1 i2) (st:AY z TI TO i1 i2 a b i h) (ha:h.IsList a xs) (hb:h.IsList b ys):ZipApart z TI TO i1 i2 a b:=by
 obtain⟨hz,hTI,⟨x,y,hTO⟩,h1,h2⟩:=st
 have cl:∀{l:Addr} {vs:Array Value},h.IsList l vs->l≠z/\l≠TO/\l≠i1/\l≠i2:=fun{l vs} hl=>by
  obtain⟨oa,qa,ca,_⟩:=hl
  obtain⟨o1,q1,c1,_⟩:=h1
  obtain⟨o2,q2,c2,_⟩:=h2
  refine⟨fun q=>?_,fun q=>?_,fun q=>?_,fun q=>?_⟩
  ·rw[q,hz] at qa;cases qa;injection ca with w;exact absurd w (by decide)
  ·rw[q,hTO] at qa;cases qa;injection ca with w;exact absurd w (by decide)
  ·rw[q,q1] at qa;cases qa;rw[c1] at ca;injection ca with w;exact absurd w (by decide)
  ·rw[q,q2] at qa;cases qa;rw[c2] at ca;injection ca with w;exact absurd w (by decide)
 obtain⟨a1,a2,a3,a4⟩:=cl ha
 obtain⟨b1,b2,b3,b4⟩:=cl hb
 exact⟨A.TIz,A.TOz,A.i1z,A.i2z,A.TITO,A.TIi1,A.TIi2,A.TOi1,A.TOi2,A.i12,a1,a2,a3,a4,b1,b2,b3,b4⟩
theorem vq {P:Program} {w:World} {K:PySem.W.Frag} {elts:List Expr} {k:Nat} {pos:Pos} {a b z TI TO i1 i2:Addr} (A:ZA z TI TO i1 i2):Turn P w K (.Tuple elts k pos) (Izl K a b) [z,TI,TO,i1,i2] z (AY z TI TO i1 i2 a b) where
 mem:=by simp
 obj:=fun i h st c hc=>by
  obtain⟨hz,hTI,⟨x,y,hTO⟩,⟨o1,q1,_,d1⟩,⟨o2,q2,_,d2⟩⟩:=st
  simp only[List.mem_cons,List.not_mem_nil,or_false] at hc
  rcases hc with e | e | e | e | e<;>rw[e]
  ·exact⟨_,hz,fun v q=>nomatch q⟩
  ·exact⟨_,hTI,fun v q=>nomatch q⟩
  ·exact⟨_,hTO,fun v q=>nomatch q⟩
  ·exact⟨o1,q1,fun v y=>by rw[d1] at y;cases y⟩
  ·exact⟨o2,q2,fun v y=>by rw[d2] at y;cases y⟩
 keep:=fun i h h' st kk=>by
  obtain⟨hz,hTI,⟨x,y,hTO⟩,h1,h2⟩:=st
  exact⟨kk z (by simp) _ hz,kk TI (by simp) _ hTI,⟨x,y,kk TO (by simp) _ hTO⟩,h1.at fun o q=>kk i1 (by simp) o q,h2.at fun o q=>kk i2 (by simp) o q⟩
 item:=by
  intro X hP hw hK hc i pins s σ H E I hf st hg
  subst hP hw hK
  obtain⟨xs,ys,x,y,hq,hr,hx,hy⟩:=hg
  obtain⟨its,rv,p,hz⟩:=I.list hq
  obtain⟨jts,rw',p',hz'⟩:=I.list hr
  obtain⟨u,hu,ru⟩:=rv.get hx
  obtain⟨u',hu',ru'⟩:=rw'.get hy
  have D:=og A st p.isList p'.isList
  obtain⟨z1,z2,⟨t1,t2,z3⟩,z4,z5⟩:=st
  refine wpAny_pyNext_zip_item D z1 z2 z3 z4 z5 p.isList p'.isList (x:=u) (y:=u') (by simpa using hu) (by simpa using hu') fun h1 a1 a2 a3 a4 a5 a6 k1=>?_
  refine⟨_,rfl,wpAny_letOwnedTupleGo_zip a1 fun h2 b1 b2=>?_⟩
  have lt:∀{c o},s.heap.get? c=some o->s.heap.objs.size≠c:=fun e=>Nat.ne_of_gt (Heap.lt_size e)
  have kk:∀c o,c∉[z,TI,TO,i1,i2]->s.heap.get? c=some o->h2.get? c=some o:=fun c o hc q=>by
   simp only[List.mem_cons,List.not_mem_nil,or_false,not_or] at hc
   exact b2.extBut _ _ hc.1 (k1 c o hc.1 hc.2.2.1 hc.2.2.2.1 hc.2.2.2.2 q)
  have hn:H s.heap.objs.size=none:=I.hok.fresh (Nat.le_refl _)
  have hzT:s.heap.objs.size≠z:=lt z1
  have nTf:∀c∈[z,TI,TO,i1,i2],c≠s.heap.objs.size:=fun c hc=>by
   simp only[List.mem_cons,List.not_mem_nil,or_false] at hc
   rcases hc with e | e | e | e | e<;>rw[e]
   ·exact(lt z1).symm
   ·exact(lt z2).symm
   ·exact(lt z3).symm
   ·obtain⟨o,q,_⟩:=z4;exact(lt q).symm
   ·obtain⟨o,q,_⟩:=z5;exact(lt q).symm
  have hT2:j7 h2 s.heap.objs.size #[u,u']:=⟨_,b2.extBut _ _ hzT a5,⟨rfl,_,rfl⟩,rfl⟩
  refine⟨.ref s.heap.objs.size,upd H s.heap.objs.size (.tup [x,y]),I.yielded (t':=s.toks) hf kk (Nat.le_refl _) ⟨by show 2<=sizeLine;decide,[u,u'],.cons ru (.cons ru' .nil),hT2⟩,rfl,⟨_,x,y,rfl,hn,fun l hl=>by rw[I.gW hl hq];exact hx,fun l hl=>by rw[I.gW hl hr];exact hy,rfl⟩,?_,fun c hc=>by rw[aH (nTf c hc)];exact(hf c hc).1⟩
  exact⟨b1,b2.extBut _ _ A.TIz (k1 _ _ A.TIz A.TITO A.TIi1 A.TIi2 z2),⟨_,_,b2.extBut _ _ A.TOz a2⟩,a3.extBut b2.extBut A.i1z,a4.extBut b2.extBut A.i2z⟩
 done:=by
  intro X hP hw hK hc i pins s σ H E I hf st hg
  subst hP hw hK
  obtain⟨xs,ys,hq,hr,hx⟩:=hg
  obtain⟨its,rv,p,hz⟩:=I.list hq
  obtain⟨jts,rw',p',hz'⟩:=I.list hr
  have D:=og A st p.isList p'.isList
  obtain⟨z1,z2,⟨t1,t2,z3⟩,z4,z5⟩:=st
  have hl:=rv.length
  have hl':=rw'.length
  refine wpAny_pyNext_zip_end (I.ok.hd hc) D z1 z2 z3 z4 z5 p.isList p'.isList ?_ fun h' eb=>⟨rfl,I.kR (t':=s.toks) hf fun b u hb q=>eb b u (fun z=>hb (by simp[z])) (fun z=>hb (by simp[z])) (fun z=>hb (by simp[z])) (fun z=>hb (by simp[z])) q⟩
  rcases hx with hx | hx
  ·exact .inl (Array.getElem?_eq_none (by rw[List.size_toArray];omega))
  ·exact .inr (Array.getElem?_eq_none (by rw[List.size_toArray];omega))
 self:=fun A i s Q E st q=>wpAny_pyIter_zip st.1 q
end L2
namespace L2.FE
open PySem PySem.Spec PyProof.Rows
section
variable {X:Cx} {g:GG} {ε:EE} {K:PySem.W.Frag}
noncomputable def iN:List D->List D->List D
 | x::xs,y::ys=>D.tup [x,y]::iN xs ys
 | _,_=>[]
theorem lR:∀{ds es:List D} {i:Nat},(iN ds es)[i]?=match ds[i]?,es[i]? with | some d,some e=>some (D.tup [d,e]) | _,_=>none
 | [],_,_=>by simp[iN]
 | _::_,[],_=>by
  simp only[iN,List.getElem?_nil]
  split<;>simp_all
 | _::_,_::_,0=>by simp[iN]
 | _::xs,_::ys,i+1=>by
  simp only[iN,List.getElem?_cons_succ]
  exact lR
theorem uK {α:List Addr} {H:Hp} {h:Hh} {d e:D} {v w:V} {p:Addr} (hr:aM K g α H h) (rv:aC K g α H d v) (rw':aC K g α H e w) (hp:H p=none) :
  ∃α',Ext K α H α' (upd H p (.tup [v,w]))/\aM K g α' (upd H p (.tup [v,w])) h/\aC K g α' (upd H p (.tup [v,w])) (.tup [d,e]) (.ref p):=
 ⟨α,Ext.fresh hp,hr.grow hp,.tup aO (.cons (rv.ext (Ext.fresh hp)) (.cons (rw'.ext (Ext.fresh hp)) .nil))⟩
theorem vI {α:List Addr} {H:Hp} {a b:Addr} {ds es:List D} {vs ws:List V} (hq:Fro K H a vs) (rs:av K g α H ds vs) (hq':Fro K H b ws) (rs':av K g α H es ws):Reads K g (Izl K a b) (Src.snap (iN ds es)).rdr α H:=by
 intro α2 H2 h2 x2 hr i
 have hq2:SqL K H2 a vs:=(x2.fro _ _ hq).sq
 have hq2':SqL K H2 b ws:=(x2.fro _ _ hq').sq
 have rs2:=rs.ext x2
 have rs2':=rs'.ext x2
 show match some (iN ds es)[i]? with | none=>True | some none=>_ | some (some d)=>_
 rw[lR]
 cases e:ds[i]? with
 | none=>
  have:ds.length<=i:=List.getElem?_eq_none_iff.mp e
  exact⟨vs,ws,hq2,hq2',.inl (by rw[<- rs.length];exact this)⟩
 | some d=>
  cases e':es[i]? with
  | none=>
   have:es.length<=i:=List.getElem?_eq_none_iff.mp e'
   exact⟨vs,ws,hq2,hq2',.inr (by rw[<- rs'.length];exact this)⟩
  | some d'=>
   obtain⟨v,ev,rv⟩:=rs2.get e
   obtain⟨v',ev',rv'⟩:=rs2'.get e'
   refine⟨⟨vs,ws,v,v',hq2,hq2',ev,ev'⟩,fun x H' y=>?_⟩
   obtain⟨p,u,u',e1,hp,e2,e2',e3⟩:=y
   subst e1 e3
   have:=e2 vs hq2
   rw[ev] at this
   cases this
   have:=e2' ws hq2'
   rw[ev'] at this
   cases this
   exact uK hr rv rv' hp
end
end L2.FE
namespace L2
open PySem PySem.Spec PyProof.Rows
section
variable {prog:Program} {w:World} {A:Around} {E:Value->Shared->Prop} {s:Shared}
theorem u7 {z U V a b p q:Addr} {i j:Nat} {xs ys:Array Value} {x y v1 v2:Value} {Q:Value->Shared->Prop} (D:ZipApart z U V a b p q) (hz:IsZip s.heap z U V .none) (hU:IsPair s.heap U (.ref a) (.ref b)) (hV:IsPair s.heap V v1 v2)
  (ha:s.heap.IsTupleIter a p i) (hb:s.heap.IsTupleIter b q j) (hp:s.heap.IsTuple p xs) (hq:s.heap.IsTuple q ys) (hx:xs[i]?=some x) (hy:ys[j]?=some y)
  (K:∀h',IsZip h' z U V (rawInt s.heap.objs.size)->IsPair h' V x y->h'.IsTupleIter a p (i+1)->h'.IsTupleIter b q (j+1)->IsPair h' s.heap.objs.size x y->h'.objs.size=s.heap.objs.size+1->(∀c o,c≠z->c≠V->c≠a->c≠b->s.heap.get? c=some o->h'.get? c=some o)->Q (.ref s.heap.objs.size) { s with heap:=h' }) :
  wpAny (model prog w) A (Builtin.«zip.__next__» ⟨[.ref z],[]⟩) (fun f s'=>∃v,f=.done (.ret v)/\Q v s') E s:=by
 show wpAny _ _ (field (.ref z) 2 >>= _) _ _ _;refine wpAny_bind (wpAny_field hz rfl (x:=.bool false) rfl ?_);show wpAny _ _ (field (.ref z) 3 >>= _) _ _ _
 refine wpAny_bind (wpAny_field hz rfl (x:=.ref U) rfl (wpAny_bind (wpAny_seqItems hU rfl ?_)))
 show wpAny _ _ (Builtin.SmallTypes.ownedTupleIsFree (.ref z) >>= _) _ _ _;refine wpAny_bind ?_;unfold Builtin.SmallTypes.ownedTupleIsFree
 refine wpAny_bind (wpAny_field hz rfl (x:=.none) rfl (wpAny_pure ?_));simp only[if_true]
 refine wpAny_bind (wpAny_rule (wpAny_bind (wpAny_field hz rfl (x:=.ref V) rfl (wpAny_bind (wpAny_setField_rec hz (by simp) fun g1 z1 m1=>?_)))))
 replace z1:IsZip g1 z U V .ellipsis:=z1
 refine wpAny_bind ?_;simp only[List.zipIdx_cons,List.zipIdx_nil,List.forIn_cons,List.forIn_nil]
 refine wpAny_bind (wpAny_bind (wpAny_onRaise ?_));show wpAny _ _ (Builtin.SmallTypes.nextOf (.ref a) >>= _) _ _ _
 refine wpAny_bind (fR (ha.extBut m1.extBut D.i1z) (hp.extBut m1.extBut D.l1z) hx fun g2 a2 m2=>wpAny_pure ?_)
 have V2:IsPair g2 V v1 v2:=m2.extBut _ _ D.TOi1 (m1.extBut _ _ D.TOz hV)
 refine wpAny_bind (wpAny_seqItems V2 rfl (wpAny_bind (wpAny_updateSeq_pair V2 fun g3 V3 m3=>?_)))
 replace V3:IsPair g3 V x v2:=V3
 refine wpAny_bind (wpAny_letGo (wpAny_pure (wpAny_bind (wpAny_bind (wpAny_onRaise ?_)))));show wpAny _ _ (Builtin.SmallTypes.nextOf (.ref b) >>= _) _ _ _
 refine wpAny_bind (fR (((hb.extBut m1.extBut D.i2z).extBut m2.extBut D.i12.symm).extBut m3.extBut D.TOi2.symm) (((hq.extBut m1.extBut D.l2z).extBut m2.extBut D.l2i1).extBut m3.extBut D.l2TO) hy fun g4 b4 m4=>wpAny_pure ?_)
 have V4:IsPair g4 V x v2:=m4.extBut _ _ D.TOi2 V3
 refine wpAny_bind (wpAny_seqItems V4 rfl (wpAny_bind (wpAny_updateSeq_pair V4 fun g5 V5 m5=>?_)))
 replace V5:IsPair g5 V x y:=V5
 refine wpAny_bind (wpAny_letGo (wpAny_pure (wpAny_pure (wpAny_bind (wpAny_seqItems V5 rfl (wpAny_bind (wpAny_newTuple ?_)))))))
 have n5:g5.objs.size=s.heap.objs.size:=by rw[m5.1,m4.1,m3.1,m2.1,m1.1]
 have z5:IsZip g5 z U V .ellipsis:=m5.extBut _ _ D.TOz.symm (m4.extBut _ _ D.i2z.symm (m3.extBut _ _ D.TOz.symm (m2.extBut _ _ D.i1z.symm z1)))
 have k5:∀c o,c≠z->c≠V->c≠a->c≠b->s.heap.get? c=some o->g5.get? c=some o:=fun c o c1 c2 c3 c4 e=>m5.extBut _ _ c2 (m4.extBut _ _ c4 (m3.extBut _ _ c2 (m2.extBut _ _ c3 (m1.extBut _ _ c1 e))))
 have a5:g5.IsTupleIter a p (i+1):=((a2.extBut m3.extBut D.TOi1.symm).extBut m4.extBut D.i12).extBut m5.extBut D.TOi1.symm
 have b5:g5.IsTupleIter b q (j+1):=b4.extBut m5.extBut D.TOi2.symm
 have lz:z<g5.objs.size:=Heap.lt_size z5
 show wpAny _ _ (Builtin.SmallTypes.ownedTupleHandOut (.ref z) (.ref g5.objs.size) >>= _) _ _ _;refine wpAny_bind ?_;unfold Builtin.SmallTypes.ownedTupleHandOut
 have z6:IsZip (g5.push { cls:=.type "tuple", data:=.seq #[x,y] }) z U V .ellipsis:=Heap.get?_push_of_some _ z5
 refine wpAny_bind (wpAny_setField_rec z6 (by simp) fun g7 z7 m7=>?_)
 replace z7:IsZip g7 z U V (rawInt g5.objs.size):=z7
 refine wpAny_setField_rec z7 (by simp) fun g8 z8 m8=>?_
 replace z8:IsZip g8 z U V (rawInt g5.objs.size):=z8
 have up:∀c o,c≠z->g5.get? c=some o->g8.get? c=some o:=fun c o c1 e=>m8.extBut _ _ c1 (m7.extBut _ _ c1 (Heap.get?_push_of_some _ e))
 have T8:IsPair g8 g5.objs.size x y:=m8.extBut _ _ (Nat.ne_of_gt lz) (m7.extBut _ _ (Nat.ne_of_gt lz) (Heap.get?_push_size _ rfl))
 have n8:g8.objs.size=g5.objs.size+1:=by rw[m8.1,m7.1,Heap.size_push]
 rw[n5] at z8 T8 n8
 refine wpAny_pure ⟨_,rfl,?_⟩;show Q (.ref g5.objs.size) _;rw[n5]
 exact K g8 z8 (up _ _ D.TOz V5) (a5.at fun o e=>up _ o D.i1z e) (b5.at fun o e=>up _ o D.i2z e) T8 n8 fun c o c1 c2 c3 c4 e=>up c o c1 (k5 c o c1 c2 c3 c4 e)
theorem wB {z U V a b p q:Addr} {i j:Nat} {xs ys:Array Value} {v1 v2:Value} {Q:Fin->Shared->Prop} (hh:A.handled=none) (D:ZipApart z U V a b p q) (hz:IsZip s.heap z U V .none) (hU:IsPair s.heap U (.ref a) (.ref b)) (hV:IsPair s.heap V v1 v2)
  (ha:s.heap.IsTupleIter a p i) (hb:s.heap.IsTupleIter b q j) (hp:s.heap.IsTuple p xs) (hq:s.heap.IsTuple q ys) (he:xs[i]?=none\/ys[j]?=none)
  (K:∀h' e,(∀c o,c≠z->c≠V->c≠a->c≠b->s.heap.get? c=some o->h'.get? c=some o)->(∃o,h'.get? e=some o/\o.cls=.type "StopIteration")->E (.ref e) { s with heap:=h' }):wpAny (model prog w) A (Builtin.«zip.__next__» ⟨[.ref z],[]⟩) Q E s:=by
 show wpAny _ _ (field (.ref z) 2 >>= _) _ _ _;refine wpAny_bind (wpAny_field hz rfl (x:=.bool false) rfl ?_);show wpAny _ _ (field (.ref z) 3 >>= _) _ _ _
 refine wpAny_bind (wpAny_field hz rfl (x:=.ref U) rfl (wpAny_bind (wpAny_seqItems hU rfl ?_)))
 show wpAny _ _ (Builtin.SmallTypes.ownedTupleIsFree (.ref z) >>= _) _ _ _;refine wpAny_bind ?_;unfold Builtin.SmallTypes.ownedTupleIsFree
 refine wpAny_bind (wpAny_field hz rfl (x:=.none) rfl (wpAny_pure ?_));simp only[if_true]
 refine wpAny_bind (wpAny_rule (wpAny_bind (wpAny_field hz rfl (x:=.ref V) rfl (wpAny_bind (wpAny_setField_rec hz (by simp) fun g1 z1 m1=>?_)))))
 replace z1:IsZip g1 z U V .ellipsis:=z1
 refine wpAny_bind ?_;simp only[List.zipIdx_cons,List.zipIdx_nil,List.forIn_cons,List.forIn_nil]
 refine wpAny_bind (wpAny_bind (wpAny_onRaise ?_));show wpAny _ _ (Builtin.SmallTypes.nextOf (.ref a) >>= _) _ _ _
 cases hx:xs[i]? with
 | none=>
  refine wpAny_bind (iH hh (ha.extBut m1.extBut D.i1z) (hp.extBut m1.extBut D.l1z) hx fun g2 e m2 ee=>?_)
  obtain⟨oe,e1,e2⟩:=ee
  have z2:IsZip g2 z U V .ellipsis:=m2 _ _ D.i1z.symm z1
  have ez:e≠z:=fun u=>by subst u;rw[z2] at e1;cases e1;simp at e2
  exact wpAny_setField_rec z2 (by simp) fun g3 _ m3=>K g3 e (fun c o c1 _ c3 _ u=>m3.extBut _ _ c1 (m2 _ _ c3 (m1.extBut _ _ c1 u))) ⟨oe,m3.extBut _ _ ez e1,e2⟩
 | some x=>
  have hy:ys[j]?=none:=he.resolve_left (by rw[hx];exact nofun)
  refine wpAny_bind (fR (ha.extBut m1.extBut D.i1z) (hp.extBut m1.extBut D.l1z) hx fun g2 a2 m2=>wpAny_pure ?_)
  have V2:IsPair g2 V v1 v2:=m2.extBut _ _ D.TOi1 (m1.extBut _ _ D.TOz hV)
  refine wpAny_bind (wpAny_seqItems V2 rfl (wpAny_bind (wpAny_updateSeq_pair V2 fun g3 V3 m3=>?_)))
  refine wpAny_bind (wpAny_letGo (wpAny_pure (wpAny_bind (wpAny_bind (wpAny_onRaise ?_)))));show wpAny _ _ (Builtin.SmallTypes.nextOf (.ref b) >>= _) _ _ _
  refine wpAny_bind (iH hh (((hb.extBut m1.extBut D.i2z).extBut m2.extBut D.i12.symm).extBut m3.extBut D.TOi2.symm) (((hq.extBut m1.extBut D.l2z).extBut m2.extBut D.l2i1).extBut m3.extBut D.l2TO) hy fun g4 e m4 ee=>?_)
  obtain⟨oe,e1,e2⟩:=ee
  have z4:IsZip g4 z U V .ellipsis:=m4 _ _ D.i2z.symm (m3.extBut _ _ D.TOz.symm (m2.extBut _ _ D.i1z.symm z1))
  have ez:e≠z:=fun u=>by subst u;rw[z4] at e1;cases e1;simp at e2
  exact wpAny_setField_rec z4 (by simp) fun g5 _ m5=>K g5 e (fun c o c1 c2 c3 c4 u=>m5.extBut _ _ c1 (m4 _ _ c4 (m3.extBut _ _ c2 (m2.extBut _ _ c3 (m1.extBut _ _ c1 u))))) ⟨oe,m5.extBut _ _ ez e1,e2⟩
theorem vf {z U V a b p q:Addr} {i j:Nat} {xs ys:Array Value} {x y v1 v2:Value} {Q:Option Value->Shared->Prop} (D:ZipApart z U V a b p q) (hz:IsZip s.heap z U V .none) (hU:IsPair s.heap U (.ref a) (.ref b)) (hV:IsPair s.heap V v1 v2)
  (ha:s.heap.IsTupleIter a p i) (hb:s.heap.IsTupleIter b q j) (hp:s.heap.IsTuple p xs) (hq:s.heap.IsTuple q ys) (hx:xs[i]?=some x) (hy:ys[j]?=some y)
  (K:∀h',IsZip h' z U V (rawInt s.heap.objs.size)->IsPair h' V x y->h'.IsTupleIter a p (i+1)->h'.IsTupleIter b q (j+1)->IsPair h' s.heap.objs.size x y->h'.objs.size=s.heap.objs.size+1->(∀c o,c≠z->c≠V->c≠a->c≠b->s.heap.get? c=some o->h'.get? c=some o)->Q (some (.ref s.heap.objs.size)) { s with heap:=h' }) :
  wpAny (model prog w) A (pyNext (.ref z)) Q E s:=by
 have ty:s.TypeIs (.ref z) "zip" := ⟨_,hz,rfl⟩
 unfold pyNext;refine wpAny_bind (wpAny_attempt (wpAny_callSpecial?_slot (name:=Str.ofString "__next__") ty F.slot_zip_next (wpAny_call_entry F.slot_zip_next ty F.entry_zip_next ?_ (F.args_zip_next_1 _))))
 exact u7 D hz hU hV ha hb hp hq hx hy fun h' b1 b2 b3 b4 b5 b6 b7=>wpAny_pure (K h' b1 b2 b3 b4 b5 b6 b7)
theorem yr {z U V a b p q:Addr} {i j:Nat} {xs ys:Array Value} {v1 v2:Value} {Q:Option Value->Shared->Prop} (hh:A.handled=none) (D:ZipApart z U V a b p q) (hz:IsZip s.heap z U V .none) (hU:IsPair s.heap U (.ref a) (.ref b)) (hV:IsPair s.heap V v1 v2)
  (ha:s.heap.IsTupleIter a p i) (hb:s.heap.IsTupleIter b q j) (hp:s.heap.IsTuple p xs) (hq:s.heap.IsTuple q ys) (he:xs[i]?=none\/ys[j]?=none)
  (K:∀h',(∀c o,c≠z->c≠V->c≠a->c≠b->s.heap.get? c=some o->h'.get? c=some o)->Q none { s with heap:=h' }):wpAny (model prog w) A (pyNext (.ref z)) Q E s:=by
 have ty:s.TypeIs (.ref z) "zip" := ⟨_,hz,rfl⟩
 unfold pyNext;refine wpAny_bind (wpAny_attempt (wpAny_callSpecial?_slot (name:=Str.ofString "__next__") ty F.slot_zip_next (wpAny_call_entry F.slot_zip_next ty F.entry_zip_next ?_ (F.args_zip_next_1 _))))
 refine wB hh D hz hU hV ha hb hp hq he fun h' e kk ⟨o,ho,hc⟩=>?_
 exact wpAny_bind (wpAny_isInstance (T:="StopIteration") (b:=true) ⟨o,ho,hc⟩ isSubtype_stop (wpAny_pure (K _ kk)))
end
noncomputable def zh1 (h:Heap) (p:Addr):Heap:=h.push { cls:=.type "tuple_iterator", data:=.fields #[.ref p,.int 0 0] }
noncomputable def zh2 (h:Heap) (p q:Addr):Heap:=(zh1 h p).push { cls:=.type "tuple_iterator", data:=.fields #[.ref q,.int 0 0] }
noncomputable def zh3 (h:Heap) (p q:Addr):Heap:=(zh2 h p q).push { cls:=.type "tuple", data:=.seq #[.ref h.objs.size,.ref (zh1 h p).objs.size] }
noncomputable def zh4 (h:Heap) (p q:Addr):Heap:=(zh3 h p q).push { cls:=.type "tuple", data:=.seq #[.none,.none] }
noncomputable def zh5 (h:Heap) (p q:Addr):Heap:=(zh4 h p q).push { cls:=.type "zip", data:=.fields #[.none,.bool false,.bool false,.ref (zh2 h p q).objs.size,.ref (zh3 h p q).objs.size] }
theorem sE (p q:Addr) (xs ys:Array Value):Meets (Builtin.«zip.__new__» ⟨[.type "zip", .ref p,.ref q],[]⟩) (fun _ R s=>s.heap.IsTuple p xs/\s.heap.IsTuple q ys/\R (.ok (.ret (.ref (zh4 s.heap p q).objs.size))) { s with heap:=zh5 s.heap p q }):=
 .of_wp fun prog w A R s h=>by
  obtain⟨hp,g,d,tk,os⟩:=s;obtain⟨h1,h2,h⟩:=h
  have sub:=sub_zip
  have t1:Heap.IsTuple (Shared.heap ⟨hp,g,d,tk,os⟩) p xs:=h1
  have t2:Heap.IsTuple (Shared.heap ⟨hp.push { cls:=.type "tuple_iterator", data:=.fields #[.ref p,.int 0 0] },g,d,tk,os⟩) q ys:=Heap.IsTuple.at h2 fun o e=>Heap.get?_push_of_some _ e
  wp_walk using wpAny_pyIter_tuple t1,wpAny_pyIter_tuple t2
  exact⟨_,rfl,h⟩
section
variable {prog:Program} {w:World} {A:Around} {E:Value->Shared->Prop} {s:Shared}
theorem vK {p q:Addr} {xs ys:Array Value} {Q:Value->Shared->Prop} (h1:s.heap.IsTuple p xs) (h2:s.heap.IsTuple q ys)
  (K:∀h',IsZip h' (s.heap.objs.size+4) (s.heap.objs.size+2) (s.heap.objs.size+3) .none->IsPair h' (s.heap.objs.size+2) (.ref s.heap.objs.size) (.ref (s.heap.objs.size+1))->IsPair h' (s.heap.objs.size+3) .none .none->h'.IsTupleIter s.heap.objs.size p 0->h'.IsTupleIter (s.heap.objs.size+1) q 0->(∀c o,s.heap.get? c=some o->h'.get? c=some o)->Q (.ref (s.heap.objs.size+4)) { s with heap:=h' }) :
  wpAny (model prog w) A (call (.type "zip") [.ref p,.ref q]) Q E s:=by
 refine callType_new F.called_zip (by decide) (F.typeCall_zip_2 _ _) (F.newCall_zip_2 _ _) (fun obj=>F.args_object_init_3 obj _ _) F.entry_zip_new (sE p q xs ys) ⟨h1,h2,?_⟩
 have e1:(zh1 s.heap p).objs.size=s.heap.objs.size+1:=Heap.size_push ..
 have e2:(zh2 s.heap p q).objs.size=s.heap.objs.size+2:=(Heap.size_push ..).trans (by rw[e1])
 have e3:(zh3 s.heap p q).objs.size=s.heap.objs.size+3:=(Heap.size_push ..).trans (by rw[e2])
 have e4:(zh4 s.heap p q).objs.size=s.heap.objs.size+4:=(Heap.size_push ..).trans (by rw[e3])
 have o5:(zh5 s.heap p q).get? (zh4 s.heap p q).objs.size=some _:=Heap.get?_push_size _ rfl
 have o4:(zh5 s.heap p q).get? (zh3 s.heap p q).objs.size=some _:=Heap.get?_push_of_some _ (Heap.get?_push_size _ rfl)
 have o3:(zh5 s.heap p q).get? (zh2 s.heap p q).objs.size=some _:=Heap.get?_push_of_some _ (Heap.get?_push_of_some _ (Heap.get?_push_size _ rfl))
 have o2:(zh5 s.heap p q).get? (zh1 s.heap p).objs.size=some _:=Heap.get?_push_of_some _ (Heap.get?_push_of_some _ (Heap.get?_push_of_some _ (Heap.get?_push_size _ rfl)))
 have o1:(zh5 s.heap p q).get? s.heap.objs.size=some _:=Heap.get?_push_of_some _ (Heap.get?_push_of_some _ (Heap.get?_push_of_some _ (Heap.get?_push_of_some _ (Heap.get?_push_size _ rfl))))
 have kp:∀c o,s.heap.get? c=some o->(zh5 s.heap p q).get? c=some o:=fun c o x=>Heap.get?_push_of_some _ (Heap.get?_push_of_some _ (Heap.get?_push_of_some _ (Heap.get?_push_of_some _ (Heap.get?_push_of_some _ x))))
 show _/\_
 rw[e2,e3,e4] at o5
 rw[e1,e2] at o3
 rw[e3] at o4
 rw[e1] at o2
 rw[e4]
 exact⟨⟨_,o5,rfl⟩,K _ o5 o3 o4 ⟨_,o1,rfl,rfl⟩ ⟨_,o2,rfl,rfl⟩ kp⟩
end
noncomputable def Izt (K:PySem.W.Frag) (a b:Addr):It:=
 ⟨fun i H=>∃xs ys x y,SqT K H a xs/\SqT K H b ys/\xs[i]?=some x/\ys[i]?=some y,
  fun i H x H'=>∃p v w,x=.ref p/\H p=none/\(∀xs,SqT K H a xs->xs[i]?=some v)/\(∀ys,SqT K H b ys->ys[i]?=some w)/\H'=upd H p (.tup [v,w]),
  fun i H=>∃xs ys,SqT K H a xs/\SqT K H b ys/\(xs.length<=i\/ys.length<=i)⟩
noncomputable def Bl (z TI TO i1 i2 a b:Addr) (i:Nat) (h:Heap):Prop:=
 IsZip h z TI TO .none/\IsPair h TI (.ref i1) (.ref i2)/\(∃x y,IsPair h TO x y)/\h.IsTupleIter i1 a i/\h.IsTupleIter i2 b i/\a≠TO/\b≠TO
theorem lW {z TI TO i1 i2 a b:Addr} {i:Nat} {h:Heap} {xs ys:Array Value} (A:ZA z TI TO i1 i2) (st:Bl z TI TO i1 i2 a b i h) (ha:h.IsTuple a xs) (hb:h.IsTuple b ys):ZipApart z TI TO i1 i2 a b:=by
 obtain⟨hz,hTI,⟨x,y,hTO⟩,h1,h2,na,nb⟩:=st
 have cl:∀{l:Addr} {vs:Array Value},h.IsTuple l vs->l≠z/\l≠i1/\l≠i2:=fun{l vs} hl=>by
  obtain⟨oa,qa,ca,_⟩:=hl
  obtain⟨o1,q1,c1,_⟩:=h1
  obtain⟨o2,q2,c2,_⟩:=h2
  refine⟨fun q=>?_,fun q=>?_,fun q=>?_⟩
  ·rw[q,hz] at qa;cases qa;injection ca with w;exact absurd w (by decide)
  ·rw[q,q1] at qa;cases qa;rw[c1] at ca;injection ca with w;exact absurd w (by decide)
  ·rw[q,q2] at qa;cases qa;rw[c2] at ca;injection ca with w;exact absurd w (by decide)
 obtain⟨a1,a3,a4⟩:=cl ha
 obtain⟨b1,b3,b4⟩:=cl hb
 exact⟨A.TIz,A.TOz,A.i1z,A.i2z,A.TITO,A.TIi1,A.TIi2,A.TOi1,A.TOi2,A.i12,a1,na,a3,a4,b1,nb,b3,b4⟩
theorem ve {P:Program} {w:World} {K:PySem.W.Frag} {elts:List Expr} {k:Nat} {pos:Pos} {a b z TI TO i1 i2:Addr} (A:ZA z TI TO i1 i2):Turn P w K (.Tuple elts k pos) (Izt K a b) [z,TI,TO,i1,i2] z (Bl z TI TO i1 i2 a b) where
 mem:=by simp
 obj:=fun i h st c hc=>by
  obtain⟨hz,hTI,⟨x,y,hTO⟩,⟨o1,q1,_,d1⟩,⟨o2,q2,_,d2⟩,_⟩:=st
  simp only[List.mem_cons,List.not_mem_nil,or_false] at hc
  rcases hc with e | e | e | e | e<;>rw[e]
  ·exact⟨_,hz,fun v q=>nomatch q⟩
  ·exact⟨_,hTI,fun v q=>nomatch q⟩
  ·exact⟨_,hTO,fun v q=>nomatch q⟩
  ·exact⟨o1,q1,fun v y=>by rw[d1] at y;cases y⟩
  ·exact⟨o2,q2,fun v y=>by rw[d2] at y;cases y⟩
 keep:=fun i h h' st kk=>by
  obtain⟨hz,hTI,⟨x,y,hTO⟩,h1,h2,na,nb⟩:=st
  exact⟨kk z (by simp) _ hz,kk TI (by simp) _ hTI,⟨x,y,kk TO (by simp) _ hTO⟩,h1.at fun o q=>kk i1 (by simp) o q,h2.at fun o q=>kk i2 (by simp) o q,na,nb⟩
 item:=by
  intro X hP hw hK hc i pins s σ H E I hf st hg
  subst hP hw hK
  obtain⟨xs,ys,x,y,hq,hr,hx,hy⟩:=hg
  obtain⟨its,rv,p,hz⟩:=I.tuple hq
  obtain⟨jts,rw',p',hz'⟩:=I.tuple hr
  have pt:s.heap.IsTuple a its.toArray:=p
  have pt':s.heap.IsTuple b jts.toArray:=p'
  obtain⟨u,hu,ru⟩:=rv.get hx
  obtain⟨u',hu',ru'⟩:=rw'.get hy
  have D:=lW A st pt pt'
  obtain⟨z1,z2,⟨t1,t2,z3⟩,z4,z5,na,nb⟩:=st
  refine vf D z1 z2 z3 z4 z5 pt pt' (x:=u) (y:=u') (by simpa using hu) (by simpa using hu') fun h1 a1 a2 a3 a4 a5 a6 k1=>?_
  refine⟨_,rfl,wpAny_letOwnedTupleGo_zip a1 fun h2 b1 b2=>?_⟩
  have lt:∀{c o},s.heap.get? c=some o->s.heap.objs.size≠c:=fun e=>Nat.ne_of_gt (Heap.lt_size e)
  have kk:∀c o,c∉[z,TI,TO,i1,i2]->s.heap.get? c=some o->h2.get? c=some o:=fun c o hc q=>by
   simp only[List.mem_cons,List.not_mem_nil,or_false,not_or] at hc
   exact b2.extBut _ _ hc.1 (k1 c o hc.1 hc.2.2.1 hc.2.2.2.1 hc.2.2.2.2 q)
  have hn:H s.heap.objs.size=none:=I.hok.fresh (Nat.le_refl _)
  have hzT:s.heap.objs.size≠z:=lt z1
  have nTf:∀c∈[z,TI,TO,i1,i2],c≠s.heap.objs.size:=fun c hc=>by
   simp only[List.mem_cons,List.not_mem_nil,or_false] at hc
   rcases hc with e | e | e | e | e<;>rw[e]
   ·exact(lt z1).symm
   ·exact(lt z2).symm
   ·exact(lt z3).symm
   ·obtain⟨o,q,_⟩:=z4;exact(lt q).symm
   ·obtain⟨o,q,_⟩:=z5;exact(lt q).symm
  have hT2:j7 h2 s.heap.objs.size #[u,u']:=⟨_,b2.extBut _ _ hzT a5,⟨rfl,_,rfl⟩,rfl⟩
  refine⟨.ref s.heap.objs.size,upd H s.heap.objs.size (.tup [x,y]),I.yielded (t':=s.toks) hf kk (Nat.le_refl _) ⟨by show 2<=sizeLine;decide,[u,u'],.cons ru (.cons ru' .nil),hT2⟩,rfl,⟨_,x,y,rfl,hn,fun l hl=>by rw[I.fI hl hq];exact hx,fun l hl=>by rw[I.fI hl hr];exact hy,rfl⟩,?_,fun c hc=>by rw[aH (nTf c hc)];exact(hf c hc).1⟩
  exact⟨b1,b2.extBut _ _ A.TIz (k1 _ _ A.TIz A.TITO A.TIi1 A.TIi2 z2),⟨_,_,b2.extBut _ _ A.TOz a2⟩,a3.extBut b2.extBut A.i1z,a4.extBut b2.extBut A.i2z,na,nb⟩
 done:=by
  intro X hP hw hK hc i pins s σ H E I hf st hg
  subst hP hw hK
  obtain⟨xs,ys,hq,hr,hx⟩:=hg
  obtain⟨its,rv,p,hz⟩:=I.tuple hq
  obtain⟨jts,rw',p',hz'⟩:=I.tuple hr
  have pt:s.heap.IsTuple a its.toArray:=p
  have pt':s.heap.IsTuple b jts.toArray:=p'
  have D:=lW A st pt pt'
  obtain⟨z1,z2,⟨t1,t2,z3⟩,z4,z5,_⟩:=st
  have hl:=rv.length
  have hl':=rw'.length
  refine yr (I.ok.hd hc) D z1 z2 z3 z4 z5 pt pt' ?_ fun h' eb=>⟨rfl,I.kR (t':=s.toks) hf fun b u hb q=>eb b u (fun z=>hb (by simp[z])) (fun z=>hb (by simp[z])) (fun z=>hb (by simp[z])) (fun z=>hb (by simp[z])) q⟩
  rcases hx with hx | hx
  ·exact .inl (Array.getElem?_eq_none (by rw[List.size_toArray];omega))
  ·exact .inr (Array.getElem?_eq_none (by rw[List.size_toArray];omega))
 self:=fun A i s Q E st q=>wpAny_pyIter_zip st.1 q
noncomputable def Df (K:PySem.W.Frag) (ta:TA):TI:=fun σ H R=>ta σ H fun vs H1=>∃a b,vs=[.ref a,.ref b]/\(((∃xs,SqL K H1 a xs)/\(∃ys,SqL K H1 b ys)/\R (Izl K a b) H1)\/((∃xs,SqT K H1 a xs)/\(∃ys,SqT K H1 b ys)/\R (Izt K a b) H1))
theorem Aa {X:Cx} {elts:List Expr} {kt:Nat} {tp p pos:Pos} {l m:Expr} {ta:TA} (hg:Gl X "zip") (hm:X.mg "zip" = none) (hl:PA X [l,m] ta) (hs:starEach [l,m] X.env=(false,eval l X.env)::starEach [m] X.env:=by rfl) (hp:(backTo pos (starEach [m] X.env)).any (·.1)=false:=by rfl) :
  PI X (.Tuple elts kt tp) (.Call (.Name "zip" p) [l,m] [] pos) (Df X.K ta):=by
 intro pins s σ H R I h
 refine Call_ (gU I hg hm PyProof.Rows.boot_zip (PyProof.Rows.callWith_type1 (thn (hl pos pins s σ H _ I h) fun us s1 ⟨vs,H1,I1,r1,q1⟩=>?_) hs hp))
 obtain⟨a,b,e1,q⟩:=q1
 subst e1
 obtain⟨u1,u2,rfl,rv,rw'⟩:∃u1 u2,us=[u1,u2]/\RelV (.ref a) u1/\RelV (.ref b) u2:=by
  cases r1 with
  | cons p q=>
   cases q with
   | cons p' q'=>
    cases q'
    exact⟨_,_,rfl,p,p'⟩
 cases rv
 cases rw'
 have ne:∀n i j:Nat,i≠j->n+i≠n+j:=by intro n i j h;omega
 have ap:ZA (s1.heap.objs.size+4) (s1.heap.objs.size+2) (s1.heap.objs.size+3) s1.heap.objs.size (s1.heap.objs.size+1):=⟨ne _ 2 4 (by decide),ne _ 3 4 (by decide),ne _ 0 4 (by decide),ne _ 1 4 (by decide),ne _ 2 3 (by decide),ne _ 2 0 (by decide),ne _ 2 1 (by decide),ne _ 3 0 (by decide),ne _ 3 1 (by decide),ne _ 0 1 (by decide)⟩
 have fp:∀c∈[s1.heap.objs.size+4,s1.heap.objs.size+2,s1.heap.objs.size+3,s1.heap.objs.size,s1.heap.objs.size+1],i5 X pins H1 c:=by
  intro c hc
  have hb':s1.heap.objs.size<=c:=by
   simp only[List.mem_cons,List.not_mem_nil,or_false] at hc
   rcases hc with e | e | e | e | e<;>rw[e]
   ·exact Nat.le_add_right _ _
   ·exact Nat.le_add_right _ _
   ·exact Nat.le_add_right _ _
   ·exact Nat.le_refl _
   ·exact Nat.le_add_right _ _
  exact I1.vd hb' (I1.hok.fresh hb')
 rcases q with⟨⟨xs,hq⟩,⟨ys,hr⟩,q⟩ | ⟨⟨xs,hq⟩,⟨ys,hr⟩,q⟩
 ·obtain⟨its,rv,pl,hz⟩:=I1.list hq
  obtain⟨jts,rw',pl',hz'⟩:=I1.list hr
  refine call_zip_2 pl.isList pl'.isList fun h2 y1 y2 y3 y4 y5 hsz kp=>wpAny_pyIter_zip (s:={ s1 with heap:=h2 }) y1 ?_
  exact⟨s1.heap.objs.size+4,_,_,_,H1,rfl,I1.kept (t':=s1.toks) kp,vq (a:=a) (b:=b) ap,⟨y1,y2,⟨_,_,y3⟩,y4,y5⟩,fp,q⟩
 ·obtain⟨its,rv,pl,hz⟩:=I1.tuple hq
  obtain⟨jts,rw',pl',hz'⟩:=I1.tuple hr
  have pt:s1.heap.IsTuple a its.toArray:=pl
  have pt':s1.heap.IsTuple b jts.toArray:=pl'
  have la:a<s1.heap.objs.size:=pl.lt
  have lb:b<s1.heap.objs.size:=pl'.lt
  refine vK pt pt' fun h2 y1 y2 y3 y4 y5 kp=>wpAny_pyIter_zip (s:={ s1 with heap:=h2 }) y1 ?_
  refine⟨s1.heap.objs.size+4,_,_,_,H1,rfl,I1.kept (t':=s1.toks) kp,ve (a:=a) (b:=b) ap,⟨y1,y2,⟨_,_,y3⟩,y4,y5,?_,?_⟩,fp,q⟩
  ·exact Nat.ne_of_lt (Nat.lt_of_lt_of_le la (Nat.le_add_right _ _))
  ·exact Nat.ne_of_lt (Nat.lt_of_lt_of_le lb (Nat.le_add_right _ _))
end L2
namespace L2.FE
open PySem PySem.Spec PyProof.Rows
section
variable {X:Cx} {g:GG} {ε:EE} {K:PySem.W.Frag}
noncomputable def zK:List D->Hh->R Src
 | [.frl ds,.frl es],h=>.ok (.snap (iN ds es)) h
 | [.tup ds,.tup es],h=>.ok (.snap (iN ds es)) h
 | _,_=>.bad
noncomputable def uw (a:MA):MI:=fun env h=>(a env h).bind zK
theorem sI {α:List Addr} {H:Hp} {a b:Addr} {ds es:List D} {vs ws:List V} (hq:H a=some (.tup vs)) (rs:av K g α H ds vs) (hq':H b=some (.tup ws)) (rs':av K g α H es ws):Reads K g (Izt K a b) (Src.snap (iN ds es)).rdr α H:=by
 intro α2 H2 h2 x2 hr i
 have hq2:SqT K H2 a vs:=SqT.of (x2.tup _ _ hq)
 have hq2':SqT K H2 b ws:=SqT.of (x2.tup _ _ hq')
 have rs2:=rs.ext x2
 have rs2':=rs'.ext x2
 show match some (iN ds es)[i]? with | none=>True | some none=>_ | some (some d)=>_
 rw[lR]
 cases e:ds[i]? with
 | none=>
  have:ds.length<=i:=List.getElem?_eq_none_iff.mp e
  exact⟨vs,ws,hq2,hq2',.inl (by rw[<- rs.length];exact this)⟩
 | some d=>
  cases e':es[i]? with
  | none=>
   have:es.length<=i:=List.getElem?_eq_none_iff.mp e'
   exact⟨vs,ws,hq2,hq2',.inr (by rw[<- rs'.length];exact this)⟩
  | some d'=>
   obtain⟨v,ev,rv⟩:=rs2.get e
   obtain⟨v',ev',rv'⟩:=rs2'.get e'
   refine⟨⟨vs,ws,v,v',hq2,hq2',ev,ev'⟩,fun x H' y=>?_⟩
   obtain⟨p,u,u',e1,hp,e2,e2',e3⟩:=y
   subst e1 e3
   have:=e2 vs hq2
   rw[ev] at this
   cases this
   have:=e2' ws hq2'
   rw[ev'] at this
   cases this
   exact uK hr rv rv' hp
theorem Ad {elts:List Expr} {kt:Nat} {tp p pos:Pos} {e e':Expr} {ma:MA} (hg:Gl X "zip") (hm:X.mg "zip" = none) (he:PA X [e,e'] (tMA X.K g ε ma)) (hs:starEach [e,e'] X.env=(false,eval e X.env)::starEach [e'] X.env:=by rfl) (hp:(backTo pos (starEach [e'] X.env)).any (·.1)=false:=by rfl):PI X (.Tuple elts kt tp) (.Call (.Name "zip" p) [e,e'] [] pos) (tMI X.K g ε (uw ma)):=
 PI.imp (Aa hg hm he hs hp) fun σ H T ⟨α,env,h,s,w⟩=>tMA.use s w.bind fun d1 h1 v1 H1 α1 e1 s1 r1 w1=>by
  unfold zK at w1
  split at w1
  ·cases r1 with
   | cons ra rr=>
    cases rr with
    | cons rb rr=>
     cases rr
     cases ra with
     | frl hq rs=>
      cases rb with
      | frl hq' rs'=>exact⟨_,_,rfl,.inl ⟨⟨_,hq.sq⟩,⟨_,hq'.sq⟩,w1 _ H1 α1 e1 s1.heap (vI hq.fro rs hq'.fro rs')⟩⟩
  ·cases r1 with
   | cons ra rr=>
    cases rr with
    | cons rb rr=>
     cases rr
     cases ra with
     | tup hq rs=>
      cases rb with
      | tup hq' rs'=>exact⟨_,_,rfl,.inr ⟨⟨_,SqT.of hq⟩,⟨_,SqT.of hq'⟩,w1 _ H1 α1 e1 s1.heap (sI hq rs hq' rs')⟩⟩
  ·exact w1.elim
end
end L2.FE
namespace L2
open PySem PySem.Spec PyProof.Rows
section
variable {prog:Program} {w:World} {A:Around} {E:Value->Shared->Prop} {s:Shared}
theorem xB {l:Addr} {vs:List Value} {Q:List Value->Shared->Prop} (hl:s.heap.IsTuple l vs.toArray) (hz:vs.length<=sizeLine)
  (h:Q vs { s with heap:=(s.heap.push (seqObj "list" #[] 0)).update s.heap.objs.size (Obj.mapSeq (·++vs.toArray)) }):wpAny (model prog w) A (collect (.ref l)) Q E s:=by
 obtain⟨o,ho,hc,n,hd⟩:=hl
 unfold collect;refine wpAny_bind (wpAny_runValue (codeAny_builtin entry_proto_collect' ?_));show wpAny _ _ (do again (.builtin "list.__iadd__" ⟨[<- newList [],.ref l],[]⟩)) _ _ s
 refine wpAny_bind (wpAny_newList (wpAny_pure ⟨Code.quiet_builtin _ (by decide +kernel),codeAny_builtin entry_list_iadd' ?_⟩))
 show wpAny _ _ (Builtin.List.listExtendWith (.ref s.heap.objs.size) (.ref l) (.ref s.heap.objs.size)) _ _ { s with heap:=s.heap.push (seqObj "list" #[] 0) };unfold Builtin.List.listExtendWith
 have g1:(s.heap.push (seqObj "list" #[] 0)).get? l=some o:=Heap.get?_push_of_some _ ho
 refine wpAny_bind (wpAny_typeOf (T:="tuple") ⟨o,g1,hc⟩ ?_)
 rw[if_pos (by rw[show(Value.type "tuple" == Value.type "tuple")=true from rfl,Bool.or_true])]
 refine wpAny_bind (listItems_at g1 hd (wpAny_bind (listItems_at (xs:=#[]) (n:=0) (Heap.get?_push_size _ rfl) rfl ?_)))
 rw[if_neg (by simp)]
 refine wpAny_bind (listUpdate_at (xs:=#[]) (n:=0) (Heap.get?_push_size _ rfl) rfl (wpAny_pure ?_) (Nat.zero_le _) (by show(#[]++vs.toArray).size<=sizeLine+1;simp;omega))
 show wpAny (model prog w) A (do
   let o ← load s.heap.objs.size
   match o.data with
   | .seq xs _=>pure xs.toList
   | _=>unsupported "internal:collect") Q E { s with heap:=(s.heap.push (seqObj "list" #[] 0)).update s.heap.objs.size (Obj.mapSeq (·++vs.toArray)) }
 refine wpAny_bind (wpAny_load (get?_update_seq (Heap.get?_push_size _ rfl) _) ?_)
 have e:((#[]:Array Value)++vs.toArray).toList=vs:=by simp
 show wpAny _ _ (pure ((#[]:Array Value)++vs.toArray).toList) Q E _;rw[e];exact wpAny_pure h
theorem iT {l:Addr} {vs:List Value} {ns:List Int} {Q:Value->Shared->Prop} (hl:s.heap.IsTuple l vs.toArray) (hI:IntsAre vs ns) (h64:vs.length<64)
  (h:∀(out:Array Value) (ms:List Int),IntsAre out.toList ms->ms.Perm ns->ms.Pairwise (·<=·)->Q (.ref (s.heap.objs.size+1)) { s with heap:=sortedAll s.heap vs out }):wpAny (model prog w) A (call (.builtin "sorted") [.ref l]) Q E s:=by
 refine Calls.call_function_entry kind_sorted plain_sorted entry_sorted (args_sorted1 _) ?_;unfold Builtin.«sorted»
 refine wpAny_bind (m:=checkCount "sorted" 1 1 _) (wpAny_pure (wpAny_bind (xB hl (by have:64<=sizeLine:=by decide
                                                                                     omega) (wpAny_bind (wpAny_newList ?_)))))
 have n1:((s.heap.push (seqObj "list" #[] 0)).update s.heap.objs.size (Obj.mapSeq (·++vs.toArray))).objs.size=s.heap.objs.size+1:=(Heap.size_update ..).trans (size_push' ..)
 have o1:(((s.heap.push (seqObj "list" #[] 0)).update s.heap.objs.size (Obj.mapSeq (·++vs.toArray))).push (seqObj "list" vs.toArray 0)).get? (s.heap.objs.size+1)=some (seqObj "list" vs.toArray 0):=n1 ▸ Heap.get?_push_size _ rfl
 show wpAny _ _ _ _ _ { s with heap:=((s.heap.push (seqObj "list" #[] 0)).update s.heap.objs.size (Obj.mapSeq (·++vs.toArray))).push (seqObj "list" vs.toArray 0) };rw[n1]
 exact wpAny_bind (wpAny_holding (wpAny_call_entry slot_list_sort ⟨_,o1,rfl⟩ entry_list_sort (list_sort_tree o1 hI h64 fun out ms a1 a2 a3=>⟨_,rfl,wpAny_pure ⟨_,rfl,h out ms a1 a2 a3⟩⟩) (args_list_sort _)))
end
noncomputable def insI (x:Int):List Int->List Int
 | []=>[x]
 | y::r=>if x<=y then x::y::r else y::insI x r
noncomputable def sortI:List Int->List Int
 | []=>[]
 | x::r=>insI x (sortI r)
theorem insI_perm (x:Int):∀l,(insI x l).Perm (x::l)
 | []=>.refl _
 | y::r=>by
  unfold insI
  split
  ·exact .refl _
  ·exact((insI_perm x r).cons y).trans (.swap _ _ _)
theorem sortI_perm:∀l,(sortI l).Perm l
 | []=>.refl _
 | x::r=>(insI_perm x (sortI r)).trans ((sortI_perm r).cons x)
theorem km (x:Int):∀l:List Int,l.Pairwise (·<=·)->(insI x l).Pairwise (·<=·)
 | [],_=>by simp[insI]
 | y::r,h=>by
  unfold insI
  rw[List.pairwise_cons] at h
  split
  ·rename_i hx
   refine List.pairwise_cons.mpr ⟨fun z hz=>?_,List.pairwise_cons.mpr h⟩
   rcases List.mem_cons.mp hz with rfl | hz
   ·exact hx
   ·exact Int.le_trans hx (h.1 z hz)
  ·rename_i hx
   refine List.pairwise_cons.mpr ⟨fun z hz=>?_,km x r h.2⟩
   rcases List.mem_cons.mp ((insI_perm x r).mem_iff.mp hz) with rfl | hz
   ·omega
   ·exact h.1 z hz
theorem fW:∀l,(sortI l).Pairwise (·<=·)
 | []=>.nil
 | x::r=>km x _ (fW r)
theorem gM:∀{xs ys:List Int},xs.Perm ys->xs.Pairwise (·<=·)->ys.Pairwise (·<=·)->xs=ys
 | [],ys,p,_,_=>by rw[List.Perm.eq_nil p.symm]
 | x::xs,[],p,_,_=>absurd (List.Perm.eq_nil p) (by simp)
 | x::xs,y::ys,p,hx,hy=>by
  rw[List.pairwise_cons] at hx hy
  have e:x=y:=by
   have a:x∈y::ys:=p.mem_iff.mp List.mem_cons_self
   have b:y∈x::xs:=p.mem_iff.mpr List.mem_cons_self
   have a':y<=x:=by
    rcases List.mem_cons.mp a with rfl | a
    ·exact Int.le_refl _
    ·exact hy.1 x a
   have b':x<=y:=by
    rcases List.mem_cons.mp b with rfl | b
    ·exact Int.le_refl _
    ·exact hx.1 y b
   omega
  subst e
  rw[gM (List.perm_cons x |>.mp p) hx.2 hy.2]
theorem lA:∀{ns:List Int} {us:List Value},Vals (ns.map V.int) us->IntsAre us ns
 | [],_,.nil=>.nil
 | n::ns,_,.cons r t=>by
  obtain⟨t',rfl⟩:=r
  exact .cons _ _ (lA t)
theorem ou:∀{us:List Value} {ns:List Int},IntsAre us ns->Vals (ns.map V.int) us
 | _,_,.nil=>.nil
 | _,_,.cons _ _ t=>.cons ⟨_,rfl⟩ (ou t)
section
variable {X:Cx}
theorem vV:ba X (.builtin "sorted") (fun vs H Q=>∃(p:Addr) (ns:List Int),vs=[.ref p]/\(SqL X.K H p (ns.map V.int)\/SqT X.K H p (ns.map V.int))/\ns.length<64/\∀l,H l=none->Q (.ref l) (upd H l (.lst ((sortI ns).map V.int)))):=by
 intro pins s σ H xs us Q I r h
 obtain⟨p,ns,rfl,hq,h64,q⟩:=h
 obtain⟨u,rfl,rx⟩:=vals1 r
 cases rx
 have fin:∀{its:List Value} (out:Array Value) (ms:List Int),IntsAre out.toList ms->ms.Perm ns->ms.Pairwise (·<=·)->EP X pins σ Q (.ref (s.heap.objs.size+1)) { s with heap:=sortedAll s.heap its out }:=fun{its} out ms a1 a2 a3=>by
  have e:ms=sortI ns:=gM (a2.trans (sortI_perm ns).symm) a3 (fW ns)
  subst e
  obtain⟨k,hk⟩:=sortedAll_at s.heap its out
  have hn:H (s.heap.objs.size+1)=none:=I.hok.fresh (Nat.le_succ _)
  have len:((sortI ns).map V.int).length<=sizeLine:=by
   have:64<=sizeLine:=by decide
   rw[List.length_map,(sortI_perm ns).length_eq];omega
  refine⟨.ref (s.heap.objs.size+1),upd H (s.heap.objs.size+1) (.lst ((sortI ns).map V.int)),I.laid (t':=s.toks) (fun _ _ z=>sortedAll_old z) (Nat.le_succ _) ⟨len,out.toList,k,ou a1,?_⟩,rfl,q _ hn⟩
  rw[hk]
 rcases hq with hq | hq
 ·obtain⟨its,rv,pl,hz⟩:=I.list hq
  have hl:=rv.length
  rw[List.length_map] at hl
  exact sorted_ints pl.isList (lA rv) (by omega) fin
 ·obtain⟨its,rv,pl,hz⟩:=I.tuple hq
  have hl:=rv.length
  rw[List.length_map] at hl
  exact iT (show s.heap.IsTuple p its.toArray from pl) (lA rv) (by omega) fin
end
end L2
namespace L2.FE
open PySem PySem.Spec PyProof.Rows
section
variable {X:Cx} {g:GG} {ε:EE} {K:PySem.W.Frag}
noncomputable def mB (nl:NL):List D->Hh->R D:=fun ds h=>match ds with
 | [d]=>match eW d h with
  | some xs=>match intsOf xs with
   | some ns=>if ns.length<64 then nl ((sortI ns).map D.int) h else .bad
   | none=>.bad
  | none=>.bad
 | _=>.bad
theorem rz {α:List Addr} {H:Hp}:∀(ns:List Int),av K g α H (ns.map D.int) (ns.map V.int)
 | []=>.nil
 | n::ns=>.cons (.int n) (rz ns)
theorem zo {nl:NL} [gH nl]:kG K g ε (mB nl) (fun vs H Q=>∃(p:Addr) (ns:List Int),vs=[.ref p]/\(SqL K H p (ns.map V.int)\/SqT K H p (ns.map V.int))/\ns.length<64/\∀l,H l=none->gn Q (.ref l) (upd H l (.lst ((sortI ns).map V.int)))):=by
 intro α H h a x Q r ra w
 obtain⟨d,v,rfl,rfl,rd⟩:=jT (f:=mB nl) (fun _ _ _ _=>rfl) (fun _=>rfl) ra w
 unfold mB at w
 simp only at w
 cases e:eW d h with
 | none=>rw[e] at w;exact w.elim
 | some ds=>
  rw[e] at w
  simp only at w
  cases e2:intsOf ds with
  | none=>rw[e2] at w;exact w.elim
  | some ns=>
   rw[e2] at w
   simp only at w
   obtain⟨h64,w⟩:=WQ.dH w
   obtain⟨p,vs,rfl,hq,rs⟩:=kS r rd e
   have e3:=cX e2
   subst e3
   have e4:=rs.uJ
   subst e4
   exact⟨p,ns,rfl,hq,h64,fun l hl=>NL.post w r (rz _) hl⟩
end
end L2.FE
namespace L2
open PySem PySem.Spec PyProof.Rows
noncomputable def Its (lo st:Int) (n:Nat):It:=⟨fun i _=>i<n,fun i H x H'=>H'=H/\x=.int (lo+i*st),fun i _=>n<=i⟩
theorem vj {P:Program} {w:World} {K:PySem.W.Frag} {tg:Expr} (it:Addr) (lo st:Int) (n:Nat):Turn P w K tg (Its lo st n) [it] it (fun i h=>IsRangeIter h it (lo+(i:Nat)*st) ((n:Int) - (i:Nat)) st) where
 mem:=by simp
 obj:=fun i h q b hb=>by
  have e:b=it:=by simpa using hb
  subst e
  exact⟨_,q,fun v z=>by
   have z':Data.fields _=Data.cell v:=z
   cases z'⟩
 keep:=fun i h h' q k=>k it (by simp) _ q
 item:=by
  intro X hP hw hK hc i pins s σ H E I hf q hg
  subst hP hw hK
  obtain⟨f0,f1,f2,f3,f4,f5⟩:=hf it (by simp)
  have W:=Walks.range (prog:=X.prog) (w:=X.w) (I.ok.hd hc) it lo st n
  refine W.item i s _ _ hg q fun v h' tk hv q' kk=>?_
  obtain⟨t,rfl⟩:=hv
  have I1:Inv X pins σ H { s with heap:=h',toks:=tk }:=I.turned (fun b o hb e=>kk b o (by simpa using hb) e) f0 f1 f3 f4 f5
  exact⟨_,rfl,uV (s:={ s with heap:=h',toks:=tk }) (n:="range_iterator") q' rfl rfl (by decide) ⟨.int (lo+i*st),H,I1,⟨t,rfl⟩,⟨rfl,rfl⟩,q',fun b hb=>(hf b hb).1⟩⟩
 done:=by
  intro X hP hw hK hc i pins s σ H E I hf q hg
  subst hP hw hK
  obtain⟨f0,f1,f2,f3,f4,f5⟩:=hf it (by simp)
  exact wpAny_pyNext_range_end (I.ok.hd hc) q (by have:n<=i:=hg;omega) fun h' eb=>⟨rfl,I.turned (t':=s.toks) (fun b o hb e=>eb b o hb e) f0 f1 f3 f4 f5⟩
 self:=fun _ _ _ _ _ q h=>wpAny_pyIter_rangeiter q h
section
variable {X:Cx} {tg:Expr}
theorem Aw {pins:List (Addr × Obj)} {σ:St} {H:Hp} {s:Shared} {R:It->Hp->Prop} {E:Value->Shared->Prop} {lo hi st:Int} {n:Nat} {t u v:Tok} {tk:Nat} (I:Inv X pins σ H s) (ok:k9 lo hi st n)
  (q:R (Its lo st n) H):wpAny (model X.prog X.w) X.A (pyIter (.ref s.heap.objs.size)) (PIE X pins σ tg R) E { s with heap:=s.heap.push { cls:=.type "range", data:=.fields #[.int lo t,.int hi u,.int st v] },toks:=tk }:=by
 refine wpAny_pyIter_range (IsRange.new ..) ok.sm ?_
 have I1:Inv X pins σ H { s with heap:=s.heap.push { cls:=.type "range", data:=.fields #[.int lo t,.int hi u,.int st v] },toks:=tk }:=I.kept fun b o e=>Heap.get?_push_of_some _ e
 refine⟨(s.heap.push { cls:=.type "range", data:=.fields #[.int lo t,.int hi u,.int st v] }).objs.size,[(s.heap.push { cls:=.type "range", data:=.fields #[.int lo t,.int hi u,.int st v] }).objs.size],_,_,H,rfl,
  I1.kept (t':=tk) fun b o e=>Heap.get?_push_of_some _ e,vj _ lo st n,?_,fun b hb=>?_,q⟩
 ·have e1:lo+((0:Nat):Int)*st=lo:=by simp
  have e2:(n:Int) - ((0:Nat):Int)=Builtin.Range.rangeSize lo hi st:=by rw[ok.sz];omega
  show IsRangeIter _ _ (lo+((0:Nat):Int)*st) ((n:Int) - ((0:Nat):Int)) st
  rw[e1,e2]
  exact Heap.get?_push_size _ rfl
 ·have e:b=(s.heap.push { cls:=.type "range", data:=.fields #[.int lo t,.int hi u,.int st v] }).objs.size:=by simpa using hb
  subst e
  exact I1.vd (Nat.le_refl _) (I1.hok.fresh (Nat.le_refl _))
noncomputable def C9 (ta:TA):TI:=fun σ H R=>ta σ H fun vs H1=>∃(i j k:Int) (n:Nat),vs=[.int i,.int j,.int k]/\k≠0/\k.natAbs<1073741824/\k9 i j k n/\R (Its i k n) H1
theorem vB {a b c:Expr} {ta:TA} {p pos:Pos} (hg:Gl X "range") (hm:X.mg "range" = none) (ha:PA X [a,b,c] ta) (hs:starEach [a,b,c] X.env=(false,eval a X.env)::starEach [b,c] X.env:=by rfl) (hp:(backTo pos (starEach [b,c] X.env)).any (·.1)=false:=by rfl) :
  PI X tg (.Call (.Name "range" p) [a,b,c] [] pos) (C9 ta):=by
 intro pins s σ H R I h
 refine Call_ (gU I hg hm boot_range (PyProof.Rows.callWith_type1 (thn (ha pos pins s σ H _ I h) fun us s1 ⟨vs,H1,I1,r1,q1⟩=>?_) hs hp))
 obtain⟨i,j,k,n,e,k0,k1,ok,q⟩:=q1
 subst e
 cases r1 with
 | cons r rr=>
  cases rr with
  | cons r' rr=>
   cases rr with
   | cons r'' rr=>
    cases rr
    obtain⟨t,rfl⟩:=r
    obtain⟨t',rfl⟩:=r'
    obtain⟨t'',rfl⟩:=r''
    exact call_range_3 k0 (Aw I1 ok q) (.inl (PyProof.noPylong_small (by omega)))
end
end L2
namespace L2.FE
open PySem PySem.Spec PyProof.Rows
section
variable {X:Cx} {g:GG} {ε:EE} {K:PySem.W.Frag}
noncomputable def kz:List D->Hh->R Src:=fun ds h=>match xF ds with
 | some xs=>.ok (.snap xs) h
 | none=>.bad
theorem sO {α:List Addr} {H:Hp} {lo st:Int} {n:Nat}:Reads K g (Its lo st n) (Src.snap (kj lo st n)).rdr α H:=by
 intro α2 H2 h2 x2 hr i
 show match some (kj lo st n)[i]? with | none=>True | some none=>_ | some (some d)=>_
 by_cases hi:i<n
 ·have e:(kj lo st n)[i]?=some (.int (lo+i*st)):=by
   unfold kj
   rw[List.getElem?_map]
   simp[nc,hi]
  rw[e]
  refine⟨hi,fun x H' y=>?_⟩
  obtain⟨rfl,rfl⟩:=y
  exact⟨α2,Ext.refl,hr,.int _⟩
 ·have e:(kj lo st n)[i]?=none:=List.getElem?_eq_none (by unfold kj;rw[List.length_map,kB];omega)
  rw[e]
  show n<=i
  omega
theorem zL {tg a b c:Expr} {ma:MA} {p pos:Pos} (hg:Gl X "range") (hm:X.mg "range" = none) (ha:PA X [a,b,c] (tMA X.K g ε ma)) (hs:starEach [a,b,c] X.env=(false,eval a X.env)::starEach [b,c] X.env:=by rfl) (hp:(backTo pos (starEach [b,c] X.env)).any (·.1)=false:=by rfl):PI X tg (.Call (.Name "range" p) [a,b,c] [] pos) (tMI X.K g ε (eg kz ma)):=
 PI.imp (vB hg hm ha hs hp) fun σ H T ⟨α,env,h,s,w⟩=>tMA.use s w.bind fun d1 h1 v1 H1 α1 e1 s1 r1 w1=>by
  unfold kz at w1
  cases er:xF d1 with
  | none=>rw[er] at w1;exact w1.elim
  | some xs=>
   rw[er] at w1
   obtain⟨a,b,c,n,rfl,c0,c1,ok,rfl⟩:=x9 r1 er
   exact⟨a,b,c,n,rfl,c0,c1,ok,w1 _ H1 α1 e1 s1.heap sO⟩
end
end L2.FE
namespace L2.FE
open PySem
section
variable {β γ:Type} {h h1:Hh} {env:En}
@[simp] theorem bz {b:β} {f:β->Hh->R γ}:(R.ok b h).bind f=f b h:=Eq.trans rfl rfl
@[simp] theorem e_C {d:D}:cC d env h=.ok d h:=Eq.trans rfl rfl
@[simp] theorem FH {d:D} {r:En}:ag 0 (some d::r) h=.ok d h:=Eq.trans rfl rfl
@[simp] theorem FK {i:Nat} {x:Option D} {r:En}:ag (i+1) (x::r) h=ag i r h:=Eq.trans rfl rfl
@[simp] theorem FZ {f:D->D->Hh->R D} {a b:ME}:au f a b env h=(a env h).bind fun x h1=>(b env h1).bind fun y h2=>f x y h2:=Eq.trans rfl rfl
@[simp] theorem GC {f:D->Hh->R D} {a:ME}:cUn f a env h=(a env h).bind fun x h1=>f x h1:=Eq.trans rfl rfl
@[simp] theorem Gr:ak env h=.ok [] h:=Eq.trans rfl rfl
@[simp] theorem Fu {a:ME} {r:MA}:aa a r env h=(a env h).bind fun x h1=>(r env h1).bind fun xs h2=>.ok (x::xs) h2:=Eq.trans rfl rfl
@[simp] theorem E4 {f:List D->Hh->R D} {a:MA}:ah f a env h=(a env h).bind f:=Eq.trans rfl rfl
@[simp] theorem Et {f:D->List D->Hh->R D} {o:ME} {a:MA}:ij f o a env h=(o env h).bind fun x h1=>if isL x h1=true then (a env h1).bind fun xs h2=>f x xs h2 else .bad:=Eq.trans rfl rfl
@[simp] theorem FL {f:D->Hh->R Bool} {a:ME}:a_ f a env h=(a env h).bind f:=Eq.trans rfl rfl
@[simp] theorem EG {a:MT}:lQ a env h=(a env h).bind fun b h1=>.ok (!b) h1:=Eq.trans rfl rfl
@[simp] theorem EA {a b:MT}:xK a b env h=(a env h).bind fun x h1=>if x=true then b env h1 else .ok false h1:=Eq.trans rfl rfl
@[simp] theorem F4 {a b:MT}:AA a b env h=(a env h).bind fun x h1=>if x=true then .ok true h1 else b env h1:=Eq.trans rfl rfl
@[simp] theorem GA {c:MT} {a b:ME}:cIf c a b env h=(c env h).bind fun x h1=>if x=true then a env h1 else b env h1:=Eq.trans rfl rfl
@[simp] theorem Gm {b:Bool}:asB (.bl b) h=.ok b h:=Eq.trans rfl rfl
@[simp] theorem EB {a b:ME}:uM a b env h=(a env h).bind fun x h1=>(asB x h1).bind fun k h2=>if k=true then b env h2 else .ok (.bl false) h2:=Eq.trans rfl rfl
@[simp] theorem Fn {a:ME}:xq a env h=(a env h).bind fun x h1=>(asB x h1).bind fun k h2=>.ok (.bl (!k)) h2:=Eq.trans rfl rfl
@[simp] theorem Ew {f f':D->D->Hh->R D} {a b c:ME}:qc f f' a b c env h=(a env h).bind fun x h1=>(b env h1).bind fun y h2=>(f x y h2).bind fun z h3=>(asB z h3).bind fun k h4=>if k=true then (c env h4).bind fun w h5=>f' y w h5 else .ok (.bl false) h4:=Eq.trans rfl rfl
@[simp] theorem Dv:dC env h=.ok none h:=Eq.trans rfl rfl
noncomputable def AZ:D->Hh->R (Option Int):=fun d h1=>match d with
 | .int i=>.ok (some i) h1
 | _=>.bad
@[simp] theorem Eu {i:Int}:AZ (.int i) h=.ok (some i) h:=Eq.trans rfl rfl
@[simp] theorem EU {a:ME}:eZ a env h=(a env h).bind AZ:=Eq.trans rfl rfl
@[simp] theorem Eo {nl:NL} {a:ME} {l u:MO}:dM nl a l u env h=(a env h).bind fun x h1=>(l env h1).bind fun lo h2=>(u env h2).bind fun hi h3=>yA nl x lo hi h3:=Eq.trans rfl rfl
@[simp] theorem EL:dI env h=.ok (.nx env) h:=Eq.trans rfl rfl
noncomputable def BY (b:MS):Fl->Hh->R Fl:=fun fl h1=>match fl with
 | .nx e=>b e h1
 | fl=>.ok fl h1
@[simp] theorem Fb {b:MS} {e:En}:BY b (.nx e) h=b e h:=Eq.trans rfl rfl
@[simp] theorem Gy {b:MS} {d:D}:BY b (.rt d) h=.ok (.rt d) h:=Eq.trans rfl rfl
@[simp] theorem DL {a b:MS}:aF a b env h=(a env h).bind (BY b):=by
 unfold aF
 first | rfl | (congr 1;funext fl h1;cases fl<;>rfl)
@[simp] theorem Fs {a:ME}:cV a env h=(a env h).bind fun _ h1=>.ok (.nx env) h1:=Eq.trans rfl rfl
@[simp] theorem FY {a:ME}:bO a env h=(a env h).bind fun d h1=>.ok (.rt d) h1:=Eq.trans rfl rfl
@[simp] theorem F5 {c:MT} {a b:MS}:iz c a b env h=(c env h).bind fun x h1=>if x=true then a env h1 else b env h1:=Eq.trans rfl rfl
@[simp] theorem CU {i:Nat} {a:ME}:bb i a env h=(a env h).bind fun d h1=>.ok (.nx (env.set i (some d))) h1:=Eq.trans rfl rfl
noncomputable def Dp (i j:Nat) (env:En):List D->Hh->R Fl:=fun ds h1=>match ds with
 | [x,y]=>.ok (.nx ((env.set i (some x)).set j (some y))) h1
 | _=>.bad
@[simp] theorem Fm {i j:Nat} {x y:D}:Dp i j env [x,y] h=.ok (.nx ((env.set i (some x)).set j (some y))) h:=Eq.trans rfl rfl
@[simp] theorem Gs {i j:Nat} {a:MA}:mR i j a env h=(a env h).bind (Dp i j env):=by
 rfl
@[simp] theorem xi {i:Nat} {d:D}:gN i d env h=.ok (env.set i (some d)) h:=Eq.trans rfl rfl
@[simp] theorem F_ {i j:Nat} {x y:D}:gT2 i j (.tup [x,y]) env h=.ok ((env.set i (some x)).set j (some y)) h:=Eq.trans rfl rfl
@[simp] theorem Gd {i j:Nat} {a:ME}:BB i j a env h=(a env h).bind fun d h1=>(gT2 i j d env h1).bind fun e h2=>.ok (.nx e) h2:=Eq.trans rfl rfl
@[simp] theorem El {f:D->D->D->Hh->R Unit} {o i v:ME}:pW f o i v env h=(v env h).bind fun x h1=>(o env h1).bind fun y h2=>(i env h2).bind fun z h3=>(f y z x h3).bind fun _ h4=>.ok (.nx env) h4:=Eq.trans rfl rfl
noncomputable def Bz:Fl->Hh->R D:=fun fl h1=>match fl with
 | .rt d=>.ok d h1
 | .nx _=>.ok .non h1
 | _=>.bad
@[simp] theorem Gz {d:D}:Bz (.rt d) h=.ok d h:=Eq.trans rfl rfl
@[simp] theorem GB {e:En}:Bz (.nx e) h=.ok .non h:=Eq.trans rfl rfl
theorem cD {n:Nat} {m:MS} {ds:List D}:cQ n m ds h=(m (ds.map some++List.replicate (n - ds.length) none) h).bind Bz:=by
 unfold cQ
 first | rfl | (congr 1;funext fl h1;cases fl<;>rfl)
section
variable {nl:NL}
@[simp] theorem FO {i j:Int}:bQ nl (.int i) (.int j) h=.ok (.int (i+j)) h:=Eq.trans rfl rfl
@[simp] theorem EI {i j:Int}:cn (.int i) (.int j) h=.ok (.int (i - j)) h:=Eq.trans rfl rfl
@[simp] theorem Fh {i:Int}:jk (.int i) h=.ok (.int (-i)) h:=Eq.trans rfl rfl
@[simp] theorem F8 {i j:Int}:dLt (.int i) (.int j) h=.ok (.bl (decide (i<j))) h:=by unfold dLt;rw[lC];rfl
@[simp] theorem Gq {i j:Int}:dLe (.int i) (.int j) h=.ok (.bl (decide (i<=j))) h:=by unfold dLe;rw[oK];rfl
@[simp] theorem Gu {i j:Int}:dGt (.int i) (.int j) h=.ok (.bl (decide (j<i))) h:=by unfold dGt;rw[lC];rfl
@[simp] theorem Gk {i j:Int}:dGe (.int i) (.int j) h=.ok (.bl (decide (j<=i))) h:=by unfold dGe;rw[oK];rfl
@[simp] theorem Fj {i j:Int}:fZ nl (.int i) (.int j) h=if sml i=true/\sml j=true then .ok (.int (i*j)) h else .bad:=Eq.trans rfl rfl
@[simp] theorem EF {i j:Int}:vC (.int i) (.int j) h=if 0<j/\sml j=true then .ok (.int (i / j)) h else .bad:=Eq.trans rfl rfl
@[simp] theorem ES {i j:Int}:kO (.int i) (.int j) h=if 0<j then .ok (.int (i % j)) h else .bad:=Eq.trans rfl rfl
@[simp] theorem Fc {i j:Int}:zQ (.int i) (.int j) h=if 0<=j/\j.natAbs<=1000/\sml i=true then .ok (.int (i ^ j.toNat)) h else .bad:=Eq.trans rfl rfl
@[simp] theorem Fe {i j:Int}:rM [.int i,.int j] h=.ok (.int (max i j)) h:=by
 have:(if j > i then j else i)=max i j:=by split<;>omega
 rw[<- this];rfl
@[simp] theorem FG {b:Bool}:ya [.bl b] h=.ok (.int (if b then 1 else 0)) h:=Eq.trans rfl rfl
@[simp] theorem F6 {ds:List D}:cF ds h=if ds.length<=1000000 then .ok (.tup ds) h else .bad:=Eq.trans rfl rfl
@[simp] theorem F1 {ds:List D}:eR nl ds h=if ds.length<=1000000 then nl ds h else .bad:=Eq.trans rfl rfl
@[simp] theorem EH {ds:List D}:p9 ds h=.ok (.ref h.length) (h++[.lst ds]):=Eq.trans rfl rfl
@[simp] theorem E2 {ds:List D}:aD ds h=.ok (.frl ds) h:=Eq.trans rfl rfl
@[simp] theorem FF {ds:List D}:iK [.tup ds] h=.ok (.int ds.length) h:=Eq.trans rfl rfl
@[simp] theorem EN {ds:List D}:iK [.scr ds] h=.ok (.int ds.length) h:=Eq.trans rfl rfl
noncomputable def ixK (ds:List D) (i:Int) (h:Hh):R D:=match atI ds i with
 | some d=>.ok d h
 | none=>.bad
@[simp] theorem Gj {ds:List D} {i:Int}:dIx (.tup ds) (.int i) h=ixK ds i h:=Eq.trans rfl rfl
@[simp] theorem Gp {ds:List D} {i:Int}:dIx (.frl ds) (.int i) h=ixK ds i h:=Eq.trans rfl rfl
@[simp] theorem Gg {ds:List D} {i:Int}:dIx (.scr ds) (.int i) h=ixK ds i h:=Eq.trans rfl rfl
theorem oh {n:Nat} {ds:List D} {i:Int} (e:ay h n=some ds):dIx (.ref n) (.int i) h=ixK ds i h:=by
 have z:eW (.ref n) h=some ds:=e
 delta dIx;rw[z];rfl
theorem w8 {ds:List D} {i:Int} {d:D} (e:atI ds i=some d):ixK ds i h=.ok d h:=by simp only[ixK,e]
theorem yq {β:Type} {xs:List β} {j:Nat} {v:β} {i:Int} (h:xs[j]?=some v) (e:i=(j:Int)):atI xs i=some v:=by rw[e];exact zR h
theorem ql {ds:List D} {i:Int} {j:Nat} {d:D} (e:i=(j:Int)) (e2:ds[j]?=some d):ixK ds i h=.ok d h:=w8 (yq e2 e)
noncomputable def gI (ns:List Int) (i:Nat):Int:=ns.getD i 0
theorem rO {ns:List Int} {j:Nat} (hj:j<ns.length):gI ns j=ns[j]:=by
 unfold gI;rw[List.getD_eq_getElem?_getD,List.getElem?_eq_getElem hj];rfl
theorem sW {ns:List Int} {j:Nat} (hj:j<ns.length):gI ns j∈ns:=by rw[rO hj];exact List.getElem_mem hj
theorem qd {ns:List Int} {i:Int} {j:Nat} (e:i=(j:Int)) (hj:j<ns.length):ixK (ns.map D.int) i h=.ok (.int (gI ns j)) h:=by
 refine ql e ?_
 rw[List.getElem?_map,List.getElem?_eq_getElem hj,rO hj];rfl
@[simp] theorem F9 {d:D} {ds:List D}:ixK (d::ds) 0 h=.ok d h:=ql (j:=0) rfl rfl
@[simp] theorem Ge {d d1:D} {ds:List D}:ixK (d::d1::ds) 1 h=.ok d1 h:=ql (j:=1) rfl rfl
theorem wQ {β:Type} {xs:List β} {x:β}:atI (xs++[x]) (-1)=some x:=by
 unfold atI ixN
 rw[if_neg (by decide),if_pos (by simp;omega)]
 have:((-1:Int)+((xs++[x]).length:Nat)).toNat=xs.length:=by simp;omega
 rw[this];simp
@[simp] theorem jn {xs:List D} {x:D}:ixK (xs++[x]) (-1) h=.ok x h:=w8 wQ
@[simp] theorem Ff {ds:List D} {lo hi:Option Int}:yA nl (.frl ds) lo hi h=nl (cutD ds lo hi) h:=Eq.trans rfl rfl
@[simp] theorem E_ {ds:List D} {lo hi:Option Int}:yA nl (.scr ds) lo hi h=nl (cutD ds lo hi) h:=Eq.trans rfl rfl
@[simp] theorem Fx {a b:List D}:bQ nl (.tup a) (.tup b) h=if a.length+b.length<=1000000 then .ok (.tup (a++b)) h else .bad:=Eq.trans rfl rfl
@[simp] theorem Fq {a b:List D}:bQ nl (.frl a) (.frl b) h=if a.length+b.length<=1000000 then nl (a++b) h else .bad:=Eq.trans rfl rfl
@[simp] theorem FQ {ds:List D}:eJ [.frl ds] h=.ok (.tup ds) h:=Eq.trans rfl rfl
@[simp] theorem FW {ns:List Int}:oY [.frl (ns.map D.int)] h=.ok (.int ns.sum) h:=by simp only[oY,eW,eK]
@[simp] theorem ED {b:Bool}:jI (.bl b) h=.ok b h:=Eq.trans rfl rfl
@[simp] theorem Gw {i j:Int}:dEq (.int i) (.int j) h=.ok (.bl (i == j)) h:=Eq.trans rfl rfl
@[simp] theorem F2 {i j:Str}:dNe (.str i) (.str j) h=.ok (.bl (!(i == j))) h:=Eq.trans rfl rfl
@[simp] theorem FJ {i:Int}:rZ "int" (.int i) h=.ok (.bl true) h:=Eq.trans rfl rfl
@[simp] theorem E5 {i:Int}:rZ "bool" (.int i) h=.ok (.bl false) h:=Eq.trans rfl rfl
@[simp] theorem FR {ds:List D}:rZ "tuple" (.tup ds) h=.ok (.bl true) h:=Eq.trans rfl rfl
@[simp] theorem D2 {i j:Int}:ke nl [.int i,.int j] h=if (i.natAbs<=1000000/\j.natAbs<=1000000)/\(j - i).toNat<=1000000 then nl (bj i (j - i).toNat) h else .bad:=by
 by_cases z:(i.natAbs<=1000000/\j.natAbs<=1000000)/\(j - i).toNat<=1000000
 ·rw[if_pos z];simp only[ke,v8,if_pos z]
 ·rw[if_neg z];simp only[ke,v8,if_neg z]
@[simp] theorem dv {ds:List D} {t:Hh}:ay (h++.lst ds::t) h.length=some ds:=by
 unfold ay;rw[List.getElem?_append_right (Nat.le_refl _)];simp
@[simp] theorem pS {o o':O} {t:Hh}:(h++o::t).set h.length o'=h++o'::t:=by
 rw[List.set_append_right _ _ (Nat.le_refl _)];simp
theorem Ce {n:Nat} {ds:List D} (e:ay h n=some ds):isL (.ref n) h=true:=by simp[isL,e]
theorem wG {n:Nat} {ds:List D} {d:D} (e:ay h n=some ds):c_ (.ref n) [d] h=if ds.length<1000000 then .ok .non (h.set n (.lst (ds++[d]))) else .bad:=by delta c_;dsimp only;rw[e]
theorem p8 {n:Nat} {ds:List D} {i:Int} {j:Nat} {v:D} (e:ay h n=some ds) (e2:ixN ds.length i=some j):kc (.ref n) (.int i) v h=.ok () (h.set n (.lst (ds.set j v))):=by delta kc;dsimp only;rw[e];dsimp only;rw[e2]
@[simp] theorem FD {ds:List D} {t:Hh}:isL (.ref h.length) (h++.lst ds::t)=true:=Ce dv
@[simp] theorem CN {ds:List D} {d:D} {t:Hh}:c_ (.ref h.length) [d] (h++.lst ds::t)=if ds.length<1000000 then .ok .non (h++.lst (ds++[d])::t) else .bad:=by rw[wG dv,pS]
@[simp] theorem Gx {ds:List D} {i:Int} {t:Hh}:dIx (.ref h.length) (.int i) (h++.lst ds::t)=ixK ds i (h++.lst ds::t):=oh dv
end
@[simp] theorem EZ {a:MA}:eg fJ a env h=(a env h).bind fJ:=Eq.trans rfl rfl
@[simp] theorem FP {a:MA}:eg vN a env h=(a env h).bind vN:=Eq.trans rfl rfl
@[simp] theorem EJ {j:Int}:fJ [.int j] h=if j.natAbs<=1000000 then .ok (.snap (bj 0 j.toNat)) h else .bad:=Eq.trans rfl rfl
@[simp] theorem FV {i j:Int}:vN [.int i,.int j] h=if i.natAbs<=1000000/\j.natAbs<=1000000 then .ok (.snap (bj i (j - i).toNat)) h else .bad:=Eq.trans rfl rfl
@[simp] theorem F7 {a:ME}:bo a env h=(a env h).bind qm:=Eq.trans rfl rfl
@[simp] theorem E6 {a:ME}:pV a env h=(a env h).bind tY:=Eq.trans rfl rfl
@[simp] theorem Ga {ds:List D}:qm (.tup ds) h=.ok (.snap ds) h:=Eq.trans rfl rfl
@[simp] theorem FX {ds:List D}:qm (.frl ds) h=.ok (.snap ds) h:=Eq.trans rfl rfl
@[simp] theorem ER {a:MA}:uw a env h=(a env h).bind zK:=Eq.trans rfl rfl
@[simp] theorem Fg {ds es:List D}:zK [.frl ds,.frl es] h=.ok (.snap (iN ds es)) h:=Eq.trans rfl rfl
@[simp] theorem Ek {nl:NL} {ns:List Int}:mB nl [.tup (ns.map D.int)] h=if ns.length<64 then nl ((sortI ns).map D.int) h else .bad:=by simp only[mB,eW,eK]
@[simp] theorem Er {ds:List D}:tY (.frl ds) h=.ok (.snap (gv ds)) h:=Eq.trans rfl rfl
theorem D4 {n:Nat} {ds:List D} (e:ay h n=some ds):qm (.ref n) h=.ok (.live n) h:=by simp only[qm,e]
noncomputable def Dj (tg:D->En->Hh->R En) (body:MS) (env:En):Src->Hh->R Fl:=fun sr h1=>match sr with
 | .snap ds=>cS tg body ds env h1
 | .live n=>j_ (Src.live n).rdr tg body ((ay h1 n).getD []).length 0 env h1
 | .liveE n=>j_ (Src.liveE n).rdr tg body ((ay h1 n).getD []).length 0 env h1
@[simp] theorem Fi {tg:D->En->Hh->R En} {body:MS} {ds:List D}:Dj tg body env (.snap ds) h=cS tg body ds env h:=Eq.trans rfl rfl
@[simp] theorem Gb {mi:MI} {tg:D->En->Hh->R En} {body:MS}:dU mi tg body env h=(mi env h).bind (Dj tg body env):=by
 unfold dU
 congr 1
noncomputable def DW (nl:NL) (tt:MT) (te:ME) (ee:D->En):Src->Hh->R D:=fun sr h1=>if sr.fuel h1<=1000000 then
 (match sr with
  | .snap ds=>cU tt te ee ds h1
  | .live n=>eV (Src.live n).rdr tt te ee ((ay h1 n).getD []).length 0 [] h1
  | .liveE n=>eV (Src.liveE n).rdr tt te ee ((ay h1 n).getD []).length 0 [] h1).bind nl else .bad
@[simp] theorem Ex {nl:NL} {mi:MI} {ix:List Nat} {tt:MT} {te:ME}:bA nl mi ix tt te env h=(mi env h).bind (DW nl tt te (hZ ix env)):=Eq.trans rfl rfl
@[simp] theorem Ep {nl:NL} {tt:MT} {te:ME} {ee:D->En} {ds:List D}:DW nl tt te ee (.snap ds) h=if ds.length<=1000000 then (cU tt te ee ds h).bind nl else .bad:=Eq.trans rfl rfl
@[simp] theorem CO {lo:Int} {n:Nat}:(bj lo n).length=n:=by simp[bj]
@[simp] theorem Gf {ix:List Nat}:hZ ix env=fun d=>some d::ix.map fun i=>(env[i]?).join:=Eq.trans rfl rfl
@[simp] theorem F3:tt1 env h=.ok true h:=Eq.trans rfl rfl
@[simp] theorem Gi {m:En->Hh->R β} {x y:D} {r:En}:unp m (some (.tup [x,y])::r) h=m (some x::some y::r) h:=Eq.trans rfl rfl
noncomputable def C_ (tg:D->En->Hh->R En) (body:MS) (ds:List D):Fl->Hh->R Fl:=fun fl h2=>match fl with
 | .nx e=>cS tg body ds e h2
 | .ct e=>cS tg body ds e h2
 | .bk e=>.ok (.nx e) h2
 | .rt d=>.ok (.rt d) h2
theorem uL {tg:D->En->Hh->R En} {body:MS}:cS tg body [] env h=.ok (.nx env) h:=rfl
theorem jF {tg:D->En->Hh->R En} {body:MS} {d:D} {ds:List D}:cS tg body (d::ds) env h=(tg d env h).bind fun e1 h1=>(body e1 h1).bind (C_ tg body ds):=rfl
@[simp] theorem xP {tg:D->En->Hh->R En} {body:MS} {ds:List D} {e:En}:C_ tg body ds (.nx e) h=cS tg body ds e h:=Eq.trans rfl rfl
theorem vJ (ns:List Int):gv (ns.map D.int)=(List.range ns.length).map fun(i:Nat)=>D.tup [.int i,.int (gI ns i)]:=by
 unfold gv
 rw[List.length_map]
 apply List.map_congr_left
 intro i hi
 have hi:i<ns.length:=List.mem_range.mp hi
 rw[List.getD_eq_getElem?_getD,List.getElem?_map,List.getElem?_eq_getElem hi,rO hi];rfl
theorem qG {σ X:Type} {tg:D->En->Hh->R En} {body:MS} (E:σ->En) (G:σ->Hh) (enc:X->D) (f:σ->X->σ) (I:List X->σ->Prop) (st:∀s x r,I (x::r) s->I r (f s x)/\((tg (enc x) (E s) (G s)).bind body=.ok (.nx (E (f s x))) (G (f s x))\/(tg (enc x) (E s) (G s)).bind body=.ok (.ct (E (f s x))) (G (f s x)))) :
  ∀(xs:List X) (s:σ),I xs s->cS tg body (xs.map enc) (E s) (G s)=.ok (.nx (E (xs.foldl f s))) (G (xs.foldl f s))/\I [] (xs.foldl f s)
 | [],s,i=>⟨rfl,i⟩
 | x::xs,s,i=>by
  obtain⟨i1,e⟩:=st s x xs i
  obtain⟨e2,i2⟩:=qG E G enc f I st xs (f s x) i1
  refine⟨?_,i2⟩
  rw[List.map_cons,cS]
  rw[<- aZ]
  rcases e with e | e<;>rw[e]<;>exact e2
theorem comp_map {X:Type} {tt:MT} {te:ME} {ee:D->En} (enc:X->D) (p:X->Bool) (g:X->D):∀(xs:List X),(∀x∈xs,tt (ee (enc x)) h=.ok (p x) h/\(p x=true->te (ee (enc x)) h=.ok (g x) h)) →
  cU tt te ee (xs.map enc) h=.ok ((xs.filter p).map g) h
 | [],_=>rfl
 | x::xs,st=>by
  obtain⟨e1,e2⟩:=st x List.mem_cons_self
  have ih:=comp_map enc p g xs fun y hy=>st y (List.mem_cons_of_mem _ hy)
  rw[List.map_cons,cU,e1,bz]
  cases hp:p x with
  | false=>rw[if_neg Bool.false_ne_true,ih,List.filter_cons_of_neg (by simp[hp])]
  | true=>rw[if_pos rfl,e2 hp,bz,ih,bz,List.filter_cons_of_pos hp,List.map_cons]
theorem lV {X:Type} {te:ME} {ee:D->En} (enc:X->D) (g:X->D) (xs:List X) (st:∀x∈xs,te (ee (enc x)) h=.ok (g x) h):cU tt1 te ee (xs.map enc) h=.ok (xs.map g) h:=by
 have:=comp_map (tt:=tt1) (ee:=ee) (h:=h) enc (fun _=>true) g xs fun x hx=>⟨rfl,fun _=>st x hx⟩
 rw[List.filter_eq_self.mpr fun _ _=>rfl] at this
 exact this
theorem eC (n:Nat):bj 0 n=(List.range n).map fun(i:Nat)=>D.int i:=by
 unfold bj
 apply List.map_congr_left
 intro i _
 rw[Int.zero_add]
theorem vF {n:Nat} {te:ME} {ee:D->En} (g:Nat->D) (st:∀i,i<n->te (ee (.int (i:Nat))) h=.ok (g i) h) :
  cU tt1 te ee (bj 0 n) h=.ok ((List.range n).map g) h:=by
 rw[eC,lV (fun(i:Nat)=>D.int i) g (List.range n) fun i hi=>st i (List.mem_range.mp hi)]
theorem ui {σ:Type} {tg:D->En->Hh->R En} {body:MS} (enc:Nat->D) (n:Nat) (E:σ->En) (G:σ->Hh) (f:σ->Nat->σ) (I:Nat->σ->Prop) (s:σ) (i0:I 0 s)
  (st:∀i s,i<n->I i s->I (i+1) (f s i)/\((tg (enc i) (E s) (G s)).bind body=.ok (.nx (E (f s i))) (G (f s i))\/(tg (enc i) (E s) (G s)).bind body=.ok (.ct (E (f s i))) (G (f s i)))) :
  cS tg body ((List.range n).map enc) (E s) (G s)=.ok (.nx (E ((List.range n).foldl f s))) (G ((List.range n).foldl f s))/\I n ((List.range n).foldl f s):=by
 have key:∀(k:Nat) (xs:List Nat) (s:σ),(∀j x,xs[j]?=some x->x=k+j/\x<n)->I k s->cS tg body (xs.map enc) (E s) (G s)=.ok (.nx (E (xs.foldl f s))) (G (xs.foldl f s))/\I (k+xs.length) (xs.foldl f s):=by
  intro k xs
  induction xs generalizing k with
  | nil=>intro s _ i;exact⟨rfl,i⟩
  | cons x xs ih=>
   intro s hx i
   obtain⟨h1,h2⟩:=hx 0 x rfl
   have h1:x=k:=by omega
   subst h1
   obtain⟨i1,e⟩:=st x s h2 i
   obtain⟨e2,i2⟩:=ih (x+1) (f s x) (fun j y hj=>by have:=hx (j+1) y hj;omega) i1
   refine⟨?_,by rw[List.length_cons,List.foldl_cons];rw[show x+(xs.length+1)=x+1+xs.length by omega];exact i2⟩
   rw[List.map_cons,cS,<- aZ]
   rcases e with e | e<;>rw[e]<;>exact e2
 have hr:∀j x,(List.range n)[j]?=some x->x=0+j/\x<n:=fun j x hj=>by
  have hl:j<n:=by
   by_cases hl:j<n
   ·exact hl
   ·rw[List.getElem?_eq_none (by simpa using hl)] at hj;cases hj
  rw[List.getElem?_range hl] at hj
  cases hj
  omega
 have:=key 0 (List.range n) s hr i0
 rw[List.length_range,Nat.zero_add] at this
 exact this
theorem ug {σ:Type} {tg:D->En->Hh->R En} {body:MS} (n:Nat) (E:σ->En) (G:σ->Hh) (f:σ->Nat->σ) (I:Nat->σ->Prop) (s:σ) (i0:I 0 s)
  (st:∀i s,i<n->I i s->I (i+1) (f s i)/\((tg (.int (i:Nat)) (E s) (G s)).bind body=.ok (.nx (E (f s i))) (G (f s i))\/(tg (.int (i:Nat)) (E s) (G s)).bind body=.ok (.ct (E (f s i))) (G (f s i)))) :
  cS tg body (bj 0 n) (E s) (G s)=.ok (.nx (E ((List.range n).foldl f s))) (G ((List.range n).foldl f s))/\I n ((List.range n).foldl f s):=by
 rw[eC]
 exact ui (fun(i:Nat)=>D.int i) n E G f I s i0 st
theorem wD {σ:Type} {tg:D->En->Hh->R En} {body:MS} (lo:Int) (n:Nat) (E:σ->En) (G:σ->Hh) (f:σ->Nat->σ) (I:Nat->σ->Prop) (s:σ) (i0:I 0 s)
  (st:∀i s,i<n->I i s->I (i+1) (f s i)/\((tg (.int (lo+(i:Nat))) (E s) (G s)).bind body=.ok (.nx (E (f s i))) (G (f s i))\/(tg (.int (lo+(i:Nat))) (E s) (G s)).bind body=.ok (.ct (E (f s i))) (G (f s i)))) :
  cS tg body (bj lo n) (E s) (G s)=.ok (.nx (E ((List.range n).foldl f s))) (G ((List.range n).foldl f s))/\I n ((List.range n).foldl f s):=
 ui (fun(i:Nat)=>D.int (lo+i)) n E G f I s i0 st
noncomputable def Wf (h:Hh):Prop:=h.all (lj h.length)=true
mutual
theorem vL {j k:Nat} (h:j<=k):∀(d:D),jd j d=true->jd k d=true
 | .non,_=>rfl | .bl _,_=>rfl | .int _,_=>rfl | .str _,_=>rfl | .fn _,_=>rfl | .edic,_=>rfl | .exc _ _,_=>rfl
 | .ref n,e=>by simp only[jd,decide_eq_true_eq] at e ⊢;omega
 | .tup ds,e=>by simp only[jd] at e ⊢;exact cR h ds e
 | .frl ds,e=>by simp only[jd] at e ⊢;exact cR h ds e
 | .scr ds,e=>by simp only[jd] at e ⊢;exact cR h ds e
theorem cR {j k:Nat} (h:j<=k):∀(ds:List D),bN j ds=true->bN k ds=true
 | [],_=>rfl
 | d::ds,e=>by
  simp only[bN,Bool.and_eq_true] at e ⊢
  exact⟨vL h d e.1,cR h ds e.2⟩
end
theorem vk {j k:Nat} (h:j<=k) (o:O) (e:lj j o=true):lj k o=true:=by
 cases o with
 | lst ds=>exact cR h ds e
 | set n=>rfl
 | dic kvs=>exact cR h _ e
 | dit kvs=>exact cR h _ e
theorem n6 {k:Nat}:∀{ds:List D},(∀d∈ds,jd k d=true)->bN k ds=true
 | [],_=>rfl
 | d::ds,h=>by simp only[bN,Bool.and_eq_true];exact⟨h d List.mem_cons_self,n6 fun e he=>h e (List.mem_cons_of_mem _ he)⟩
@[simp] theorem n3 {X:Type} {k:Nat} {f:X->D} {xs:List X} (h:∀x,jd k (f x)=true):bN k (xs.map f)=true:=n6 fun d hd=>by
 obtain⟨x,_,rfl⟩:=List.mem_map.mp hd;exact h x
@[simp] theorem BE {k:Nat} {ns:List Int}:bN k (ns.map D.int)=true:=n3 fun _=>rfl
theorem Wf.nil:Wf []:=rfl
theorem Wf.app {h:Hh} {o:O} (w:Wf h) (l:lj (h.length+1) o=true):Wf (h++[o]):=by
 unfold Wf at w ⊢
 rw[List.all_append,List.length_append,List.length_singleton]
 simp only[List.all_cons,List.all_nil,Bool.and_true,Bool.and_eq_true]
 refine⟨?_,l⟩
 rw[List.all_eq_true] at w ⊢
 exact fun x hx=>vk (Nat.le_succ _) x (w x hx)
noncomputable def deep:Nat->D->Bool
 | 0,_=>false
 | f+1,d=>match d with
  | .ref _=>false
  | .scr _=>false
  | .tup ds=>ds.all (deep f)
  | .frl ds=>ds.all (deep f)
  | _=>true
theorem iF {f:D->Option D}:∀{ds:List D},(∀d∈ds,f d=some d)->i_ f ds=some ds
 | [],_=>rfl
 | d::ds,h=>by simp only[i_,h d List.mem_cons_self,iF fun e he=>h e (List.mem_cons_of_mem _ he)]
theorem eD {k:Nat} {h:Hh}:∀(f:Nat) (d:D),deep f d=true->dO k h f d=some d
 | 0,_,e=>by cases e
 | f+1,d,e=>by
  unfold deep at e
  unfold dO
  cases d with
  | ref n=>cases e
  | scr n=>cases e
  | tup ds=>simp only[List.all_eq_true] at e;show Option.map D.tup (i_ (dO k h f) ds)=_;rw[iF (f:=dO k h f) fun d hd=>eD f d (e d hd)];rfl
  | frl ds=>simp only[List.all_eq_true] at e;show Option.map D.frl (i_ (dO k h f) ds)=_;rw[iF (f:=dO k h f) fun d hd=>eD f d (e d hd)];rfl
  | _=>rfl
theorem fQ {d:D} {t:Hh} (w:Wf h) (e:deep 8 d=true):cB h d (h++t)=.ok d h:=by
 unfold cB
 rw[List.take_left' rfl,if_pos (show h.all (lj h.length)=true from w),eD 8 d e]
theorem u9 {ds:List D} {t:Hh} (w:Wf h) (e:ds.all (deep 7)=true):cB h (.ref h.length) (h++.lst ds::t)=.ok (.frl ds) h:=by
 unfold cB
 rw[List.take_left' rfl,if_pos (show h.all (lj h.length)=true from w)]
 have:dO h.length (h++.lst ds::t) 8 (.ref h.length)=some (.frl ds):=by
  unfold dO
  simp only[Nat.lt_irrefl,if_false,dv]
  rw[List.all_eq_true] at e
  rw[iF fun d hd=>eD 7 d (e d hd)];rfl
 rw[this]
@[simp] theorem D6 {f:Nat} {i:Int}:deep (f+1) (.int i)=true:=rfl
@[simp] theorem Em {f:Nat} {i:Bool}:deep (f+1) (.bl i)=true:=rfl
@[simp] theorem DK {f:Nat} {i:Str}:deep (f+1) (.str i)=true:=rfl
@[simp] theorem C3 {f:Nat}:deep (f+1) .non=true:=rfl
@[simp] theorem CP {f:Nat}:deep (f+1) .edic=true:=rfl
@[simp] theorem DC {f:Nat} {ds:List D}:deep (f+1) (.tup ds)=ds.all (deep f):=rfl
@[simp] theorem DH {f:Nat} {ds:List D}:deep (f+1) (.frl ds)=ds.all (deep f):=rfl
end
noncomputable def Ok {β:Type} (r:R β) (Q:β->Hh->Prop):Prop:=∃b h,r=.ok b h/\Q b h
section
variable {β γ:Type} {Q:β->Hh->Prop} {h h1 h2:Hh}
theorem Ok.mono {r:R β} {Q':β->Hh->Prop} (o:Ok r Q) (q:∀b h,Q b h->Q' b h):Ok r Q':=let ⟨b,h,e,z⟩:=o;⟨b,h,e,q b h z⟩
end
theorem oW {X:Type} {tg:D->En->Hh->R En} {body:MS} {QS:Fl->Hh->Prop} (enc:X->D) (I:En->Hh->Prop) :
  ∀(xs:List X) (env:En) (h:Hh),I env h->(∀x e h,x∈xs->I e h->Ok ((tg (enc x) e h).bind body) fun fl h2=>match fl with
   | .nx e=>I e h2
   | .ct e=>I e h2
   | .bk e=>QS (.nx e) h2
   | .rt d=>QS (.rt d) h2)->(∀e h,I e h->QS (.nx e) h)->Ok (cS tg body (xs.map enc) env h) QS
 | [],env,h,i,_,q=>⟨_,_,rfl,q _ _ i⟩
 | x::xs,env,h,i,st,q=>by
  obtain⟨fl,h2,e,z⟩:=st x env h List.mem_cons_self i
  rw[List.map_cons,cS,<- aZ,e,bz]
  cases fl with
  | nx e'=>exact oW enc I xs e' h2 z (fun y e h hy=>st y e h (List.mem_cons_of_mem _ hy)) q
  | ct e'=>exact oW enc I xs e' h2 z (fun y e h hy=>st y e h (List.mem_cons_of_mem _ hy)) q
  | bk e=>exact⟨_,_,rfl,z⟩
  | rt d=>exact⟨_,_,rfl,z⟩
end L2.FE
namespace L2.FE
open PySem PySem.Spec PyProof.Rows
noncomputable def Bj (h:Hh) (n:Nat):Option (List (Key × D)):=match h[n]? with
 | some (.dic kvs)=>some kvs
 | _=>none
noncomputable def wz:List (Key × D)->Key->Option D
 | [],_=>none
 | p::r,k=>if p.1=k then some p.2 else wz r k
noncomputable abbrev PD (K:PySem.W.Frag) (g:GG) (α:List Addr) (H:Hp):List (Key × D)->List (Key × V)->Prop:=Paired (fun(a:Key × D) (b:Key × V)=>a.1=b.1/\aC K g α H a.2 b.2)
section
variable {K:PySem.W.Frag} {g:GG} {α:List Addr} {H:Hp} {h:Hh}
theorem aM.dic {n:Nat} {p:Addr} {kvs:List (Key × D)} (r:aM K g α H h) (e:Bj h n=some kvs) (hp:α[n]?=some p):∃kws,H p=some (.dK kws)/\PD K g α H kvs kws:=by
 unfold Bj at e
 cases eo:h[n]? with
 | none=>rw[eo] at e;cases e
 | some o=>
  rw[eo] at e
  cases o with
  | dic k=>cases e;exact r.here n p _ hp eo
  | _=>cases e
theorem PD.val (k:Key):∀{kvs:List (Key × D)} {kws:List (Key × V)},PD K g α H kvs kws->(wz kvs k=none/\oN kws k=none)\/∃d v,wz kvs k=some d/\oN kws k=some v/\aC K g α H d v
 | _,_,.nil=>.inl ⟨rfl,rfl⟩
 | p::r,q::t,.cons c rr=>by
  by_cases e:p.1=k
  ·exact .inr ⟨p.2,q.2,if_pos e,rK (c.1 ▸ e),c.2⟩
  ·rw[show wz (p::r) k=wz r k from if_neg e,rg (c.1 ▸ e)]
   exact PD.val k rr
theorem PD.ext {α':List Addr} {H':Hp} {kvs:List (Key × D)} {kws:List (Key × V)} (e:Ext K α H α' H') (r:PD K g α H kvs kws):PD K g α' H' kvs kws:=Paired.DF e.toEx0 r
theorem aI.dic {Q:VK} {kvs:List (Key × D)} {kws:List (Key × V)} {p:Addr} (w:aI K g α H Q (.ref h.length) (h++[.dic kvs])) (r:aM K g α H h) (rs:PD K g α H kvs kws) (hp:H p=none):Q (.ref p) (upd H p (.dK kws)):=by
 have x:=Ext.push (K:=K) (α:=α) (o:=.dK kws) hp
 exact w _ _ _ x (r.push hp ⟨_,aO,rs.ext x⟩) (.ref (by rw[<- r.len];simp))
end
section
variable {X:Cx} {g:GG} {ε:EE} {o i e f:Expr} {mo mi me mf:ME} {pos:Pos}
noncomputable def qq (ns:List Int):Int:=ns.getD (argBest (fun i j=>decide (ns.getD i 0 > ns.getD j 0)) (ns.length - 1)) 0
theorem oD (hc:X.calm=true):ba X (.builtin "max") (fun vs H Q=>∃(p:Addr) (ns:List Int),vs=[.ref p]/\SqL X.K H p (ns.map V.int)/\0<ns.length/\Q (.int (qq ns)) H):=by
 intro pins s σ H xs us Q I r h
 obtain⟨p,ns,rfl,hq,hpos,q⟩:=h
 obtain⟨u,rfl,rx⟩:=vals1 r
 cases rx
 have hh:X.A.in1.handled=none:=I.ok.hd hc
 obtain⟨its,rv,pl,hz⟩:=I.list hq
 have hl:its.toArray.size=ns.length:=by rw[List.size_toArray,<- rv.length,List.length_map]
 have val:∀i v,its.toArray[i]?=some v->∃t:Tok,v=Value.int (ns.getD i 0) t:=fun i v e=>by
  obtain⟨x,hx,rxv⟩:=rv.get' (show its[i]?=some v by simpa using e)
  rw[List.getElem?_map] at hx
  cases en:ns[i]? with
  | none=>rw[en] at hx;cases hx
  | some z=>
   rw[en] at hx
   cases hx
   obtain⟨t,e⟩:=rxv
   exact⟨t,by rw[List.getD_eq_getElem?_getD,en];exact e⟩
 have plt:p<s.heap.objs.size:=by obtain⟨o,e,_⟩:=pl.isList;exact Heap.lt_size e
 have hne:p≠s.heap.objs.size:=Nat.ne_of_lt plt
 refine call_max_walk (wpAny_pyIter_list pl.isList ?_)
 refine⟨s.heap.objs.size,_,_,its.toArray.size,_,_,_,rfl,Walks.list (prog:=X.prog) (w:=X.w) hh s.heap.objs.size p hne its.toArray,⟨⟨_,Heap.get?_push_size _ rfl,rfl,rfl⟩,?_⟩,fun b hb=>?_,by omega,CmpOf.ints_gt (fun i=>ns.getD i 0) val,fun v h' tk hv hk=>?_⟩
 ·exact pl.isList.at fun o e=>Heap.get?_push_of_some _ e
 ·simp at hb
  rcases hb with rfl | rfl
  ·exact Heap.lt_size (Heap.get?_push_size _ rfl)
  ·exact Nat.lt_trans plt (Heap.lt_size (Heap.get?_push_size _ rfl))
 ·obtain⟨t,rfl⟩:=val _ _ hv
  refine⟨.int (qq ns),H,?_,⟨t,by rw[hl];rfl⟩,q⟩
  exact I.kept (h':=h') (t':=tk) fun b u e=>hk b u (by simp;exact Nat.ne_of_lt (Heap.lt_size e)) (Heap.get?_push_of_some _ e)
noncomputable def gu:List D->Hh->R D:=fun ds h=>match ds with
 | [d]=>match gp d h with
  | some ds=>match intsOf ds with
   | some ns=>if 0<ns.length then .ok (.int (qq ns)) h else .bad
   | none=>.bad
  | none=>.bad
 | _=>.bad
theorem ux {K:PySem.W.Frag}:kG K g ε gu (fun vs H Q=>∃(p:Addr) (ns:List Int),vs=[.ref p]/\SqL K H p (ns.map V.int)/\0<ns.length/\Q (.int (qq ns)) H):=by
 intro α H h a x Q r ra w
 obtain⟨d,v,rfl,rfl,rd⟩:=jT (f:=gu) (fun d _ _ _=>rfl) (fun _=>rfl) ra w
 unfold gu at w
 simp only at w
 cases e:gp d h with
 | none=>rw[e] at w;exact w.elim
 | some ds=>
  rw[e] at w
  simp only at w
  cases e2:intsOf ds with
  | none=>rw[e2] at w;exact w.elim
  | some ns=>
   rw[e2] at w
   obtain⟨hl,w⟩:=WQ.dH w
   obtain⟨p,vs,rfl,hv,rs⟩:=pN r rd e
   have e3:=cX e2
   subst e3
   rw[rs.uJ] at hv
   exact⟨p,ns,rfl,.inl hv,hl,aI.now w r (.int _)⟩
end
end L2.FE
namespace L2
open PySem PySem.Spec PyProof.Rows
structure Gn (h h':Heap):Prop where
 up:h.UpToSlots h'
 there:∀b o,h.get? b=some o->∃o',h'.get? b=some o'
theorem Gn.trans {h h1 h2:Heap} (a:Gn h h1) (b:Gn h1 h2):Gn h h2:=⟨a.up.trans b.up,fun c o q=>let ⟨_,q'⟩:=a.there c o q;b.there c _ q'⟩
structure Fly (B:Heap) (l:List Env) (e:Addr) (C:Value) (dc:Option Addr) (fl:Value) (h:Heap):Prop where
 stays:B.StaysIn h
 new:B.get? e=none
 fr:h.FunFrames B l
 obj:∃oe ws T oT ts,h.get? e=some oe/\oe.cls=C/\oe.dict=dc/\oe.data=.fields ws/\ws[1]?=some (.ref T)/\B.get? T=none/\T≠e/\h.get? T=some oT/\oT.data=.fields ts/\ts[3]?=some fl
theorem Fly.there {B:Heap} {l:List Env} {e:Addr} {C:Value} {dc:Option Addr} {fl:Value} {h:Heap} (x:Fly B l e C dc fl h):∃oe ws,h.get? e=some oe/\oe.cls=C/\oe.dict=dc/\oe.data=.fields ws:=by
 obtain⟨oe,ws,T,oT,ts,a,b,c,d,_⟩:=x.obj
 exact⟨oe,ws,a,b,c,d⟩
noncomputable def Arr (B:Heap) (l:List Env) (e:Addr) (C:Value) (dc:Option Addr) (h:Heap):Prop:=
 (B.StaysIn h/\B.get? e=none/\h.FunFrames B l/\∃oe ws,h.get? e=some oe/\oe.cls=C/\oe.dict=dc/\oe.data=.fields ws/\ws[1]?=some .none)\/Fly B l e C dc .none h
theorem Arr.stays {B:Heap} {l:List Env} {e:Addr} {C:Value} {dc:Option Addr} {h:Heap} (x:Arr B l e C dc h):B.StaysIn h:=x.elim (·.1) (·.stays)
theorem Arr.new {B:Heap} {l:List Env} {e:Addr} {C:Value} {dc:Option Addr} {h:Heap} (x:Arr B l e C dc h):B.get? e=none:=x.elim (·.2.1) (·.new)
theorem Arr.fr {B:Heap} {l:List Env} {e:Addr} {C:Value} {dc:Option Addr} {h:Heap} (x:Arr B l e C dc h):h.FunFrames B l:=x.elim (·.2.2.1) (·.fr)
end L2
namespace L2.FE
open PySem PySem.Spec PyProof.Rows
noncomputable def noR {β:Type}:R β->R β
 | .ok b h=>.ok b h
 | _=>.bad
@[simp] theorem EM {β:Type} (b:β) (h:Hh):noR (.ok b h)=.ok b h:=rfl
noncomputable def up {β:Type} (m:En->Hh->R β):En->Hh->R β:=fun env h=>noR (m env h)
theorem CD {K:PySem.W.Frag} {g:GG} {ε:EE} {α:List Addr} {H:Hp} {β:Type} {r:R β} {k:β->Hh->Prop} (w:WQ K g ε α H (noR r) k):WQ K g E00 α H r k:=by
 cases r with
 | ok b h=>exact w
 | err x h=>exact w.elim
 | bad=>exact w.elim
theorem us0 {P:List Value->Prop} {us:List Value} (hl:us.length=0) (h:P []):P us:=by cases us with | nil=>exact h | cons _ _=>cases hl
theorem us1 {P:List Value->Prop} {us:List Value} (hl:us.length=1) (h:∀a,P [a]):P us:=by cases us with | nil=>cases hl | cons a us=>exact us0 (P:=fun us=>P (a::us)) (Nat.succ.inj hl) (h a)
theorem us2 {P:List Value->Prop} {us:List Value} (hl:us.length=2) (h:∀a b,P [a,b]):P us:=by cases us with | nil=>cases hl | cons a us=>exact us1 (P:=fun us=>P (a::us)) (Nat.succ.inj hl) (h a)
theorem us3 {P:List Value->Prop} {us:List Value} (hl:us.length=3) (h:∀a b c,P [a,b,c]):P us:=by cases us with | nil=>cases hl | cons a us=>exact us2 (P:=fun us=>P (a::us)) (Nat.succ.inj hl) (h a)
theorem qZ {fd:FuncData} {ps:List Str} {us:List Value} (hl:us.length=1) (h:∀a:Value,bindArgs fd ⟨[a],[]⟩=pure (ps.zip [a])):bindArgs fd ⟨us,[]⟩=pure (ps.zip us):=us1 (P:=fun us=>bindArgs fd ⟨us,[]⟩=pure (ps.zip us)) hl h
theorem lE {fd:FuncData} {ps:List Str} {us:List Value} (hl:us.length=2) (h:∀a b:Value,bindArgs fd ⟨[a,b],[]⟩=pure (ps.zip [a,b])):bindArgs fd ⟨us,[]⟩=pure (ps.zip us):=us2 (P:=fun us=>bindArgs fd ⟨us,[]⟩=pure (ps.zip us)) hl h
theorem B7 {fd:FuncData} {ps:List Str} {us:List Value} (hl:us.length=3) (h:∀a b c:Value,bindArgs fd ⟨[a,b,c],[]⟩=pure (ps.zip [a,b,c])):bindArgs fd ⟨us,[]⟩=pure (ps.zip us):=us3 (P:=fun us=>bindArgs fd ⟨us,[]⟩=pure (ps.zip us)) hl h
end L2.FE
namespace L2.Srt
open PySem PySem.W PyProof.Rows
section
variable {n:Nat} {key:Nat->Int}
structure Pm (n:Nat) (p:Array Nat):Prop where
 size:p.size=n
 perm:p.Perm (List.range n).toArray
theorem Pm.lt {p:Array Nat} (h:Pm n p) {i:Nat} (hi:i<n):p.getD i 0<n:=by
 have hi':i<p.size:=by rw[h.size];exact hi
 have e:p.getD i 0=p[i]:=by simp[Array.getD,hi']
 rw[e]
 have:=h.perm.mem_iff.mp (Array.getElem_mem hi')
 simpa using this
variable (inj:∀i j,i<n->j<n->key i=key j->i=j)
include inj
omit inj in
omit inj in
omit inj in
omit inj in
omit inj in
omit inj in
end
end L2.Srt
namespace L2.Srt
open PySem PySem.W PyProof.Rows PySem.Calls
section
variable {prog:Program} {w:World} {A:Around} {E:Value->Shared->Prop} {s:Shared} {a:Addr} {vs:List Value} {κ:SortKind}
noncomputable def bq (h:Heap) (a:Addr) (vs:List Value):Heap:=((h.update a (Obj.mapSeq fun _=>(#[]:Array Value))).push (seqObj "tuple" vs.toArray 0)).push (seqObj "list" #[] 0)
end
section
variable {prog:Program} {w:World} {A:Around} {E:Value->Shared->Prop} {s:Shared} {vs:List Value}
noncomputable def bg (h:Heap) (vs:List Value):Heap:=((h.push (seqObj "list" #[] 0)).update h.objs.size (Obj.mapSeq (·++vs.toArray))).push (seqObj "list" vs.toArray 0)
theorem zC {h:Heap} {b:Addr} {o:Obj} (q:h.get? b=some o):(bg h vs).get? b=some o:=by
 have hsz:((h.push (seqObj "list" #[] 0)).update h.objs.size (Obj.mapSeq (·++vs.toArray))).objs.size=h.objs.size+1:=by rw[Heap.size_update,size_push']
 have hlt:b<h.objs.size:=Heap.lt_size q
 unfold bg
 rw[Heap.get?_push_ne _ _ _ (by rw[hsz];exact Nat.ne_of_lt (Nat.lt_succ_of_lt hlt)),Heap.get?_update_ne _ _ _ _ (Nat.ne_of_lt hlt),Heap.get?_push_ne _ _ _ (Nat.ne_of_lt hlt)]
 exact q
theorem Ap {h:Heap} {a b:Addr} {o:Obj} (hn:b≠a) (q:h.get? b=some o):(bq h a vs).get? b=some o:=by
 unfold bq
 exact Heap.get?_push_of_some _ (Heap.get?_push_of_some _ (by rw[Heap.get?_update_ne _ _ _ _ hn];exact q))
inductive Prs (h:Heap):List Value->List (Int × Int)->Prop
 | nil:Prs h [] []
 | cons {a:Addr} {o:Obj} {k:Nat} {t u:Tok} {x y:Int} {vs:List Value} {ps:List (Int × Int)}:h.get? a=some o->o.cls=.type "tuple" -> o.data=.seq #[.int x t,.int y u] k->Prs h vs ps->Prs h (.ref a::vs) ((x,y)::ps)
theorem Prs.len {h:Heap} {vs:List Value} {ps:List (Int × Int)} (r:Prs h vs ps):vs.length=ps.length:=by
 induction r with
 | nil=>rfl
 | cons _ _ _ _ ih=>simp[ih]
end
end L2.Srt
namespace L2
open PySem PySem.Spec PyProof.Rows L2.Srt
inductive PrV (K:PySem.W.Frag) (H:Hp):List V->List (Int × Int)->Prop
 | nil:PrV K H [] []
 | cons {a:Addr} {x y:Int} {xs:List V} {ps:List (Int × Int)}:SqT K H a [.int x,.int y]->PrV K H xs ps->PrV K H (.ref a::xs) ((x,y)::ps)
section
variable {X:Cx}
theorem PrV.len {K:PySem.W.Frag} {H:Hp} {xs:List V} {ps:List (Int × Int)} (r:PrV K H xs ps):xs.length=ps.length:=by
 induction r with
 | nil=>rfl
 | cons _ _ ih=>simp[ih]
theorem nZ {xs:List V} {us:List Value} (r:Vals xs us):∀(l:List Nat),(∀i∈l,i<xs.length)->Vals (l.map fun i=>xs.getD i .non) (l.map fun i=>us.getD i Value.none)
 | [],_=>.nil
 | i::l,h=>by
  refine .cons ?_ (nZ r l fun j hj=>h j (List.mem_cons_of_mem _ hj))
  have hi:i<xs.length:=h i List.mem_cons_self
  have hu:i<us.length:=by rw[<- r.length];exact hi
  obtain⟨y,e3,ry⟩:=r.get' (List.getElem?_eq_getElem hu)
  have a:xs.getD i .non=y:=by simp[List.getD,e3]
  have b:us.getD i Value.none=us[i]:=by simp[hu]
  show RelV (xs.getD i .non) (us.getD i Value.none)
  rw[a,b]
  exact ry
end
end L2
namespace L2.FE
open PySem PySem.Spec PyProof.Rows L2.Srt
section
variable {X:Cx} {g:GG} {ε:EE} {K:PySem.W.Frag}
theorem t8 {α:List Addr} {H:Hp}:∀{ds:List D} {xs:List V},av K g α H ds xs->∀(i:Nat),i<ds.length->aC K g α H (ds.getD i .non) (xs.getD i .non)
 | _,_,.nil,i,h=>by simp at h
 | _,_,.cons a b,0,_=>a
 | _,_,.cons a b,i+1,h=>by simpa using t8 b i (by simpa using h)
theorem sd {α:List Addr} {H:Hp} {ds:List D} {xs:List V} (r:av K g α H ds xs):∀(l:List Nat),(∀i∈l,i<ds.length)->av K g α H (l.map fun i=>ds.getD i .non) (l.map fun i=>xs.getD i .non)
 | [],_=>.nil
 | i::l,h=>.cons (t8 r i (h i List.mem_cons_self)) (sd r l fun j hj=>h j (List.mem_cons_of_mem _ hj))
end
end L2.FE
namespace L2.Srt
open PySem PySem.W PyProof.Rows PySem.Calls
section
variable {prog:Program} {w:World} {A:Around} {E:Value->Shared->Prop} {s:Shared} {a:Addr} {vs:List Value}
theorem nO {n:Nat} {P:PySem.Fin->Shared->Prop} (ho:s.heap.get? a=some (seqObj "list" vs.toArray n)) (h1:vs.length<2) (h:P (.done (.ret .none)) { s with heap:=sortedHeap s.heap a vs vs.toArray }) :
  wpAny (model prog w) A (Builtin.«list.sort» ⟨[.ref a],[]⟩) P E s:=by
 obtain⟨e1,ho1⟩:∃e1,(s.heap.update a (Obj.mapSeq fun _=>(#[]:Array Value))).get? a=some (seqObj "list" #[] e1):=⟨_,get?_update_seq ho fun _=>#[]⟩
 have hm:(bq s.heap a vs).get? a=some (seqObj "list" #[] e1):=Heap.get?_push_of_some _ (Heap.get?_push_of_some _ ho1)
 rw[list_sort_plain]
 refine wpAny_bind (listItems_at ho rfl ?_)
 refine wpAny_bind (listUpdate_at ho rfl ?_ (by rw[List.size_toArray,sizeLine_eq];omega) (Nat.zero_le _))
 refine wpAny_bind (seqEpoch_at ho1 rfl ?_)
 refine wpAny_bind (wpAny_newTuple ?_ (by show vs.length<=_;rw[sizeLine_eq];omega))
 refine wpAny_bind (wpAny_newList ?_ (Nat.zero_le _))
 refine wpAny_holding ?_
 show wpAny (model prog w) A _ P E { s with heap:=bq s.heap a vs }
 dsimp only
 have hn2:vs.toArray.size<2:=by rw[List.size_toArray];exact h1
 rw[if_pos hn2,if_pos hn2]
 refine wpAny_bind (wpAny_pure ?_)
 refine wpAny_bind (wpAny_pure (a:=((),SortSt.mk' general' (vs.toArray.zip vs.toArray) #[] 7 none)) ?_)
 dsimp only
 have hout:(arrOf (SortSt.mk' general' (vs.toArray.zip vs.toArray) #[] 7 none)).map (·.2)=vs.toArray:=by
  show(vs.toArray.zip vs.toArray).map (·.2)=vs.toArray
  apply Array.toList_inj.mp
  simp[List.map_snd_zip]
 rw[hout]
 refine wpAny_bind (seqEpoch_at hm rfl ?_)
 refine wpAny_bind (listUpdate_at hm rfl ?_ (Nat.zero_le _) (by rw[List.size_toArray,sizeLine_eq];omega))
 simp only[bne_self_eq_false,Bool.false_eq_true,if_false]
 exact wpAny_pure h
theorem tT {l:Addr} {Q:Value->Shared->Prop} (hl:s.heap.IsList l vs.toArray) (h1:vs.length<2) (h:Q (.ref (s.heap.objs.size+1)) { s with heap:=sortedAll s.heap vs vs.toArray }) :
  wpAny (model prog w) A (call (.builtin "sorted") [.ref l]) Q E s:=by
 refine Calls.call_function_entry kind_sorted plain_sorted entry_sorted (args_sorted1 _) ?_
 unfold Builtin.«sorted»
 refine wpAny_bind (m:=checkCount "sorted" 1 1 _) (wpAny_pure ?_)
 refine wpAny_bind (collect_list hl ?_ (by rw[sizeLine_eq];omega))
 refine wpAny_bind (wpAny_newList ?_ (by rw[sizeLine_eq];omega))
 have hsz:((s.heap.push (seqObj "list" #[] 0)).update s.heap.objs.size (Obj.mapSeq (·++vs.toArray))).objs.size=s.heap.objs.size+1:=by
  rw[Heap.size_update,size_push']
 have hoL:(bg s.heap vs).get? (s.heap.objs.size+1)=some (seqObj "list" vs.toArray 0):=by
  unfold bg;rw[<- hsz];exact Heap.get?_push_size _ rfl
 show wpAny _ _ _ _ _ { s with heap:=bg s.heap vs }
 rw[hsz]
 refine wpAny_bind (wpAny_holding (wpAny_call_entry slot_list_sort ⟨_,hoL,rfl⟩ entry_list_sort (nO (s:={ s with heap:=bg s.heap vs }) hoL h1 ⟨_,rfl,?_⟩) (args_list_sort _)))
 exact wpAny_pure ⟨_,rfl,h⟩
end
end L2.Srt
namespace L2
open PySem PySem.Spec PyProof.Rows L2.Srt
section
variable {X:Cx}
theorem sx:ba X (.builtin "sorted") (fun vs H Q=>∃(p:Addr) (xs:List V),vs=[.ref p]/\SqL X.K H p xs/\xs.length<2/\∀l,H l=none->Q (.ref l) (upd H l (.lst xs))):=by
 intro pins s σ H xs0 us Q I r h
 obtain⟨p,xs,rfl,hq,h1,q⟩:=h
 obtain⟨u,rfl,rx⟩:=vals1 r
 cases rx
 obtain⟨its,rv,pl,hz⟩:=I.list hq
 have hl:=rv.length
 refine tT pl.isList (by omega) ?_
 obtain⟨k,hk⟩:=sortedAll_at s.heap its its.toArray
 have hn:H (s.heap.objs.size+1)=none:=I.hok.fresh (Nat.le_succ _)
 have len:xs.length<=sizeLine:=by
  have:64<=sizeLine:=by decide
  omega
 refine⟨.ref (s.heap.objs.size+1),upd H (s.heap.objs.size+1) (.lst xs),I.laid (t':=s.toks) (fun _ _ z=>sortedAll_old z) (Nat.le_succ _) ⟨len,its,k,rv,?_⟩,rfl,q _ hn⟩
 rw[hk]
end
end L2
namespace L2.FE
open PySem PySem.Spec PyProof.Rows L2.Srt
noncomputable abbrev Ac (K:PySem.W.Frag) (F:VK->VK):List V->Hp->VK->Prop:=fun vs H Q=>∃(p:Addr) (xs:List V),vs=[.ref p]/\SqL K H p xs/\xs.length<2/\∀l,H l=none->F Q (.ref l) (upd H l (.lst xs))
end L2.FE
namespace L2.FE
open PySem PySem.Spec PyProof.Rows
noncomputable def setOf (h:Hh) (n:Nat):Option (List Int):=match h[n]? with
 | some (.set ns)=>some ns
 | _=>none
section
variable {X:Cx} {g:GG} {ε:EE} {K:PySem.W.Frag}
theorem aM.set {α:List Addr} {H:Hp} {h:Hh} {n:Nat} {p:Addr} {ns:List Int} (r:aM K g α H h) (e:setOf h n=some ns) (hp:α[n]?=some p):H p=some (.set (fun k=>ns.any (· == k)) ns.length):=by
 unfold setOf at e
 cases eo:h[n]? with
 | none=>rw[eo] at e;cases e
 | some o=>
  rw[eo] at e
  cases o with
  | set k=>cases e;exact r.here n p _ hp eo
  | _=>cases e
end
noncomputable def A6 (h:Hh) (n:Nat):Option (List (List Key × D)):=match h[n]? with
 | some (.dit kvs)=>some kvs
 | _=>none
noncomputable def yh:List (List Key × D)->List Key->Option D
 | [],_=>none
 | p::r,k=>if p.1=k then some p.2 else yh r k
noncomputable abbrev PDT (K:PySem.W.Frag) (g:GG) (α:List Addr) (H:Hp):List (List Key × D)->List (List Key × V)->Prop:=Paired (fun(a:List Key × D) (b:List Key × V)=>a.1=b.1/\aC K g α H a.2 b.2)
section
variable {K:PySem.W.Frag} {g:GG} {α:List Addr} {H:Hp} {h:Hh}
theorem aM.dit {n:Nat} {p:Addr} {kvs:List (List Key × D)} (r:aM K g α H h) (e:A6 h n=some kvs) (hp:α[n]?=some p):∃kws,H p=some (.dT kws)/\PDT K g α H kvs kws:=by
 unfold A6 at e
 cases eo:h[n]? with
 | none=>rw[eo] at e;cases e
 | some o=>
  rw[eo] at e
  cases o with
  | dit k=>cases e;exact r.here n p _ hp eo
  | _=>cases e
theorem PDT.val (k:List Key):∀{kvs:List (List Key × D)} {kws:List (List Key × V)},PDT K g α H kvs kws->(yh kvs k=none/\oN kws k=none)\/∃d v,yh kvs k=some d/\oN kws k=some v/\aC K g α H d v
 | _,_,.nil=>.inl ⟨rfl,rfl⟩
 | p::r,q::t,.cons c rr=>by
  by_cases e:p.1=k
  ·exact .inr ⟨p.2,q.2,if_pos e,rK (c.1 ▸ e),c.2⟩
  ·rw[show yh (p::r) k=yh r k from if_neg e,rg (c.1 ▸ e)]
   exact PDT.val k rr
theorem PDT.ext {α':List Addr} {H':Hp} {kvs:List (List Key × D)} {kws:List (List Key × V)} (e:Ext K α H α' H') (r:PDT K g α H kvs kws):PDT K g α' H' kvs kws:=Paired.Dg e.toEx0 r
theorem aI.dit {Q:VK} {kvs:List (List Key × D)} {kws:List (List Key × V)} {p:Addr} (w:aI K g α H Q (.ref h.length) (h++[.dit kvs])) (r:aM K g α H h) (rs:PDT K g α H kvs kws) (hp:H p=none):Q (.ref p) (upd H p (.dT kws)):=by
 have x:=Ext.push (K:=K) (α:=α) (o:=.dT kws) hp
 exact w _ _ _ x (r.push hp ⟨_,aO,rs.ext x⟩) (.ref (by rw[<- r.len];simp))
end
end L2.FE
namespace L2
open PySem PySem.Spec PyProof.Rows
noncomputable abbrev BH (J:It) (ix:List Nat) (σ:St) (wi2:TI) (te:TE) (acc:Addr) (H1:Hp) (Q:VK):Prop:=
 ∃W:Nat->Nat->List V->Hp->Prop,(∃m,W 0 m [] (upd H1 acc (.lst [])))/\∀i m ys H,W i m ys H →
  (J.stop i H/\Q (.ref acc) H)\/(J.go i H/\∀σ0 x H',dz 2 ix σ σ0->J.yld i H x H'->wi2 (σ0.set 0 (some x)) H' fun J2 H2=>
   ∃U:Nat->Nat->List V->Hp->Prop,(∃m2,U 0 m2 ys H2)/\∀j m2 zs H,U j m2 zs H->(J2.stop j H/\∃m',m'<m/\W (i+1) m' zs H) ∨
    (J2.go j H/\∀y H',J2.yld j H y H'->te ((σ0.set 0 (some x)).set 1 (some y)) H' fun v H3=>∃ks,H3 acc=some (.lst ks)/\ks.length<sizeLine/\∃m',m'<m2/\U (j+1) m' (ks++[v]) (upd H3 acc (.lst (ks++[v])))))
noncomputable def ki (wi:TI) (ix:List Nat) (wi2:TI) (te:TE):TE:=fun σ H Q=>wi σ H fun J H1=>∀acc,H1 acc=none->BH J ix σ wi2 te acc H1 Q
section
variable {prog:Program} {w:World} {A:Around} {R:Result->Shared->Prop} {s:Shared} {elt tg iter tg2 iter2:Expr} {scope:Scope} {pos:Pos} {it acc:Value} {env:Env}
noncomputable abbrev e2 (elt tg iter tg2 iter2:Expr) (scope:Scope) (pos:Pos):Expr:=.ListComp elt [⟨tg,iter,[],0⟩,⟨tg2,iter2,[],0⟩] scope pos
theorem wM:compTurn (e2 elt tg iter tg2 iter2 scope pos) 0 it acc env=(standAt iter.pos >>= fun _=>pyNext it >>= fun r=>match r with
  | none=>pure (.done .next)
  | some v=>letOwnedTupleGo tg it v >>= fun _=>assign tg env v >>= fun _=>
   eval iter2 env >>= fun x=>standAt iter2.pos >>= fun _=>foldedSetIterable iter2 env x >>= fun x=>holding [x] (pyIter x) >>= fun i2=>runOwn (.compStart (e2 elt tg iter tg2 iter2 scope pos) 1 i2 acc env) env >>= fun _=>
    again (.compLoop (e2 elt tg iter tg2 iter2 scope pos) 0 it acc env)):=by rfl
theorem Ae:compTurn (e2 elt tg iter tg2 iter2 scope pos) 1 it acc env=(standAt iter2.pos >>= fun _=>pyNext it >>= fun r=>match r with
  | none=>pure (.done .next)
  | some v=>letOwnedTupleGo tg2 it v >>= fun _=>assign tg2 env v >>= fun _=>
   (eval elt env >>= fun x=>call (.builtin "list.append") [acc,x] >>= fun _=>pure ()) >>= fun _=>
    again (.compLoop (e2 elt tg iter tg2 iter2 scope pos) 1 it acc env)):=by rfl
theorem rL (I:Nat->Shared->Prop)
  (turn:∀n s,I n s->wpAny (model prog w) A (pyNext it) (fun r s₁=>match r with
   | none=>R (.ok .next) s₁
   | some v=>wpAny (model prog w) A (letOwnedTupleGo tg2 it v) (fun _ s₁=>wpAny (model prog w) A (assign tg2 env v) (fun _ s₂=>
     wpAny (model prog w) A (eval elt env) (fun x s₄=>wpAny (model prog w) A (call (.builtin "list.append") [acc,x]) (fun _ s₅=>∃m,m<n/\I m s₅) (fun _ _=>False) s₄) (fun _ _=>False) s₂) (fun _ _=>False) s₁) (fun _ _=>False) s₁) (fun _ _=>False) s)
  (n:Nat) (h:I n s):codeAny (model prog w) A (.compLoop (e2 elt tg iter tg2 iter2 scope pos) 1 it acc env) R s:=by
 refine codeAny_loop rfl I (fun n s hI=>?_) n h
 show wpAny _ A ((compTurn (e2 elt tg iter tg2 iter2 scope pos) 1 it acc env).onRaise (fun x=>do noteFrame x env;theTreesLotGoes x)) _ _ s
 refine wpAny_noted ?_
 rw[Ae]
 refine wpAny_noRaise ?_
 refine wpAny_bind (wpAny_standAt (wpAny_bind (thn (turn n s hI) fun r s₁ h₁=>?_)))
 cases r with
 | none=>exact wpAny_pure h₁
 | some v=>exact wpAny_bind (thn h₁ fun _ s₂ h₂=>wpAny_bind (thn h₂ fun _ s₃ h₃=>wpAny_bind (wpAny_bind (thn h₃ fun x s₄ h₄=>wpAny_bind (thn h₄ fun _ s₅ h₅=>wpAny_pure (wpAny_pure ⟨rfl,h₅⟩))))))
theorem nP (I:Nat->Shared->Prop) (hf:∀x,foldedSetIterable iter2 env x=pure x)
  (turn:∀n s,I n s->wpAny (model prog w) A (pyNext it) (fun r s₁=>match r with
   | none=>R (.ok .next) s₁
   | some v=>wpAny (model prog w) A (letOwnedTupleGo tg it v) (fun _ s₁=>wpAny (model prog w) A (assign tg env v) (fun _ s₂=>
     wpAny (model prog w) A (eval iter2 env) (fun x s₃=>wpAny (model prog w) A (pyIter x) (fun i2 s₄=>
      codeAny (model prog w) A (.compStart (e2 elt tg iter tg2 iter2 scope pos) 1 i2 acc env) (fun r s'=>match r with
       | .ok _=>∃m,m<n/\I m s'
       | .error _=>False) s₄) (fun _ _=>False) s₃) (fun _ _=>False) s₂) (fun _ _=>False) s₁) (fun _ _=>False) s₁) (fun _ _=>False) s)
  (n:Nat) (h:I n s):codeAny (model prog w) A (.compLoop (e2 elt tg iter tg2 iter2 scope pos) 0 it acc env) R s:=by
 refine codeAny_loop rfl I (fun n s hI=>?_) n h
 show wpAny _ A ((compTurn (e2 elt tg iter tg2 iter2 scope pos) 0 it acc env).onRaise (fun x=>do noteFrame x env;theTreesLotGoes x)) _ _ s
 refine wpAny_noted ?_
 rw[wM]
 refine wpAny_noRaise ?_
 refine wpAny_bind (wpAny_standAt (wpAny_bind (thn (turn n s hI) fun r s₁ h₁=>?_)))
 cases r with
 | none=>exact wpAny_pure h₁
 | some v=>
  refine wpAny_bind (thn h₁ fun _ s₂ h₂=>wpAny_bind (thn h₂ fun _ s₃ h₃=>wpAny_bind (thn h₃ fun x s₄ h₄=>wpAny_bind (wpAny_standAt (wpAny_bind (wpAny_of_eq (hf x) (wpAny_bind (wpAny_holding (thn h₄ fun i2 s₅ h₅=>?_)))))))))
  refine wpAny_bind (wpAny_runOwn (codeAny_mono h₅ fun r s' hr=>?_))
  cases r with
  | ok f=>exact wpAny_pure ⟨rfl,hr⟩
  | error e=>exact hr.elim
theorem wm:compStart (e2 elt tg iter tg2 iter2 scope pos) 1 it acc env=(ask >>= fun st=>if st.params.followText "comprehension-iter-twice" = true then again (.compLoop (e2 elt tg iter tg2 iter2 scope pos) 1 it acc env) else
  rule "comprehension.iter-twice" >>= fun _=>standAt iter2.pos >>= fun _=>pyIter it >>= fun i'=>again (.compLoop (e2 elt tg iter tg2 iter2 scope pos) 1 i' acc env)):=by rfl
theorem qP (h0:codeAny (model prog w) A (.compLoop (e2 elt tg iter tg2 iter2 scope pos) 1 it acc env) R s)
  (h:wpAny (model prog w) A (pyIter it) (fun i' s'=>codeAny (model prog w) A (.compLoop (e2 elt tg iter tg2 iter2 scope pos) 1 i' acc env) R s') (fun _ _=>False) s) :
  codeAny (model prog w) A (.compStart (e2 elt tg iter tg2 iter2 scope pos) 1 it acc env) R s:=by
 refine codeAny_of_tree ?_
 show wpAny _ _ ((compStart (e2 elt tg iter tg2 iter2 scope pos) 1 it acc env).onRaise (fun x=>do noteFrame x env;standAt theWindowsPlace)) _ _ s
 refine wpAny_notedAt ?_
 refine wpAny_noRaise ?_
 rw[wm]
 refine wpAny_bind (wpAny_askSetting ?_)
 split
 ·exact wpAny_pure ⟨rfl,h0⟩
 ·exact wpAny_bind (wpAny_rule (wpAny_bind (wpAny_standAt (wpAny_bind (thn h fun i' s' h'=>wpAny_pure ⟨rfl,h'⟩)))))
end
theorem vo {X:Cx} {use:Option (Value->Sem Unit)} {Q2:Value->Shared->Prop} {pins:List (Addr × Obj)} {s:Shared} {σ:St} {H:Hp} {Q:VK} {elt iter tg iter2 tg2:Expr} {tn':List Str} {scope osc:Scope} {pos:Pos} {wi wi2:TI} {te:TE} (ix:List Nat) (N':List Str)
  (hxe:X.xe=fun _ _=>False) (hc:X.calm=true) (ho:X.env.scope=osc) (hN:N'=tn'++ix.map fun i=>(X.N[i]?).getD ("" : Str)) (hnd:N'.Nodup)
  (hall:(∀y∈scope.names,y.2=.free->osc.names.lookup y.1=some .cell)/\(∀y∈scope.names,y.2≠.cell)/\scope.kind=.function/\(∀y∈scope.names,y.2=.local->scope.names.lookup y.1=some .local)/\(∀y∈N'.drop tn'.length,scope.names.lookup y=some .free))
  (hi:PI X tg iter wi) (hg:∀cl C ao ar fp,PG (aB X scope cl C ao ar fp N') tg (cf 0)) (hi2:∀cl C ao ar fp,PI (aB X scope cl C ao ar fp N') tg2 iter2 wi2) (hg2:∀cl C ao ar fp,PG (aB X scope cl C ao ar fp N') tg2 (cf 1))
  (he:∀cl C ao ar fp,PE (aB X scope cl C ao ar fp N') elt te)
  (hs:∀x,foldedSetIterable iter X.env x=pure x) (hs2:∀env x,foldedSetIterable iter2 env x=pure x) (h2n:tn'.length=2) (I:Inv X pins σ H s) (h:ki wi ix wi2 te σ H Q)
  (hfin:∀(acc C:Addr) (H5:Hp) (s5:Shared) (o:Obj),Inv X (pins++[(C,o)]) σ H5 s5->(∀x c,X.env.cells.lookup x=some c->c≠C)->X.ao.heap.objs.size<=C->(∀p∈X.pn++pins,p.1≠C)->(∃m,∀h':Heap,h'.get? C=some o->h'.Ns C m)->Q (.ref acc) H5->compPost (model X.prog X.w) X.A X.xe use Q2 (.ref acc) C (.ok .next) s5) :
  wpAny (model X.prog X.w) X.A (comprehension (.ListComp elt [⟨tg,iter,[],0⟩,⟨tg2,iter2,[],0⟩] scope pos) scope X.env (firstIterPos [⟨tg,iter,[],0⟩,⟨tg2,iter2,[],0⟩] pos) (newList []) false (eval iter X.env) use) Q2 X.xe s:=by
 obtain⟨hfr,hcell,hkind,hnames,hcap⟩:=hall
 subst ho
 have outc:∀y∈scope.names,y.2=.free->X.env.kindOf y.1=some .cell:=fun y hy q=>hfr y hy q
 obtain⟨cl,hclos,hcl1,hcl2⟩:=fk (env:=X.env) (scope:=scope) fun y hy q=>I.ok.has y.1 (.inl (outc y hy q))
 refine wpAny_comprehension_free (use:=use) rfl hs hclos hkind hnames (thn (hi pins s σ H _ I h) fun v s1 h1=>thn h1 fun itv s2 h2=>?_)
 obtain⟨it,fp,tn,J,H2,e,I2,T,st2,f2,rest⟩:=h2
 subst e
 have hf2:H2 s2.heap.objs.size=none:=I2.hok.fresh (Nat.le_refl _)
 obtain⟨W,⟨m0,w0⟩,turn⟩:=rest s2.heap.objs.size hf2
 -- the list
 refine wpAny_newObj_type ?_
 have I3:Inv X pins σ (upd H2 s2.heap.objs.size (.lst [])) { s2 with heap:=s2.heap.push { cls:=.type "list", dict:=none,data:=.seq ([]:List Value).toArray } }:=I2.xv (its:=[]) (t':=s2.toks) .nil (Nat.zero_le _)
 have keep3:∀b o,s2.heap.get? b=some o->(s2.heap.push { cls:=.type "list", dict:=none,data:=.seq ([]:List Value).toArray }).get? b=some o:=fun b o q=>Heap.get?_push_of_some _ q
 have fp3:∀b∈fp,∃o,s2.heap.get? b=some o/\∀v,o.data≠.cell v:=T.obj _ _ st2
 have st3:tn 0 (s2.heap.push { cls:=.type "list", dict:=none,data:=.seq ([]:List Value).toArray }):=T.keep _ _ _ st2 fun b _ o q=>keep3 b o q
 have fpn:∀b∈fp,(upd H2 s2.heap.objs.size (HO.lst [])) b=none:=fun b hb=>by
  obtain⟨o,q,_⟩:=fp3 b hb
  rw[aH (Nat.ne_of_lt (Heap.lt_size q))]
  exact(f2 b hb).1
 revert I3 keep3 st3 fpn w0
 generalize hS3:({ s2 with heap:=s2.heap.push { cls:=.type "list", dict:=none,data:=.seq ([]:List Value).toArray } }:Shared)=s3
 generalize hH3:upd H2 s2.heap.objs.size (HO.lst [])=H3
 intro w0 I3 keep3 st3 fpn
 have acc3:H3 s2.heap.objs.size=some (.lst []):=by rw[<- hH3];exact aO
 generalize s2.heap.objs.size=acc at *
 have e3:s2.heap.push { cls:=.type "list", dict:=none,data:=.seq ([]:List Value).toArray }=s3.heap:=by rw[<- hS3]
 have keep3':∀b o,s2.heap.get? b=some o->s3.heap.get? b=some o:=fun b o q=>by rw[<- e3];exact keep3 b o q
 have st3':tn 0 s3.heap:=by rw[<- e3];exact st3
 refine wpAny_newFunctionEnv hcell (by intro y hy;simp at hy) (fun h₁ hns₁ hsb₁=>?_) hkind
 have hC:s3.heap.objs.size=s3.heap.objs.size:=rfl
 have keep4:∀b o,s3.heap.get? b=some o->h₁.get? b=some o:=fun b o q=>hsb₁.extBut b o (Nat.ne_of_lt (Heap.lt_size q)) (Heap.get?_push_of_some _ q)
 have fpC:∀b∈fp,b≠s3.heap.objs.size:=fun b hb=>by
  obtain⟨o,q,_⟩:=fp3 b hb
  exact Nat.ne_of_lt (Heap.lt_size (keep3' b o q))
 -- the block's context
 generalize hX':aB X scope cl s3.heap.objs.size s3 H3 fp N'=X'
 have hXp:X'.prog=X.prog:=by rw[<- hX'];rfl
 have hXw:X'.w=X.w:=by rw[<- hX'];rfl
 have hXK:X'.K=X.K:=by rw[<- hX'];rfl
 have hXA:X'.A=X.A:=by rw[<- hX'];rfl
 have hXe:X'.env=compEnvC scope cl s3.heap.objs.size X.env:=by rw[<- hX'];rfl
 have hXc:X'.calm=true:=by rw[<- hX'];exact hc
 have hXx:X'.xe=fun _ _=>False:=by rw[<- hX'];exact hxe
 have hXf:X'.fs=frs X.stack:=by rw[<- hX'];rfl
 have hXex:X'.ex=fp:=by rw[<- hX'];rfl
 have hXN:X'.N=N':=by rw[<- hX'];rfl
 have hXs:X'.ao=s3:=by rw[<- hX'];rfl
 have hXH:X'.ar=H3:=by rw[<- hX'];rfl
 have hXpn:X'.pn=[]:=by rw[<- hX'];rfl
 have okX:X'.Ok:=by
  rw[<- hX']
  refine⟨I3.ok.mod,hkind,I3.ok.glob,I3.ok.blt,Nat.le_refl _,fun a b c p q=>I3.ok.inj a b c (hcl1 a c p) (hcl1 b c q),fun y hy=>?_,fun _ _ z=>(by cases z),I3.ok.hd,I3.ok.frames,.inl rfl,fun b hb=>⟨fpC b hb,fun y c p=>(f2 b hb).2.2.2.2.1 y c (hcl1 y c p)⟩,
   I3.bs,Nat.le_trans I3.ok.bsz I3.sz,fun b o p hb=>?_,fun b hb z=>?_,I3.stack,I3.kW⟩
  ·have hy':(relabel scope X.env).names.lookup y=some .cell\/(relabel scope X.env).names.lookup y=some .free:=hy
   have free:scope.names.lookup y=some .free->∃c,cl.lookup y=some c:=fun q=>hcl2 y (lookup_mem q)
   rcases hy' with q | q
   ·rcases bU q with z | ⟨z,_⟩
    ·exact absurd rfl (hcell _ (lookup_mem z))
    ·exact free z
   ·rcases bU q with z | ⟨_,z⟩
    ·exact free z
    ·cases z
  ·rcases(f2 b hb).2.2.2.1 with z | z
   ·exact I3.ok.tU b o p z
   ·exact absurd (Nat.lt_of_lt_of_le (Heap.lt_size p) (Nat.le_trans I3.ok.bsz z)) (Nat.lt_irrefl _)
  ·rcases List.mem_cons.mp (I3.iy b z) with q | q
   ·exact(f2 b hb).2.1 q
   ·exact(f2 b hb).2.2.1 q
 have I4:∀tk,Inv X' [] (ji tn'.length ix σ) H3 { s3 with heap:=h₁,toks:=tk }:=fun tk=>by
  have hloc:=I3.loc
  refine⟨okX,by rw[hXs],I3.bare,?_,⟨fun y=>([]:List (Str × Value)).reverse.lookup y,by rw[hXe];exact hns₁,fun i y v e1 e2 e3=>?_⟩,fun y c p=>?_,?_,fun y c p=>?_,fun p hp=>?_,?_,?_⟩
  ·rw[hXf,hXex,hXH,hXs];exact Un.kept keep4
  ·rw[hXN,hN] at e1
   by_cases hit':i<tn'.length
   ·exfalso
    unfold ji at e2
    rw[List.getElem?_append_left (by simpa using hit'),List.getElem?_replicate,if_pos hit'] at e2
    cases e2
   ·have e10:N'[i]?=some y:=by rw[hN];exact e1
    obtain⟨j,rfl⟩:∃j,i=tn'.length+j:=⟨i - tn'.length,by omega⟩
    have e1':(ix.map fun i=>(X.N[i]?).getD ("" : Str))[j]?=some y:=by
     rw[List.getElem?_append_right (by omega)] at e1
     rw[show tn'.length+j - tn'.length=j by omega] at e1
     exact e1
    have e2':(ix.map fun i=>(σ[i]?).join)[j]?=some (some v):=by
     unfold ji at e2
     rw[List.getElem?_append_right (by simp)] at e2
     simpa using e2
    rw[List.getElem?_map] at e1' e2'
    cases hj:ix[j]? with
    | none=>rw[hj] at e1';cases e1'
    | some i0=>
     rw[hj] at e1' e2'
     have e1'':(X.N[i0]?).getD ("" : Str)=y:=by simpa using e1'
     have e2'':(σ[i0]?).join=some v:=by simpa using e2'
     have hsv:σ[i0]?=some (some v):=by
      cases q:σ[i0]? with
      | none=>rw[q] at e2'';cases e2''
      | some z=>rw[q] at e2'';have:z=some v:=by simpa using e2''
                rw[this]
     have hlt:i0<X.N.length:=by
      have:=(List.getElem?_eq_some_iff.mp hsv).1
      rw[I3.len] at this;exact this
     have hNy:X.N[i0]?=some y:=by
      rw[List.getElem?_eq_getElem hlt] at e1'' ⊢
      simpa using e1''
     have hyt:y∈N'.drop tn'.length:=by
      refine List.mem_of_getElem? (i:=j) ?_
      rw[List.getElem?_drop];exact e10
     have hyf:=hcap y hyt
     have hyc:=outc (y,.free) (lookup_mem hyf) rfl
     obtain⟨m,hn,hl⟩:=hloc
     obtain⟨u,r,l⟩:=hl i0 y v hNy hsv (.inr (.inl hyc))
     refine⟨u,r,?_⟩
     rcases l with⟨k1,_⟩ | ⟨_,c,p,z⟩
     ·have hyc':X.env.kindOf y=some .cell:=hyc
      rw[k1] at hyc';cases hyc'
     ·obtain⟨c',p'⟩:=hcl2 y (lookup_mem hyf)
      have pc:c'=c:=by
       have:=hcl1 y c' p'
       rw[p] at this;cases this;rfl
      subst pc
      refine .inr ⟨.inl ?_,c',by rw[hXe];exact p',?_⟩
      ·rw[hXe];exact bJ I3.ok.kind hyf hyc
      ·obtain⟨o,q1,q2⟩:=z
       exact⟨o,keep4 c' o q1,q2⟩
  ·rw[hXe] at p
   obtain⟨v,o,q1,q2⟩:=I3.cell y c (hcl1 y c p)
   exact⟨v,o,keep4 c o q1,q2⟩
  ·rw[hXe];exact I3.hok.fresh (Nat.le_refl _)
  ·rw[hXe] at p;exact I3.gw y c (hcl1 y c p)
  ·rw[hXpn] at hp;cases hp
  ·rw[hXp,hXw];exact I3.hok.kept keep4
  ·rw[hXN,hN];simp[ji]
 -- the loop
 have stat:∀{H':Hp},(∀b∈fp,H' b=none)->∀b∈fp,i5 X' [] H' b:=fun hn b hb=>by
  refine⟨hn b hb,by rw[hXe];exact fpC b hb,?_,.inl (by rw[hXex];exact hb),fun y c p=>?_,fun p hp=>by rw[hXpn] at hp;cases hp⟩
  ·rw[hXf];intro z
   rcases List.mem_cons.mp (I3.iy b z) with q | q
   ·exact(f2 b hb).2.1 q
   ·exact(f2 b hb).2.2.1 q
  ·rw[hXe] at p;exact(f2 b hb).2.2.2.2.1 y c (hcl1 y c p)
 have fin:∀{H5:Hp} {s5:Shared} {σ5:St},Inv X' [] σ5 H5 s5->Q (.ref acc) H5->compPost (model X.prog X.w) X.A X.xe use Q2 (.ref acc) s3.heap.objs.size (.ok .next) s5:=fun{H5 s5 σ5} I5 q=>by
  obtain⟨m,hn,_⟩:=I5.loc
  rw[hXe] at hn
  have hn':s5.heap.Ns s3.heap.objs.size m:=hn
  obtain⟨oC,esC,epC,hC1,hC2,hC3⟩:=hn'
  have u5:=I5.base
  rw[hXf,hXex,hXH,hXs] at u5
  have fr:H5 s3.heap.objs.size=none:=by have:=I5.free;rw[hXe] at this;exact this
  have hok5:=I5.hok
  rw[hXp,hXw] at hok5
  have hos:s5.os=s3.os:=by have:=I5.os;rw[hXs] at this;exact this
  have IX:Inv X pins σ H5 s5:=I3.n9 (s':=s5) (ch:=fp) hos u5 hok5 I5.bare (fun b hb=>by
   obtain⟨g0,g1,g2,g3,g4,g5⟩:=f2 b hb
   exact⟨g3,g1,g4,g5⟩)
  have cC:∀x c,X.env.cells.lookup x=some c->c≠s3.heap.objs.size:=fun x c z e=>by
   obtain⟨v,q⟩:=I3.cell x c z
   exact absurd q.lt (by rw[e];exact Nat.lt_irrefl _)
  have pC:∀p∈X.pn++pins,p.1≠s3.heap.objs.size:=fun p hp e=>by
   have:=Heap.lt_size (I3.pin p hp).1
   rw[e] at this
   exact Nat.lt_irrefl _ this
  refine hfin acc s3.heap.objs.size H5 s5 oC (IX.iG fun p hp=>?_) cC I3.sz pC ⟨m,fun h' z=>⟨oC,esC,epC,z,hC2,hC3⟩⟩ q
  rcases List.mem_append.mp hp with z | z
  ·exact IX.pin p (List.mem_append_right _ z)
  ·have e:=List.mem_singleton.mp z
   subst e
   refine⟨hC1,fr,Nat.ne_of_gt I3.lt,I3.zw (Nat.le_refl _),fun v e=>?_⟩
   have e':oC.data=.cell v:=e
   rw[hC2] at e';cases e'
 have IsC:∀{σ0:St} {i:Nat} {v:Option V},dz 2 ix σ σ0->i<2->dz 2 ix σ (σ0.set i v):=fun{σ0 i v} ⟨ts,hl,e⟩ hi=>⟨ts.set i v,by rw[List.length_set];exact hl,by rw[e,List.set_append_left _ _ (by rw[hl];exact hi)]⟩
 have loop:∀tk,codeAny (model X.prog X.w) X.A (.compLoop (.ListComp elt [⟨tg,iter,[],0⟩,⟨tg2,iter2,[],0⟩] scope pos) 0 (.ref it) (.ref acc) (compEnvC scope cl s3.heap.objs.size X.env))
   (compPost (model X.prog X.w) X.A X.xe use Q2 (.ref acc) s3.heap.objs.size) { s3 with heap:=h₁,toks:=tk }:=fun tk=>by
  refine nP (fun n s'=>∃i ys σ' H',Inv X' [] σ' H' s'/\dz 2 ix σ σ'/\tn i s'.heap/\(∀b∈fp,H' b=none)/\W i n ys H') (hs2 _) (fun n s5 h5=>?_) m0
   ⟨0,[],ji tn'.length ix σ,H3,I4 tk,⟨_,by rw[List.length_replicate];exact h2n,rfl⟩,T.keep _ _ _ st3' fun b _ o q=>keep4 b o q,fpn,w0⟩
  obtain⟨i,ys,σ5,H5,I5,hσ,st5,fr5,w5⟩:=h5
  rcases turn i n ys H5 w5 with⟨stop,q⟩ | ⟨go,step⟩
  ·have d:=T.done X' hXp hXw hXK hXc i [] s5 σ5 H5 (fun _ _=>False) I5 (stat fr5) st5 stop
   rw[hXA] at d
   refine thn d fun r s6 ⟨hr,I6⟩=>?_
   subst hr
   exact fin I6 q
  ·have d:=T.item X' hXp hXw hXK hXc i [] s5 σ5 H5 (fun _ _=>False) I5 (stat fr5) st5 go
   rw[hXA] at d
   refine thn d fun r s6 ⟨u,hr,h6⟩=>?_
   subst hr
   refine thn h6 fun _ s7 ⟨z,H7,I7,r7,y7,st7,fr7⟩=>?_
   have I7':=I7.pinned (stat fr7) (T.obj _ _ st7)
   have again:∀{H9:Hp} {s9:Shared} {ys9:List V} {σ9:St},Inv X' ([]++eG fp s7.heap) σ9 H9 s9->dz 2 ix σ σ9->(∃m',m'<n/\W (i+1) m' ys9 H9)->∃m',m'<n/\∃i ys σ' H',Inv X' [] σ' H' s9/\dz 2 ix σ σ'/\tn i s9.heap/\(∀b∈fp,H' b=none)/\W i m' ys H':=fun{H9 s9 ys9 σ9} I9 c9 ⟨m',hm,w9⟩=>by
    refine⟨m',hm,i+1,ys9,_,H9,I9.dG,c9,T.keep _ _ _ st7 fun b hb o e=>(I9.pin (b,o) (List.mem_append_right _ (List.mem_append_right _ (br hb e)))).1,fun b hb=>?_,w9⟩
    obtain⟨o,e,_⟩:=T.obj _ _ st7 b hb
    exact(I9.pin (b,o) (List.mem_append_right _ (List.mem_append_right _ (br hb e)))).2.1
   have he':=he cl s3.heap.objs.size s3 H3 fp
   have hg':=hg cl s3.heap.objs.size s3 H3 fp
   have hg2':=hg2 cl s3.heap.objs.size s3 H3 fp
   have hi2':=hi2 cl s3.heap.objs.size s3 H3 fp
   rw[hX'] at he' hg' hg2' hi2'
   rw[<- hXe]
   have a0:=hg' _ s7 σ5 H7 z u (fun σ2 Hn=>σ2=σ5.set 0 (some z)/\Hn=H7) I7' r7 ⟨rfl,rfl⟩
   rw[hXp,hXw,hXA,hXx] at a0
   refine thn a0 fun _ s8 ⟨σ8,H8,I8,e8,e8'⟩=>?_
   subst e8 e8'
   have a1:=hi2' _ s8 _ H8 _ I8 (step σ5 z H8 hσ y7)
   rw[hXp,hXw,hXA,hXx] at a1
   refine thn a1 fun v2 s9 h9=>thn h9 fun itv2 s10 h10=>?_
   obtain⟨it2,fp2,tn2,J2,H10,e10,I10,T2,st10,f10,V,⟨m2,v0⟩,turn2⟩:=h10
   subst e10
   rw[hXp,hXw,hXK] at T2
   have stat2:∀{H':Hp},(∀b∈fp2,H' b=none)->∀b∈fp2,i5 X' ([]++eG fp s7.heap) H' b:=fun hn b hb=>⟨hn b hb,(f10 b hb).2⟩
   have inner:codeAny (model X.prog X.w) X.A (.compLoop (.ListComp elt [⟨tg,iter,[],0⟩,⟨tg2,iter2,[],0⟩] scope pos) 1 (.ref it2) (.ref acc) X'.env) (fun r s'=>match r with
     | .ok _=>∃m',m'<n/\∃i ys σ' H',Inv X' [] σ' H' s'/\dz 2 ix σ σ'/\tn i s'.heap/\(∀b∈fp,H' b=none)/\W i m' ys H'
     | .error _=>False) s10:=by
    refine rL (fun m s'=>∃j zs uo H',Inv X' ([]++eG fp s7.heap) ((σ5.set 0 (some z)).set 1 uo) H' s'/\tn2 j s'.heap/\(∀b∈fp2,H' b=none)/\V j m zs H') (fun m s11 h11=>?_) m2 ⟨0,ys,((σ5.set 0 (some z))[1]?).join,H10,?_,st10,fun b hb=>(f10 b hb).1,v0⟩
    ·obtain⟨j,zs,uo,H11,I11,st11,fr11,v11⟩:=h11
     rcases turn2 j m zs H11 v11 with⟨stop2,q2⟩ | ⟨go2,step2⟩
     ·have d:=T2.done X' hXp hXw hXK hXc j _ s11 _ H11 (fun _ _=>False) I11 (stat2 fr11) st11 stop2
      rw[hXA] at d
      refine thn d fun r s12 ⟨hr,I12⟩=>?_
      subst hr
      exact again I12 (IsC (IsC hσ (by decide)) (by decide)) q2
     ·have d:=T2.item X' hXp hXw hXK hXc j _ s11 _ H11 (fun _ _=>False) I11 (stat2 fr11) st11 go2
      rw[hXA] at d
      refine thn d fun r s12 ⟨u2,hr,h12⟩=>?_
      subst hr
      refine thn h12 fun _ s13 ⟨z2,H13,I13,r13,y13,st13,fr13⟩=>?_
      have I13':=I13.pinned (stat2 fr13) (T2.obj _ _ st13)
      have b0:=hg2' _ s13 _ H13 z2 u2 (fun σ2 Hn=>σ2=((σ5.set 0 (some z)).set 1 uo).set 1 (some z2)/\Hn=H13) I13' r13 ⟨rfl,rfl⟩
      rw[hXp,hXw,hXA,hXx] at b0
      refine thn b0 fun _ s14 ⟨σ14,H14,I14,e14,e14'⟩=>?_
      subst e14 e14'
      rw[List.set_set] at I14
      have b1:=he' _ s14 _ H14 _ I14 (step2 z2 H14 y13)
      rw[hXp,hXw,hXA,hXx] at b1
      refine thn b1 fun yv s15 ⟨y,H15,I15,r15,ks,q1,q2,q3⟩=>?_
      have b2:=eh (X:=X') _ s15 _ H15 (.ref acc) [y] (.ref acc) [yv] (fun _ Hq=>∃m',m'<m/\V (j+1) m' (ks++[y]) Hq) I15 rfl (.cons r15 .nil) ⟨acc,ks,y,rfl,rfl,q1,q2,q3⟩
      rw[hXp,hXw,hXA,hXx] at b2
      refine thn b2 fun _ s16 ⟨_,H16,I16,_,m',hm',w16⟩=>?_
      refine⟨m',hm',j+1,ks++[y],some z2,H16,I16.dG,T2.keep _ _ _ st13 fun b hb o e=>(I16.pin (b,o) (List.mem_append_right _ (List.mem_append_right _ (br hb e)))).1,fun b hb=>?_,w16⟩
      obtain⟨o,e,_⟩:=T2.obj _ _ st13 b hb
      exact(I16.pin (b,o) (List.mem_append_right _ (List.mem_append_right _ (br hb e)))).2.1
    ·have:(σ5.set 0 (some z)).set 1 ((σ5.set 0 (some z))[1]?).join=σ5.set 0 (some z):=by
      obtain⟨ts,hl,e⟩:=hσ
      match ts,hl with
      | [p,q],_=>rw[e];rfl
     rw[this];exact I10
   refine qP inner ?_
   exact T2.self _ 0 _ _ _ st10 inner
 refine codeAny_compStart_list (loop _) ?_
 exact T.self _ 0 _ _ _ (T.keep _ _ _ st3' fun b _ o q=>keep4 b o q) (loop _)
section
variable {X:Cx} {elt iter tg iter2 tg2:Expr} {scope osc:Scope} {pos:Pos} {wi wi2:TI} {te:TE}
theorem rA {y:Str} {py spos:Pos} {i:Nat} (ix:List Nat) (tn' N':List Str) (h2n:tn'.length=2)
  (hxe:X.xe=fun _ _=>False) (hc:X.calm=true) (ho:X.env.scope=osc) (hN:N'=tn'++ix.map fun i=>(X.N[i]?).getD ("" : Str)) (hnd:N'.Nodup)
  (hall:(∀y∈scope.names,y.2=.free->osc.names.lookup y.1=some .cell)/\(∀y∈scope.names,y.2≠.cell)/\scope.kind=.function/\(∀y∈scope.names,y.2=.local->scope.names.lookup y.1=some .local)/\(∀y∈N'.drop tn'.length,scope.names.lookup y=some .free))
  (hi:PI X tg iter wi) (hg:∀cl C ao ar fp,PG (aB X scope cl C ao ar fp N') tg (cf 0)) (hi2:∀cl C ao ar fp,PI (aB X scope cl C ao ar fp N') tg2 iter2 wi2) (hg2:∀cl C ao ar fp,PG (aB X scope cl C ao ar fp N') tg2 (cf 1))
  (he:∀cl C ao ar fp,PE (aB X scope cl C ao ar fp N') elt te)
  (hNN:X.N.Nodup) (hy:X.N[i]?=some y) (hl:X.env.scope.names.lookup y=some .local)
  (hsw:swapsWith (.ListComp elt [⟨tg,iter,[],0⟩,⟨tg2,iter2,[],0⟩] scope pos) (some (.Name y py)) spos.line X.env=pure true:=by rfl)
  (hs:∀x,foldedSetIterable iter X.env x=pure x:=by intro _;rfl) (hs2:∀env x,foldedSetIterable iter2 env x=pure x:=by intro _ _;rfl) :
  PS X (.Assign [.Name y py] (.ListComp elt [⟨tg,iter,[],0⟩,⟨tg2,iter2,[],0⟩] scope pos) spos) (yY (ki wi ix wi2 te) (cf i)):=by
 intro pins s σ H D I h
 rw[exec_Assign_Name_used _ _ _ _ hsw]
 refine wpAny_bind (wpAny_standAt ?_)
 show wpAny _ _ (evalThenUse (.ListComp elt [⟨tg,iter,[],0⟩,⟨tg2,iter2,[],0⟩] scope pos) X.env (assign (.Name y py) X.env) >>= fun _=>pure Flow.next) _ _ _
 refine wpAny_bind ?_
 show wpAny _ _ (comprehension (.ListComp elt [⟨tg,iter,[],0⟩,⟨tg2,iter2,[],0⟩] scope pos) scope X.env (firstIterPos [⟨tg,iter,[],0⟩,⟨tg2,iter2,[],0⟩] pos) (newList []) false (eval iter X.env) (some (assign (.Name y py) X.env)) >>= fun _=>pure ()) _ _ _
 refine wpAny_bind (vo (use:=some (assign (.Name y py) X.env)) ix N' hxe hc ho hN hnd hall hi hg hi2 hg2 he hs hs2 h2n I h fun acc C H5 s5 o I5 cC hC pC hm q=>?_)
 obtain⟨m,hm⟩:=hm
 refine wpAny_assign_Name (fK (i:=i) (v:=.ref acc) I5 hNN hy (.inl hl) rfl (fun s6 I6=>?_) (.inr hl))
 refine⟨m,hm _ (I6.pin (C,o) (List.mem_append_right _ (List.mem_append_right _ (List.mem_singleton.mpr rfl)))).1,fun h' hs'=>?_⟩
 exact wpAny_pure (wpAny_pure ⟨_,H5,I6.AN cC hC pC hs',q⟩)
end
end L2
namespace L2.FE
open PySem PySem.Spec PyProof.Rows
noncomputable def cx (ix:List Nat) (env:En) (a b:Option D):En:=a::b::ix.map fun i=>(env[i]?).join
noncomputable def tu (n0:Nat) (y:D) (h:Hh):R Unit:=match ay h n0 with
 | some ds=>if ds.length<1000000 then .ok () (h.set n0 (.lst (ds++[y]))) else .bad
 | none=>.bad
noncomputable def lI (n0:Nat) (rd:Rdr) (te:ME) (ff:D->En):Nat->Nat->Hh->R Unit
 | k,j,h=>match rd h j with
  | none=>.bad
  | some none=>.ok () h
  | some (some e)=>match k with
   | 0=>.bad
   | k+1=>(te (ff e) h).bind fun y h2=>(tu n0 y h2).bind fun _ h3=>lI n0 rd te ff k (j+1) h3
noncomputable def jy (n0:Nat) (rd:Rdr) (mi2:MI) (te:ME) (ff:Option D->Option D->En):Nat->Nat->Hh->R Unit
 | k,i,h=>match rd h i with
  | none=>.bad
  | some none=>.ok () h
  | some (some d)=>match k with
   | 0=>.bad
   | k+1=>(mi2 (ff (some d) none) h).bind fun sr h1=>(lI n0 sr.rdr te (fun e=>ff (some d) (some e)) (sr.fuel h1) 0 h1).bind fun _ h2=>jy n0 rd mi2 te ff k (i+1) h2
noncomputable def gq (mi:MI) (ix:List Nat) (mi2:MI) (te:ME):ME:=fun env h=>(mi env h).bind fun sr h1=>(jy h1.length sr.rdr mi2 te (cx ix env) (sr.fuel h1) 0 (h1++[.lst []])).bind fun _ h2=>.ok (.ref h1.length) h2
section
variable {K:PySem.W.Frag} {g:GG}
theorem jM {α:List Addr} {H:Hp} {env:En} {σ:St} {ix:List Nat} {a b:Option D} {p q:Option V} (s:ie K g α H env σ) (ra:∀d,a=some d->∃v,p=some v/\aC K g α H d v) (rb:∀d,b=some d->∃v,q=some v/\aC K g α H d v):ie K g α H (cx ix env a b) (p::q::ix.map fun i=>(σ[i]?).join):=by
 refine⟨by simp[cx],fun i e h=>?_⟩
 match i with
 | 0=>
  have:a=some e:=by simpa [cx] using h
  obtain⟨v,rfl,r⟩:=ra e this
  exact⟨v,rfl,r⟩
 | 1=>
  have:b=some e:=by simpa [cx] using h
  obtain⟨v,rfl,r⟩:=rb e this
  exact⟨v,rfl,r⟩
 | i+2=>
  have h':(ix.map fun i=>(env[i]?).join)[i]?=some (some e):=by simpa [cx] using h
  rw[List.getElem?_map] at h'
  cases ei:ix[i]? with
  | none=>rw[ei] at h';cases h'
  | some j=>
   rw[ei] at h'
   have h2:(env[j]?).join=some e:=by simpa using h'
   cases ej:env[j]? with
   | none=>rw[ej] at h2;cases h2
   | some oe=>
    rw[ej] at h2
    have h3:oe=some e:=by simpa using h2
    subst h3
    obtain⟨u,eu,ru⟩:=s.vars j e ej
    refine⟨u,?_,ru⟩
    simp only[List.getElem?_cons_succ,List.getElem?_map,ei,Option.map_some,eu]
    rfl
theorem iJ {α α':List Addr} {n:Nat} {p:Addr} {H H':Hp} (e:Ext K α H α' H') (h:α[n]?=some p):α'[n]?=some p:=by
 obtain⟨l,rfl⟩:=e.toEx0.pre
 rw[List.getElem?_append_left]
 ·exact h
 ·by_cases hl:n<α.length
  ·exact hl
  ·rw[List.getElem?_eq_none (by omega)] at h;cases h
theorem vP {mi mi2:MI} {te:ME} {ix:List Nat} {σ:St} {H:Hp} {Q:VK} (t:tM K g E00 (gq mi ix mi2 te) σ H Q):ki (tMI K g E00 mi) ix (tMI K g E00 mi2) (tM K g E00 te) σ H Q:=by
 obtain⟨α,env,h,s,w⟩:=t
 unfold gq at w
 refine⟨α,env,h,s,w.bind.mono fun sr h1 _ w1 J H1 α1 e1 hr1 rd=>fun acc hacc=>?_⟩
 have s1:=s.ext e1 hr1
 have xp:Ext K α1 H1 (α1++[acc]) (upd H1 acc (.lst [])):=Ext.push hacc
 have hrp:aM K g (α1++[acc]) (upd H1 acc (.lst [])) (h1++[.lst []]):=hr1.push hacc ⟨[],aO,.nil⟩
 have p0:(α1++[acc])[h1.length]?=some acc:=by rw[<- hr1.len];simp
 refine⟨fun i m ys H=>∃α h,Ext K α1 H1 α H/\α[h1.length]?=some acc/\aM K g α H h ∧
  WQ K g E00 α1 H1 ((jy h1.length sr.rdr mi2 te (cx ix env) m i h).bind fun _ h2=>.ok (.ref h1.length) h2) (aI K g α1 H1 Q),
  ⟨sr.fuel h1,_,_,xp,p0,hrp,w1.post e1⟩,?_⟩
 rintro i m ys H2 ⟨α2,h2,x2,p2,hr2,w2⟩
 have q:=rd α2 H2 h2 x2 hr2 i
 unfold jy at w2
 cases e:sr.rdr h2 i with
 | none=>rw[e] at w2;exact w2.elim
 | some od=>
  rw[e] at w2 q
  cases od with
  | none=>exact .inl ⟨q,(show aI K g α1 H1 Q (.ref h1.length) h2 from w2) _ _ _ x2 hr2 (.ref p2)⟩
  | some d=>
   cases m with
   | zero=>exact w2.elim
   | succ m=>
    rw[aZ] at w2
    have w3:=WQ.bind (show WQ K g E00 α1 H1 ((mi2 (cx ix env (some d) none) h2).bind _) _ from w2)
    refine .inr ⟨q.1,fun σ0 x H3 hcap y=>?_⟩
    obtain⟨ts,hl,hσ0⟩:=hcap
    match ts,hl with
    | [v0,q0],_=>
    subst hσ0
    obtain⟨α3,x3,hr3,rx⟩:=q.2 x H3 y
    have s3:cG K g α3 H3 (cx ix env (some d) none) (some x::q0::ix.map fun i=>(σ[i]?).join) h2:=⟨hr3,jM (s1.vs.ext (x2.trans x3)) (fun d' hd=>by cases hd;exact⟨x,rfl,rx⟩) (fun d' hd=>by cases hd)⟩
    refine⟨α3,_,h2,s3,((w3.ext x2).ext x3).mono fun sr2 h4 _ w4 J2 H4 α4 x4 hr4 rd2=>?_⟩
    have x14:=x2.trans (x3.trans x4)
    have p4:=iJ (x3.trans x4) p2
    refine⟨fun j m2 zs H=>∃α h,Ext K α4 H4 α H/\aM K g α H h ∧
     WQ K g E00 α1 H1 (((lI h1.length sr2.rdr te (fun e=>cx ix env (some d) (some e)) m2 j h).bind fun _ h2=>jy h1.length sr.rdr mi2 te (cx ix env) m (i+1) h2).bind fun _ h2=>.ok (.ref h1.length) h2) (aI K g α1 H1 Q),
     ⟨sr2.fuel h4,α4,h4,Ext.refl,hr4,w4⟩,?_⟩
    rintro j m2 zs H5 ⟨α5,h5,x5,hr5,w5⟩
    have q2:=rd2 α5 H5 h5 x5 hr5 j
    have p5:=iJ x5 p4
    unfold lI at w5
    cases e2:sr2.rdr h5 j with
    | none=>rw[e2] at w5;exact w5.elim
    | some od2=>
     rw[e2] at w5 q2
     cases od2 with
     | none=>exact .inl ⟨q2,m,Nat.lt_succ_self _,α5,h5,x14.trans x5,p5,hr5,w5⟩
     | some d2=>
      cases m2 with
      | zero=>exact w5.elim
      | succ m2=>
       have w6:WQ K g E00 α1 H1 ((te (cx ix env (some d) (some d2)) h5).bind fun y h2=>(((tu h1.length y h2).bind fun _ h3=>lI h1.length sr2.rdr te (fun e=>cx ix env (some d) (some e)) m2 (j+1) h3).bind fun _ h2=>jy h1.length sr.rdr mi2 te (cx ix env) m (i+1) h2).bind fun _ h2=>.ok (.ref h1.length) h2) (aI K g α1 H1 Q):=by
        have:=w5
        simp only[aZ] at this ⊢
        exact this
       refine .inr ⟨q2.1,fun yv H6 yy=>?_⟩
       obtain⟨α6,x6,hr6,ry⟩:=q2.2 yv H6 yy
       have s6:cG K g α6 H6 (cx ix env (some d) (some d2)) (some x::some yv::ix.map fun i=>(σ[i]?).join) h5:=⟨hr6,jM (s1.vs.ext (x14.trans (x5.trans x6))) (fun d' hd=>by cases hd;exact⟨x,rfl,rx.ext (x4.trans (x5.trans x6))⟩) (fun d' hd=>by cases hd;exact⟨yv,rfl,ry⟩)⟩
       refine tM.use s6 ((WQ.bind w6).ext (x14.trans (x5.trans x6))) fun y h7 v7 H7 α7 x7 s7 r7 w7=>?_
       have p7:=iJ (x6.trans x7) p5
       unfold tu at w7
       cases el:ay h7 h1.length with
       | none=>rw[el] at w7;exact w7.elim
       | some ds=>
        rw[el] at w7
        dsimp only at w7
        by_cases hlen:ds.length<1000000
        ·rw[if_pos hlen] at w7
         obtain⟨vs,hv,rs⟩:=s7.heap.lst el p7
         have x:=Ext.write (K:=K) (o:=.lst (vs++[v7])) s7.heap p7
         exact⟨vs,hv,by rw[<- rs.length,sizeLine_eq];omega,m2,Nat.lt_succ_self _,α7,_,(x5.trans (x6.trans x7)).trans x,s7.heap.write (u':=.lst (ds++[y])) p7 ⟨_,aO,(rs.append (.cons r7 .nil)).ext x⟩,w7⟩
        ·rw[if_neg hlen] at w7;exact w7.elim
end
section
variable {X:Cx} {g:GG}
theorem l6 {elt iter iter2:Expr} {x y z:Str} {px py pz:Pos} {scope osc:Scope} {pos spos:Pos} {mi mi2:MI} {te:ME} {i:Nat} (ix:List Nat) (N':List Str)
  (hxe:X.xe=fun _ _=>False) (hc:X.calm=true) (ho:X.env.scope=osc) (hN:N'=[x,y]++ix.map fun i=>(X.N[i]?).getD ("" : Str)) (hnd:N'.Nodup)
  (hall:(∀y∈scope.names,y.2=.free->osc.names.lookup y.1=some .cell)/\(∀y∈scope.names,y.2≠.cell)/\scope.kind=.function/\(∀y∈scope.names,y.2=.local->scope.names.lookup y.1=some .local)/\(∀z∈N'.drop [x,y].length,scope.names.lookup z=some .free))
  (hi:PI X (.Name x px) iter (tMI X.K g E00 mi))
  (hx:∀cl C ao ar fp,Loc (aB X scope cl C ao ar fp N').env.scope x/\(aB X scope cl C ao ar fp N').env.scope.names.lookup x=some .local) (hy:∀cl C ao ar fp,Loc (aB X scope cl C ao ar fp N').env.scope y/\(aB X scope cl C ao ar fp N').env.scope.names.lookup y=some .local)
  (hi2:∀cl C ao ar fp,PI (aB X scope cl C ao ar fp N') (.Name y py) iter2 (tMI X.K g E00 mi2))
  (he:∀cl C ao ar fp,PE (aB X scope cl C ao ar fp N') elt (tM X.K g E00 te))
  (hNN:X.N.Nodup) (hz:X.N[i]?=some z) (hl:X.env.scope.names.lookup z=some .local:=by rfl)
  (hsw:swapsWith (.ListComp elt [⟨.Name x px,iter,[],0⟩,⟨.Name y py,iter2,[],0⟩] scope pos) (some (.Name z pz)) spos.line X.env=pure true:=by rfl)
  (hs:∀x,foldedSetIterable iter X.env x=pure x:=by intro _;rfl) (hs2:∀env x,foldedSetIterable iter2 env x=pure x:=by intro _ _;rfl) :
  PS X (.Assign [.Name z pz] (.ListComp elt [⟨.Name x px,iter,[],0⟩,⟨.Name y py,iter2,[],0⟩] scope pos) spos) (tMS X.K g E00 (bb i (gq mi ix mi2 te))):=
 PS.imp (rA ix [x,y] N' rfl hxe hc ho hN hnd hall hi (fun cl C ao ar fp=>bf (X:=aB X scope cl C ao ar fp N') hnd (show N'[0]?=some x by rw[hN];rfl) (hx cl C ao ar fp).1 (.inr (hx cl C ao ar fp).2)) hi2 (fun cl C ao ar fp=>bf (X:=aB X scope cl C ao ar fp N') hnd (show N'[1]?=some y by rw[hN];rfl) (hy cl C ao ar fp).1 (.inr (hy cl C ao ar fp).2)) he hNN hz hl hsw hs hs2) fun E σ H ⟨α,env,h,s,w⟩=>vP (Q:=fun v H1=>E.nx (σ.set i (some v)) H1) (tM.use s w.bind fun d1 h1 v1 H1 α1 e1 s1 r1 w1=>(show cK X.K g α H E (.nx (env.set i (some d1))) h1 from w1) H1 α1 e1 s1.heap _ (s1.vs.set r1))
end
end L2.FE
namespace L2
open PySem PySem.Spec PyProof.Rows
theorem sy {X:Cx} {use:Option (Value->Sem Unit)} {Q2:Value->Shared->Prop} {pins:List (Addr × Obj)} {s:Shared} {σ:St} {H:Hp} {Q:VK} {elt iter tg iter2 tg2:Expr} {tn':List Str} {scope osc:Scope} {pos:Pos} {wi wi2:TI} {te:TE} (ix:List Nat) (N':List Str)
  (hc:X.calm=true) (ho:X.env.scope=osc) (hN:N'=tn'++ix.map fun i=>(X.N[i]?).getD ("" : Str)) (hnd:N'.Nodup)
  (hall:(∀y∈scope.names,y.2=.free->osc.names.lookup y.1=some .cell)/\(∀y∈scope.names,y.2≠.cell)/\scope.kind=.function/\(∀y∈scope.names,y.2=.local->scope.names.lookup y.1=some .local)/\(∀y∈N'.drop tn'.length,scope.names.lookup y=some .free))
  (hi:PI X tg iter wi) (hg:∀cl C ao ar fp,PG (aB X.nox scope cl C ao ar fp N') tg (cf 0)) (hi2:∀cl C ao ar fp,PI (aB X.nox scope cl C ao ar fp N') tg2 iter2 wi2) (hg2:∀cl C ao ar fp,PG (aB X.nox scope cl C ao ar fp N') tg2 (cf 1))
  (he:∀cl C ao ar fp,PE (aB X.nox scope cl C ao ar fp N') elt te)
  (hs:∀x,foldedSetIterable iter X.env x=pure x) (hs2:∀env x,foldedSetIterable iter2 env x=pure x) (h2n:tn'.length=2) (I:Inv X pins σ H s) (h:ki wi ix wi2 te σ H Q)
  (hfin:∀(acc C:Addr) (H5:Hp) (s5:Shared) (o:Obj),Inv X (pins++[(C,o)]) σ H5 s5->(∀x c,X.env.cells.lookup x=some c->c≠C)->X.ao.heap.objs.size<=C->(∀p∈X.pn++pins,p.1≠C)->(∃m,∀h':Heap,h'.get? C=some o->h'.Ns C m)->Q (.ref acc) H5->compPost (model X.prog X.w) X.A X.xe use Q2 (.ref acc) C (.ok .next) s5) :
  wpAny (model X.prog X.w) X.A (comprehension (.ListComp elt [⟨tg,iter,[],0⟩,⟨tg2,iter2,[],0⟩] scope pos) scope X.env (firstIterPos [⟨tg,iter,[],0⟩,⟨tg2,iter2,[],0⟩] pos) (newList []) false (eval iter X.env) use) Q2 X.xe s:=by
 obtain⟨hfr,hcell,hkind,hnames,hcap⟩:=hall
 subst ho
 have outc:∀y∈scope.names,y.2=.free->X.env.kindOf y.1=some .cell:=fun y hy q=>hfr y hy q
 obtain⟨cl,hclos,hcl1,hcl2⟩:=fk (env:=X.env) (scope:=scope) fun y hy q=>I.ok.has y.1 (.inl (outc y hy q))
 refine wpAny_comprehension_free (use:=use) rfl hs hclos hkind hnames (thn (hi pins s σ H _ I h) fun v s1 h1=>thn h1 fun itv s2 h2=>?_)
 obtain⟨it,fp,tn,J,H2,e,I2,T,st2,f2,rest⟩:=h2
 subst e
 have hf2:H2 s2.heap.objs.size=none:=I2.hok.fresh (Nat.le_refl _)
 obtain⟨W,⟨m0,w0⟩,turn⟩:=rest s2.heap.objs.size hf2
 -- the list
 refine wpAny_newObj_type ?_
 have I3:Inv X pins σ (upd H2 s2.heap.objs.size (.lst [])) { s2 with heap:=s2.heap.push { cls:=.type "list", dict:=none,data:=.seq ([]:List Value).toArray } }:=I2.xv (its:=[]) (t':=s2.toks) .nil (Nat.zero_le _)
 have keep3:∀b o,s2.heap.get? b=some o->(s2.heap.push { cls:=.type "list", dict:=none,data:=.seq ([]:List Value).toArray }).get? b=some o:=fun b o q=>Heap.get?_push_of_some _ q
 have fp3:∀b∈fp,∃o,s2.heap.get? b=some o/\∀v,o.data≠.cell v:=T.obj _ _ st2
 have st3:tn 0 (s2.heap.push { cls:=.type "list", dict:=none,data:=.seq ([]:List Value).toArray }):=T.keep _ _ _ st2 fun b _ o q=>keep3 b o q
 have fpn:∀b∈fp,(upd H2 s2.heap.objs.size (HO.lst [])) b=none:=fun b hb=>by
  obtain⟨o,q,_⟩:=fp3 b hb
  rw[aH (Nat.ne_of_lt (Heap.lt_size q))]
  exact(f2 b hb).1
 revert I3 keep3 st3 fpn w0
 generalize hS3:({ s2 with heap:=s2.heap.push { cls:=.type "list", dict:=none,data:=.seq ([]:List Value).toArray } }:Shared)=s3
 generalize hH3:upd H2 s2.heap.objs.size (HO.lst [])=H3
 intro w0 I3 keep3 st3 fpn
 have acc3:H3 s2.heap.objs.size=some (.lst []):=by rw[<- hH3];exact aO
 generalize s2.heap.objs.size=acc at *
 have e3:s2.heap.push { cls:=.type "list", dict:=none,data:=.seq ([]:List Value).toArray }=s3.heap:=by rw[<- hS3]
 have keep3':∀b o,s2.heap.get? b=some o->s3.heap.get? b=some o:=fun b o q=>by rw[<- e3];exact keep3 b o q
 have st3':tn 0 s3.heap:=by rw[<- e3];exact st3
 refine wpAny_newFunctionEnv hcell (by intro y hy;simp at hy) (fun h₁ hns₁ hsb₁=>?_) hkind
 have hC:s3.heap.objs.size=s3.heap.objs.size:=rfl
 have keep4:∀b o,s3.heap.get? b=some o->h₁.get? b=some o:=fun b o q=>hsb₁.extBut b o (Nat.ne_of_lt (Heap.lt_size q)) (Heap.get?_push_of_some _ q)
 have fpC:∀b∈fp,b≠s3.heap.objs.size:=fun b hb=>by
  obtain⟨o,q,_⟩:=fp3 b hb
  exact Nat.ne_of_lt (Heap.lt_size (keep3' b o q))
 -- the block's context
 generalize hX':aB X.nox scope cl s3.heap.objs.size s3 H3 fp N'=X'
 have hXp:X'.prog=X.prog:=by rw[<- hX'];rfl
 have hXw:X'.w=X.w:=by rw[<- hX'];rfl
 have hXK:X'.K=X.K:=by rw[<- hX'];rfl
 have hXA:X'.A=X.A:=by rw[<- hX'];rfl
 have hXe:X'.env=compEnvC scope cl s3.heap.objs.size X.env:=by rw[<- hX'];rfl
 have hXc:X'.calm=true:=by rw[<- hX'];exact hc
 have hXx:X'.xe=fun _ _=>False:=by rw[<- hX'];rfl
 have hXf:X'.fs=frs X.stack:=by rw[<- hX'];rfl
 have hXex:X'.ex=fp:=by rw[<- hX'];rfl
 have hXN:X'.N=N':=by rw[<- hX'];rfl
 have hXs:X'.ao=s3:=by rw[<- hX'];rfl
 have hXH:X'.ar=H3:=by rw[<- hX'];rfl
 have hXpn:X'.pn=[]:=by rw[<- hX'];rfl
 have okX:X'.Ok:=by
  rw[<- hX']
  refine⟨I3.ok.mod,hkind,I3.ok.glob,I3.ok.blt,Nat.le_refl _,fun a b c p q=>I3.ok.inj a b c (hcl1 a c p) (hcl1 b c q),fun y hy=>?_,fun _ _ z=>(by cases z),I3.ok.hd,I3.ok.frames,.inl rfl,fun b hb=>⟨fpC b hb,fun y c p=>(f2 b hb).2.2.2.2.1 y c (hcl1 y c p)⟩,
   I3.bs,Nat.le_trans I3.ok.bsz I3.sz,fun b o p hb=>?_,fun b hb z=>?_,I3.stack,I3.kW⟩
  ·have hy':(relabel scope X.env).names.lookup y=some .cell\/(relabel scope X.env).names.lookup y=some .free:=hy
   have free:scope.names.lookup y=some .free->∃c,cl.lookup y=some c:=fun q=>hcl2 y (lookup_mem q)
   rcases hy' with q | q
   ·rcases bU q with z | ⟨z,_⟩
    ·exact absurd rfl (hcell _ (lookup_mem z))
    ·exact free z
   ·rcases bU q with z | ⟨_,z⟩
    ·exact free z
    ·cases z
  ·rcases(f2 b hb).2.2.2.1 with z | z
   ·exact I3.ok.tU b o p z
   ·exact absurd (Nat.lt_of_lt_of_le (Heap.lt_size p) (Nat.le_trans I3.ok.bsz z)) (Nat.lt_irrefl _)
  ·rcases List.mem_cons.mp (I3.iy b z) with q | q
   ·exact(f2 b hb).2.1 q
   ·exact(f2 b hb).2.2.1 q
 have I4:∀tk,Inv X' [] (ji tn'.length ix σ) H3 { s3 with heap:=h₁,toks:=tk }:=fun tk=>by
  have hloc:=I3.loc
  refine⟨okX,by rw[hXs],I3.bare,?_,⟨fun y=>([]:List (Str × Value)).reverse.lookup y,by rw[hXe];exact hns₁,fun i y v e1 e2 e3=>?_⟩,fun y c p=>?_,?_,fun y c p=>?_,fun p hp=>?_,?_,?_⟩
  ·rw[hXf,hXex,hXH,hXs];exact Un.kept keep4
  ·rw[hXN,hN] at e1
   by_cases hit':i<tn'.length
   ·exfalso
    unfold ji at e2
    rw[List.getElem?_append_left (by simpa using hit'),List.getElem?_replicate,if_pos hit'] at e2
    cases e2
   ·have e10:N'[i]?=some y:=by rw[hN];exact e1
    obtain⟨j,rfl⟩:∃j,i=tn'.length+j:=⟨i - tn'.length,by omega⟩
    have e1':(ix.map fun i=>(X.N[i]?).getD ("" : Str))[j]?=some y:=by
     rw[List.getElem?_append_right (by omega)] at e1
     rw[show tn'.length+j - tn'.length=j by omega] at e1
     exact e1
    have e2':(ix.map fun i=>(σ[i]?).join)[j]?=some (some v):=by
     unfold ji at e2
     rw[List.getElem?_append_right (by simp)] at e2
     simpa using e2
    rw[List.getElem?_map] at e1' e2'
    cases hj:ix[j]? with
    | none=>rw[hj] at e1';cases e1'
    | some i0=>
     rw[hj] at e1' e2'
     have e1'':(X.N[i0]?).getD ("" : Str)=y:=by simpa using e1'
     have e2'':(σ[i0]?).join=some v:=by simpa using e2'
     have hsv:σ[i0]?=some (some v):=by
      cases q:σ[i0]? with
      | none=>rw[q] at e2'';cases e2''
      | some z=>rw[q] at e2'';have:z=some v:=by simpa using e2''
                rw[this]
     have hlt:i0<X.N.length:=by
      have:=(List.getElem?_eq_some_iff.mp hsv).1
      rw[I3.len] at this;exact this
     have hNy:X.N[i0]?=some y:=by
      rw[List.getElem?_eq_getElem hlt] at e1'' ⊢
      simpa using e1''
     have hyt:y∈N'.drop tn'.length:=by
      refine List.mem_of_getElem? (i:=j) ?_
      rw[List.getElem?_drop];exact e10
     have hyf:=hcap y hyt
     have hyc:=outc (y,.free) (lookup_mem hyf) rfl
     obtain⟨m,hn,hl⟩:=hloc
     obtain⟨u,r,l⟩:=hl i0 y v hNy hsv (.inr (.inl hyc))
     refine⟨u,r,?_⟩
     rcases l with⟨k1,_⟩ | ⟨_,c,p,z⟩
     ·have hyc':X.env.kindOf y=some .cell:=hyc
      rw[k1] at hyc';cases hyc'
     ·obtain⟨c',p'⟩:=hcl2 y (lookup_mem hyf)
      have pc:c'=c:=by
       have:=hcl1 y c' p'
       rw[p] at this;cases this;rfl
      subst pc
      refine .inr ⟨.inl ?_,c',by rw[hXe];exact p',?_⟩
      ·rw[hXe];exact bJ I3.ok.kind hyf hyc
      ·obtain⟨o,q1,q2⟩:=z
       exact⟨o,keep4 c' o q1,q2⟩
  ·rw[hXe] at p
   obtain⟨v,o,q1,q2⟩:=I3.cell y c (hcl1 y c p)
   exact⟨v,o,keep4 c o q1,q2⟩
  ·rw[hXe];exact I3.hok.fresh (Nat.le_refl _)
  ·rw[hXe] at p;exact I3.gw y c (hcl1 y c p)
  ·rw[hXpn] at hp;cases hp
  ·rw[hXp,hXw];exact I3.hok.kept keep4
  ·rw[hXN,hN];simp[ji]
 -- the loop
 have stat:∀{H':Hp},(∀b∈fp,H' b=none)->∀b∈fp,i5 X' [] H' b:=fun hn b hb=>by
  refine⟨hn b hb,by rw[hXe];exact fpC b hb,?_,.inl (by rw[hXex];exact hb),fun y c p=>?_,fun p hp=>by rw[hXpn] at hp;cases hp⟩
  ·rw[hXf];intro z
   rcases List.mem_cons.mp (I3.iy b z) with q | q
   ·exact(f2 b hb).2.1 q
   ·exact(f2 b hb).2.2.1 q
  ·rw[hXe] at p;exact(f2 b hb).2.2.2.2.1 y c (hcl1 y c p)
 have fin:∀{H5:Hp} {s5:Shared} {σ5:St},Inv X' [] σ5 H5 s5->Q (.ref acc) H5->compPost (model X.prog X.w) X.A X.xe use Q2 (.ref acc) s3.heap.objs.size (.ok .next) s5:=fun{H5 s5 σ5} I5 q=>by
  obtain⟨m,hn,_⟩:=I5.loc
  rw[hXe] at hn
  have hn':s5.heap.Ns s3.heap.objs.size m:=hn
  obtain⟨oC,esC,epC,hC1,hC2,hC3⟩:=hn'
  have u5:=I5.base
  rw[hXf,hXex,hXH,hXs] at u5
  have fr:H5 s3.heap.objs.size=none:=by have:=I5.free;rw[hXe] at this;exact this
  have hok5:=I5.hok
  rw[hXp,hXw] at hok5
  have hos:s5.os=s3.os:=by have:=I5.os;rw[hXs] at this;exact this
  have IX:Inv X pins σ H5 s5:=I3.n9 (s':=s5) (ch:=fp) hos u5 hok5 I5.bare (fun b hb=>by
   obtain⟨g0,g1,g2,g3,g4,g5⟩:=f2 b hb
   exact⟨g3,g1,g4,g5⟩)
  have cC:∀x c,X.env.cells.lookup x=some c->c≠s3.heap.objs.size:=fun x c z e=>by
   obtain⟨v,q⟩:=I3.cell x c z
   exact absurd q.lt (by rw[e];exact Nat.lt_irrefl _)
  have pC:∀p∈X.pn++pins,p.1≠s3.heap.objs.size:=fun p hp e=>by
   have:=Heap.lt_size (I3.pin p hp).1
   rw[e] at this
   exact Nat.lt_irrefl _ this
  refine hfin acc s3.heap.objs.size H5 s5 oC (IX.iG fun p hp=>?_) cC I3.sz pC ⟨m,fun h' z=>⟨oC,esC,epC,z,hC2,hC3⟩⟩ q
  rcases List.mem_append.mp hp with z | z
  ·exact IX.pin p (List.mem_append_right _ z)
  ·have e:=List.mem_singleton.mp z
   subst e
   refine⟨hC1,fr,Nat.ne_of_gt I3.lt,I3.zw (Nat.le_refl _),fun v e=>?_⟩
   have e':oC.data=.cell v:=e
   rw[hC2] at e';cases e'
 have IsC:∀{σ0:St} {i:Nat} {v:Option V},dz 2 ix σ σ0->i<2->dz 2 ix σ (σ0.set i v):=fun{σ0 i v} ⟨ts,hl,e⟩ hi=>⟨ts.set i v,by rw[List.length_set];exact hl,by rw[e,List.set_append_left _ _ (by rw[hl];exact hi)]⟩
 have loop:∀tk,codeAny (model X.prog X.w) X.A (.compLoop (.ListComp elt [⟨tg,iter,[],0⟩,⟨tg2,iter2,[],0⟩] scope pos) 0 (.ref it) (.ref acc) (compEnvC scope cl s3.heap.objs.size X.env))
   (compPost (model X.prog X.w) X.A X.xe use Q2 (.ref acc) s3.heap.objs.size) { s3 with heap:=h₁,toks:=tk }:=fun tk=>by
  refine nP (fun n s'=>∃i ys σ' H',Inv X' [] σ' H' s'/\dz 2 ix σ σ'/\tn i s'.heap/\(∀b∈fp,H' b=none)/\W i n ys H') (hs2 _) (fun n s5 h5=>?_) m0
   ⟨0,[],ji tn'.length ix σ,H3,I4 tk,⟨_,by rw[List.length_replicate];exact h2n,rfl⟩,T.keep _ _ _ st3' fun b _ o q=>keep4 b o q,fpn,w0⟩
  obtain⟨i,ys,σ5,H5,I5,hσ,st5,fr5,w5⟩:=h5
  rcases turn i n ys H5 w5 with⟨stop,q⟩ | ⟨go,step⟩
  ·have d:=T.done X' hXp hXw hXK hXc i [] s5 σ5 H5 (fun _ _=>False) I5 (stat fr5) st5 stop
   rw[hXA] at d
   refine thn d fun r s6 ⟨hr,I6⟩=>?_
   subst hr
   exact fin I6 q
  ·have d:=T.item X' hXp hXw hXK hXc i [] s5 σ5 H5 (fun _ _=>False) I5 (stat fr5) st5 go
   rw[hXA] at d
   refine thn d fun r s6 ⟨u,hr,h6⟩=>?_
   subst hr
   refine thn h6 fun _ s7 ⟨z,H7,I7,r7,y7,st7,fr7⟩=>?_
   have I7':=I7.pinned (stat fr7) (T.obj _ _ st7)
   have again:∀{H9:Hp} {s9:Shared} {ys9:List V} {σ9:St},Inv X' ([]++eG fp s7.heap) σ9 H9 s9->dz 2 ix σ σ9->(∃m',m'<n/\W (i+1) m' ys9 H9)->∃m',m'<n/\∃i ys σ' H',Inv X' [] σ' H' s9/\dz 2 ix σ σ'/\tn i s9.heap/\(∀b∈fp,H' b=none)/\W i m' ys H':=fun{H9 s9 ys9 σ9} I9 c9 ⟨m',hm,w9⟩=>by
    refine⟨m',hm,i+1,ys9,_,H9,I9.dG,c9,T.keep _ _ _ st7 fun b hb o e=>(I9.pin (b,o) (List.mem_append_right _ (List.mem_append_right _ (br hb e)))).1,fun b hb=>?_,w9⟩
    obtain⟨o,e,_⟩:=T.obj _ _ st7 b hb
    exact(I9.pin (b,o) (List.mem_append_right _ (List.mem_append_right _ (br hb e)))).2.1
   have he':=he cl s3.heap.objs.size s3 H3 fp
   have hg':=hg cl s3.heap.objs.size s3 H3 fp
   have hg2':=hg2 cl s3.heap.objs.size s3 H3 fp
   have hi2':=hi2 cl s3.heap.objs.size s3 H3 fp
   rw[hX'] at he' hg' hg2' hi2'
   rw[<- hXe]
   have a0:=hg' _ s7 σ5 H7 z u (fun σ2 Hn=>σ2=σ5.set 0 (some z)/\Hn=H7) I7' r7 ⟨rfl,rfl⟩
   rw[hXp,hXw,hXA,hXx] at a0
   refine thn a0 fun _ s8 ⟨σ8,H8,I8,e8,e8'⟩=>?_
   subst e8 e8'
   have a1:=hi2' _ s8 _ H8 _ I8 (step σ5 z H8 hσ y7)
   rw[hXp,hXw,hXA,hXx] at a1
   refine thn a1 fun v2 s9 h9=>thn h9 fun itv2 s10 h10=>?_
   obtain⟨it2,fp2,tn2,J2,H10,e10,I10,T2,st10,f10,V,⟨m2,v0⟩,turn2⟩:=h10
   subst e10
   rw[hXp,hXw,hXK] at T2
   have stat2:∀{H':Hp},(∀b∈fp2,H' b=none)->∀b∈fp2,i5 X' ([]++eG fp s7.heap) H' b:=fun hn b hb=>⟨hn b hb,(f10 b hb).2⟩
   have inner:codeAny (model X.prog X.w) X.A (.compLoop (.ListComp elt [⟨tg,iter,[],0⟩,⟨tg2,iter2,[],0⟩] scope pos) 1 (.ref it2) (.ref acc) X'.env) (fun r s'=>match r with
     | .ok _=>∃m',m'<n/\∃i ys σ' H',Inv X' [] σ' H' s'/\dz 2 ix σ σ'/\tn i s'.heap/\(∀b∈fp,H' b=none)/\W i m' ys H'
     | .error _=>False) s10:=by
    refine rL (fun m s'=>∃j zs uo H',Inv X' ([]++eG fp s7.heap) ((σ5.set 0 (some z)).set 1 uo) H' s'/\tn2 j s'.heap/\(∀b∈fp2,H' b=none)/\V j m zs H') (fun m s11 h11=>?_) m2 ⟨0,ys,((σ5.set 0 (some z))[1]?).join,H10,?_,st10,fun b hb=>(f10 b hb).1,v0⟩
    ·obtain⟨j,zs,uo,H11,I11,st11,fr11,v11⟩:=h11
     rcases turn2 j m zs H11 v11 with⟨stop2,q2⟩ | ⟨go2,step2⟩
     ·have d:=T2.done X' hXp hXw hXK hXc j _ s11 _ H11 (fun _ _=>False) I11 (stat2 fr11) st11 stop2
      rw[hXA] at d
      refine thn d fun r s12 ⟨hr,I12⟩=>?_
      subst hr
      exact again I12 (IsC (IsC hσ (by decide)) (by decide)) q2
     ·have d:=T2.item X' hXp hXw hXK hXc j _ s11 _ H11 (fun _ _=>False) I11 (stat2 fr11) st11 go2
      rw[hXA] at d
      refine thn d fun r s12 ⟨u2,hr,h12⟩=>?_
      subst hr
      refine thn h12 fun _ s13 ⟨z2,H13,I13,r13,y13,st13,fr13⟩=>?_
      have I13':=I13.pinned (stat2 fr13) (T2.obj _ _ st13)
      have b0:=hg2' _ s13 _ H13 z2 u2 (fun σ2 Hn=>σ2=((σ5.set 0 (some z)).set 1 uo).set 1 (some z2)/\Hn=H13) I13' r13 ⟨rfl,rfl⟩
      rw[hXp,hXw,hXA,hXx] at b0
      refine thn b0 fun _ s14 ⟨σ14,H14,I14,e14,e14'⟩=>?_
      subst e14 e14'
      rw[List.set_set] at I14
      have b1:=he' _ s14 _ H14 _ I14 (step2 z2 H14 y13)
      rw[hXp,hXw,hXA,hXx] at b1
      refine thn b1 fun yv s15 ⟨y,H15,I15,r15,ks,q1,q2,q3⟩=>?_
      have b2:=eh (X:=X') _ s15 _ H15 (.ref acc) [y] (.ref acc) [yv] (fun _ Hq=>∃m',m'<m/\V (j+1) m' (ks++[y]) Hq) I15 rfl (.cons r15 .nil) ⟨acc,ks,y,rfl,rfl,q1,q2,q3⟩
      rw[hXp,hXw,hXA,hXx] at b2
      refine thn b2 fun _ s16 ⟨_,H16,I16,_,m',hm',w16⟩=>?_
      refine⟨m',hm',j+1,ks++[y],some z2,H16,I16.dG,T2.keep _ _ _ st13 fun b hb o e=>(I16.pin (b,o) (List.mem_append_right _ (List.mem_append_right _ (br hb e)))).1,fun b hb=>?_,w16⟩
      obtain⟨o,e,_⟩:=T2.obj _ _ st13 b hb
      exact(I16.pin (b,o) (List.mem_append_right _ (List.mem_append_right _ (br hb e)))).2.1
    ·have:(σ5.set 0 (some z)).set 1 ((σ5.set 0 (some z))[1]?).join=σ5.set 0 (some z):=by
      obtain⟨ts,hl,e⟩:=hσ
      match ts,hl with
      | [p,q],_=>rw[e];rfl
     rw[this];exact I10
   refine qP inner ?_
   exact T2.self _ 0 _ _ _ st10 inner
 refine codeAny_compStart_list (loop _) ?_
 exact T.self _ 0 _ _ _ (T.keep _ _ _ st3' fun b _ o q=>keep4 b o q) (loop _)
section
variable {X:Cx} {elt iter tg iter2 tg2:Expr} {scope osc:Scope} {pos:Pos} {wi wi2:TI} {te:TE}
theorem vM (ix:List Nat) (tn' N':List Str) (h2n:tn'.length=2)
  (hc:X.calm=true) (ho:X.env.scope=osc) (hN:N'=tn'++ix.map fun i=>(X.N[i]?).getD ("" : Str)) (hnd:N'.Nodup)
  (hall:(∀y∈scope.names,y.2=.free->osc.names.lookup y.1=some .cell)/\(∀y∈scope.names,y.2≠.cell)/\scope.kind=.function/\(∀y∈scope.names,y.2=.local->scope.names.lookup y.1=some .local)/\(∀y∈N'.drop tn'.length,scope.names.lookup y=some .free))
  (hi:PI X tg iter wi) (hg:∀cl C ao ar fp,PG (aB X.nox scope cl C ao ar fp N') tg (cf 0)) (hi2:∀cl C ao ar fp,PI (aB X.nox scope cl C ao ar fp N') tg2 iter2 wi2) (hg2:∀cl C ao ar fp,PG (aB X.nox scope cl C ao ar fp N') tg2 (cf 1))
  (he:∀cl C ao ar fp,PE (aB X.nox scope cl C ao ar fp N') elt te)
  (hs:∀x,foldedSetIterable iter X.env x=pure x:=by intro _;rfl) (hs2:∀env x,foldedSetIterable iter2 env x=pure x:=by intro _ _;rfl) :
  PE X (.ListComp elt [⟨tg,iter,[],0⟩,⟨tg2,iter2,[],0⟩] scope pos) (ki wi ix wi2 te):=by
 intro pins s σ H Q I h
 have e:eval (.ListComp elt [⟨tg,iter,[],0⟩,⟨tg2,iter2,[],0⟩] scope pos) X.env=comprehension (.ListComp elt [⟨tg,iter,[],0⟩,⟨tg2,iter2,[],0⟩] scope pos) scope X.env (firstIterPos [⟨tg,iter,[],0⟩,⟨tg2,iter2,[],0⟩] pos) (newList []) false (eval iter X.env) none:=by
  rw[eval_ListComp];rfl
 rw[e]
 refine sy (use:=none) (Q2:=EP X pins σ Q) ix N' hc ho hN hnd hall hi hg hi2 hg2 he hs hs2 h2n I h fun acc C H5 s5 o I5 cC hC pC hm q=>?_
 obtain⟨m,hm⟩:=hm
 exact⟨m,hm _ (I5.pin (C,o) (List.mem_append_right _ (List.mem_append_right _ (List.mem_singleton.mpr rfl)))).1,fun h' hs'=>⟨.ref acc,H5,I5.AN cC hC pC hs',rfl,q⟩⟩
end
end L2
namespace L2.FE
open PySem PySem.Spec PyProof.Rows
noncomputable def iI (mi:MI) (ix:List Nat) (mi2:MI) (te:ME):ME:=fun env h=>(mi env h).bind fun sr h1=>noR (gq (fun _ h=>.ok sr h) ix mi2 te env h1)
section
variable {K:PySem.W.Frag} {g:GG}
theorem sU {ε:EE} {mi mi2:MI} {te:ME} {ix:List Nat} {σ:St} {H:Hp} {Q:VK} (t:tM K g ε (iI mi ix mi2 te) σ H Q):ki (tMI K g ε mi) ix (tMI K g E00 mi2) (tM K g E00 te) σ H Q:=by
 obtain⟨α,env,h,s,w⟩:=t
 unfold iI at w
 refine⟨α,env,h,s,w.bind.mono fun sr h1 _ w1 J H1 α1 e1 hr1 rd=>fun acc hacc=>?_⟩
 have w1:WQ K g E00 α H ((jy h1.length sr.rdr mi2 te (cx ix env) (sr.fuel h1) 0 (h1++[.lst []])).bind fun _ h2=>.ok (.ref h1.length) h2) (aI K g α H Q):=CD w1
 have s1:=s.ext e1 hr1
 have xp:Ext K α1 H1 (α1++[acc]) (upd H1 acc (.lst [])):=Ext.push hacc
 have hrp:aM K g (α1++[acc]) (upd H1 acc (.lst [])) (h1++[.lst []]):=hr1.push hacc ⟨[],aO,.nil⟩
 have p0:(α1++[acc])[h1.length]?=some acc:=by rw[<- hr1.len];simp
 refine⟨fun i m ys H=>∃α h,Ext K α1 H1 α H/\α[h1.length]?=some acc/\aM K g α H h ∧
  WQ K g E00 α1 H1 ((jy h1.length sr.rdr mi2 te (cx ix env) m i h).bind fun _ h2=>.ok (.ref h1.length) h2) (aI K g α1 H1 Q),
  ⟨sr.fuel h1,_,_,xp,p0,hrp,w1.post e1⟩,?_⟩
 rintro i m ys H2 ⟨α2,h2,x2,p2,hr2,w2⟩
 have q:=rd α2 H2 h2 x2 hr2 i
 unfold jy at w2
 cases e:sr.rdr h2 i with
 | none=>rw[e] at w2;exact w2.elim
 | some od=>
  rw[e] at w2 q
  cases od with
  | none=>exact .inl ⟨q,(show aI K g α1 H1 Q (.ref h1.length) h2 from w2) _ _ _ x2 hr2 (.ref p2)⟩
  | some d=>
   cases m with
   | zero=>exact w2.elim
   | succ m=>
    rw[aZ] at w2
    have w3:=WQ.bind (show WQ K g E00 α1 H1 ((mi2 (cx ix env (some d) none) h2).bind _) _ from w2)
    refine .inr ⟨q.1,fun σ0 x H3 hcap y=>?_⟩
    obtain⟨ts,hl,hσ0⟩:=hcap
    match ts,hl with
    | [v0,q0],_=>
    subst hσ0
    obtain⟨α3,x3,hr3,rx⟩:=q.2 x H3 y
    have s3:cG K g α3 H3 (cx ix env (some d) none) (some x::q0::ix.map fun i=>(σ[i]?).join) h2:=⟨hr3,jM (s1.vs.ext (x2.trans x3)) (fun d' hd=>by cases hd;exact⟨x,rfl,rx⟩) (fun d' hd=>by cases hd)⟩
    refine⟨α3,_,h2,s3,((w3.ext x2).ext x3).mono fun sr2 h4 _ w4 J2 H4 α4 x4 hr4 rd2=>?_⟩
    have x14:=x2.trans (x3.trans x4)
    have p4:=iJ (x3.trans x4) p2
    refine⟨fun j m2 zs H=>∃α h,Ext K α4 H4 α H/\aM K g α H h ∧
     WQ K g E00 α1 H1 (((lI h1.length sr2.rdr te (fun e=>cx ix env (some d) (some e)) m2 j h).bind fun _ h2=>jy h1.length sr.rdr mi2 te (cx ix env) m (i+1) h2).bind fun _ h2=>.ok (.ref h1.length) h2) (aI K g α1 H1 Q),
     ⟨sr2.fuel h4,α4,h4,Ext.refl,hr4,w4⟩,?_⟩
    rintro j m2 zs H5 ⟨α5,h5,x5,hr5,w5⟩
    have q2:=rd2 α5 H5 h5 x5 hr5 j
    have p5:=iJ x5 p4
    unfold lI at w5
    cases e2:sr2.rdr h5 j with
    | none=>rw[e2] at w5;exact w5.elim
    | some od2=>
     rw[e2] at w5 q2
     cases od2 with
     | none=>exact .inl ⟨q2,m,Nat.lt_succ_self _,α5,h5,x14.trans x5,p5,hr5,w5⟩
     | some d2=>
      cases m2 with
      | zero=>exact w5.elim
      | succ m2=>
       have w6:WQ K g E00 α1 H1 ((te (cx ix env (some d) (some d2)) h5).bind fun y h2=>(((tu h1.length y h2).bind fun _ h3=>lI h1.length sr2.rdr te (fun e=>cx ix env (some d) (some e)) m2 (j+1) h3).bind fun _ h2=>jy h1.length sr.rdr mi2 te (cx ix env) m (i+1) h2).bind fun _ h2=>.ok (.ref h1.length) h2) (aI K g α1 H1 Q):=by
        have:=w5
        simp only[aZ] at this ⊢
        exact this
       refine .inr ⟨q2.1,fun yv H6 yy=>?_⟩
       obtain⟨α6,x6,hr6,ry⟩:=q2.2 yv H6 yy
       have s6:cG K g α6 H6 (cx ix env (some d) (some d2)) (some x::some yv::ix.map fun i=>(σ[i]?).join) h5:=⟨hr6,jM (s1.vs.ext (x14.trans (x5.trans x6))) (fun d' hd=>by cases hd;exact⟨x,rfl,rx.ext (x4.trans (x5.trans x6))⟩) (fun d' hd=>by cases hd;exact⟨yv,rfl,ry⟩)⟩
       refine tM.use s6 ((WQ.bind w6).ext (x14.trans (x5.trans x6))) fun y h7 v7 H7 α7 x7 s7 r7 w7=>?_
       have p7:=iJ (x6.trans x7) p5
       unfold tu at w7
       cases el:ay h7 h1.length with
       | none=>rw[el] at w7;exact w7.elim
       | some ds=>
        rw[el] at w7
        dsimp only at w7
        by_cases hlen:ds.length<1000000
        ·rw[if_pos hlen] at w7
         obtain⟨vs,hv,rs⟩:=s7.heap.lst el p7
         have x:=Ext.write (K:=K) (o:=.lst (vs++[v7])) s7.heap p7
         exact⟨vs,hv,by rw[<- rs.length,sizeLine_eq];omega,m2,Nat.lt_succ_self _,α7,_,(x5.trans (x6.trans x7)).trans x,s7.heap.write (u':=.lst (ds++[y])) p7 ⟨_,aO,(rs.append (.cons r7 .nil)).ext x⟩,w7⟩
        ·rw[if_neg hlen] at w7;exact w7.elim
end
section
variable {X:Cx} {g:GG}
theorem vc {ε:EE} {elt iter iter2:Expr} {x y:Str} {px py:Pos} {scope osc:Scope} {pos:Pos} {mi mi2:MI} {te:ME} (ix:List Nat) (N':List Str)
  (hc:X.calm=true) (ho:X.env.scope=osc) (hN:N'=[x,y]++ix.map fun i=>(X.N[i]?).getD ("" : Str)) (hnd:N'.Nodup)
  (hall:(∀y∈scope.names,y.2=.free->osc.names.lookup y.1=some .cell)/\(∀y∈scope.names,y.2≠.cell)/\scope.kind=.function/\(∀y∈scope.names,y.2=.local->scope.names.lookup y.1=some .local)/\(∀z∈N'.drop [x,y].length,scope.names.lookup z=some .free))
  (hi:PI X (.Name x px) iter (tMI X.K g ε mi))
  (hx:∀cl C ao ar fp,Loc (aB X.nox scope cl C ao ar fp N').env.scope x/\(aB X.nox scope cl C ao ar fp N').env.scope.names.lookup x=some .local) (hy:∀cl C ao ar fp,Loc (aB X.nox scope cl C ao ar fp N').env.scope y/\(aB X.nox scope cl C ao ar fp N').env.scope.names.lookup y=some .local)
  (hi2:∀cl C ao ar fp,PI (aB X.nox scope cl C ao ar fp N') (.Name y py) iter2 (tMI X.K g E00 mi2))
  (he:∀cl C ao ar fp,PE (aB X.nox scope cl C ao ar fp N') elt (tM X.K g E00 te))
  (hs:∀x,foldedSetIterable iter X.env x=pure x:=by intro _;rfl) (hs2:∀env x,foldedSetIterable iter2 env x=pure x:=by intro _ _;rfl) :
  PE X (.ListComp elt [⟨.Name x px,iter,[],0⟩,⟨.Name y py,iter2,[],0⟩] scope pos) (tM X.K g ε (iI mi ix mi2 te)):=
 PE.imp (vM ix [x,y] N' rfl hc ho hN hnd hall hi (fun cl C ao ar fp=>bf (X:=aB X.nox scope cl C ao ar fp N') hnd (show N'[0]?=some x by rw[hN];rfl) (hx cl C ao ar fp).1 (.inr (hx cl C ao ar fp).2)) hi2 (fun cl C ao ar fp=>bf (X:=aB X.nox scope cl C ao ar fp N') hnd (show N'[1]?=some y by rw[hN];rfl) (hy cl C ao ar fp).1 (.inr (hy cl C ao ar fp).2)) he hs hs2) fun σ H Q t=>sU t
end
variable {X:Cx} {g:GG}
theorem uX {K:PySem.W.Frag} {ε:EE} {mi:MI} {ix:List Nat} {tt:TT} {te:TE} {σ:St} {H:Hp} {Q:VK} (t:AR (tMI K g ε mi) ix tt te σ H Q):lU (tMI K g ε mi) 1 ix (cf 0) tt te σ H Q:=by
 obtain⟨α,env,h,s,w⟩:=t
 refine⟨α,env,h,s,w.mono fun sr h1 _ z J H' α' e hr rd acc ha=>?_⟩
 obtain⟨W,w0,st⟩:=z J H' α' e hr rd acc ha
 refine⟨W,w0,fun i m ys H1 hw=>(st i m ys H1 hw).imp id fun⟨a,b⟩=>⟨a,fun σ0 x H2 hc hy=>?_⟩⟩
 obtain⟨ts,tl,rfl⟩:=hc
 match ts,tl with
 | [t0],_=>exact⟨⟨[some x],rfl,rfl⟩,b x H2 hy⟩
theorem gS {nl:NL} [gH nl] {elt iter:Expr} {x:Str} {px:Pos} {ifs:List Expr} {scope osc:Scope} {pos:Pos} {mi:MI} {tt:MT} {te:ME} (ix:List Nat) (N':List Str)
  (hxe:X.xe=fun _ _=>False) (hc:X.calm=true) (ho:X.env.scope=osc) (hN:N'=x::ix.map fun i=>(X.N[i]?).getD ("" : Str)) (hnd:N'.Nodup)
  (hall:(∀y∈scope.names,y.2=.free->osc.names.lookup y.1=some .cell)/\(∀y∈scope.names,y.2≠.cell)/\scope.kind=.function/\(∀y∈scope.names,y.2=.local->scope.names.lookup y.1=some .local)/\scope.names.lookup x=some .local/\(∀y∈N'.tail,scope.names.lookup y=some .free))
  (hi:PI X (.Name x px) iter (tMI X.K g E00 mi))
  (ht:∀cl C ao ar fp,PTs (aB X scope cl C ao ar fp N') ifs (tMT X.K g E00 tt))
  (he:∀cl C ao ar fp,PE (aB X scope cl C ao ar fp N') elt (tM X.K g E00 te))
  (hs:∀x,foldedSetIterable iter X.env x=pure x:=by intro _;rfl) :
  PE X (.ListComp elt [⟨.Name x px,iter,ifs,0⟩] scope pos) (tM X.K g E00 (bA nl mi ix tt te)):=by
 refine PE.imp (PE.frz (r_ (tgr:=cf 0) ix [x] N' hxe hc ho hN hnd ⟨hall.1,hall.2.1,hall.2.2.1,hall.2.2.2.1,fun y hy=>hall.2.2.2.2.2 y (by rw[hN] at hy ⊢;exact hy)⟩ hi (fun cl C ao ar fp=>bf (X:=aB X scope cl C ao ar fp N') hnd (show N'[0]?=some x by rw[hN];rfl) (.inl (lookup_relabel_local hall.2.2.2.2.1)) (.inr (lookup_relabel_local hall.2.2.2.2.1))) ht he hs)) fun σ H Q t=>?_
 exact uX (qJ (fun _ _ z=>z) t)
theorem jh {nl:NL} [gH nl] {elt iter:Expr} {x z:Str} {px pz:Pos} {ifs:List Expr} {scope osc:Scope} {pos spos:Pos} {mi:MI} {tt:MT} {te:ME} {i:Nat} (ix:List Nat) (N':List Str)
  (hxe:X.xe=fun _ _=>False) (hc:X.calm=true) (ho:X.env.scope=osc) (hN:N'=x::ix.map fun i=>(X.N[i]?).getD ("" : Str)) (hnd:N'.Nodup)
  (hall:(∀y∈scope.names,y.2=.free->osc.names.lookup y.1=some .cell)/\(∀y∈scope.names,y.2≠.cell)/\scope.kind=.function/\(∀y∈scope.names,y.2=.local->scope.names.lookup y.1=some .local)/\scope.names.lookup x=some .local/\(∀y∈N'.tail,scope.names.lookup y=some .free))
  (hi:PI X (.Name x px) iter (tMI X.K g E00 mi))
  (ht:∀cl C ao ar fp,PTs (aB X scope cl C ao ar fp N') ifs (tMT X.K g E00 tt))
  (he:∀cl C ao ar fp,PE (aB X scope cl C ao ar fp N') elt (tM X.K g E00 te))
  (hNN:X.N.Nodup) (hz:X.N[i]?=some z) (hl:X.env.scope.names.lookup z=some .local:=by rfl)
  (hsw:swapsWith (.ListComp elt [⟨.Name x px,iter,ifs,0⟩] scope pos) (some (.Name z pz)) spos.line X.env=pure true:=by rfl)
  (hs:∀x,foldedSetIterable iter X.env x=pure x:=by intro _;rfl) :
  PS X (.Assign [.Name z pz] (.ListComp elt [⟨.Name x px,iter,ifs,0⟩] scope pos) spos) (tMS X.K g E00 (bb i (bA nl mi ix tt te))):=by
 refine PS.imp (PS.frz (r9 (tgr:=cf 0) ix [x] N' hxe hc ho hN hnd ⟨hall.1,hall.2.1,hall.2.2.1,hall.2.2.2.1,fun y hy=>hall.2.2.2.2.2 y (by rw[hN] at hy ⊢;exact hy)⟩ hi (fun cl C ao ar fp=>bf (X:=aB X scope cl C ao ar fp N') hnd (show N'[0]?=some x by rw[hN];rfl) (.inl (lookup_relabel_local hall.2.2.2.2.1)) (.inr (lookup_relabel_local hall.2.2.2.2.1))) ht he hNN hz hl hsw hs)) fun E σ H ⟨α,env,h,s,w⟩=>uX (qJ (nl:=nl) (Q:=fun v H1=>E.nx (σ.set i (some v)) H1) (fun v H1 z=>za z) (tM.use s w.bind fun d1 h1 v1 H1 α1 e1 s1 r1 w1=>(show cK X.K g α H E (.nx (env.set i (some d1))) h1 from w1) H1 α1 e1 s1.heap _ (s1.vs.set r1)))
end L2.FE
namespace L2.SM
open PySem PySem.W PyProof.Rows
noncomputable def pY:Bool->Keyed->Array Keyed->Nat->Nat->Nat->StateT SortSt Sem (Option Nat):=sortPriv% PySem.Builtin.gallop
noncomputable def xG:Array Keyed->Array Keyed->StateT SortSt Sem (Array Keyed):=sortPriv% PySem.Builtin.mergeLo
noncomputable def wx:Array Keyed->Array Keyed->StateT SortSt Sem (Array Keyed):=sortPriv% PySem.Builtin.mergeHi
section
variable {prog:Program} {w:World} {A:Around} {E:Value->Shared->Prop} {s:Shared}
noncomputable def Gv (prog:Program) (w:World) (A:Around) (E:Value->Shared->Prop) (s:Shared) {α:Type} (m:StateT SortSt Sem α) (st:SortSt) (Q:α->SortSt->Prop):Prop:=
 kasC (model prog w) A E m (fun a st' s'=>s'=s/\Q a st') st s
theorem Gv.pure {α:Type} {a:α} {Q:α->SortSt->Prop} {st:SortSt} (h:Q a st):Gv prog w A E s (Pure.pure a:StateT SortSt Sem α) st Q:=kasC_pure ⟨rfl,h⟩
theorem Gv.bind {α β:Type} {m:StateT SortSt Sem α} {f:α->StateT SortSt Sem β} {Q:β->SortSt->Prop} {st:SortSt} (h:Gv prog w A E s m st fun a st'=>Gv prog w A E s (f a) st' Q):Gv prog w A E s (m >>= f) st Q:=by
 refine kasC_bind (wpAny_mono h (fun r s' h'=>?_) fun _ _ e=>e)
 obtain⟨e,h'⟩:=h'
 subst e
 exact h'
theorem Gv.mono {α:Type} {m:StateT SortSt Sem α} {Q Q':α->SortSt->Prop} {st:SortSt} (h:Gv prog w A E s m st Q) (q:∀a st',Q a st'->Q' a st'):Gv prog w A E s m st Q':=wpAny_mono h (fun r s' h'=>⟨h'.1,q _ _ h'.2⟩) fun _ _ e=>e
theorem Gv.get {Q:SortSt->SortSt->Prop} {st:SortSt} (h:Q st st):Gv prog w A E s (MonadState.get:StateT SortSt Sem SortSt) st Q:=kasC_get ⟨rfl,h⟩
theorem Gv.set {Q:PUnit->SortSt->Prop} {st st':SortSt} (h:Q ⟨⟩ st'):Gv prog w A E s (MonadState.set st':StateT SortSt Sem PUnit) st Q:=by
 unfold Gv kasC
 exact wpAny_pure ⟨rfl,h⟩
theorem Gv.modify {f:SortSt->SortSt} {Q:PUnit->SortSt->Prop} {st:SortSt} (h:Q ⟨⟩ (f st)):Gv prog w A E s (_root_.modify f:StateT SortSt Sem PUnit) st Q:=kasC_modify ⟨rfl,h⟩
theorem Gv.lift {α:Type} {m:Sem α} {Q:α->SortSt->Prop} {st:SortSt} (h:wpAny (model prog w) A m (fun a s'=>s'=s/\Q a st) E s):Gv prog w A E s (liftM m:StateT SortSt Sem α) st Q:=kasC_lift h
theorem Gv.rule {id:String} {Q:Unit->SortSt->Prop} {st:SortSt} (h:Q () st):Gv prog w A E s (liftM (PySem.rule id):StateT SortSt Sem Unit) st Q:=Gv.lift (wpAny_rule ⟨rfl,h⟩)
theorem uY {β:Type} {f:Nat->β->StateT SortSt Sem (ForInStep β)} (I:Nat->β->SortSt->Prop) (D:β->SortSt->Prop)
  (step:∀x n b st,I (n+1) b st->Gv prog w A E s (f x b) st fun r st'=>match r with | .done b'=>D b' st' | .yield b'=>I n b' st')
  (fin:∀b st,I 0 b st->D b st):∀(l:List Nat) (b:β) (st:SortSt),I l.length b st->Gv prog w A E s (forIn l b f) st D
 | [],b,st,h=>kasC_nil ⟨rfl,fin b st h⟩
 | x::l,b,st,h=>by
  have ih:=uY I D step fin l
  refine kasC_cons (wpAny_mono (step x l.length b st h) (fun r s' h'=>?_) fun _ _ e=>e)
  obtain⟨e,h'⟩:=h'
  subst e
  revert h'
  cases r.1 with
  | done b'=>intro h';exact⟨rfl,h'⟩
  | yield b'=>intro h';exact ih b' r.2 h'
theorem Gv.range {β:Type} {a b:Nat} {c:β} {f:Nat->β->StateT SortSt Sem (ForInStep β)} {Q:β->SortSt->Prop} {st:SortSt} (I:Nat->β->SortSt->Prop) (h0:I (b - a) c st)
  (step:∀x n b st,I (n+1) b st->Gv prog w A E s (f x b) st fun r st'=>match r with | .done b'=>Q b' st' | .yield b'=>I n b' st')
  (fin:∀b st,I 0 b st->Q b st):Gv prog w A E s (forIn [a:b] c f) st Q:=
 kasC_range (uY I Q step fin _ _ _ (by rw[List.length_range'];exact h0))
theorem Gv.elem {arr:Array Keyed} {i:Nat} {x:Keyed} {Q:Keyed->SortSt->Prop} {st:SortSt} (e:arr[i]?=some x) (h:Q x st):Gv prog w A E s (elem' arr i) st Q:=by
 rw[elem'_eq,e];exact Gv.pure h
theorem Gv.lt {x y:Keyed} {c:Bool} {Q:Option Bool->SortSt->Prop} {st:SortSt} (hc:∀C:Bool->Shared->Prop,C c s->wpAny (model prog w) A (keyLt' (kindOf st) x.1 y.1) C (fun _ _=>False) s) (h:Q (some c) st):Gv prog w A E s (lt' x y) st Q:=by
 rw[lt'_eq]
 refine Gv.bind (Gv.get ?_)
 refine Gv.bind (Gv.lift (wpAny_attempt (wpAny_mono (hc (fun c' s'=>c'=c/\s'=s) ⟨rfl,rfl⟩) (fun c' s' hc'=>?_) fun _ _ hF=>hF.elim)))
 obtain⟨rfl,rfl⟩:=hc'
 exact⟨rfl,Gv.pure h⟩
end
section
variable {prog:Program} {w:World} {A:Around} {E:Value->Shared->Prop} {s:Shared} {κ:SortKind} {P:Keyed->Prop} {kk:Keyed->Int}
noncomputable def Cmp (prog:Program) (w:World) (A:Around) (s:Shared) (κ:SortKind) (P:Keyed->Prop) (kk:Keyed->Int):Prop:=∀x y,P x->P y->∀C:Bool->Shared->Prop,C (decide (kk x<kk y)) s->wpAny (model prog w) A (keyLt' κ x.1 y.1) C (fun _ _=>False) s
theorem Gv.ltC {x y:Keyed} {Q:Option Bool->SortSt->Prop} {st:SortSt} (c:Cmp prog w A s κ P kk) (hx:P x) (hy:P y) (hk:kindOf st=κ) (h:Q (some (decide (kk x<kk y))) st):Gv prog w A E s (lt' x y) st Q:=by
 subst hk
 exact Gv.lt (c x y hx hy) h
noncomputable def kAt (kk:Keyed->Int) (a:Array Keyed) (i:Nat):Int:=((a[i]?).map kk).getD 0
theorem wI {a:Array Keyed} {i:Nat} {x:Keyed} (e:a[i]?=some x):kAt kk a i=kk x:=by unfold kAt;rw[e];rfl
noncomputable def bey (kk:Keyed->Int) (left:Bool) (key:Keyed) (arr:Array Keyed) (base i:Nat):Bool:=if left then decide (kAt kk arr (base+i)<kk key) else !decide (kk key<kAt kk arr (base+i))
theorem Cg {left:Bool} {key:Keyed} {arr:Array Keyed} {base i:Nat} {st:SortSt} {Q:Option Bool->SortSt->Prop} (c:Cmp prog w A s κ P kk) (ha:∀x∈arr,P x) (hy:P key) (hk:kindOf st=κ) (hi:base+i<arr.size)
  (h:Q (some (bey kk left key arr base i)) st):Gv prog w A E s (do
   let x ← elem' arr (base+i)
   if left=true then lt' x key else do
    let r ← lt' key x
    pure (r.map (!·))) st Q:=by
 have e:arr[base+i]?=some arr[base+i]:=by simp[hi]
 have hp:P arr[base+i]:=ha _ (Array.getElem_mem hi)
 have hv:=wI (kk:=kk) e
 unfold bey at h
 rw[hv] at h
 refine Gv.bind (Gv.elem e ?_)
 cases left with
 | true=>exact Gv.ltC c hp hy hk h
 | false=>exact Gv.bind (Gv.ltC c hy hp hk (Gv.pure h))
theorem oB {left:Bool} {key:Keyed} {arr:Array Keyed} {base n hint:Nat} {st:SortSt} {Q:Option Nat->SortSt->Prop} (c:Cmp prog w A s κ P kk) (ha:∀x∈arr,P x) (hy:P key) (hk:kindOf st=κ) (hn:base+n<=arr.size) (hh:hint<n)
  (mo:∀i j,i<=j->j<n->bey kk left key arr base j=true->bey kk left key arr base i=true)
  (h:∀k,k<=n->(∀i,i<k->bey kk left key arr base i=true)->(∀i,k<=i->i<n->bey kk left key arr base i=false)->Q (some k) st):Gv prog w A E s (pY left key arr base n hint) st Q:=by
 have B:∀{i:Nat} {Q:Option Bool->SortSt->Prop},i<n->Q (some (bey kk left key arr base i)) st->Gv prog w A E s (do
   let x ← elem' arr (base+i)
   if left=true then lt' x key else do
    let r ← lt' key x
    pure (r.map (!·))) st Q:=fun{i Q} hi h=>Cg c ha hy hk (by omega) h
 have mo':∀i j,i<=j->j<n->bey kk left key arr base i=false->bey kk left key arr base j=false:=fun i j hij hj e=>by
  cases z:bey kk left key arr base j with
  | false=>rfl
  | true=>rw[mo i j hij hj z] at e;cases e
 generalize bey kk left key arr base=b at *
 -- the last loop
 have L3:∀lo hi,lo<=hi->hi<=n->(∀i,i<lo->b i=true)->(∀i,hi<=i->i<n->b i=false)->∀{f:Nat->Option (Option Nat) × Nat × Nat->StateT SortSt Sem (ForInStep (Option (Option Nat) × Nat × Nat))} {R:Option (Option Nat) × Nat × Nat->SortSt->Prop},
   (∀x lo hi R,lo ≥ hi->R (.done (none,lo,hi)) st->Gv prog w A E s (f x (none,lo,hi)) st R) →
   (∀x lo hi R,lo<hi->hi<=n->R (if b (lo+(hi - lo) / 2)=true then .yield (none,lo+(hi - lo) / 2+1,hi) else .yield (none,lo,lo+(hi - lo) / 2)) st->Gv prog w A E s (f x (none,lo,hi)) st R) →
   (∀k lo,k<=n->(∀i,i<k->b i=true)->(∀i,k<=i->i<n->b i=false)->R (none,lo,k) st) →
   Gv prog w A E s (forIn [:n] (none,lo,hi) f) st R:=by
  intro lo hi h1 h2 h3 h4 f R f1 f2 hR
  refine Gv.range (fun m z st'=>st'=st/\∃lo hi,z=(none,lo,hi)/\lo<=hi/\hi<=n/\hi - lo<=m/\(∀i,i<lo->b i=true)/\(∀i,hi<=i->i<n->b i=false)) ⟨rfl,lo,hi,rfl,h1,h2,by omega,h3,h4⟩ (fun x m z st' hz=>?_) (fun z st' hz=>?_)
  ·obtain⟨rfl,lo,hi,rfl,g1,g2,g3,g4,g5⟩:=hz
   by_cases hl:lo ≥ hi
   ·refine f1 x lo hi _ hl ?_
    have:lo=hi:=by omega
    subst this
    exact hR lo lo g2 g4 g5
   ·refine f2 x lo hi _ (by omega) g2 ?_
    cases e:b (lo+(hi - lo) / 2) with
    | true=>
     rw[if_pos rfl]
     refine⟨rfl,_,_,rfl,by omega,g2,by omega,fun i hi'=>?_,g5⟩
     exact mo i _ (by omega) (by omega) e
    | false=>
     rw[if_neg (by decide)]
     refine⟨rfl,_,_,rfl,by omega,by omega,by omega,g4,fun i hi' hn'=>?_⟩
     exact mo' _ i hi' hn' e
  ·obtain⟨rfl,lo,hi,rfl,g1,g2,g3,g4,g5⟩:=hz
   have:lo=hi:=by omega
   subst this
   exact hR lo lo g2 g4 g5
 with_unfolding_all refine Gv.bind ?_
 refine B hh ?_
 dsimp only
 cases e0:b hint with
 | true=>
  rw[if_pos rfl]
  refine Gv.bind (Gv.mono (Q:=fun z st'=>st'=st/\∃la ofs,z=(none,la,ofs)/\la<ofs/\hint+la<n/\b (hint+la)=true/\(n - hint<=ofs\/(ofs<n - hint/\b (hint+ofs)=false))) (Gv.range (fun m z st'=>st'=st/\∃la ofs,z=(none,la,ofs)/\la<ofs/\n+1<=ofs+m/\hint+la<n/\b (hint+la)=true) ⟨rfl,0,1,rfl,by omega,by omega,by omega,e0⟩ (fun x m z st' hz=>?_) (fun z st' hz=>?_)) (fun z st' hz=>?_))
  ·obtain⟨rfl,la,ofs,rfl,g1,g2,g3,g4⟩:=hz
   dsimp only
   by_cases hl:ofs ≥ n - hint
   ·rw[if_pos hl]
    exact Gv.pure ⟨rfl,la,ofs,rfl,g1,g3,g4,.inl hl⟩
   ·rw[if_neg hl]
    refine Gv.bind (B (by omega) ?_)
    dsimp only
    cases e:b (hint+ofs) with
    | true=>exact Gv.pure ⟨rfl,ofs,2*ofs+1,rfl,by omega,by omega,by omega,e⟩
    | false=>exact Gv.pure ⟨rfl,la,ofs,rfl,g1,g3,g4,.inr ⟨by omega,e⟩⟩
  ·obtain⟨rfl,la,ofs,rfl,g1,g2,g3,g4⟩:=hz
   exact⟨rfl,la,ofs,rfl,g1,g3,g4,.inl (by omega)⟩
  ·obtain⟨rfl,la,ofs,rfl,g1,g3,g4,g5⟩:=hz
   dsimp only
   refine Gv.bind (L3 (hint+la+1) (hint+min ofs (n - hint)) ?_ ?_ ?_ ?_ (fun x lo hi R hl hR=>?_) (fun x lo hi R hl hn' hR=>?_) fun k lo g1 g2 g3=>Gv.pure (h k g1 g2 g3))
   ·rcases g5 with g | ⟨g,_⟩<;>omega
   ·omega
   ·intro i hi
    exact mo i _ (by omega) g3 g4
   ·intro i hi hin
    rcases g5 with g | ⟨g,e⟩
    ·omega
    ·exact mo' _ i (by omega) hin e
   ·dsimp only;rw[if_pos hl];exact Gv.pure hR
   ·dsimp only;rw[if_neg (by omega)]
    refine Gv.bind (B (by omega) ?_)
    dsimp only
    cases e:b (lo+(hi - lo) / 2) with
    | true=>rw[e,if_pos rfl] at hR;exact Gv.pure hR
    | false=>rw[e,if_neg (by decide)] at hR;exact Gv.pure hR
 | false=>
  rw[if_neg (by decide)]
  refine Gv.bind (Gv.mono (Q:=fun z st'=>st'=st/\∃la ofs,z=(none,la,ofs)/\la<ofs/\la<=hint/\b (hint - la)=false/\(hint+1<=ofs\/(ofs<hint+1/\b (hint - ofs)=true))) (Gv.range (fun m z st'=>st'=st/\∃la ofs,z=(none,la,ofs)/\la<ofs/\n+1<=ofs+m/\la<=hint/\b (hint - la)=false) ⟨rfl,0,1,rfl,by omega,by omega,by omega,e0⟩ (fun x m z st' hz=>?_) (fun z st' hz=>?_)) (fun z st' hz=>?_))
  ·obtain⟨rfl,la,ofs,rfl,g1,g2,g3,g4⟩:=hz
   dsimp only
   by_cases hl:ofs ≥ hint+1
   ·rw[if_pos hl]
    exact Gv.pure ⟨rfl,la,ofs,rfl,g1,g3,g4,.inl hl⟩
   ·rw[if_neg hl]
    refine Gv.bind (B (by omega) ?_)
    dsimp only
    cases e:b (hint - ofs) with
    | true=>exact Gv.pure ⟨rfl,la,ofs,rfl,g1,g3,g4,.inr ⟨by omega,e⟩⟩
    | false=>exact Gv.pure ⟨rfl,ofs,2*ofs+1,rfl,by omega,by omega,by omega,e⟩
  ·obtain⟨rfl,la,ofs,rfl,g1,g2,g3,g4⟩:=hz
   exact⟨rfl,la,ofs,rfl,g1,g3,g4,.inl (by omega)⟩
  ·obtain⟨rfl,la,ofs,rfl,g1,g3,g4,g5⟩:=hz
   dsimp only
   refine Gv.bind (L3 (hint+1 - min ofs (hint+1)) (hint - la) ?_ ?_ ?_ ?_ (fun x lo hi R hl hR=>?_) (fun x lo hi R hl hn' hR=>?_) fun k lo g1 g2 g3=>Gv.pure (h k g1 g2 g3))
   ·rcases g5 with g | ⟨g,_⟩<;>omega
   ·omega
   ·intro i hi
    rcases g5 with g | ⟨g,e⟩
    ·omega
    ·exact mo i _ (by omega) (by omega) e
   ·intro i hi hin
    exact mo' _ i hi hin g4
   ·dsimp only;rw[if_pos hl];exact Gv.pure hR
   ·dsimp only;rw[if_neg (by omega)]
    refine Gv.bind (B (by omega) ?_)
    dsimp only
    cases e:b (lo+(hi - lo) / 2) with
    | true=>rw[e,if_pos rfl] at hR;exact Gv.pure hR
    | false=>rw[e,if_neg (by decide)] at hR;exact Gv.pure hR
end
section
variable {kk:Keyed->Int} {a b out:Array Keyed} {ia ib:Nat}
noncomputable def Srt (kk:Keyed->Int) (l:List Keyed):Prop:=l.Pairwise fun x y=>kk x<kk y
structure Mg (kk:Keyed->Int) (a b out:Array Keyed) (ia ib:Nat):Prop where
 perm:out.toList.Perm (a.toList.take ia++b.toList.take ib)
 srt:Srt kk out.toList
 la:∀x∈out.toList,∀y∈a.toList.drop ia,kk x<kk y
 lb:∀x∈out.toList,∀y∈b.toList.drop ib,kk x<kk y
theorem Mg.symm (m:Mg kk a b out ia ib):Mg kk b a out ib ia:=⟨m.perm.trans List.perm_append_comm,m.srt,m.lb,m.la⟩
theorem Mg.zero:Mg kk a b #[] 0 0:=⟨by simp,List.Pairwise.nil,fun x hx=>by simp at hx,fun x hx=>by simp at hx⟩
theorem wK {l:List Keyed} {i j:Nat} {h:j<l.length} (hij:i<=j):l[j]∈l.drop i:=by
 have e:l[j]=(l.drop i)[j - i]'(by rw[List.length_drop];omega):=by rw[List.getElem_drop];congr 1;omega
 rw[e];exact List.getElem_mem _
theorem qD {l:List Keyed} (s:Srt kk l) {j:Nat} (h:j<l.length):∀y∈l.drop (j+1),kk l[j]<kk y:=by
 have e:=List.drop_eq_getElem_cons h
 have s2:Srt kk (l.drop j):=List.Pairwise.sublist (List.drop_sublist _ _) s
 rw[e] at s2
 exact fun y hy=>(List.pairwise_cons.mp s2).1 y hy
theorem Mg.gD (m:Mg kk a b out ia ib) (sb:Srt kk b.toList) (hi:ib<b.size) (hd:∀y∈a.toList.drop ia,kk b[ib]<kk y):Mg kk a b (out.push b[ib]) ia (ib+1):=by
 have hl:ib<b.toList.length:=by simpa using hi
 have eb:b.toList[ib]=b[ib]:=by simp
 have bm:b[ib]∈b.toList.drop ib:=by rw[<- eb];exact wK (Nat.le_refl _)
 have es:(out.push b[ib]).toList=out.toList++[b[ib]]:=by simp
 refine⟨?_,?_,?_,?_⟩
 ·rw[es,List.take_succ_eq_append_getElem hl,eb,<- List.append_assoc]
  exact m.perm.append_right _
 ·rw[es]
  exact List.pairwise_append.mpr ⟨m.srt,List.pairwise_singleton _ _,fun x hx y hy=>by rw[List.mem_singleton] at hy;subst hy;exact m.lb x hx _ bm⟩
 ·intro x hx y hy
  rw[es] at hx
  rcases List.mem_append.mp hx with hx | hx
  ·exact m.la x hx y hy
  ·rw[List.mem_singleton] at hx;subst hx;exact hd y hy
 ·intro x hx y hy
  rw[es] at hx
  rcases List.mem_append.mp hx with hx | hx
  ·exact m.lb x hx y (by rw[<- List.drop_drop] at hy;exact List.mem_of_mem_drop hy)
  ·rw[List.mem_singleton] at hx;subst hx
   have:=qD sb hl y hy
   rw[eb] at this;exact this
theorem Mg.gC (m:Mg kk a b out ia ib) (sa:Srt kk a.toList) (hi:ia<a.size) (hd:∀y∈b.toList.drop ib,kk a[ia]<kk y):Mg kk a b (out.push a[ia]) (ia+1) ib:=(m.symm.gD sa hi hd).symm
theorem Mg.dW (m:Mg kk a b out ia ib) (sb:Srt kk b.toList):∀(k:Nat),ib+k<=b.size->(∀j,(hj:j<b.size)->ib<=j->j<ib+k->∀y∈a.toList.drop ia,kk b[j]<kk y)->Mg kk a b (out++b.extract ib (ib+k)) ia (ib+k)
 | 0,_,_=>by
  have e:b.extract ib (ib+0) = #[]:=by simp;omega
  rw[e];simpa using m
 | k+1,hk,hd=>by
  have ih:=Mg.dW m sb k (by omega) (fun j hj h1 h2=>hd j hj h1 (by omega))
  have e:out++b.extract ib (ib+(k+1))=(out++b.extract ib (ib+k)).push b[ib+k]:=by
   rw[<- Array.append_push]
   congr 1
   rw[show ib+(k+1)=ib+k+1 by omega,Array.push_extract_getElem (by omega) ]
   congr 1
   omega
  rw[e]
  exact ih.gD sb (by omega) (hd (ib+k) (by omega) (by omega) (by omega))
theorem Mg.jR (m:Mg kk a b out ia ib) (sa:Srt kk a.toList) (k:Nat) (hk:ia+k<=a.size) (hd:∀j,(hj:j<a.size)->ia<=j->j<ia+k->∀y∈b.toList.drop ib,kk a[j]<kk y):Mg kk a b (out++a.extract ia (ia+k)) (ia+k) ib:=(m.symm.dW sa k hk hd).symm
noncomputable def fD (kk:Keyed->Int) (a b r:Array Keyed):Prop:=r.toList.Perm (a.toList++b.toList)/\Srt kk r.toList
theorem Mg.fin (m:Mg kk a b out a.size b.size):fD kk a b out:=⟨by have:=m.perm;rwa [List.take_of_length_le (by simp),List.take_of_length_le (by simp)] at this,m.srt⟩
theorem Mg.gO (m:Mg kk a b out ia b.size) (sa:Srt kk a.toList) (hi:ia<=a.size):fD kk a b (out++a.extract ia a.size++b.extract b.size b.size):=by
 have e:b.extract b.size b.size = #[]:=by simp
 rw[e,Array.append_empty]
 have:=m.jR sa (a.size - ia) (by omega) (fun j hj _ _ y hy=>by rw[List.drop_eq_nil_of_le (by simp)] at hy;cases hy)
 rw[show ia+(a.size - ia)=a.size by omega] at this
 exact this.fin
theorem Mg.hW (m:Mg kk a b out a.size ib) (sb:Srt kk b.toList) (hi:ib<=b.size):fD kk a b (out++a.extract a.size a.size++b.extract ib b.size):=by
 have e:a.extract a.size a.size = #[]:=by simp
 rw[e,Array.append_empty]
 have:=m.dW sb (b.size - ib) (by omega) (fun j hj _ _ y hy=>by rw[List.drop_eq_nil_of_le (by simp)] at hy;cases hy)
 rw[show ib+(b.size - ib)=b.size by omega] at this
 exact this.fin
theorem Mg.last (m:Mg kk a b out ia ib) (sa:Srt kk a.toList) (sb:Srt kk b.toList) (hi:ia+1=a.size) (hb:ib<=b.size) (hd:∀y∈b.toList,kk y<kk a[ia]):fD kk a b (out++b.extract ib b.size++a.extract ia a.size):=by
 have hla:a.toList.drop ia=[a[ia]]:=by
  have hl:ia<a.toList.length:=by simp;omega
  rw[List.drop_eq_getElem_cons hl]
  have:a.toList.drop (ia+1)=[]:=by rw[List.drop_eq_nil_iff];simp;omega
  rw[this];simp
 have m1:=m.dW sb (b.size - ib) (by omega) (fun j hj _ _ y hy=>by
  rw[hla,List.mem_singleton] at hy;subst hy
  exact hd _ (by simp))
 rw[show ib+(b.size - ib)=b.size by omega] at m1
 have m2:=m1.jR sa (a.size - ia) (by omega) (fun j hj _ _ y hy=>by rw[List.drop_eq_nil_of_le (by simp)] at hy;cases hy)
 rw[show ia+(a.size - ia)=a.size by omega] at m2
 exact m2.fin
theorem heads (sa:Srt kk a.toList) (hi:ia<a.size) {v:Int} (hv:v<kk a[ia]):∀y∈a.toList.drop ia,v<kk y:=by
 have hl:ia<a.toList.length:=by simpa using hi
 intro y hy
 rw[List.drop_eq_getElem_cons hl] at hy
 rcases List.mem_cons.mp hy with rfl | hy
 ·simpa using hv
 ·have:=qD sa hl y hy
  have e:a.toList[ia]=a[ia]:=by simp
  rw[e] at this;omega
theorem jj (sa:Srt kk a.toList) {i j:Nat} (hij:i<j) (hj:j<a.size):kk a[i]<kk a[j]:=by
 have:=List.pairwise_iff_getElem.mp sa i j (by simp;omega) (by simpa using hj) hij
 simpa using this
theorem uU {i:Nat} (h:i<a.size):kAt kk a i=kk a[i]:=wI (by simp[h])
end
section
variable {prog:Program} {w:World} {A:Around} {E:Value->Shared->Prop} {s:Shared} {κ:SortKind} {P:Keyed->Prop} {kk:Keyed->Int} {α:Type} {st:SortSt} {Q:α->SortSt->Prop}
theorem aN {c:Prop} [Decidable c] {x y:StateT SortSt Sem α} (h1:c->Gv prog w A E s x st Q) (h2:¬ c->Gv prog w A E s y st Q):Gv prog w A E s (if c then x else y) st Q:=by
 by_cases h:c
 ·rw[if_pos h];exact h1 h
 ·rw[if_neg h];exact h2 h
structure de (st st':SortSt):Prop where
 kind:kindOf st'=kindOf st
 arr:arrOf st'=arrOf st
 pend:pendingOf st'=pendingOf st
 fail:failedOf st'=failedOf st
theorem de.refl:de st st:=⟨rfl,rfl,rfl,rfl⟩
theorem de.trans {a b c:SortSt} (h:de a b) (g:de b c):de a c:=⟨g.1.trans h.1,g.2.trans h.2,g.3.trans h.3,g.4.trans h.4⟩
end
section
variable {prog:Program} {w:World} {A:Around} {E:Value->Shared->Prop} {s:Shared} {κ:SortKind} {P:Keyed->Prop} {kk:Keyed->Int}
structure Two (P:Keyed->Prop) (kk:Keyed->Int) (a b:Array Keyed):Prop where
 pa:∀x∈a,P x
 pb:∀x∈b,P x
 sa:Srt kk a.toList
 sb:Srt kk b.toList
 dj:∀x∈a.toList,∀y∈b.toList,kk x≠kk y
theorem Two.ne {a b:Array Keyed} (t:Two P kk a b) {i j:Nat} (hi:i<a.size) (hj:j<b.size):kk a[i]≠kk b[j]:=t.dj _ (by simp) _ (by simp)
theorem pD {a:Array Keyed} {key:Keyed} {i n hint:Nat} {st:SortSt} {Q:Option Nat->SortSt->Prop} (c:Cmp prog w A s κ P kk) (pa:∀x∈a,P x) (hy:P key) (hk:kindOf st=κ) (hn:i+n<=a.size) (hh:hint<n)
  (sa:∀j m,(hm:m<a.size)->i<=j->(hj:j<m)->m<i+n->kk (a[j]'(by omega))<kk a[m]) (nk:∀j,(hj:j<a.size)->i<=j->j<i+n->kk a[j]≠kk key)
  (h:∀k,k<=n->(∀j,(hj:j<a.size)->i<=j->j<i+k->kk a[j]<kk key)->(∀j,(hj:j<a.size)->i+k<=j->j<i+n->kk key<kk a[j])->Q (some k) st):Gv prog w A E s (pY false key a i n hint) st Q:=by
 have bv:∀m,(hm:i+m<a.size)->m<n->bey kk false key a i m=decide (kk a[i+m]<kk key):=fun m hm hmn=>by
  unfold bey
  rw[uU hm]
  have:=nk (i+m) hm (by omega) (by omega)
  by_cases z:kk a[i+m]<kk key
  ·have:¬ kk key<kk a[i+m]:=by omega
   simp[z,this]
  ·have:kk key<kk a[i+m]:=by omega
   simp[z,this]
 refine oB c pa hy hk hn hh (fun m n hmn hn' e=>?_) (fun k hk1 e1 e2=>?_)
 ·rw[bv n (by omega) (by omega),decide_eq_true_eq] at e
  rw[bv m (by omega) (by omega),decide_eq_true_eq]
  rcases Nat.lt_or_eq_of_le hmn with z | z
  ·have:=sa (i+m) (i+n) (by omega) (by omega) (by omega) (by omega);omega
  ·subst z;exact e
 ·refine h k hk1 (fun j hj h1 h2=>?_) (fun j hj h1 h2=>?_)
  ·have:=e1 (j - i) (by omega)
   rw[bv (j - i) (by omega) (by omega),decide_eq_true_eq] at this
   simpa [show i+(j - i)=j by omega] using this
  ·have:=e2 (j - i) (by omega) (by omega)
   rw[bv (j - i) (by omega) (by omega),decide_eq_false_iff_not] at this
   have ne:=nk j hj (by omega) h2
   have:¬ kk a[j]<kk key:=by simpa [show i+(j - i)=j by omega] using this
   omega
theorem jw {a:Array Keyed} {key:Keyed} {i n hint:Nat} {st:SortSt} {Q:Option Nat->SortSt->Prop} (c:Cmp prog w A s κ P kk) (pa:∀x∈a,P x) (hy:P key) (hk:kindOf st=κ) (hn:i+n<=a.size) (hh:hint<n)
  (sa:∀j m,(hm:m<a.size)->i<=j->(hj:j<m)->m<i+n->kk (a[j]'(by omega))<kk a[m])
  (h:∀k,k<=n->(∀j,(hj:j<a.size)->i<=j->j<i+k->kk a[j]<kk key)->(∀j,(hj:j<a.size)->i+k<=j->j<i+n->¬ kk a[j]<kk key)->Q (some k) st):Gv prog w A E s (pY true key a i n hint) st Q:=by
 have bv:∀m,(hm:i+m<a.size)->bey kk true key a i m=decide (kk a[i+m]<kk key):=fun m hm=>by
  unfold bey
  rw[uU hm];rfl
 refine oB c pa hy hk hn hh (fun m n hmn hn' e=>?_) (fun k hk1 e1 e2=>?_)
 ·rw[bv n (by omega),decide_eq_true_eq] at e
  rw[bv m (by omega),decide_eq_true_eq]
  rcases Nat.lt_or_eq_of_le hmn with z | z
  ·have:=sa (i+m) (i+n) (by omega) (by omega) (by omega) (by omega);omega
  ·subst z;exact e
 ·refine h k hk1 (fun j hj h1 h2=>?_) (fun j hj h1 h2=>?_)
  ·have:=e1 (j - i) (by omega)
   rw[bv (j - i) (by omega),decide_eq_true_eq] at this
   simpa [show i+(j - i)=j by omega] using this
  ·have:=e2 (j - i) (by omega) (by omega)
   rw[bv (j - i) (by omega),decide_eq_false_iff_not] at this
   simpa [show i+(j - i)=j by omega] using this
end
section
variable {prog:Program} {w:World} {A:Around} {E:Value->Shared->Prop} {s:Shared} {κ:SortKind} {P:Keyed->Prop} {kk:Keyed->Int}
structure Mid (kk:Keyed->Int) (a b out:Array Keyed) (ia ib:Nat):Prop where
 m:Mg kk a b out ia ib
 ha:ia+1<a.size
 hb:ib<b.size
theorem Gv.modS {f:SortSt->SortSt} {st:SortSt} {Q:PUnit->SortSt->Prop} (hf:de st (f st)) (h:∀st',de st st'->Q ⟨⟩ st'):Gv prog w A E s (_root_.modify f:StateT SortSt Sem PUnit) st Q:=Gv.modify (h _ hf)
theorem get_some {a:Array Keyed} {i:Nat} (h:i<a.size):a[i]?=some a[i]:=by simp[h]
theorem tj {a b:Array Keyed} {st:SortSt} {Q:Array Keyed->SortSt->Prop} (c:Cmp prog w A s κ P kk) (t:Two P kk a b) (hk:kindOf st=κ) (ha:1<=a.size) (hb:1<=b.size) (h0:kk b[0]<kk a[0]) (hl:∀y∈b.toList,kk y<kk a[a.size - 1])
  (h:∀r st',fD kk a b r->de st st'->Q r st'):Gv prog w A E s (xG a b) st Q:=by
 have m1:Mg kk a b #[b[0]] 0 1:=by
  have:=(Mg.zero (kk:=kk) (a:=a) (b:=b)).gD t.sb (by omega) (heads t.sa (by omega) h0)
  simpa using this
 have lastOk:∀{out:Array Keyed} {ia ib:Nat},Mg kk a b out ia ib->ia+1=a.size->ib<=b.size->fD kk a b (out++b.extract ib b.size++a.extract ia a.size):=fun{out ia ib} m e hb'=>m.last t.sa t.sb e hb' (fun y hy=>by have:=hl y hy;simpa [show a.size - 1=ia by omega] using this)
 have gO:∀{out:Array Keyed} {ia ib:Nat},Mg kk a b out ia ib->ia<=a.size->ib=b.size->fD kk a b (out++a.extract ia a.size++b.extract ib b.size):=fun{out ia ib} m e hb'=>by subst hb';exact m.gO t.sa e
 with_unfolding_all refine Gv.bind (Gv.rule ?_)
 dsimp only
 refine Gv.bind (Gv.elem (get_some (by omega)) ?_)
 refine aN (fun e=>Gv.pure (h _ _ (gO m1 (by omega) (by simpa using e)) de.refl)) (fun e1=>?_)
 refine aN (fun e=>Gv.pure (h _ _ (lastOk m1 (by simpa using e) (by omega)) de.refl)) (fun e2=>?_)
 have z1:1<b.size:=by have:¬ 1=b.size:=by simpa using e1
                      omega
 have z2:1<a.size:=by have:¬ 0+1=a.size:=by simpa using e2
                      omega
 refine Gv.bind (Gv.get ?_)
 refine Gv.bind (Gv.mono (Q:=fun z st'=>de st st'/\∃r,z.1=some r/\fD kk a b r) (Gv.range (fun m z st'=>de st st'/\∃out ia ib mg,z=(none,out,ia,ib,mg)/\Mid kk a b out ia ib/\a.size+b.size<ia+ib+m) ⟨de.refl,_,_,_,_,rfl,⟨m1,by omega,by omega⟩,by omega⟩ (fun x m z st' hz=>?_) (fun z st' hz=>?_)) (fun z st' hz=>?_))
 ·obtain⟨sm,out,ia,ib,mg,rfl,md,pr⟩:=hz
  have hk':kindOf st'=κ:=sm.kind.trans hk
  dsimp only
  refine Gv.bind (Gv.mono (Q:=fun z st''=>de st st''/\((∃r o i j p q,z=(some r,o,i,j,p,q)/\fD kk a b r)\/∃o i j p q,z=(none,o,i,j,p,q)/\Mid kk a b o i j/\ia+ib<i+j)) (Gv.range (fun m' z st''=>de st st''/\∃o i j p q,z=(none,o,i,j,p,q)/\Mid kk a b o i j/\ia+ib<=i+j/\ia+ib+(a.size+b.size)<=i+j+m') ⟨sm,_,_,_,_,_,rfl,md,by omega,by omega⟩ (fun x m' z st'' hz=>?_) (fun z st'' hz=>?_)) (fun z st'' hz=>?_))
  ·obtain⟨sm2,o,i,j,p,q,rfl,md2,pr0,pr2⟩:=hz
   have hk2:kindOf st''=κ:=sm2.kind.trans hk
   have ha2:=md2.ha
   have hi:i<a.size:=by omega
   have hj:=md2.hb
   dsimp only
   refine Gv.bind (Gv.elem (get_some hj) ?_)
   refine Gv.bind (Gv.elem (get_some hi) ?_)
   refine Gv.bind (Gv.ltC c (t.pb _ (Array.getElem_mem hj)) (t.pa _ (Array.getElem_mem hi)) hk2 ?_)
   dsimp only
   by_cases lt:kk b[j]<kk a[i]
   ·rw[decide_eq_true lt,if_pos rfl]
    have m3:=md2.m.gD t.sb hj (heads t.sa hi lt)
    refine Gv.bind (Gv.elem (get_some hj) ?_)
    refine aN (fun e=>Gv.pure ⟨sm2,.inl ⟨_,_,_,_,_,_,rfl,gO m3 (by omega) (by simpa using e)⟩⟩) (fun e=>?_)
    have e':¬ j+1=b.size:=by simpa using e
    exact aN (fun _=>Gv.pure ⟨sm2,.inr ⟨_,_,_,_,_,rfl,⟨m3,by omega,by omega⟩,by omega⟩⟩) (fun _=>Gv.pure ⟨sm2,_,_,_,_,_,rfl,⟨m3,by omega,by omega⟩,by omega,by omega⟩)
   ·have gt:kk a[i]<kk b[j]:=by have:=t.ne hi hj;omega
    rw[decide_eq_false lt,if_neg (by decide)]
    have m3:=md2.m.gC t.sa hi (heads t.sb hj gt)
    refine Gv.bind (Gv.elem (get_some hi) ?_)
    refine aN (fun e=>Gv.pure ⟨sm2,.inl ⟨_,_,_,_,_,_,rfl,lastOk m3 (by simpa using e) (by omega)⟩⟩) (fun e=>?_)
    have e':¬ i+1+1=a.size:=by simpa using e
    exact aN (fun _=>Gv.pure ⟨sm2,.inr ⟨_,_,_,_,_,rfl,⟨m3,by omega,hj⟩,by omega⟩⟩) (fun _=>Gv.pure ⟨sm2,_,_,_,_,_,rfl,⟨m3,by omega,hj⟩,by omega,by omega⟩)
  ·obtain⟨sm2,o,i,j,p,q,rfl,md2,pr0,pr2⟩:=hz
   exact⟨sm2,.inr ⟨_,_,_,_,_,rfl,md2,by omega⟩⟩
  ·obtain⟨sm2,⟨r,o,i,j,p,q,rfl,fr⟩ | ⟨o,i,j,p,q,rfl,md2,pr2⟩⟩:=hz
   ·exact Gv.pure ⟨sm2,r,rfl,fr⟩
   ·dsimp only
    refine Gv.bind (Gv.rule ?_)
    refine Gv.bind (Gv.mono (Q:=fun z st4=>de st st4/\((∃r o i j g p q,z=(some r,o,i,j,g,p,q)/\fD kk a b r)\/∃o i j g p q,z=(none,o,i,j,g,p,q)/\Mid kk a b o i j/\ia+ib<i+j)) (Gv.range (fun m' z st4=>de st st4/\∃o i j g p q,z=(none,o,i,j,g,p,q)/\Mid kk a b o i j/\ia+ib<i+j) ⟨sm2,_,_,_,_,_,_,rfl,md2,pr2⟩ (fun x m' z st4 hz=>?_) (fun z st4 hz=>?_)) (fun z st4 hz=>?_))
    ·obtain⟨sm4,o,i,j,g,p,q,rfl,md4,pr4⟩:=hz
     have ha4:=md4.ha
     have hj:=md4.hb
     have hi:i<a.size:=by omega
     dsimp only
     refine aN (fun _=>?_) (fun _=>?_)
     all_goals
      with_unfolding_all refine Gv.bind (Gv.modS ⟨rfl,rfl,rfl,rfl⟩ (fun st3 sm3'=>?_))
      have sm3:=sm4.trans sm3'
      have hk3:kindOf st3=κ:=sm3.kind.trans hk
      refine Gv.bind (Gv.elem (get_some hj) ?_)
      refine Gv.bind (pD c t.pa (t.pb _ (Array.getElem_mem hj)) hk3 (show i+(a.size - i)<=a.size by omega) (by omega) (fun p q hq _ hpq _=>jj t.sa hpq hq) (fun p hp _ _=>t.ne hp hj) (fun k hk1 e1 e2=>?_))
      dsimp only
      by_cases k0:k > 0
      ·rw[if_pos k0]
       have m3:=md4.m.jR t.sa k (by omega) (fun p hp h1 h2=>heads t.sb hj (e1 p hp h1 h2))
       refine aN (fun e=>Gv.pure ⟨sm3,.inl ⟨_,_,_,_,_,_,_,rfl,lastOk m3 (by simpa using e) (by omega)⟩⟩) (fun ne1=>?_)
       refine aN (fun e=>?_) (fun ne2=>?_)
       ·have e':i+k=a.size:=by simpa using e
        have m3':=m3
        rw[e'] at m3'
        refine Gv.pure ⟨sm3,.inl ⟨_,_,_,_,_,_,_,rfl,?_⟩⟩
        rw[e']
        exact m3'.hW t.sb (by omega)
       ·have ne1':¬ i+k+1=a.size:=by simpa using ne1
        have ne2':¬ i+k=a.size:=by simpa using ne2
        have hI:i+k<a.size:=by omega
        have gtI:kk b[j]<kk a[i+k]:=e2 (i+k) hI (by omega) (by omega)
        refine Gv.bind (Gv.elem (get_some hj) ?_)
        have m4:=m3.gD t.sb hj (heads t.sa hI gtI)
        refine aN (fun e=>Gv.pure ⟨sm3,.inl ⟨_,_,_,_,_,_,_,rfl,gO m4 (by omega) (by simpa using e)⟩⟩) (fun ne3=>?_)
        have ne3':¬ j+1=b.size:=by simpa using ne3
        refine Gv.bind (Gv.elem (get_some hI) ?_)
        refine Gv.bind (jw c t.pb (t.pa _ (Array.getElem_mem hI)) hk3 (show j+1+(b.size - (j+1))<=b.size by omega) (by omega) (fun p q hq _ hpq _=>jj t.sb hpq hq) (fun k1 hk1 f1 f2=>?_))
        dsimp only
        by_cases k10:k1 > 0
        ·rw[if_pos k10]
         have m5:=m4.dW t.sb k1 (by omega) (fun q hq h1 h2=>heads t.sa hI (f1 q hq h1 h2))
         refine aN (fun e=>Gv.pure ⟨sm3,.inl ⟨_,_,_,_,_,_,_,rfl,gO m5 (by omega) (by simpa using e)⟩⟩) (fun ne4=>?_)
         have ne4':¬ j+1+k1=b.size:=by simpa using ne4
         have hJ:j+1+k1<b.size:=by omega
         have ltJ:kk a[i+k]<kk b[j+1+k1]:=by have:=f2 _ hJ (by omega) (by omega);have:=t.ne hI hJ;omega
         refine Gv.bind (Gv.elem (get_some hI) ?_)
         have m6:=m5.gC t.sa hI (heads t.sb hJ ltJ)
         refine aN (fun e=>Gv.pure ⟨sm3,.inl ⟨_,_,_,_,_,_,_,rfl,lastOk m6 (by simpa using e) (by omega)⟩⟩) (fun ne5=>?_)
         have ne5':¬ i+k+1+1=a.size:=by simpa using ne5
         exact aN (fun _=>Gv.pure ⟨sm3,.inr ⟨_,_,_,_,_,_,rfl,⟨m6,by omega,hJ⟩,by omega⟩⟩) (fun _=>Gv.pure ⟨sm3,_,_,_,_,_,_,rfl,⟨m6,by omega,hJ⟩,by omega⟩)
        ·rw[if_neg k10]
         have m5:=m4
         have hJ:j+1<b.size:=by omega
         have ltJ:kk a[i+k]<kk b[j+1]:=by have:=f2 _ hJ (by omega) (by omega);have:=t.ne hI hJ;omega
         refine Gv.bind (Gv.elem (get_some hI) ?_)
         have m6:=m5.gC t.sa hI (heads t.sb hJ ltJ)
         refine aN (fun e=>Gv.pure ⟨sm3,.inl ⟨_,_,_,_,_,_,_,rfl,lastOk m6 (by simpa using e) (by omega)⟩⟩) (fun ne5=>?_)
         have ne5':¬ i+k+1+1=a.size:=by simpa using ne5
         exact aN (fun _=>Gv.pure ⟨sm3,.inr ⟨_,_,_,_,_,_,rfl,⟨m6,by omega,hJ⟩,by omega⟩⟩) (fun _=>Gv.pure ⟨sm3,_,_,_,_,_,_,rfl,⟨m6,by omega,hJ⟩,by omega⟩)
      ·rw[if_neg k0]
       have m3:=md4.m
       have hI:i<a.size:=hi
       have gtI:kk b[j]<kk a[i]:=e2 i hI (by omega) (by omega)
       refine Gv.bind (Gv.elem (get_some hj) ?_)
       have m4:=m3.gD t.sb hj (heads t.sa hI gtI)
       refine aN (fun e=>Gv.pure ⟨sm3,.inl ⟨_,_,_,_,_,_,_,rfl,gO m4 (by omega) (by simpa using e)⟩⟩) (fun ne3=>?_)
       have ne3':¬ j+1=b.size:=by simpa using ne3
       refine Gv.bind (Gv.elem (get_some hI) ?_)
       refine Gv.bind (jw c t.pb (t.pa _ (Array.getElem_mem hI)) hk3 (show j+1+(b.size - (j+1))<=b.size by omega) (by omega) (fun p q hq _ hpq _=>jj t.sb hpq hq) (fun k1 hk1 f1 f2=>?_))
       dsimp only
       by_cases k10:k1 > 0
       ·rw[if_pos k10]
        have m5:=m4.dW t.sb k1 (by omega) (fun q hq h1 h2=>heads t.sa hI (f1 q hq h1 h2))
        refine aN (fun e=>Gv.pure ⟨sm3,.inl ⟨_,_,_,_,_,_,_,rfl,gO m5 (by omega) (by simpa using e)⟩⟩) (fun ne4=>?_)
        have ne4':¬ j+1+k1=b.size:=by simpa using ne4
        have hJ:j+1+k1<b.size:=by omega
        have ltJ:kk a[i]<kk b[j+1+k1]:=by have:=f2 _ hJ (by omega) (by omega);have:=t.ne hI hJ;omega
        refine Gv.bind (Gv.elem (get_some hI) ?_)
        have m6:=m5.gC t.sa hI (heads t.sb hJ ltJ)
        refine aN (fun e=>Gv.pure ⟨sm3,.inl ⟨_,_,_,_,_,_,_,rfl,lastOk m6 (by simpa using e) (by omega)⟩⟩) (fun ne5=>?_)
        have ne5':¬ i+1+1=a.size:=by simpa using ne5
        exact aN (fun _=>Gv.pure ⟨sm3,.inr ⟨_,_,_,_,_,_,rfl,⟨m6,by omega,hJ⟩,by omega⟩⟩) (fun _=>Gv.pure ⟨sm3,_,_,_,_,_,_,rfl,⟨m6,by omega,hJ⟩,by omega⟩)
       ·rw[if_neg k10]
        have m5:=m4
        have hJ:j+1<b.size:=by omega
        have ltJ:kk a[i]<kk b[j+1]:=by have:=f2 _ hJ (by omega) (by omega);have:=t.ne hI hJ;omega
        refine Gv.bind (Gv.elem (get_some hI) ?_)
        have m6:=m5.gC t.sa hI (heads t.sb hJ ltJ)
        refine aN (fun e=>Gv.pure ⟨sm3,.inl ⟨_,_,_,_,_,_,_,rfl,lastOk m6 (by simpa using e) (by omega)⟩⟩) (fun ne5=>?_)
        have ne5':¬ i+1+1=a.size:=by simpa using ne5
        exact aN (fun _=>Gv.pure ⟨sm3,.inr ⟨_,_,_,_,_,_,rfl,⟨m6,by omega,hJ⟩,by omega⟩⟩) (fun _=>Gv.pure ⟨sm3,_,_,_,_,_,_,rfl,⟨m6,by omega,hJ⟩,by omega⟩)
    ·obtain⟨sm4,o,i,j,g,p,q,rfl,md4,pr4⟩:=hz
     exact⟨sm4,.inr ⟨_,_,_,_,_,_,rfl,md4,pr4⟩⟩
    ·obtain⟨sm4,⟨r,o,i,j,g,p,q,rfl,fr⟩ | ⟨o,i,j,g,p,q,rfl,md4,pr4⟩⟩:=hz
     ·exact Gv.pure ⟨sm4,r,rfl,fr⟩
     ·dsimp only
      with_unfolding_all refine Gv.bind (Gv.modS ⟨rfl,rfl,rfl,rfl⟩ (fun st3 sm3'=>?_))
      exact Gv.pure ⟨sm4.trans sm3',_,_,_,_,rfl,md4,by omega⟩
 ·obtain⟨sm,out,ia,ib,mg,rfl,md,pr⟩:=hz
  have:=md.ha
  have:=md.hb
  omega
 ·obtain⟨sm,r,e,fr⟩:=hz
  rw[e]
  exact Gv.pure (h r st' fr sm)
end
section
variable {kk:Keyed->Int} {a b out:Array Keyed} {na nb:Nat}
structure Mh (kk:Keyed->Int) (a b out:Array Keyed) (na nb:Nat):Prop where
 perm:out.toList.Perm (a.toList.drop na++b.toList.drop nb)
 srt:out.toList.Pairwise fun x y=>kk y<kk x
 la:∀x∈out.toList,∀y∈a.toList.take na,kk y<kk x
 lb:∀x∈out.toList,∀y∈b.toList.take nb,kk y<kk x
theorem Mh.symm (m:Mh kk a b out na nb):Mh kk b a out nb na:=⟨m.perm.trans List.perm_append_comm,m.srt,m.lb,m.la⟩
theorem Mh.zero:Mh kk a b #[] a.size b.size:=⟨by simp[List.drop_eq_nil_of_le],List.Pairwise.nil,fun x hx=>by simp at hx,fun x hx=>by simp at hx⟩
theorem uB {l:List Keyed} {n:Nat} (h:n<l.length):l.take (n+1)=l.take n++[l[n]]:=List.take_succ_eq_append_getElem h
theorem Mh.gD (m:Mh kk a b out na (nb+1)) (sb:Srt kk b.toList) (hi:nb<b.size) (hd:∀y∈a.toList.take na,kk y<kk b[nb]):Mh kk a b (out.push b[nb]) na nb:=by
 have hl:nb<b.toList.length:=by simpa using hi
 have eb:b.toList[nb]=b[nb]:=by simp
 have et:=uB hl
 rw[eb] at et
 have bm:b[nb]∈b.toList.take (nb+1):=by rw[et];simp
 have es:(out.push b[nb]).toList=out.toList++[b[nb]]:=by simp
 refine⟨?_,?_,?_,?_⟩
 ·rw[es,List.drop_eq_getElem_cons hl,eb]
  refine(List.perm_append_singleton _ _).trans ?_
  refine List.Perm.trans ?_ List.perm_middle.symm
  exact m.perm.cons _
 ·rw[es]
  exact List.pairwise_append.mpr ⟨m.srt,List.pairwise_singleton _ _,fun x hx y hy=>by rw[List.mem_singleton] at hy;subst hy;exact m.lb x hx _ bm⟩
 ·intro x hx y hy
  rw[es] at hx
  rcases List.mem_append.mp hx with hx | hx
  ·exact m.la x hx y hy
  ·rw[List.mem_singleton] at hx;subst hx;exact hd y hy
 ·intro x hx y hy
  rw[es] at hx
  rcases List.mem_append.mp hx with hx | hx
  ·exact m.lb x hx y (by rw[et];exact List.mem_append_left _ hy)
  ·rw[List.mem_singleton] at hx;subst hx
   obtain⟨i,hi',rfl⟩:=List.mem_iff_getElem.mp hy
   rw[List.length_take] at hi'
   rw[List.getElem_take]
   have:=List.pairwise_iff_getElem.mp sb i nb (by omega) hl (by omega)
   rwa [eb] at this
theorem Mh.gC (m:Mh kk a b out (na+1) nb) (sa:Srt kk a.toList) (hi:na<a.size) (hd:∀y∈b.toList.take nb,kk y<kk a[na]):Mh kk a b (out.push a[na]) na nb:=(m.symm.gD sa hi hd).symm
theorem Mh.dW (sb:Srt kk b.toList):∀(k nb:Nat) {out:Array Keyed},Mh kk a b out na (nb+k)->nb+k<=b.size->(∀j,(hj:j<b.size)->nb<=j->j<nb+k->∀y∈a.toList.take na,kk y<kk b[j])->Mh kk a b (out++(b.extract nb (nb+k)).reverse) na nb
 | 0,nb,out,m,_,_=>by
  have e:b.extract nb (nb+0) = #[]:=by simp;omega
  rw[e];simpa using m
 | k+1,nb,out,m,hk,hd=>by
  have ih:=Mh.dW sb k (nb+1) (by rw[show nb+1+k=nb+(k+1) by omega];exact m) (by omega) (fun j hj h1 h2=>hd j hj (by omega) (by omega))
  have e:out++(b.extract nb (nb+(k+1))).reverse=(out++(b.extract (nb+1) (nb+1+k)).reverse).push b[nb]:=by
   rw[<- Array.append_push]
   congr 1
   have e2:b.extract nb (nb+(k+1)) = #[b[nb]]++b.extract (nb+1) (nb+1+k):=by
    apply Array.ext
    ·simp;omega
    ·intro i h1 h2
     rw[Array.getElem_extract,Array.getElem_append]
     split
     ·rename_i hz
      have:i=0:=by simpa using hz
      subst this;simp
     ·rename_i hz
      have:1<=i:=by simp at hz;omega
      rw[Array.getElem_extract]
      congr 1
      simp
      omega
   rw[e2,Array.reverse_append]
   apply Array.ext'
   simp
  rw[e]
  exact ih.gD sb (by omega) (hd nb (by omega) (by omega) (by omega))
theorem Mh.jR (sa:Srt kk a.toList) (k na:Nat) {out:Array Keyed} (m:Mh kk a b out (na+k) nb) (hk:na+k<=a.size) (hd:∀j,(hj:j<a.size)->na<=j->j<na+k->∀y∈b.toList.take nb,kk y<kk a[j]):Mh kk a b (out++(a.extract na (na+k)).reverse) na nb:=(Mh.dW sa k na m.symm hk hd).symm
theorem Mh.fin (m:Mh kk a b out 0 0):fD kk a b out.reverse:=by
 refine⟨?_,?_⟩
 ·rw[Array.toList_reverse]
  refine(List.reverse_perm _).trans ?_
  have:=m.perm;simpa using this
 ·unfold Srt;rw[Array.toList_reverse,List.pairwise_reverse];exact m.srt
theorem kU (x y:Array Keyed):(x++y.reverse).reverse=y++x.reverse:=by
 apply Array.ext';simp
theorem Mh.hW (m:Mh kk a b out 0 nb) (sb:Srt kk b.toList) (hi:nb<=b.size):fD kk a b (a.extract 0 0++b.extract 0 nb++out.reverse):=by
 have e:a.extract 0 0 = #[]:=by simp
 rw[e,Array.empty_append]
 have:=Mh.dW sb nb 0 (by rw[Nat.zero_add];exact m) (by omega) (fun j hj _ _ y hy=>by simp at hy)
 rw[Nat.zero_add] at this
 have f:=this.fin
 rwa [kU] at f
theorem Mh.gO (m:Mh kk a b out na 0) (sa:Srt kk a.toList) (hi:na<=a.size):fD kk a b (a.extract 0 na++b.extract 0 0++out.reverse):=by
 have e:b.extract 0 0 = #[]:=by simp
 rw[e,Array.append_empty]
 have:=Mh.jR sa na 0 (by rw[Nat.zero_add];exact m) (by omega) (fun j hj _ _ y hy=>by simp at hy)
 rw[Nat.zero_add] at this
 have f:=this.fin
 rwa [kU] at f
theorem Mh.first (m:Mh kk a b out na 1) (sa:Srt kk a.toList) (sb:Srt kk b.toList) (hi:na<=a.size) (hb:0<b.size) (hd:∀y∈a.toList,kk b[0]<kk y):fD kk a b (b.extract 0 1++a.extract 0 na++out.reverse):=by
 have hb1:b.toList.take 1=[b[0]]:=by rw[uB (n:=0) (by simpa using hb)];simp
 have m1:=Mh.jR sa na 0 (by rw[Nat.zero_add];exact m) (by omega) (fun j hj _ _ y hy=>by
  rw[hb1,List.mem_singleton] at hy;subst hy
  exact hd _ (by simp))
 rw[Nat.zero_add] at m1
 have m2:=Mh.dW sb 1 0 (by rw[Nat.zero_add];exact m1) (by omega) (fun j hj _ _ y hy=>by simp at hy)
 rw[Nat.zero_add] at m2
 have f:=m2.fin
 rw[kU,kU,<- Array.append_assoc] at f
 exact f
theorem kE (sa:Srt kk a.toList) {i:Nat} (hi:i<a.size) {v:Int} (hv:kk a[i]<v):∀y∈a.toList.take (i+1),kk y<v:=by
 intro y hy
 obtain⟨j,hj,rfl⟩:=List.mem_iff_getElem.mp hy
 rw[List.length_take] at hj
 rw[List.getElem_take]
 rcases Nat.lt_or_ge j i with z | z
 ·have:=jj sa z hi
  have e:a.toList[j]'(by omega)=a[j]:=by simp
  rw[e];omega
 ·have:j=i:=by omega
  subst this
  simpa using hv
end
section
variable {prog:Program} {w:World} {A:Around} {E:Value->Shared->Prop} {s:Shared} {κ:SortKind} {P:Keyed->Prop} {kk:Keyed->Int}
structure Mih (kk:Keyed->Int) (a b out:Array Keyed) (na nb:Nat):Prop where
 m:Mh kk a b out na nb
 ha:1<=na
 hb:2<=nb
 la:na<=a.size
 lb:nb<=b.size
theorem Mh.qk {a b out:Array Keyed} {na k hi:Nat} (sb:Srt kk b.toList) (hle:k<=hi) (m:Mh kk a b out na hi) (hh:hi<=b.size) (hd:∀j,(hj:j<b.size)->k<=j->j<hi->∀y∈a.toList.take na,kk y<kk b[j]):Mh kk a b (out++(b.extract k hi).reverse) na k:=by
 obtain⟨d,rfl⟩:=Nat.exists_eq_add_of_le hle
 exact Mh.dW sb d k m hh hd
theorem Mh.AQ {a b out:Array Keyed} {nb k hi:Nat} (sa:Srt kk a.toList) (hle:k<=hi) (m:Mh kk a b out hi nb) (hh:hi<=a.size) (hd:∀j,(hj:j<a.size)->k<=j->j<hi->∀y∈b.toList.take nb,kk y<kk a[j]):Mh kk a b (out++(a.extract k hi).reverse) k nb:=(Mh.qk sa hle m.symm hh hd).symm
theorem get_eq {a:Array Keyed} {i k:Nat} (h:i<a.size) (e:k=i):a[k]?=some a[i]:=by subst e;simp[h]
theorem sQ {a b:Array Keyed} {st:SortSt} {Q:Array Keyed->SortSt->Prop} (c:Cmp prog w A s κ P kk) (t:Two P kk a b) (hk:kindOf st=κ) (ha:1<=a.size) (hb:1<=b.size) (h0:∀y∈a.toList,kk b[0]<kk y) (hl:kk b[b.size - 1]<kk a[a.size - 1])
  (h:∀r st',fD kk a b r->de st st'->Q r st'):Gv prog w A E s (wx a b) st Q:=by
 obtain⟨A1,hA1⟩:∃A1,a.size=A1+1:=⟨a.size - 1,by omega⟩
 have hA:A1<a.size:=by omega
 have eA:a.size - 1=A1:=by omega
 have m1:Mh kk a b #[a[A1]] A1 b.size:=by
  have:=(Mh.zero (kk:=kk) (a:=a) (b:=b))
  have t1:=kE t.sb (i:=b.size - 1) (by omega) (show kk b[b.size - 1]<kk a[A1] by have:=hl;simpa [eA] using this)
  rw[show b.size - 1+1=b.size by omega] at t1
  have:=Mh.gC (na:=A1) (by rw[<- hA1];exact this) t.sa hA t1
  simpa using this
 have firstOk:∀{out:Array Keyed} {na:Nat},Mh kk a b out na 1->na<=a.size->fD kk a b (b.extract 0 1++a.extract 0 na++out.reverse):=fun{out na} m e=>m.first t.sa t.sb e (by omega) h0
 have hW:∀{out:Array Keyed} {na nb:Nat},Mh kk a b out na nb->na=0->nb<=b.size->fD kk a b (a.extract 0 na++b.extract 0 nb++out.reverse):=fun{out na nb} m e hb'=>by subst e;exact m.hW t.sb hb'
 with_unfolding_all refine Gv.bind (Gv.rule ?_)
 dsimp only
 refine Gv.bind (Gv.elem (get_eq hA eA) ?_)
 refine aN (fun e=>?_) (fun e1=>?_)
 ·have e':a.size - 1=0:=by simpa using e
  rw[eA]
  exact Gv.pure (h _ _ (hW m1 (by omega) (by omega)) de.refl)
 refine aN (fun e=>?_) (fun e2=>?_)
 ·have e':b.size=1:=by simpa using e
  rw[e'] at m1
  rw[e',eA]
  exact Gv.pure (h _ _ (firstOk m1 (by omega)) de.refl)
 have z1:¬ a.size - 1=0:=by simpa using e1
 have z2:¬ b.size=1:=by simpa using e2
 refine Gv.bind (Gv.get ?_)
 refine Gv.bind (Gv.mono (Q:=fun z st'=>de st st'/\∃r,z.1=some r/\fD kk a b r) (Gv.range (fun m z st'=>de st st'/\∃na nb out mg,z=(none,na,nb,out,mg)/\Mih kk a b out na nb/\na+nb<m+1) ⟨de.refl,a.size - 1,_,_,_,rfl,⟨by rw[eA];exact m1,by omega,by omega,by omega,by omega⟩,by omega⟩ (fun x m z st' hz=>?_) (fun z st' hz=>?_)) (fun z st' hz=>?_))
 ·obtain⟨sm,na,nb,out,mg,rfl,md,pr⟩:=hz
  dsimp only
  refine Gv.bind (Gv.mono (Q:=fun z st''=>de st st''/\((∃r x y o p q,z=(some r,x,y,o,p,q)/\fD kk a b r)\/∃x y o p q,z=(none,x,y,o,p,q)/\Mih kk a b o x y/\x+y<na+nb)) (Gv.range (fun m' z st''=>de st st''/\∃x y o p q,z=(none,x,y,o,p,q)/\Mih kk a b o x y/\x+y<=na+nb/\x+y+(a.size+b.size)<=na+nb+m') ⟨sm,_,_,_,_,_,rfl,md,by omega,by omega⟩ (fun x m' z st'' hz=>?_) (fun z st'' hz=>?_)) (fun z st'' hz=>?_))
  ·obtain⟨sm2,x2,y2,o,p,q,rfl,⟨mm,ha2,hb2,la2,lb2⟩,pr0,pr2⟩:=hz
   obtain⟨i,rfl⟩:∃i,x2=i+1:=⟨x2 - 1,by omega⟩
   obtain⟨j,rfl⟩:∃j,y2=j+2:=⟨y2 - 2,by omega⟩
   have hk2:kindOf st''=κ:=sm2.kind.trans hk
   have hi:i<a.size:=by omega
   have hj:j+1<b.size:=by omega
   dsimp only
   refine Gv.bind (Gv.elem (get_eq hj (by omega)) ?_)
   refine Gv.bind (Gv.elem (get_eq hi (by omega)) ?_)
   refine Gv.bind (Gv.ltC c (t.pb _ (Array.getElem_mem hj)) (t.pa _ (Array.getElem_mem hi)) hk2 ?_)
   dsimp only
   by_cases lt:kk b[j+1]<kk a[i]
   ·rw[decide_eq_true lt,if_pos rfl]
    have m3:Mh kk a b _ i (j+2):=mm.gC t.sa hi (kE t.sb hj lt)
    refine Gv.bind (Gv.elem (get_eq hi (by omega)) ?_)
    refine aN (fun e=>Gv.pure ⟨sm2,.inl ⟨_,_,_,_,_,_,rfl,hW m3 (by simpa using e) (by omega)⟩⟩) (fun e=>?_)
    have e':¬ i=0:=by simpa using e
    exact aN (fun _=>Gv.pure ⟨sm2,.inr ⟨i,j+2,_,_,_,rfl,⟨m3,by omega,by omega,by omega,by omega⟩,by omega⟩⟩) (fun _=>Gv.pure ⟨sm2,i,j+2,_,_,_,rfl,⟨m3,by omega,by omega,by omega,by omega⟩,by omega,by omega⟩)
   ·have gt:kk a[i]<kk b[j+1]:=by have:=t.ne hi hj;omega
    rw[decide_eq_false lt,if_neg (by decide)]
    have m3:Mh kk a b _ (i+1) (j+1):=mm.gD t.sb hj (kE t.sa hi gt)
    refine Gv.bind (Gv.elem (get_eq hj (by omega)) ?_)
    refine aN (fun e=>?_) (fun e=>?_)
    ·have e':j=0:=by simpa using e
     subst e'
     exact Gv.pure ⟨sm2,.inl ⟨_,_,_,_,_,_,rfl,firstOk m3 (by omega)⟩⟩
    have e':¬ j=0:=by simpa using e
    exact aN (fun _=>Gv.pure ⟨sm2,.inr ⟨i+1,j+1,_,_,_,rfl,⟨m3,by omega,by omega,by omega,by omega⟩,by omega⟩⟩) (fun _=>Gv.pure ⟨sm2,i+1,j+1,_,_,_,rfl,⟨m3,by omega,by omega,by omega,by omega⟩,by omega,by omega⟩)
  ·obtain⟨sm2,x2,y2,o,p,q,rfl,md2,pr0,pr2⟩:=hz
   exact⟨sm2,.inr ⟨_,_,_,_,_,rfl,md2,by omega⟩⟩
  ·obtain⟨sm2,⟨r,x2,y2,o,p,q,rfl,fr⟩ | ⟨x2,y2,o,p,q,rfl,md2,pr2⟩⟩:=hz
   ·exact Gv.pure ⟨sm2,r,rfl,fr⟩
   ·dsimp only
    refine Gv.bind (Gv.rule ?_)
    refine Gv.bind (Gv.mono (Q:=fun z st4=>de st st4/\((∃r x y o g p q,z=(some r,x,y,o,g,p,q)/\fD kk a b r)\/∃x y o g p q,z=(none,x,y,o,g,p,q)/\Mih kk a b o x y/\x+y<na+nb)) (Gv.range (fun m' z st4=>de st st4/\∃x y o g p q,z=(none,x,y,o,g,p,q)/\Mih kk a b o x y/\x+y<na+nb) ⟨sm2,_,_,_,_,_,_,rfl,md2,pr2⟩ (fun x m' z st4 hz=>?_) (fun z st4 hz=>?_)) (fun z st4 hz=>?_))
    ·obtain⟨sm4,x4,y4,o,g,p,q,rfl,⟨mm,ha4,hb4,la4,lb4⟩,pr4⟩:=hz
     obtain⟨i,rfl⟩:∃i,x4=i+1:=⟨x4 - 1,by omega⟩
     obtain⟨j,rfl⟩:∃j,y4=j+2:=⟨y4 - 2,by omega⟩
     have hj:j+1<b.size:=by omega
     have hi:i<a.size:=by omega
     dsimp only
     refine aN (fun _=>?_) (fun _=>?_)
     all_goals
      with_unfolding_all refine Gv.bind (Gv.modS ⟨rfl,rfl,rfl,rfl⟩ (fun st3 sm3'=>?_))
      have sm3:=sm4.trans sm3'
      have hk3:kindOf st3=κ:=sm3.kind.trans hk
      refine Gv.bind (Gv.elem (get_eq hj (by omega)) ?_)
      refine Gv.bind (pD (n:=i+1) (hint:=i) c t.pa (t.pb _ (Array.getElem_mem hj)) hk3 (by omega) (by omega) (fun p q hq _ hpq _=>jj t.sa hpq hq) (fun p hp _ _=>t.ne hp hj) (fun k hk1 e1 e2=>?_))
      dsimp only
      by_cases k0:i+1 - k > 0
      ·rw[if_pos k0]
       have m3':=Mh.AQ t.sa (show k<=i+1 by omega) mm (by omega) (fun p hp h1 h2=>kE t.sb hj (e2 p hp (by omega) (by omega)))
       refine aN (fun e=>Gv.pure ⟨sm3,.inl ⟨_,_,_,_,_,_,_,rfl,hW m3' (by simpa using e) (by omega)⟩⟩) (fun ne1=>?_)
       have ne1':¬ k=0:=by simpa using ne1
       obtain⟨I,rfl⟩:∃I,k=I+1:=⟨k - 1,by omega⟩
       have m3:=m3'
       have hI:I<a.size:=by omega
       have gtI:kk a[I]<kk b[j+1]:=e1 I hI (by omega) (by omega)
       refine Gv.bind (Gv.elem (get_eq hj (by omega)) ?_)
       have m4:Mh kk a b _ (I+1) (j+1):=Mh.gD m3 t.sb hj (kE t.sa hI gtI)
       refine aN (fun e=>?_) (fun ne3=>?_)
       ·have e':j=0:=by simpa using e
        subst e'
        exact Gv.pure ⟨sm3,.inl ⟨_,_,_,_,_,_,_,rfl,firstOk m4 (by omega)⟩⟩
       have ne3':¬ j=0:=by simpa using ne3
       refine Gv.bind (Gv.elem (get_eq hI (by omega)) ?_)
       refine Gv.bind (jw (n:=j+1) (hint:=j) c t.pb (t.pa _ (Array.getElem_mem hI)) hk3 (by omega) (by omega) (fun p q hq _ hpq _=>jj t.sb hpq hq) (fun k1 hk1 f1 f2=>?_))
       dsimp only
       refine aN (fun k10=>?_) (fun k10=>?_)
       ·skip
        have m5:=Mh.qk t.sb (show k1<=j+1 by omega) m4 (by omega) (fun q hq h1 h2=>kE t.sa hI (by have:=f2 q hq (by omega) (by omega);have:=t.ne hI hq;omega))
        refine aN (fun e=>?_) (fun ne4=>?_)
        ·have e':k1=1:=by simpa using e
         subst e'
         exact Gv.pure ⟨sm3,.inl ⟨_,_,_,_,_,_,_,rfl,firstOk m5 (by omega)⟩⟩
        refine aN (fun e=>?_) (fun ne6=>?_)
        ·have e':k1=0:=by simpa using e
         subst e'
         exact Gv.pure ⟨sm3,.inl ⟨_,_,_,_,_,_,_,rfl,m5.gO t.sa (by omega)⟩⟩
        have ne4':¬ k1=1:=by simpa using ne4
        have ne6':¬ k1=0:=by simpa using ne6
        have ltJ:∀y∈b.toList.take k1,kk y<kk a[I]:=by
         have:=kE t.sb (i:=k1 - 1) (by omega) (f1 (k1 - 1) (by omega) (by omega) (by omega))
         rwa [show k1 - 1+1=k1 by omega] at this
        refine Gv.bind (Gv.elem (get_eq hI (by omega)) ?_)
        have m6:Mh kk a b _ I k1:=Mh.gC m5 t.sa hI ltJ
        refine aN (fun e=>Gv.pure ⟨sm3,.inl ⟨_,_,_,_,_,_,_,rfl,hW m6 (by simpa using e) (by omega)⟩⟩) (fun ne5=>?_)
        have ne5':¬ I=0:=by simpa using ne5
        exact aN (fun _=>Gv.pure ⟨sm3,.inr ⟨I,k1,_,_,_,_,rfl,⟨m6,by omega,by omega,by omega,by omega⟩,by omega⟩⟩) (fun _=>Gv.pure ⟨sm3,I,k1,_,_,_,_,rfl,⟨m6,by omega,by omega,by omega,by omega⟩,by omega⟩)
       ·skip
        have e1':k1=j+1:=by omega
        have m5:=m4
        have ltJ:∀y∈b.toList.take (j+1),kk y<kk a[I]:=kE t.sb (by omega) (f1 j (by omega) (by omega) (by omega))
        refine Gv.bind (Gv.elem (get_eq hI (by omega)) ?_)
        have m6:Mh kk a b _ I (j+1):=Mh.gC m5 t.sa hI ltJ
        refine aN (fun e=>Gv.pure ⟨sm3,.inl ⟨_,_,_,_,_,_,_,rfl,hW m6 (by simpa using e) (by omega)⟩⟩) (fun ne5=>?_)
        have ne5':¬ I=0:=by simpa using ne5
        exact aN (fun _=>Gv.pure ⟨sm3,.inr ⟨I,(j+1),_,_,_,_,rfl,⟨m6,by omega,by omega,by omega,by omega⟩,by omega⟩⟩) (fun _=>Gv.pure ⟨sm3,I,(j+1),_,_,_,_,rfl,⟨m6,by omega,by omega,by omega,by omega⟩,by omega⟩)
      ·rw[if_neg k0]
       have m3:=mm
       have hI:i<a.size:=hi
       have gtI:kk a[i]<kk b[j+1]:=e1 i hI (by omega) (by omega)
       refine Gv.bind (Gv.elem (get_eq hj (by omega)) ?_)
       have m4:Mh kk a b _ (i+1) (j+1):=Mh.gD m3 t.sb hj (kE t.sa hI gtI)
       refine aN (fun e=>?_) (fun ne3=>?_)
       ·have e':j=0:=by simpa using e
        subst e'
        exact Gv.pure ⟨sm3,.inl ⟨_,_,_,_,_,_,_,rfl,firstOk m4 (by omega)⟩⟩
       have ne3':¬ j=0:=by simpa using ne3
       refine Gv.bind (Gv.elem (get_eq hI (by omega)) ?_)
       refine Gv.bind (jw (n:=j+1) (hint:=j) c t.pb (t.pa _ (Array.getElem_mem hI)) hk3 (by omega) (by omega) (fun p q hq _ hpq _=>jj t.sb hpq hq) (fun k1 hk1 f1 f2=>?_))
       dsimp only
       refine aN (fun k10=>?_) (fun k10=>?_)
       ·skip
        have m5:=Mh.qk t.sb (show k1<=j+1 by omega) m4 (by omega) (fun q hq h1 h2=>kE t.sa hI (by have:=f2 q hq (by omega) (by omega);have:=t.ne hI hq;omega))
        refine aN (fun e=>?_) (fun ne4=>?_)
        ·have e':k1=1:=by simpa using e
         subst e'
         exact Gv.pure ⟨sm3,.inl ⟨_,_,_,_,_,_,_,rfl,firstOk m5 (by omega)⟩⟩
        refine aN (fun e=>?_) (fun ne6=>?_)
        ·have e':k1=0:=by simpa using e
         subst e'
         exact Gv.pure ⟨sm3,.inl ⟨_,_,_,_,_,_,_,rfl,m5.gO t.sa (by omega)⟩⟩
        have ne4':¬ k1=1:=by simpa using ne4
        have ne6':¬ k1=0:=by simpa using ne6
        have ltJ:∀y∈b.toList.take k1,kk y<kk a[i]:=by
         have:=kE t.sb (i:=k1 - 1) (by omega) (f1 (k1 - 1) (by omega) (by omega) (by omega))
         rwa [show k1 - 1+1=k1 by omega] at this
        refine Gv.bind (Gv.elem (get_eq hI (by omega)) ?_)
        have m6:Mh kk a b _ i k1:=Mh.gC m5 t.sa hI ltJ
        refine aN (fun e=>Gv.pure ⟨sm3,.inl ⟨_,_,_,_,_,_,_,rfl,hW m6 (by simpa using e) (by omega)⟩⟩) (fun ne5=>?_)
        have ne5':¬ i=0:=by simpa using ne5
        exact aN (fun _=>Gv.pure ⟨sm3,.inr ⟨i,k1,_,_,_,_,rfl,⟨m6,by omega,by omega,by omega,by omega⟩,by omega⟩⟩) (fun _=>Gv.pure ⟨sm3,i,k1,_,_,_,_,rfl,⟨m6,by omega,by omega,by omega,by omega⟩,by omega⟩)
       ·skip
        have e1':k1=j+1:=by omega
        have m5:=m4
        have ltJ:∀y∈b.toList.take (j+1),kk y<kk a[i]:=kE t.sb (by omega) (f1 j (by omega) (by omega) (by omega))
        refine Gv.bind (Gv.elem (get_eq hI (by omega)) ?_)
        have m6:Mh kk a b _ i (j+1):=Mh.gC m5 t.sa hI ltJ
        refine aN (fun e=>Gv.pure ⟨sm3,.inl ⟨_,_,_,_,_,_,_,rfl,hW m6 (by simpa using e) (by omega)⟩⟩) (fun ne5=>?_)
        have ne5':¬ i=0:=by simpa using ne5
        exact aN (fun _=>Gv.pure ⟨sm3,.inr ⟨i,(j+1),_,_,_,_,rfl,⟨m6,by omega,by omega,by omega,by omega⟩,by omega⟩⟩) (fun _=>Gv.pure ⟨sm3,i,(j+1),_,_,_,_,rfl,⟨m6,by omega,by omega,by omega,by omega⟩,by omega⟩)
    ·obtain⟨sm4,x4,y4,o,g,p,q,rfl,md4,pr4⟩:=hz
     exact⟨sm4,.inr ⟨_,_,_,_,_,_,rfl,md4,pr4⟩⟩
    ·obtain⟨sm4,⟨r,x4,y4,o,g,p,q,rfl,fr⟩ | ⟨x4,y4,o,g,p,q,rfl,md4,pr4⟩⟩:=hz
     ·exact Gv.pure ⟨sm4,r,rfl,fr⟩
     ·dsimp only
      with_unfolding_all refine Gv.bind (Gv.modS ⟨rfl,rfl,rfl,rfl⟩ (fun st3 sm3'=>?_))
      exact Gv.pure ⟨sm4.trans sm3',_,_,_,_,rfl,md4,by omega⟩
 ·obtain⟨sm,na,nb,out,mg,rfl,md,pr⟩:=hz
  have:=md.ha
  omega
 ·obtain⟨sm,r,e,fr⟩:=hz
  rw[e]
  exact Gv.pure (h r st' fr sm)
end
section
variable {kk:Keyed->Int}
noncomputable def seg (a:Array Keyed) (lo n:Nat):List Keyed:=(a.toList.drop lo).take n
theorem b_ {a:Array Keyed} {lo n:Nat} (h:lo+n<=a.size):(seg a lo n).length=n:=by unfold seg;rw[List.length_take,List.length_drop,Array.length_toList];omega
theorem jB {a:Array Keyed} {lo n i:Nat} (h:lo+n<=a.size) (hi:i<n):(seg a lo n)[i]'(by rw[b_ h];exact hi)=a[lo+i]:=by
 unfold seg;rw[List.getElem_take,List.getElem_drop];simp
theorem bM (a:Array Keyed) (lo n k:Nat) (h:k<=n):seg a lo n=seg a lo k++seg a (lo+k) (n - k):=by
 unfold seg
 rw[<- List.drop_drop]
 have:n=k+(n - k):=by omega
 conv=>lhs;rw[this,List.take_add]
theorem jD {a:Array Keyed} {lo n:Nat} (h:lo+n<=a.size) (s:Srt kk (seg a lo n)) {j m:Nat} (hj:lo<=j) (hjm:j<m) (hm:m<lo+n):kk (a[j]'(by omega))<kk (a[m]'(by omega)):=by
 have:=List.pairwise_iff_getElem.mp s (j - lo) (m - lo) (by rw[b_ h];omega) (by rw[b_ h];omega) (by omega)
 rw[jB h (by omega),jB h (by omega)] at this
 simpa [show lo+(j - lo)=j by omega,show lo+(m - lo)=m by omega] using this
theorem cA {a:Array Keyed} {lo n:Nat} (h:lo+n<=a.size) {x:Keyed} (hx:x∈seg a lo n):∃j,∃hj:j<a.size,lo<=j/\j<lo+n/\a[j]=x:=by
 obtain⟨i,hi,rfl⟩:=List.mem_iff_getElem.mp hx
 have hi':i<n:=by rw[b_ h] at hi;exact hi
 exact⟨lo+i,by omega,by omega,by omega,(jB h hi').symm⟩
theorem uu {a:Array Keyed} {lo n:Nat} {x:Keyed} (h:x∈seg a lo n):x∈a:=by
 have:=List.mem_of_mem_drop (List.mem_of_mem_take h)
 simpa using this
theorem dY (a:Array Keyed) (lo n:Nat):a.toList=a.toList.take lo++seg a lo n++a.toList.drop (lo+n):=by
 unfold seg
 rw[<- List.drop_drop,List.append_assoc,List.take_append_drop,List.take_append_drop]
theorem uW (a:Array Keyed) (lo hi:Nat):(a.extract lo hi).toList=seg a lo (hi - lo):=by
 unfold seg;rw[Array.toList_extract,List.extract_eq_take_drop]
theorem rN:∀(l o X Z:List Keyed) (a:Array Keyed) (k pos:Nat),a.toList=X++o++Z->o.length=l.length->X.length=pos+k->((l.zipIdx k).foldl (fun a pj=>a.setIfInBounds (pos+pj.2) pj.1) a).toList=X++l++Z
 | [],o,X,Z,a,k,pos,e,hl,_=>by
  have:o=[]:=List.length_eq_zero_iff.mp hl
  subst this
  simpa using e
 | x::l,[],X,Z,a,k,pos,e,hl,_=>by simp at hl
 | x::l,y::o,X,Z,a,k,pos,e,hl,hX=>by
  rw[List.zipIdx_cons,List.foldl_cons]
  have e1:(a.setIfInBounds (pos+k) x).toList=(X++[x])++o++Z:=by
   rw[Array.toList_setIfInBounds,e,<- hX]
   simp[List.set_append]
  have:=rN l o (X++[x]) Z (a.setIfInBounds (pos+k) x) (k+1) pos e1 (by simpa using hl) (by simp;omega)
  rw[this];simp
end
section
variable {prog:Program} {w:World} {A:Around} {E:Value->Shared->Prop} {s:Shared} {κ:SortKind} {P:Keyed->Prop} {kk:Keyed->Int}
theorem Gv.FU {st st0:SortSt} {Q:PUnit->SortSt->Prop} (h:∀st',st'=st0->Q ⟨⟩ st'):Gv prog w A E s (MonadState.set st0:StateT SortSt Sem PUnit) st Q:=Gv.set (h _ rfl)
theorem Gv.mM {f:SortSt->SortSt} {st:SortSt} {Q:PUnit->SortSt->Prop} (h:∀st',st'=f st->Q ⟨⟩ st'):Gv prog w A E s (_root_.modify f:StateT SortSt Sem PUnit) st Q:=Gv.modify (h _ rfl)
theorem oE {a:Array Keyed} (nd:(a.toList.map kk).Nodup) {i j:Nat} (hi:i<a.size) (hj:j<a.size) (n:i≠j):kk a[i]≠kk a[j]:=fun e=>by
 have h:=List.pairwise_iff_getElem.mp nd
 rcases Nat.lt_or_gt_of_ne n with z | z
 ·have:=h i j (by simpa using hi) (by simpa using hj) z
  simp at this;exact this e
 ·have:=h j i (by simpa using hj) (by simpa using hi) z
  simp at this;exact this e.symm
theorem kZ {a a':Array Keyed} {sa na nb k q:Nat} {r:List Keyed} (hk:k<=na) (hq:q<=nb) (hn:sa+na+nb<=a.size) (hr:r.Perm (seg a (sa+k) (na - k)++seg a (sa+na) q)) (sr:Srt kk r)
  (e:a'.toList=a.toList.take (sa+k)++r++a.toList.drop (sa+na+q))
  (s1:Srt kk (seg a sa na)) (s2:Srt kk (seg a (sa+na) nb)) (o3:∀j,(hj:j<a.size)->sa<=j->j<sa+k->∀m,(hm:m<a.size)->sa+na<=m->m<sa+na+nb->kk a[j]<kk a[m])
  (o4:∀j,(hj:j<a.size)->sa<=j->j<sa+na->∀m,(hm:m<a.size)->sa+na+q<=m->m<sa+na+nb->kk a[j]<kk a[m]) :
  a'.toList=a.toList.take sa++(seg a sa k++r++seg a (sa+na+q) (nb - q))++a.toList.drop (sa+na+nb)/\(seg a sa k++r++seg a (sa+na+q) (nb - q)).Perm (seg a sa (na+nb))/\Srt kk (seg a sa k++r++seg a (sa+na+q) (nb - q)):=by
 have hs1:sa+na<=a.size:=by omega
 have e1:=bM a sa na k hk
 have e2:=bM a (sa+na) nb q hq
 refine⟨?_,?_,?_⟩
 ·rw[e,List.take_add]
  have:a.toList.drop (sa+na+q)=seg a (sa+na+q) (nb - q)++a.toList.drop (sa+na+nb):=by
   unfold seg
   have:=(List.take_append_drop (nb - q) (a.toList.drop (sa+na+q))).symm
   rwa [List.drop_drop,show sa+na+q+(nb - q)=sa+na+nb by omega] at this
  rw[this]
  unfold seg
  simp[List.append_assoc]
 ·have e3:seg a sa (na+nb)=seg a sa na++seg a (sa+na) nb:=by
   have:=bM a sa (na+nb) na (by omega)
   rwa [show na+nb - na=nb by omega] at this
  rw[e3,e1,e2]
  have:=(hr.append_left (seg a sa k)).append_right (seg a (sa+na+q) (nb - q))
  simpa [List.append_assoc] using this
 ·have S1:=s1
  rw[e1] at S1
  have S2:=s2
  rw[e2] at S2
  unfold Srt at S1 S2
  rw[List.pairwise_append] at S1 S2
  refine List.pairwise_append.mpr ⟨List.pairwise_append.mpr ⟨S1.1,sr,fun x hx y hy=>?_⟩,S2.2.1,fun x hx y hy=>?_⟩
  ·rcases List.mem_append.mp (hr.mem_iff.mp hy) with hy | hy
   ·exact S1.2.2 x hx y hy
   ·obtain⟨j,hj,j1,j2,rfl⟩:=cA (by omega) hx
    obtain⟨m,hm,m1,m2,rfl⟩:=cA (by omega) hy
    exact o3 j hj j1 j2 m hm m1 (by omega)
  ·obtain⟨m,hm,m1,m2,rfl⟩:=cA (by omega) hy
   rcases List.mem_append.mp hx with hx | hx
   ·obtain⟨j,hj,j1,j2,rfl⟩:=cA (by omega) hx
    exact o4 j hj j1 (by omega) m hm (by omega) (by omega)
   ·rcases List.mem_append.mp (hr.mem_iff.mp hx) with hx | hx
    ·obtain⟨j,hj,j1,j2,rfl⟩:=cA (by omega) hx
     exact o4 j hj (by omega) (by omega) m hm (by omega) (by omega)
    ·exact S2.2.2 _ hx _ hy
theorem tI {i sa na pw nb pw2:Nat} {st:SortSt} {Q:Bool->SortSt->Prop} (c:Cmp prog w A s κ P kk) (hk:kindOf st=κ) (hf:failedOf st=none) (hp:∀x∈arrOf st,P x) (nd:((arrOf st).toList.map kk).Nodup)
  (p1:(pendingOf st)[i]?=some (sa,na,pw)) (p2:(pendingOf st)[i+1]?=some (sa+na,nb,pw2)) (h1:1<=na) (h2:1<=nb) (hn:sa+na+nb<=(arrOf st).size) (s1:Srt kk (seg (arrOf st) sa na)) (s2:Srt kk (seg (arrOf st) (sa+na) nb))
  (h:∀(st':SortSt) (M:List Keyed),kindOf st'=κ->failedOf st'=none->pendingOf st'=((pendingOf st).setIfInBounds i (sa,na+nb,pw)).eraseIdxIfInBounds (i+1)->(arrOf st').toList=(arrOf st).toList.take sa++M++(arrOf st).toList.drop (sa+na+nb)->M.Perm (seg (arrOf st) sa (na+nb))->Srt kk M->Q true st'):Gv prog w A E s (mergeAt' i) st Q:=by
 obtain⟨kd,a,pd,mg,fl⟩:=st
 with_unfolding_all refine Gv.bind (Gv.get ?_)
 dsimp only
 rw[show pd[i]?=_ from p1,show pd[i+1]?=_ from p2]
 dsimp only
 replace hp:∀x∈a,P x:=hp
 replace nd:(a.toList.map kk).Nodup:=nd
 replace hn:sa+na+nb<=a.size:=hn
 replace s1:Srt kk (seg a sa na):=s1
 replace s2:Srt kk (seg a (sa+na) nb):=s2
 replace h:∀(st':SortSt) (M:List Keyed),kindOf st'=κ->failedOf st'=none->pendingOf st'=(pd.setIfInBounds i (sa,na+nb,pw)).eraseIdxIfInBounds (i+1)->(arrOf st').toList=a.toList.take sa++M++a.toList.drop (sa+na+nb)->M.Perm (seg a sa (na+nb))->Srt kk M->Q true st':=h
 refine Gv.bind (Gv.FU fun st1 f1=>?_)
 have k1:kindOf st1=κ:=by rw[f1];exact hk
 have fl1:failedOf st1=none:=by rw[f1];exact hf
 have a1:arrOf st1=a:=by rw[f1]
 have pd1:pendingOf st1=(pd.setIfInBounds i (sa,na+nb,pw)).eraseIdxIfInBounds (i+1):=by rw[f1]
 clear f1
 have hsb:sa+na<a.size:=by omega
 have hs1:sa+na<=a.size:=by omega
 have o1:∀{j m:Nat} (hm:m<a.size),sa<=j->(hjm:j<m)->m<sa+na->kk (a[j]'(by omega))<kk a[m]:=fun hm h1 h2 h3=>jD hs1 s1 h1 h2 h3
 have o2:∀{j m:Nat} (hm:m<a.size),sa+na<=j->(hjm:j<m)->m<sa+na+nb->kk (a[j]'(by omega))<kk a[m]:=fun hm h1 h2 h3=>jD hn s2 h1 h2 h3
 refine Gv.bind (Gv.elem (get_some hsb) ?_)
 refine Gv.bind (pD c hp (hp _ (Array.getElem_mem hsb)) k1 hs1 (by omega) (fun j m hm h1 h2 h3=>o1 hm h1 h2 h3) (fun j hj h1 h2=>oE nd hj hsb (by omega)) (fun k hk1 e1 e2=>?_))
 have O3:∀j,(hj:j<a.size)->sa<=j->j<sa+k->∀m,(hm:m<a.size)->sa+na<=m->m<sa+na+nb->kk a[j]<kk a[m]:=fun j hj h1 h2 m hm h3 h4=>by
  have x1:=e1 j hj h1 h2
  rcases Nat.lt_or_eq_of_le h3 with z | z
  ·have:=o2 hm (Nat.le_refl _) z h4;omega
  ·subst z;exact x1
 dsimp only
 refine aN (fun e=>?_) (fun ne1=>?_)
 ·have e':na - k=0:=by simpa using e
  have ek:k=na:=by omega
  subst ek
  have pb:=kZ (a:=a) (a':=arrOf st1) (sa:=sa) (na:=k) (nb:=nb) (k:=k) (q:=nb) (r:=seg a (sa+k) nb) (Nat.le_refl _) (Nat.le_refl _) hn (by unfold seg;simp) s2 (by rw[a1];exact dY a (sa+k) nb) s1 s2 O3 (fun j hj h1 h2 m hm h3 h4=>by omega)
  exact Gv.pure (h st1 _ k1 fl1 pd1 pb.1 pb.2.1 pb.2.2)
 have ne1':¬ na - k=0:=by simpa using ne1
 have hx:sa+na - 1<a.size:=by omega
 refine Gv.bind (Gv.elem (get_eq hx (by omega)) ?_)
 refine Gv.bind (jw c hp (hp _ (Array.getElem_mem hx)) k1 hn (by omega) (fun j m hm h1 h2 h3=>o2 hm h1 h2 h3) (fun q hq1 f1 f2=>?_))
 have O4:∀j,(hj:j<a.size)->sa<=j->j<sa+na->∀m,(hm:m<a.size)->sa+na+q<=m->m<sa+na+nb->kk a[j]<kk a[m]:=fun j hj h1 h2 m hm h3 h4=>by
  have x1:=f2 m hm h3 h4
  have x2:=oE nd hm hx (by omega)
  rcases Nat.lt_or_eq_of_le (show j<=sa+na - 1 by omega) with z | z
  ·have:=o1 hx h1 z (by omega);omega
  ·subst z;omega
 dsimp only
 refine aN (fun e=>?_) (fun ne2=>?_)
 ·have e':q=0:=by simpa using e
  subst e'
  have pb:=kZ (a:=a) (a':=arrOf st1) (sa:=sa) (na:=na) (nb:=nb) (k:=k) (q:=0) (r:=seg a (sa+k) (na - k)) hk1 (Nat.zero_le _) hn (by unfold seg;simp) (by have:=s1;rw[bM a sa na k hk1] at this;exact(List.pairwise_append.mp this).2.1) (by rw[a1,Nat.add_zero];have:=dY a (sa+k) (na - k);rwa [show sa+k+(na - k)=sa+na by omega] at this) s1 s2 O3 O4
  exact Gv.pure (h st1 _ k1 fl1 pd1 pb.1 pb.2.1 pb.2.2)
 have ne2':¬ q=0:=by simpa using ne2
 -- the merge
 have xl:(a.extract (sa+k) (sa+na)).toList=seg a (sa+k) (na - k):=by rw[uW,show sa+na - (sa+k)=na - k by omega]
 have yl:(a.extract (sa+na) (sa+na+q)).toList=seg a (sa+na) q:=by rw[uW,show sa+na+q - (sa+na)=q by omega]
 have xs:(a.extract (sa+k) (sa+na)).size=na - k:=by simp;omega
 have ys:(a.extract (sa+na) (sa+na+q)).size=q:=by simp;omega
 have xg:∀j,(hj:j<na - k)->(a.extract (sa+k) (sa+na))[j]'(by rw[xs];exact hj)=a[sa+k+j]'(by omega):=fun j hj=>by rw[Array.getElem_extract]
 have yg:∀j,(hj:j<q)->(a.extract (sa+na) (sa+na+q))[j]'(by rw[ys];exact hj)=a[sa+na+j]'(by omega):=fun j hj=>by rw[Array.getElem_extract]
 have tw:Two P kk (a.extract (sa+k) (sa+na)) (a.extract (sa+na) (sa+na+q)):=by
  refine⟨fun x hx=>hp x ?_,fun x hx=>hp x ?_,?_,?_,?_⟩
  ·have hx':x∈(a.extract (sa+k) (sa+na)).toList:=Array.mem_toList_iff.mpr hx
   rw[xl] at hx';exact uu hx'
  ·have hx':x∈(a.extract (sa+na) (sa+na+q)).toList:=Array.mem_toList_iff.mpr hx
   rw[yl] at hx';exact uu hx'
  ·rw[xl];have:=s1;rw[bM a sa na k hk1] at this;exact(List.pairwise_append.mp this).2.1
  ·rw[yl];have:=s2;rw[bM a (sa+na) nb q hq1] at this;exact(List.pairwise_append.mp this).1
  ·intro x hx y hy
   rw[xl] at hx
   rw[yl] at hy
   obtain⟨j,hj,j1,j2,rfl⟩:=cA (by omega) hx
   obtain⟨m,hm,m1,m2,rfl⟩:=cA (by omega) hy
   exact oE nd hj hm (by omega)
 have fin:∀(r:Array Keyed) (st2:SortSt),fD kk (a.extract (sa+k) (sa+na)) (a.extract (sa+na) (sa+na+q)) r->de st1 st2->∀st3:SortSt,kindOf st3=kindOf st2->failedOf st3=failedOf st2->pendingOf st3=pendingOf st2->arrOf st3=r.toList.zipIdx.foldl (fun a pj=>a.setIfInBounds (sa+k+pj.2) pj.1) (arrOf st2)->Q true st3:=by
  intro r st2 fr sm st3 g1 g2 g3 g4
  obtain⟨pr,sr⟩:=fr
  rw[xl,yl] at pr
  have hrl:r.toList.length=na - k+q:=by rw[pr.length_eq,List.length_append,b_ (by omega),b_ (by omega)]
  have ea:(arrOf st3).toList=a.toList.take (sa+k)++r.toList++a.toList.drop (sa+na+q):=by
   rw[g4,sm.arr,a1]
   have e0:=dY a (sa+k) (na - k+q)
   rw[show sa+k+(na - k+q)=sa+na+q by omega] at e0
   exact rN r.toList (seg a (sa+k) (na - k+q)) (a.toList.take (sa+k)) (a.toList.drop (sa+na+q)) a 0 (sa+k) e0 (by rw[b_ (by omega),hrl]) (by rw[List.length_take,Array.length_toList];omega)
  have pb:=kZ hk1 hq1 hn pr sr ea s1 s2 O3 O4
  exact h st3 _ (g1.trans (sm.kind.trans k1)) (g2.trans (sm.fail.trans fl1)) (g3.trans (sm.pend.trans pd1)) pb.1 pb.2.1 pb.2.2
 have lo0:kk ((a.extract (sa+na) (sa+na+q))[0]'(by omega))<kk ((a.extract (sa+k) (sa+na))[0]'(by omega)):=by
  rw[xg 0 (by omega),yg 0 (by omega)]
  exact e2 (sa+k) (by omega) (by omega) (by omega)
 have allY:∀y∈(a.extract (sa+na) (sa+na+q)).toList,kk y<kk ((a.extract (sa+k) (sa+na))[(a.extract (sa+k) (sa+na)).size - 1]'(by omega)):=by
  intro y hy
  rw[yl] at hy
  obtain⟨m,hm,m1,m2,rfl⟩:=cA (by omega) hy
  have:(a.extract (sa+k) (sa+na))[(a.extract (sa+k) (sa+na)).size - 1]'(by omega)=a[sa+na - 1]:=by
   rw[xg _ (by omega)]
   congr 1
   omega
  rw[this]
  exact f1 m hm m1 m2
 refine aN (fun _=>?_) (fun _=>?_)
 ·refine Gv.bind (tj c tw k1 (by omega) (by omega) lo0 allY (fun r st2 fr sm=>?_))
  refine Gv.bind (Gv.mM fun st3 g=>?_)
  refine Gv.bind (Gv.get ?_)
  have g2:failedOf st3=failedOf st2:=by rw[g]
  have g3:(failedOf st3).isNone=true:=by rw[g2.trans (sm.fail.trans fl1)];rfl
  refine Gv.pure ?_
  show Q (failedOf st3).isNone st3
  rw[g3]
  exact fin r st2 fr sm st3 (by rw[g]) g2 (by rw[g]) (by rw[g])
 ·refine Gv.bind (sQ c tw k1 (by omega) (by omega) (fun y hy=>?_) (allY _ (Array.mem_toList_iff.mpr (Array.getElem_mem _))) (fun r st2 fr sm=>?_))
  ·rw[xl] at hy
   obtain⟨m,hm,m1,m2,rfl⟩:=cA (by omega) hy
   rw[yg 0 (by omega)]
   exact e2 m hm (by omega) (by omega)
  refine Gv.bind (Gv.mM fun st3 g=>?_)
  refine Gv.bind (Gv.get ?_)
  have g2:failedOf st3=failedOf st2:=by rw[g]
  have g3:(failedOf st3).isNone=true:=by rw[g2.trans (sm.fail.trans fl1)];rfl
  refine Gv.pure ?_
  show Q (failedOf st3).isNone st3
  rw[g3]
  exact fin r st2 fr sm st3 (by rw[g]) g2 (by rw[g]) (by rw[g])
end
section
variable {kk:Keyed->Int} {a:Array Keyed}
theorem ic {lo n i:Nat}:(seg a lo n)[i]?=if i<n then a[lo+i]? else none:=by
 unfold seg
 rw[List.getElem?_take,List.getElem?_drop]
 split
 ·rw[Array.getElem?_toList]
 ·rfl
theorem qW {i j:Nat} (hij:i<=j) (hj:j<=a.size):(mirror a i j ((j - i) / 2)).toList=a.toList.take i++(seg a i (j - i)).reverse++a.toList.drop j:=by
 have hsl:(seg a i (j - i)).length=j - i:=b_ (by omega)
 apply List.ext_getElem?
 intro k
 rw[Array.getElem?_toList,getElem?_mirror_all hj]
 have l1:(a.toList.take i).length=i:=by rw[List.length_take,Array.length_toList];omega
 have l2:(a.toList.take i++(seg a i (j - i)).reverse).length=j:=by rw[List.length_append,l1,List.length_reverse,hsl];omega
 by_cases h1:k<i
 ·rw[if_neg (by omega),List.getElem?_append_left (by rw[l2];omega),List.getElem?_append_left (by rw[l1];exact h1),List.getElem?_take,if_pos h1,Array.getElem?_toList]
 ·by_cases h2:k<j
  ·rw[if_pos ⟨by omega,h2⟩,List.getElem?_append_left (by rw[l2];omega),List.getElem?_append_right (by rw[l1];omega),l1,List.getElem?_reverse (by rw[hsl];omega),hsl,ic,if_pos (by omega)]
   congr 1
   omega
  ·rw[if_neg (by omega),List.getElem?_append_right (by rw[l2];omega),l2,List.getElem?_drop,Array.getElem?_toList]
   congr 1
   omega
theorem r6 {src dst:Nat} (hd:dst<=src) (hs:src<a.size):(bubble a src (src - dst)).toList=a.toList.take dst++(a[src]::seg a dst (src - dst))++a.toList.drop (src+1):=by
 have hsl:(seg a dst (src - dst)).length=src - dst:=b_ (by omega)
 apply List.ext_getElem?
 intro k
 rw[Array.getElem?_toList,getElem?_bubble hs _ (by omega),show src - (src - dst)=dst by omega]
 have l1:(a.toList.take dst).length=dst:=by rw[List.length_take,Array.length_toList];omega
 have l2:(a.toList.take dst++(a[src]::seg a dst (src - dst))).length=src+1:=by rw[List.length_append,l1,List.length_cons,hsl];omega
 by_cases h0:k<dst
 ·rw[if_neg (by omega),if_neg (by omega),List.getElem?_append_left (by rw[l2];omega),List.getElem?_append_left (by rw[l1];exact h0),List.getElem?_take,if_pos h0,Array.getElem?_toList]
 ·by_cases h1:k=dst
  ·subst h1
   rw[if_pos rfl,List.getElem?_append_left (by rw[l2];omega),List.getElem?_append_right (by rw[l1];omega),l1,Nat.sub_self,List.getElem?_cons_zero]
   simp[hs]
  ·by_cases h2:k<=src
   ·rw[if_neg h1,if_pos ⟨by omega,h2⟩,List.getElem?_append_left (by rw[l2];omega),List.getElem?_append_right (by rw[l1];omega),l1]
    obtain⟨e,he⟩:∃e,k - dst=e+1:=⟨k - dst - 1,by omega⟩
    rw[he,List.getElem?_cons_succ,ic,if_pos (by omega)]
    congr 1
    omega
   ·rw[if_neg h1,if_neg (by omega),List.getElem?_append_right (by rw[l2];omega),l2,List.getElem?_drop,Array.getElem?_toList]
    congr 1
    omega
theorem hG {lo n:Nat} (h:lo+n<a.size):seg a lo (n+1)=seg a lo n++[a[lo+n]]:=by
 rw[bM a lo (n+1) n (by omega)]
 congr 1
 rw[show n+1 - n=1 by omega]
 apply List.ext_getElem?
 intro k
 rw[ic]
 cases k with
 | zero=>simp[h]
 | succ k=>simp
theorem uN {x:Keyed}:Srt kk [x]:=List.pairwise_singleton _ _
theorem yX {lo:Nat} (h:lo<a.size):Srt kk (seg a lo 1):=by
 have:=hG (n:=0) (show lo+0<a.size by omega)
 rw[this]
 have e:seg a lo 0=[]:=by unfold seg;simp
 rw[e];exact uN
theorem zb {lo n:Nat} (s:Srt kk (seg a lo n)) (h1:1<=n) (h:lo+n<a.size) (lt:kk a[lo+n - 1]<kk a[lo+n]):Srt kk (seg a lo (n+1)):=by
 rw[hG h]
 refine List.pairwise_append.mpr ⟨s,uN,fun x hx y hy=>?_⟩
 rw[List.mem_singleton] at hy;subst hy
 obtain⟨j,hj,j1,j2,rfl⟩:=cA (by omega) hx
 rcases Nat.lt_or_eq_of_le (show j<=lo+n - 1 by omega) with z | z
 ·have:=jD (by omega) s j1 z (by omega);omega
 ·subst z;exact lt
noncomputable def Dsc (kk:Keyed->Int) (l:List Keyed):Prop:=l.Pairwise fun x y=>kk y<kk x
theorem uk {lo n:Nat} (s:Dsc kk (seg a lo n)) (h1:1<=n) (h:lo+n<a.size) (lt:kk a[lo+n]<kk a[lo+n - 1]):Dsc kk (seg a lo (n+1)):=by
 rw[hG h]
 refine List.pairwise_append.mpr ⟨s,List.pairwise_singleton _ _,fun x hx y hy=>?_⟩
 rw[List.mem_singleton] at hy;subst hy
 obtain⟨j,hj,j1,j2,rfl⟩:=cA (by omega) hx
 rcases Nat.lt_or_eq_of_le (show j<=lo+n - 1 by omega) with z | z
 ·have hl:(seg a lo n).length=n:=b_ (by omega)
  have:=List.pairwise_iff_getElem.mp s (j - lo) (n - 1) (by omega) (by omega) (by omega)
  rw[jB (by omega) (by omega),jB (by omega) (by omega)] at this
  have t:kk a[lo+n - 1]<kk a[j]:=by simpa [show lo+(j - lo)=j by omega,show lo+(n - 1)=lo+n - 1 by omega] using this
  omega
 ·subst z;exact lt
structure Prt (a a':Array Keyed) (lo n:Nat) (S:List Keyed):Prop where
 eq:a'.toList=a.toList.take lo++S++a.toList.drop (lo+n)
 perm:S.Perm (seg a lo n)
theorem Prt.all {a':Array Keyed} {lo n:Nat} {S:List Keyed} (p:Prt a a' lo n S):a'.toList.Perm a.toList:=by
 rw[p.eq]
 conv=>rhs;rw[dY a lo n]
 exact(p.perm.append_left _).append_right _
theorem Prt.size {a':Array Keyed} {lo n:Nat} {S:List Keyed} (p:Prt a a' lo n S):a'.size=a.size:=by
 have:=p.all.length_eq;simpa using this
theorem Prt.P {a':Array Keyed} {lo n:Nat} {S:List Keyed} {P:Keyed->Prop} (p:Prt a a' lo n S) (h:∀x∈a,P x):∀x∈a',P x:=fun x hx=>h x (by
 have:=p.all.mem_iff.mp (Array.mem_toList_iff.mpr hx);exact Array.mem_toList_iff.mp this)
theorem Prt.nd {a':Array Keyed} {lo n:Nat} {S:List Keyed} (p:Prt a a' lo n S) (h:(a.toList.map kk).Nodup):(a'.toList.map kk).Nodup:=((p.all.map kk).nodup_iff).mpr h
theorem Prt.seg {a':Array Keyed} {lo n:Nat} {S:List Keyed} (p:Prt a a' lo n S) (h:lo+n<=a.size):seg a' lo n=S:=by
 have hS:S.length=n:=by rw[p.perm.length_eq,b_ h]
 unfold L2.SM.seg
 rw[p.eq,List.append_assoc,List.drop_append_of_le_length (by rw[List.length_take,Array.length_toList];omega),List.drop_of_length_le (by rw[List.length_take];omega),List.nil_append,List.take_append_of_le_length (by omega),List.take_of_length_le (by omega)]
theorem Prt.before {a':Array Keyed} {lo n:Nat} {S:List Keyed} (p:Prt a a' lo n S) (h:lo+n<=a.size) {i k:Nat} (hk:i+k<=lo):L2.SM.seg a' i k=L2.SM.seg a i k:=by
 apply List.ext_getElem?
 intro q
 rw[ic,ic]
 split
 ·rename_i hq
  rw[<- Array.getElem?_toList,<- Array.getElem?_toList,p.eq,List.append_assoc,List.getElem?_append_left (by rw[List.length_take,Array.length_toList];omega),List.getElem?_take,if_pos (by omega)]
 ·rfl
theorem Prt.refl {lo n:Nat}:Prt a a lo n (L2.SM.seg a lo n):=⟨dY a lo n,.refl _⟩
end
section
variable {prog:Program} {w:World} {A:Around} {E:Value->Shared->Prop} {s:Shared} {κ:SortKind} {P:Keyed->Prop} {kk:Keyed->Int}
theorem r8 {β:Type} {f:Nat->β->StateT SortSt Sem (ForInStep β)} (I:Nat->β->SortSt->Prop) (D:β->SortSt->Prop) (hi:Nat)
  (step:∀x b st,x<hi->I x b st->Gv prog w A E s (f x b) st fun r st'=>match r with | .done b'=>D b' st' | .yield b'=>I (x+1) b' st')
  (fin:∀b st,I hi b st->D b st):∀(n lo:Nat) (b:β) (st:SortSt),lo+n=hi->I lo b st->Gv prog w A E s (forIn (List.range' lo n) b f) st D
 | 0,lo,b,st,e,h=>kasC_nil ⟨rfl,fin b st ((show lo=hi by omega) ▸ h)⟩
 | n+1,lo,b,st,e,h=>by
  have ih:=r8 I D hi step fin n (lo+1)
  rw[List.range'_succ]
  refine kasC_cons (wpAny_mono (step lo b st (by omega) h) (fun r s' h'=>?_) fun _ _ e=>e)
  obtain⟨e',h'⟩:=h'
  subst e'
  revert h'
  cases r.1 with
  | done b'=>intro h';exact⟨rfl,h'⟩
  | yield b'=>intro h';exact ih b' r.2 (by omega) h'
theorem Gv.tf {β:Type} {a b:Nat} {c:β} {f:Nat->β->StateT SortSt Sem (ForInStep β)} {Q:β->SortSt->Prop} {st:SortSt} (I:Nat->β->SortSt->Prop) (hab:a<=b) (h0:I a c st)
  (step:∀x z st,x<b->I x z st->Gv prog w A E s (f x z) st fun r st'=>match r with | .done b'=>Q b' st' | .yield b'=>I (x+1) b' st')
  (fin:∀z st,I b z st->Q z st):Gv prog w A E s (forIn [a:b] c f) st Q:=
 kasC_range (r8 I Q b step fin (b - a) a c st (by omega) h0)
structure Ok (κ:SortKind) (P:Keyed->Prop) (kk:Keyed->Int) (st:SortSt):Prop where
 kind:kindOf st=κ
 fail:failedOf st=none
 all:∀x∈arrOf st,P x
 nd:((arrOf st).toList.map kk).Nodup
theorem Gv.ltAt {i j:Nat} {st:SortSt} {Q:Option Bool->SortSt->Prop} (c:Cmp prog w A s κ P kk) (o:Ok κ P kk st) (hi:i<(arrOf st).size) (hj:j<(arrOf st).size) (h:Q (some (decide (kk (arrOf st)[i]<kk (arrOf st)[j]))) st):Gv prog w A E s (ltAt' i j) st Q:=by
 rw[ltAt'_eq]
 refine Gv.bind (Gv.get ?_)
 refine Gv.bind (Gv.elem (get_some hi) ?_)
 refine Gv.bind (Gv.elem (get_some hj) ?_)
 exact Gv.ltC c (o.all _ (Array.getElem_mem hi)) (o.all _ (Array.getElem_mem hj)) o.kind h
structure Arr (st st':SortSt) (a':Array Keyed):Prop where
 kind:kindOf st'=kindOf st
 fail:failedOf st'=failedOf st
 pend:pendingOf st'=pendingOf st
 arr:arrOf st'=a'
theorem Arr.refl {st:SortSt}:Arr st st (arrOf st):=⟨rfl,rfl,rfl,rfl⟩
theorem Arr.ok {st st':SortSt} {a':Array Keyed} {lo n:Nat} {S:List Keyed} (o:Ok κ P kk st) (r:Arr st st' a') (p:Prt (arrOf st) a' lo n S):Ok κ P kk st':=⟨r.kind.trans o.kind,r.fail.trans o.fail,by rw[r.arr];exact p.P o.all,by rw[r.arr];exact p.nd o.nd⟩
theorem qM {lo nrem n0:Nat} {st:SortSt} {f:Nat->Option (Option Nat) × Nat->StateT SortSt Sem (ForInStep (Option (Option Nat) × Nat))} {R:Option (Option Nat) × Nat->SortSt->Prop} (hn:lo+nrem<=(arrOf st).size) (nd:((arrOf st).toList.map kk).Nodup) (h1:1<=n0) (h2:n0<=nrem) (s0:Srt kk (seg (arrOf st) lo n0))
  (hf:∀x n T,1<=n->(hl:lo+n<(arrOf st).size)->T (if kk (arrOf st)[lo+n]<kk ((arrOf st)[lo+n - 1]'(by omega)) then .done (none,n) else .yield (none,n+1)) st->Gv prog w A E s (f x (none,n)) st T)
  (hR:∀n,n0<=n->n<=nrem->Srt kk (seg (arrOf st) lo n)->(n<nrem->∀hl:lo+n<(arrOf st).size,kk (arrOf st)[lo+n]<kk ((arrOf st)[lo+n - 1]'(by omega)))->R (none,n) st):Gv prog w A E s (forIn [n0:nrem] (none,n0) f) st R:=by
 refine Gv.tf (fun x z st'=>st'=st/\z=(none,x)/\n0<=x/\Srt kk (seg (arrOf st) lo x)) h2 ⟨rfl,rfl,Nat.le_refl _,s0⟩ (fun x z st' hx hz=>?_) (fun z st' hz=>?_)
 ·obtain⟨rfl,rfl,g1,g2⟩:=hz
  have hl:lo+x<(arrOf st').size:=by omega
  refine hf x x _ (by omega) hl ?_
  by_cases lt:kk (arrOf st')[lo+x]<kk ((arrOf st')[lo+x - 1]'(by omega))
  ·rw[if_pos lt]
   exact hR x g1 (by omega) g2 fun _ _=>lt
  ·rw[if_neg lt]
   have ne:=oE nd hl (show lo+x - 1<(arrOf st').size by omega) (by omega)
   exact⟨rfl,rfl,by omega,zb g2 (by omega) hl (by omega)⟩
 ·obtain⟨rfl,rfl,g1,g2⟩:=hz
  exact hR nrem g1 (Nat.le_refl _) g2 fun h=>absurd h (Nat.lt_irrefl _)
theorem qN {lo nrem:Nat} {st:SortSt} {Q:Option Nat->SortSt->Prop} (c:Cmp prog w A s κ P kk) (o:Ok κ P kk st) (hn:lo+nrem<=(arrOf st).size) (h1:1<=nrem)
  (h:∀n a' st' S,1<=n->n<=nrem->Arr st st' a'->Prt (arrOf st) a' lo n S->Srt kk S->Q (some n) st'):Gv prog w A E s (countRun' lo nrem) st Q:=by
 have F:∀(st:SortSt),Ok κ P kk st->lo+nrem<=(arrOf st).size->∀n,1<=n->lo+n<(arrOf st).size->∀{T:Option Bool->SortSt->Prop},(∀(hl:lo+n<(arrOf st).size),T (some (decide (kk (arrOf st)[lo+n]<kk ((arrOf st)[lo+n - 1]'(by omega))))) st)->Gv prog w A E s (ltAt' (lo+n) (lo+n - 1)) st T:=fun st o hn n h1 hl T hT=>Gv.ltAt c o hl (by omega) (hT hl)
 with_unfolding_all refine Gv.bind ?_
 dsimp only
 refine qM hn o.nd (Nat.le_refl _) h1 (yX (by omega)) (fun x n T g1 hl hT=>?_) (fun n g1 g2 g3 g4=>?_)
 ·refine Gv.bind (F st o hn n g1 hl fun hl=>?_)
  dsimp only
  by_cases lt:kk (arrOf st)[lo+n]<kk ((arrOf st)[lo+n - 1]'(by omega))
  ·rw[decide_eq_true lt,if_pos rfl];rw[if_pos lt] at hT;exact Gv.pure hT
  ·rw[decide_eq_false lt,if_neg (by decide)];rw[if_neg lt] at hT;exact Gv.pure hT
 dsimp only
 refine aN (fun e=>?_) (fun e=>?_)
 ·exact Gv.pure (h n _ st _ g1 g2 Arr.refl Prt.refl g3)
 have e':¬ n=nrem:=by simpa using e
 refine aN (fun e2=>?_) (fun e2=>?_)
 ·-- it rose
  refine Gv.bind (Gv.ltAt c o (show lo<(arrOf st).size by omega) (show lo+n - 1<(arrOf st).size by omega) ?_)
  have lt:kk (arrOf st)[lo]<kk (arrOf st)[lo+n - 1]:=jD (by omega) g3 (Nat.le_refl _) (by omega) (by omega)
  rw[decide_eq_true lt]
  dsimp only
  rw[if_pos rfl]
  exact Gv.pure (h n _ st _ g1 g2 Arr.refl Prt.refl g3)
 -- it falls
 have n1:n=1:=by omega
 subst n1
 refine Gv.bind (Gv.rule ?_)
 have d2:Dsc kk (seg (arrOf st) lo 2):=by
  have l:=g4 (by omega) (by omega)
  refine uk (n:=1) ?_ (Nat.le_refl _) (by omega) l
  rw[hG (n:=0) (by omega)]
  have e0:seg (arrOf st) lo 0=[]:=by unfold seg;simp
  rw[e0];exact List.pairwise_singleton _ _
 refine Gv.bind (Gv.mono (Q:=fun z st'=>st'=st/\∃m,z=(none,m,0)/\2<=m/\m<=nrem/\Dsc kk (seg (arrOf st) lo m)) (Gv.tf (fun x z st'=>st'=st/\z=(none,x,0)/\2<=x/\Dsc kk (seg (arrOf st) lo x)) (by omega) ⟨rfl,rfl,by omega,d2⟩ (fun x z st' hx hz=>?_) (fun z st' hz=>?_)) (fun z st' hz=>?_))
 ·obtain⟨rfl,rfl,q1,q2⟩:=hz
  have hl:lo+x<(arrOf st').size:=by omega
  refine Gv.bind (F st' o hn x (by omega) hl fun hl=>?_)
  dsimp only
  by_cases lt:kk (arrOf st')[lo+x]<kk ((arrOf st')[lo+x - 1]'(by omega))
  ·rw[decide_eq_true lt,if_pos rfl,if_neg (by omega)]
   exact Gv.pure ⟨rfl,rfl,by omega,uk q2 (by omega) hl lt⟩
  ·rw[decide_eq_false lt,if_neg (by decide)]
   have ne:=oE o.nd hl (show lo+x - 1<(arrOf st').size by omega) (by omega)
   have gt:kk ((arrOf st')[lo+x - 1]'(by omega))<kk (arrOf st')[lo+x]:=by omega
   refine Gv.bind (Gv.ltAt c o (show lo+x - 1<(arrOf st').size by omega) hl ?_)
   rw[decide_eq_true gt]
   dsimp only
   rw[if_pos rfl]
   exact Gv.pure ⟨rfl,x,rfl,q1,by omega,q2⟩
 ·obtain⟨rfl,rfl,q1,q2⟩:=hz
  exact⟨rfl,nrem,rfl,q1,Nat.le_refl _,q2⟩
 ·obtain⟨rfl,m,rfl,q1,q2,q3⟩:=hz
  dsimp only
  rw[if_neg (by omega)]
  have pr:Prt (arrOf st') (mirror (arrOf st') lo (lo+m) ((lo+m - lo) / 2)) lo m (seg (arrOf st') lo m).reverse:=by
   refine⟨?_,List.reverse_perm _⟩
   have:=qW (a:=arrOf st') (show lo<=lo+m by omega) (by omega)
   rwa [show lo+m - lo=m by omega] at this ⊢
  have sr:Srt kk (seg (arrOf st') lo m).reverse:=by unfold Srt;rw[List.pairwise_reverse];exact q3
  with_unfolding_all refine Gv.bind (Gv.mM fun st2 g=>?_)
  have r2:Arr st' st2 (mirror (arrOf st') lo (lo+m) ((lo+m - lo) / 2)):=⟨by rw[g],by rw[g],by rw[g],by rw[g];rfl⟩
  clear g
  have o2:=r2.ok o pr
  have hs2:(arrOf st2).size=(arrOf st').size:=by rw[r2.arr];exact pr.size
  have sg:seg (arrOf st2) lo m=(seg (arrOf st') lo m).reverse:=by rw[r2.arr];exact pr.seg (by omega)
  refine Gv.bind ?_
  refine qM (st:=st2) (lo:=lo) (n0:=m) (by omega) o2.nd (by omega) q2 (by rw[sg];exact sr) (fun x n T z1 hl hT=>?_) (fun n z1 z2 z3 z4=>?_)
  ·refine Gv.bind (F st2 o2 (by omega) n z1 hl fun hl=>?_)
   dsimp only
   by_cases lt:kk (arrOf st2)[lo+n]<kk ((arrOf st2)[lo+n - 1]'(by omega))
   ·rw[decide_eq_true lt,if_pos rfl];rw[if_pos lt] at hT;exact Gv.pure hT
   ·rw[decide_eq_false lt,if_neg (by decide)];rw[if_neg lt] at hT;exact Gv.pure hT
  ·dsimp only
   refine Gv.pure (h n _ st2 (seg (arrOf st2) lo n) (by omega) z2 r2 ?_ z3)
   rw[r2.arr]
   -- the longer part
   refine⟨?_,?_⟩
   ·have e0:=dY (mirror (arrOf st') lo (lo+m) ((lo+m - lo) / 2)) lo n
    rw[e0]
    congr 1
    ·congr 1
     rw[pr.eq,List.append_assoc,List.take_append_of_le_length (by rw[List.length_take,Array.length_toList];omega),List.take_take,Nat.min_self]
    ·rw[pr.eq]
     have hl:(List.take lo (arrOf st').toList++(seg (arrOf st') lo m).reverse).length=lo+m:=by rw[List.length_append,List.length_take,Array.length_toList,List.length_reverse,b_ (by omega)];omega
     rw[List.drop_append,List.drop_of_length_le (by omega),List.nil_append,hl,List.drop_drop]
     congr 1
     omega
   ·have sp1:=bM (mirror (arrOf st') lo (lo+m) ((lo+m - lo) / 2)) lo n m z1
    have sp2:=bM (arrOf st') lo n m z1
    have sg':seg (mirror (arrOf st') lo (lo+m) ((lo+m - lo) / 2)) lo m=(seg (arrOf st') lo m).reverse:=pr.seg (by omega)
    rw[sp1,sp2,sg']
    have tl:seg (mirror (arrOf st') lo (lo+m) ((lo+m - lo) / 2)) (lo+m) (n - m)=seg (arrOf st') (lo+m) (n - m):=by
     unfold seg
     congr 1
     rw[pr.eq]
     have hl:(List.take lo (arrOf st').toList++(L2.SM.seg (arrOf st') lo m).reverse).length=lo+m:=by rw[List.length_append,List.length_take,Array.length_toList,List.length_reverse,b_ (by omega)];omega
     rw[<- hl,List.drop_left]
    rw[tl]
    exact(List.reverse_perm _).append_right _
end
section
variable {prog:Program} {w:World} {A:Around} {E:Value->Shared->Prop} {s:Shared} {κ:SortKind} {P:Keyed->Prop} {kk:Keyed->Int}
theorem Prt.head {a a':Array Keyed} {i m lo:Nat} {S:List Keyed} (p:Prt a a' i m S) (h1:lo<=i) (h3:i<=a.size):a'.toList.take lo=a.toList.take lo:=by
 rw[p.eq,List.append_assoc,List.take_append_of_le_length (by rw[List.length_take,Array.length_toList];omega),List.take_take,Nat.min_eq_left h1]
theorem Prt.tail {a a':Array Keyed} {i m hi:Nat} {S:List Keyed} (p:Prt a a' i m S) (h2:i+m<=hi) (h3:i+m<=a.size):a'.toList.drop hi=a.toList.drop hi:=by
 have hS:S.length=m:=by rw[p.perm.length_eq,b_ h3]
 have hl:(List.take i a.toList++S).length=i+m:=by rw[List.length_append,List.length_take,Array.length_toList,hS];omega
 rw[p.eq,List.drop_append,List.drop_of_length_le (by omega),List.nil_append,hl,List.drop_drop]
 congr 1
 omega
theorem Prt.widen {a a':Array Keyed} {i m lo n:Nat} {S:List Keyed} (p:Prt a a' i m S) (h1:lo<=i) (h2:i+m<=lo+n) (h3:lo+n<=a.size):Prt a a' lo n (L2.SM.seg a' lo n):=by
 have tk:=p.head h1 (by omega)
 have dp:=p.tail h2 (by omega)
 refine⟨by rw[<- tk,<- dp];exact dY a' lo n,?_⟩
 have e:=p.all
 rw[dY a' lo n,dY a lo n,tk,dp,List.perm_append_right_iff,List.perm_append_left_iff] at e
 exact e
theorem Prt.trans {a a' a'':Array Keyed} {lo n:Nat} {S S':List Keyed} (p:Prt a a' lo n S) (q:Prt a' a'' lo n S') (h3:lo+n<=a.size):Prt a a'' lo n S':=by
 refine⟨?_,q.perm.trans (by rw[p.seg h3];exact p.perm)⟩
 rw[q.eq,p.head (Nat.le_refl _) (by omega),p.tail (Nat.le_refl _) h3]
theorem AD {a a'':Array Keyed} {lo k l:Nat} (hk:lo+k<a.size) (hl:l<=k) (sr:Srt kk (seg a lo k)) (lt:∀i,(hi:lo+i<a.size)->i<l->kk a[lo+i]<kk a[lo+k]) (gt:∀i,(hi:lo+i<a.size)->l<=i->i<k->kk a[lo+k]<kk a[lo+i])
  (p:Prt a a'' (lo+l) (k - l+1) (a[lo+k]::seg a (lo+l) (k - l))):Srt kk (seg a'' lo (k+1)):=by
 have e1:=bM a'' lo (k+1) l (by omega)
 have e2:seg a'' lo l=seg a lo l:=p.before (by omega) (by omega)
 have e3:=p.seg (by omega)
 rw[e1,e2,show k+1 - l=k - l+1 by omega,e3]
 have s1:=sr
 rw[bM a lo k l hl] at s1
 have s2:=List.pairwise_append.mp s1
 refine List.pairwise_append.mpr ⟨s2.1,List.pairwise_cons.mpr ⟨fun y hy=>?_,s2.2.1⟩,fun x hx y hy=>?_⟩
 ·obtain⟨m,hm,m1,m2,rfl⟩:=cA (by omega) hy
  have:=gt (m - lo) (by omega) (by omega) (by omega)
  simpa [show lo+(m - lo)=m by omega] using this
 ·rcases List.mem_cons.mp hy with rfl | hy
  ·obtain⟨m,hm,m1,m2,rfl⟩:=cA (by omega) hx
   have:=lt (m - lo) (by omega) (by omega)
   simpa [show lo+(m - lo)=m by omega] using this
  ·exact s2.2.2 x hx y hy
theorem nE {lo n ok:Nat} {st:SortSt} {Q:Bool->SortSt->Prop} (c:Cmp prog w A s κ P kk) (o:Ok κ P kk st) (hn:lo+n<=(arrOf st).size) (h1:1<=ok) (h2:ok<=n) (s0:Srt kk (seg (arrOf st) lo ok))
  (h:∀a' st',Arr st st' a'->Prt (arrOf st) a' lo n (seg a' lo n)->Srt kk (seg a' lo n)->Q true st'):Gv prog w A E s (binarySort' lo n ok) st Q:=by
 with_unfolding_all refine Gv.bind ?_
 dsimp only
 refine Gv.mono (Q:=fun z st'=>z=(none,())/\∃a',Arr st st' a'/\Prt (arrOf st) a' lo n (seg a' lo n)/\Srt kk (seg a' lo n)) (Gv.tf (fun x z st'=>z=(none,())/\∃a',Arr st st' a'/\Prt (arrOf st) a' lo n (seg a' lo n)/\Srt kk (seg a' lo x)/\1<=x) (by omega) ⟨rfl,_,Arr.refl,Prt.refl,by rw[Nat.max_eq_left h1];exact s0,by omega⟩ (fun k z st1 hk hz=>?_) (fun z st1 hz=>?_)) (fun z st1 hz=>?_)
 ·obtain⟨rfl,a1,r1,p1,g1,g2⟩:=hz
  have o1:=r1.ok o p1
  have hs1:(arrOf st1).size=(arrOf st).size:=by rw[r1.arr];exact p1.size
  have ha1:arrOf st1=a1:=r1.arr
  have hk1:lo+k<(arrOf st1).size:=by omega
  refine Gv.bind (Gv.mono (Q:=fun z st2=>st2=st1/\∃l r,z=(none,l,r)/\l<=k/\(∀i,(hi:lo+i<(arrOf st1).size)->i<l->kk (arrOf st1)[lo+i]<kk (arrOf st1)[lo+k])/\(∀i,(hi:lo+i<(arrOf st1).size)->l<=i->i<k->kk (arrOf st1)[lo+k]<kk (arrOf st1)[lo+i])) (Gv.range (fun m z st2=>st2=st1/\∃l r,z=(none,l,r)/\l<=r/\r<=k/\r - l<=m/\(∀i,(hi:lo+i<(arrOf st1).size)->i<l->kk (arrOf st1)[lo+i]<kk (arrOf st1)[lo+k])/\(∀i,(hi:lo+i<(arrOf st1).size)->r<=i->i<k->kk (arrOf st1)[lo+k]<kk (arrOf st1)[lo+i])) ⟨rfl,0,k,rfl,Nat.zero_le _,Nat.le_refl _,by omega,fun i hi z=>absurd z (Nat.not_lt_zero _),fun i hi z1 z2=>by omega⟩ (fun x m z st2 hz=>?_) (fun z st2 hz=>?_)) (fun z st2 hz=>?_))
  ·obtain⟨rfl,l,r,rfl,b1,b2,b3,b4,b5⟩:=hz
   dsimp only
   by_cases hl:l ≥ r
   ·rw[if_pos hl]
    have:l=r:=by omega
    subst this
    exact Gv.pure ⟨rfl,l,l,rfl,b2,b4,b5⟩
   ·rw[if_neg hl]
    have hm:lo+(l+r) / 2<(arrOf st2).size:=by omega
    have sr:∀{i j:Nat},(hij:i<j)->(hj:j<k)->kk ((arrOf st2)[lo+i]'(by omega))<kk ((arrOf st2)[lo+j]'(by omega)):=fun{i j} hij hj=>by
     have g1':Srt kk (seg (arrOf st2) lo k):=by rw[ha1];exact g1
     exact jD (by omega) g1' (by omega) (by omega) (by omega)
    refine Gv.bind (Gv.ltAt c o1 hk1 hm ?_)
    dsimp only
    by_cases lt:kk (arrOf st2)[lo+k]<kk (arrOf st2)[lo+(l+r) / 2]
    ·rw[decide_eq_true lt,if_pos rfl]
     refine Gv.pure ⟨rfl,l,(l+r) / 2,rfl,by omega,by omega,by omega,b4,fun i hi z1 z2=>?_⟩
     rcases Nat.lt_or_eq_of_le z1 with z | z
     ·have:=sr z z2;omega
     ·subst z;exact lt
    ·rw[decide_eq_false lt,if_neg (by decide)]
     have ne:=oE o1.nd hk1 hm (by omega)
     refine Gv.pure ⟨rfl,(l+r) / 2+1,r,rfl,by omega,by omega,by omega,fun i hi z1=>?_,b5⟩
     rcases Nat.lt_or_eq_of_le (show i<=(l+r) / 2 by omega) with z | z
     ·have:=sr z (show(l+r) / 2<k by omega);omega
     ·subst z;omega
  ·obtain⟨rfl,l,r,rfl,b1,b2,b3,b4,b5⟩:=hz
   have:l=r:=by omega
   subst this
   exact⟨rfl,l,l,rfl,b2,b4,b5⟩
  ·obtain⟨rfl,l,r,rfl,b2,b4,b5⟩:=hz
   dsimp only
   have bl:=r6 (a:=arrOf st2) (show lo+l<=lo+k by omega) hk1
   rw[show lo+k - (lo+l)=k - l by omega] at bl
   have p2:Prt (arrOf st2) (bubble (arrOf st2) (lo+k) (lo+k - (lo+l))) (lo+l) (k - l+1) ((arrOf st2)[lo+k]::seg (arrOf st2) (lo+l) (k - l)):=by
    refine⟨?_,?_⟩
    ·rw[show lo+k - (lo+l)=k - l by omega,bl,show lo+l+(k - l+1)=lo+k+1 by omega]
    ·rw[hG (by omega)]
     simp only[show lo+l+(k - l)=lo+k by omega]
     exact(List.perm_append_singleton _ _).symm
   with_unfolding_all refine Gv.bind (Gv.mM fun st3 g=>?_)
   have r3:Arr st2 st3 (bubble (arrOf st2) (lo+k) (lo+k - (lo+l))):=⟨by rw[g],by rw[g],by rw[g],by rw[g];rfl⟩
   clear g
   have p3:=p2.widen (lo:=lo) (n:=n) (by omega) (by omega) (by omega)
   rw[ha1] at p3
   have p4:=p1.trans p3 hn
   rw[<- ha1] at p4
   refine Gv.pure ⟨rfl,_,⟨r3.kind.trans r1.kind,r3.fail.trans r1.fail,r3.pend.trans r1.pend,r3.arr⟩,p4,?_,by omega⟩
   exact AD hk1 b2 (by rw[ha1];exact g1) b4 b5 p2
 ·obtain⟨rfl,a1,r1,p1,g1,g2⟩:=hz
  exact⟨rfl,a1,r1,p1,g1⟩
 ·obtain⟨rfl,a1,r1,p1,g1⟩:=hz
  dsimp only
  exact Gv.pure (h a1 st1 r1 p1 g1)
end
section
variable {prog:Program} {w:World} {A:Around} {E:Value->Shared->Prop} {s:Shared} {κ:SortKind} {P:Keyed->Prop} {kk:Keyed->Int}
theorem Prt.after {a a':Array Keyed} {i m lo n:Nat} {S:List Keyed} (p:Prt a a' i m S) (h2:i+m<=lo) (h3:i+m<=a.size):L2.SM.seg a' lo n=L2.SM.seg a lo n:=by
 unfold L2.SM.seg
 rw[p.tail h2 h3]
noncomputable def Rn (kk:Keyed->Int) (a:Array Keyed):Nat->List (Nat × Nat × Nat)->Nat->Prop
 | s,[],lo=>s=lo
 | s,x::r,lo=>x.1=s/\1<=x.2.1/\Srt kk (seg a s x.2.1)/\Rn kk a (s+x.2.1) r lo
theorem Rn.le {a:Array Keyed}:∀{L:List (Nat × Nat × Nat)} {s lo:Nat},Rn kk a s L lo->s+L.length<=lo
 | [],s,lo,h=>by have:s=lo:=h;simp;omega
 | x::r,s,lo,h=>by have:=Rn.le h.2.2.2;have:=h.2.1;rw[List.length_cons];omega
theorem Rn.app {a:Array Keyed}:∀{X Y:List (Nat × Nat × Nat)} {s lo:Nat},Rn kk a s (X++Y) lo↔∃m,Rn kk a s X m/\Rn kk a m Y lo
 | [],Y,s,lo=>⟨fun h=>⟨s,rfl,h⟩,fun⟨m,h1,h2⟩=>by have:s=m:=h1;subst this;exact h2⟩
 | x::X,Y,s,lo=>by
  constructor
  ·intro h
   obtain⟨m,h1,h2⟩:=Rn.app.mp h.2.2.2
   exact⟨m,⟨h.1,h.2.1,h.2.2.1,h1⟩,h2⟩
  ·intro⟨m,h1,h2⟩
   exact⟨h1.1,h1.2.1,h1.2.2.1,Rn.app.mpr ⟨m,h1.2.2.2,h2⟩⟩
theorem Rn.zk {a a':Array Keyed}:∀{L:List (Nat × Nat × Nat)} {s lo:Nat},Rn kk a s L lo->(∀i k,s<=i->i+k<=lo->seg a' i k=seg a i k)->Rn kk a' s L lo
 | [],s,lo,h,_=>h
 | x::r,s,lo,h,e=>by
  have l:=Rn.le h.2.2.2
  refine⟨h.1,h.2.1,?_,Rn.zk h.2.2.2 fun i k h1 h2=>e i k (by omega) h2⟩
  rw[e s x.2.1 (Nat.le_refl _) (by omega)];exact h.2.2.1
theorem Rn.pow {a:Array Keyed}:∀{L L':List (Nat × Nat × Nat)} {s lo:Nat},Rn kk a s L lo->L'.map (fun x=>(x.1,x.2.1))=L.map (fun x=>(x.1,x.2.1))->Rn kk a s L' lo
 | [],[],s,lo,h,_=>h
 | [],_::_,s,lo,h,e=>by simp at e
 | _::_,[],s,lo,h,e=>by simp at e
 | x::r,y::r',s,lo,h,e=>by
  simp only[List.map_cons,List.cons.injEq,Prod.mk.injEq] at e
  obtain⟨⟨e1,e2⟩,e3⟩:=e
  refine⟨e1.trans h.1,by rw[e2];exact h.2.1,by rw[e2];exact h.2.2.1,?_⟩
  rw[e2];exact Rn.pow h.2.2.2 e3
structure J (κ:SortKind) (P:Keyed->Prop) (kk:Keyed->Int) (st0 st:SortSt) (lo:Nat):Prop where
 ok:Ok κ P kk st
 perm:(arrOf st).toList.Perm (arrOf st0).toList
 runs:Rn kk (arrOf st) 0 (pendingOf st).toList lo
 le:lo<=(arrOf st).size
theorem J.size {st0 st:SortSt} {lo:Nat} (j:J κ P kk st0 st lo):(arrOf st).size=(arrOf st0).size:=by have:=j.perm.length_eq;simpa using this
theorem iB {i lo:Nat} {st0 st:SortSt} {Q:Bool->SortSt->Prop} (c:Cmp prog w A s κ P kk) (j:J κ P kk st0 st lo) (hi:i+2<=(pendingOf st).size)
  (h:∀st',J κ P kk st0 st' lo->(pendingOf st').size+1=(pendingOf st).size->(∀q k,lo<=q->seg (arrOf st') q k=seg (arrOf st) q k)->Q true st'):Gv prog w A E s (mergeAt' i) st Q:=by
 have hl:i+2<=(pendingOf st).toList.length:=by simpa using hi
 obtain⟨X,x,y,Y,e,hX⟩:∃X x y Y,(pendingOf st).toList=X++x::y::Y/\X.length=i:=by
  refine⟨(pendingOf st).toList.take i,(pendingOf st).toList[i],(pendingOf st).toList[i+1],(pendingOf st).toList.drop (i+2),?_,by rw[List.length_take];omega⟩
  rw[<- List.drop_eq_getElem_cons,<- List.drop_eq_getElem_cons,List.take_append_drop]
 have rn:=j.runs
 rw[e] at rn
 obtain⟨m,r1,r2⟩:=Rn.app.mp rn
 obtain⟨x1,x2,x3⟩:=x
 obtain⟨y1,y2,y3⟩:=y
 obtain⟨q1,q2,q3,q4,q5,q6,q7⟩:=r2
 dsimp only at q1 q2 q3 q4 q5 q6 q7
 subst q1
 subst q4
 have l7:=q7.le
 have hs:=j.le
 have p1:(pendingOf st)[i]?=some (x1,x2,x3):=by rw[<- Array.getElem?_toList,e,List.getElem?_append_right (by omega),hX,Nat.sub_self];rfl
 have p2:(pendingOf st)[i+1]?=some (x1+x2,y2,y3):=by rw[<- Array.getElem?_toList,e,List.getElem?_append_right (by omega),hX,Nat.add_sub_cancel_left];rfl
 refine tI c j.ok.kind j.ok.fail j.ok.all j.ok.nd p1 p2 q2 q5 (by omega) q3 q6 (fun st' M k1 f1 pd1 a1 pm sm=>?_)
 have pr:Prt (arrOf st) (arrOf st') x1 (x2+y2) M:=⟨by rw[<- Nat.add_assoc];exact a1,pm⟩
 have pl:(pendingOf st').toList=X++(x1,x2+y2,x3)::Y:=by
  rw[pd1]
  have e1:(((pendingOf st).setIfInBounds i (x1,x2+y2,x3)).eraseIdxIfInBounds (i+1)).toList=((pendingOf st).toList.set i (x1,x2+y2,x3)).eraseIdx (i+1):=by simp
  rw[e1,e,<- hX]
  simp[List.set_append,List.eraseIdx_append]
  intro hh;omega
 refine h st' ⟨⟨k1,f1,pr.P j.ok.all,pr.nd j.ok.nd⟩,pr.all.trans j.perm,?_,by rw[pr.size];exact hs⟩ ?_ (fun q k hq=>pr.after (by omega) (by omega))
 ·rw[pl]
  refine Rn.app.mpr ⟨x1,r1.zk fun i k h1 h2=>pr.before (by omega) h2,rfl,by show 1<=x2+y2;omega,?_,?_⟩
  ·show Srt kk (seg (arrOf st') x1 (x2+y2))
   rw[pr.seg (by omega)];exact sm
  ·show Rn kk (arrOf st') (x1+(x2+y2)) Y lo
   rw[<- Nat.add_assoc]
   exact q7.zk fun i k h1 h2=>pr.after (by omega) (by omega)
 ·have e1:(pendingOf st').size=(pendingOf st').toList.length:=by simp
  have e2:(pendingOf st).size=(pendingOf st).toList.length:=by simp
  rw[e1,e2,pl,e];simp;omega
end
section
variable {prog:Program} {w:World} {A:Around} {E:Value->Shared->Prop} {s:Shared} {κ:SortKind} {P:Keyed->Prop} {kk:Keyed->Int}
theorem J.part {st0 st st2:SortSt} {a2:Array Keyed} {lo n:Nat} {S:List Keyed} (j:J κ P kk st0 st lo) (r:Arr st st2 a2) (p:Prt (arrOf st) a2 lo n S) (hn:lo+n<=(arrOf st).size):J κ P kk st0 st2 lo:=by
 refine⟨r.ok j.ok p,by rw[r.arr];exact p.all.trans j.perm,?_,by rw[r.arr,p.size];exact j.le⟩
 rw[r.arr,r.pend]
 exact j.runs.zk fun i k h1 h2=>p.before hn h2
theorem J.push {st0 st st':SortSt} {lo n:Nat} (j:J κ P kk st0 st lo) (ek:kindOf st'=kindOf st) (ef:failedOf st'=failedOf st) (ea:arrOf st'=arrOf st) (ep:(pendingOf st').toList.map (fun x=>(x.1,x.2.1))=(pendingOf st).toList.map (fun x=>(x.1,x.2.1))++[(lo,n)]) (h1:1<=n) (hn:lo+n<=(arrOf st).size) (sr:Srt kk (seg (arrOf st) lo n)):J κ P kk st0 st' (lo+n):=by
 refine⟨⟨ek.trans j.ok.kind,ef.trans j.ok.fail,by rw[ea];exact j.ok.all,by rw[ea];exact j.ok.nd⟩,by rw[ea];exact j.perm,?_,by rw[ea];exact hn⟩
 rw[ea]
 refine Rn.pow (L:=(pendingOf st).toList++[(lo,n,0)]) (Rn.app.mpr ⟨lo,j.runs,rfl,h1,sr,rfl⟩) ?_
 rw[ep];simp
theorem qL (p:Array (Nat × Nat × Nat)) (i pw lo:Nat) (n:Nat):((p.modify i fun x=>(x.1,x.2.1,pw)).push (lo,n,0)).toList.map (fun x=>(x.1,x.2.1))=p.toList.map (fun x=>(x.1,x.2.1))++[(lo,n)]:=by
 rw[Array.toList_push,List.map_append]
 congr 1
 apply List.ext_getElem?
 intro k
 rw[List.getElem?_map,List.getElem?_map,Array.getElem?_toList,Array.getElem?_toList,Array.getElem?_modify]
 split
 ·cases p[k]?<;>rfl
 ·rfl
theorem sf (p:Array (Nat × Nat × Nat)) (lo n:Nat):(p.push (lo,n,0)).toList.map (fun x=>(x.1,x.2.1))=p.toList.map (fun x=>(x.1,x.2.1))++[(lo,n)]:=by
 rw[Array.toList_push,List.map_append];rfl
theorem rW {st:SortSt} {Q:Unit->SortSt->Prop} (c:Cmp prog w A s κ P kk) (o:Ok κ P kk st) (hp:pendingOf st = #[]) (h:∀st',failedOf st'=none->(arrOf st').toList.Perm (arrOf st).toList->Srt kk (arrOf st').toList->Q () st'):Gv prog w A E s sortRuns' st Q:=by
 have j0:J κ P kk st st 0:=⟨o,.refl _,by rw[hp];rfl,Nat.zero_le _⟩
 with_unfolding_all refine Gv.bind (Gv.get ?_)
 dsimp only
 have eS:(arrOf st).size=(arrOf st).size:=rfl
 refine Gv.bind (Gv.mono (Q:=fun z st'=>∃lo,z=(none,lo)/\J κ P kk st st' (arrOf st).size) (Gv.range (fun m z st'=>∃lo,z=(none,lo)/\J κ P kk st st' lo/\(arrOf st).size<=lo+m) ⟨0,rfl,j0,by show(arrOf st).size<=0+((arrOf st).size - 0);omega⟩ (fun x m z st1 hz=>?_) (fun z st1 hz=>?_)) (fun z st1 hz=>?_))
 ·obtain⟨lo,rfl,j1,pr⟩:=hz
  have sz1:=j1.size
  have le1:=j1.le
  dsimp only
  by_cases hl:lo ≥ (arrOf st).size
  ·rw[if_pos hl]
   have:lo=(arrOf st).size:=by omega
   subst this
   exact Gv.pure ⟨_,rfl,j1⟩
  rw[if_neg hl]
  refine Gv.bind (qN c j1.ok (lo:=lo) (nrem:=(arrOf st).size - lo) (by omega) (by omega) (fun n a2 st2 S n1 n2 r2 p2 sS=>?_))
  have j2:J κ P kk st st2 lo:=j1.part r2 p2 (by omega)
  have s2:Srt kk (seg (arrOf st2) lo n):=by rw[r2.arr,p2.seg (by omega)];exact sS
  have sz2:=j2.size
  dsimp only
  generalize hmr:(minRun' (arrOf st).size (arrOf st).size 0)=mr
  by_cases lt:n<mr
  ·rw[<- hmr] at lt
   refine aN (fun lt'=>?_) (fun nl=>absurd lt nl)
   refine Gv.bind (Gv.rule ?_)
   rw[hmr] at lt
   refine Gv.bind (nE c j2.ok (lo:=lo) (n:=min ((arrOf st).size - lo) (minRun' (arrOf st).size (arrOf st).size 0)) (ok:=n) (by omega) n1 (by rw[hmr];omega) s2 (fun a3 st3 r3 p3 s3=>?_))
   rw[if_neg (by decide)]
   have hN1:1<=(min ((arrOf st).size - lo) (minRun' (arrOf st).size (arrOf st).size 0)):=by rw[hmr];omega
   have hN2:lo+(min ((arrOf st).size - lo) (minRun' (arrOf st).size (arrOf st).size 0))<=(arrOf st).size:=by omega
   have jX:J κ P kk st st3 lo:=j2.part r3 p3 (by omega)
   have sX:Srt kk (seg (arrOf st3) lo (min ((arrOf st).size - lo) (minRun' (arrOf st).size (arrOf st).size 0))):=by rw[r3.arr];exact s3
   refine Gv.bind (Gv.get ?_)
   split
   ·refine Gv.bind (Gv.mono (Q:=fun z st4=>z=(none,())/\J κ P kk st st4 lo/\Srt kk (seg (arrOf st4) lo (min ((arrOf st).size - lo) (minRun' (arrOf st).size (arrOf st).size 0)))) (Gv.range (fun m z st4=>z=(none,())/\J κ P kk st st4 lo/\Srt kk (seg (arrOf st4) lo (min ((arrOf st).size - lo) (minRun' (arrOf st).size (arrOf st).size 0)))) ⟨rfl,jX,sX⟩ (fun x m z st4 hz=>?_) (fun z st4 hz=>hz)) (fun z st4 hz=>?_))
    ·obtain⟨rfl,j4,s4⟩:=hz
     refine Gv.bind (Gv.get ?_)
     by_cases h2:(pendingOf st4).size > 1
     ·rw[if_pos h2]
      split
      ·refine aN (fun _=>Gv.pure ⟨rfl,j4,s4⟩) (fun _=>?_)
       refine Gv.bind (iB (i:=(pendingOf st4).size - 2) c j4 (by omega) (fun st5 j5 _ e5=>?_))
       exact Gv.pure ⟨rfl,j5,by rw[e5 lo (min ((arrOf st).size - lo) (minRun' (arrOf st).size (arrOf st).size 0)) (Nat.le_refl _)];exact s4⟩
      ·exact Gv.pure ⟨rfl,j4,s4⟩
     ·rw[if_neg h2]
      exact Gv.pure ⟨rfl,j4,s4⟩
    ·obtain⟨rfl,j4,s4⟩:=hz
     dsimp only
     refine Gv.bind (Gv.mM fun st5 g5=>?_)
     refine Gv.bind (Gv.mM fun st6 g6=>?_)
     have j6:J κ P kk st st6 (lo+(min ((arrOf st).size - lo) (minRun' (arrOf st).size (arrOf st).size 0))):=by
      refine j4.push (by rw[g6,g5]) (by rw[g6,g5]) (by rw[g6,g5]) ?_ hN1 (by have:=j4.size;omega) s4
      rw[g6,g5]
      exact qL _ _ _ _ _
     exact Gv.pure ⟨lo+(min ((arrOf st).size - lo) (minRun' (arrOf st).size (arrOf st).size 0)),rfl,j6,by omega⟩
   ·refine Gv.bind (Gv.mM fun st6 g6=>?_)
    have j6:J κ P kk st st6 (lo+(min ((arrOf st).size - lo) (minRun' (arrOf st).size (arrOf st).size 0))):=by
     refine jX.push (by rw[g6]) (by rw[g6]) (by rw[g6]) ?_ hN1 (by have:=jX.size;omega) sX
     rw[g6]
     exact sf _ _ _
    exact Gv.pure ⟨lo+(min ((arrOf st).size - lo) (minRun' (arrOf st).size (arrOf st).size 0)),rfl,j6,by omega⟩
  ·rw[<- hmr] at lt
   refine aN (fun lt'=>absurd lt' lt) (fun nl=>?_)
   have jX:=j2
   have sX:=s2
   have hN1:1<=n:=n1
   have hN2:lo+n<=(arrOf st).size:=by omega
   refine Gv.bind (Gv.get ?_)
   split
   ·refine Gv.bind (Gv.mono (Q:=fun z st4=>z=(none,())/\J κ P kk st st4 lo/\Srt kk (seg (arrOf st4) lo n)) (Gv.range (fun m z st4=>z=(none,())/\J κ P kk st st4 lo/\Srt kk (seg (arrOf st4) lo n)) ⟨rfl,jX,sX⟩ (fun x m z st4 hz=>?_) (fun z st4 hz=>hz)) (fun z st4 hz=>?_))
    ·obtain⟨rfl,j4,s4⟩:=hz
     refine Gv.bind (Gv.get ?_)
     by_cases h2:(pendingOf st4).size > 1
     ·rw[if_pos h2]
      split
      ·refine aN (fun _=>Gv.pure ⟨rfl,j4,s4⟩) (fun _=>?_)
       refine Gv.bind (iB (i:=(pendingOf st4).size - 2) c j4 (by omega) (fun st5 j5 _ e5=>?_))
       exact Gv.pure ⟨rfl,j5,by rw[e5 lo n (Nat.le_refl _)];exact s4⟩
      ·exact Gv.pure ⟨rfl,j4,s4⟩
     ·rw[if_neg h2]
      exact Gv.pure ⟨rfl,j4,s4⟩
    ·obtain⟨rfl,j4,s4⟩:=hz
     dsimp only
     refine Gv.bind (Gv.mM fun st5 g5=>?_)
     refine Gv.bind (Gv.mM fun st6 g6=>?_)
     have j6:J κ P kk st st6 (lo+n):=by
      refine j4.push (by rw[g6,g5]) (by rw[g6,g5]) (by rw[g6,g5]) ?_ hN1 (by have:=j4.size;omega) s4
      rw[g6,g5]
      exact qL _ _ _ _ _
     exact Gv.pure ⟨lo+n,rfl,j6,by omega⟩
   ·refine Gv.bind (Gv.mM fun st6 g6=>?_)
    have j6:J κ P kk st st6 (lo+n):=by
     refine jX.push (by rw[g6]) (by rw[g6]) (by rw[g6]) ?_ hN1 (by have:=jX.size;omega) sX
     rw[g6]
     exact sf _ _ _
    exact Gv.pure ⟨lo+n,rfl,j6,by omega⟩
 ·obtain⟨lo,rfl,j1,pr⟩:=hz
  have:=j1.le
  have:=j1.size
  have e:lo=(arrOf st).size:=by omega
  subst e
  exact⟨_,rfl,j1⟩
 ·obtain⟨lo,rfl,j1⟩:=hz
  dsimp only
  have ps:(pendingOf st1).size<=(arrOf st).size:=by have:=j1.runs.le;simpa using this
  refine Gv.bind (Gv.mono (Q:=fun z st4=>z=(none,())/\J κ P kk st st4 (arrOf st).size/\(pendingOf st4).size<=1) (Gv.range (fun m z st4=>z=(none,())/\J κ P kk st st4 (arrOf st).size/\(pendingOf st4).size<=m+1) ⟨rfl,j1,by show(pendingOf st1).size<=(arrOf st).size - 0+1;omega⟩ (fun x m z st4 hz=>?_) (fun z st4 hz=>?_)) (fun z st4 hz=>?_))
  ·obtain⟨rfl,j4,l4⟩:=hz
   refine Gv.bind (Gv.get ?_)
   by_cases h1:(pendingOf st4).size<=1
   ·rw[if_pos h1]
    exact Gv.pure ⟨rfl,j4,h1⟩
   ·rw[if_neg h1]
    refine Gv.bind (iB c j4 ?_ (fun st5 j5 e5 _=>?_))
    ·have g:∀(c:Prop) [Decidable c],(if c then (pendingOf st4).size - 2 - 1 else (pendingOf st4).size - 2)+2<=(pendingOf st4).size:=fun c _=>by split<;>omega
     exact g _
    ·exact Gv.pure ⟨rfl,j5,by omega⟩
  ·obtain⟨rfl,j4,l4⟩:=hz
   exact⟨rfl,j4,by omega⟩
  ·obtain⟨rfl,j4,l4⟩:=hz
   dsimp only
   refine Gv.pure (h st4 j4.ok.fail j4.perm ?_)
   have rn:=j4.runs
   have sz:=j4.size
   have l5:(pendingOf st4).toList.length<=1:=by simpa using l4
   cases e:(pendingOf st4).toList with
   | nil=>
    rw[e] at rn
    have:0=(arrOf st).size:=rn
    have e2:(arrOf st4).toList=[]:=List.length_eq_zero_iff.mp (by rw[Array.length_toList];omega)
    rw[e2];exact List.Pairwise.nil
   | cons x r=>
    rw[e] at rn l5
    have:r=[]:=List.length_eq_zero_iff.mp (by rw[List.length_cons] at l5;omega)
    subst this
    obtain⟨r1,r2,r3,r4⟩:=rn
    have r4:0+x.2.1=(arrOf st).size:=r4
    have e2:seg (arrOf st4) 0 x.2.1=(arrOf st4).toList:=by
     unfold seg
     rw[List.drop_zero,List.take_of_length_le (by rw[Array.length_toList];omega)]
    rw[e2] at r3
    exact r3
end
end L2.SM
namespace L2.Srt
open PySem PySem.W PyProof.Rows PySem.Calls L2.SM
section
variable {prog:Program} {w:World} {A:Around} {E:Value->Shared->Prop} {s:Shared} {a:Addr} {vs:List Value}
theorem o_ (vs:List Value):(vs.toArray.zip vs.toArray).toList=vs.map fun v=>(v,v):=by
 simp only[Array.toList_zip]
 induction vs with
 | nil=>rfl
 | cons v vs ih=>simp;exact ih
theorem nL {n:Nat} {kv:Value->Int} {P:PySem.Fin->Shared->Prop} (ho:s.heap.get? a=some (seqObj "list" vs.toArray n)) (h2:2<=vs.length) (hz:vs.length<=100000)
  (hk:wpAny (model prog w) A (keyKind' vs.toArray) (fun κ s'=>s'={ s with heap:=bq s.heap a vs }/\Cmp prog w A { s with heap:=bq s.heap a vs } κ (fun x=>x.1∈vs/\x.2=x.1) (fun x=>kv x.1)) (fun _ _=>False) { s with heap:=bq s.heap a vs }) (nd:(vs.map kv).Nodup)
  (h:∀out:List Value,out.Perm vs->out.Pairwise (fun x y=>kv x<kv y)->P (.done (.ret .none)) { s with heap:=sortedHeap s.heap a vs out.toArray }) :
  wpAny (model prog w) A (Builtin.«list.sort» ⟨[.ref a],[]⟩) P E s:=by
 have ha:a<s.heap.objs.size:=Heap.lt_size ho
 obtain⟨e1,ho1⟩:∃e1,(s.heap.update a (Obj.mapSeq fun _=>(#[]:Array Value))).get? a=some (seqObj "list" #[] e1):=⟨_,get?_update_seq ho fun _=>#[]⟩
 have hm:(bq s.heap a vs).get? a=some (seqObj "list" #[] e1):=Heap.get?_push_of_some _ (Heap.get?_push_of_some _ ho1)
 rw[list_sort_plain]
 refine wpAny_bind (listItems_at ho rfl ?_)
 refine wpAny_bind (listUpdate_at ho rfl ?_ (by rw[List.size_toArray,sizeLine_eq];omega) (Nat.zero_le _))
 refine wpAny_bind (seqEpoch_at ho1 rfl ?_)
 refine wpAny_bind (wpAny_newTuple ?_ (by show vs.length<=_;rw[sizeLine_eq];omega))
 refine wpAny_bind (wpAny_newList ?_ (Nat.zero_le _))
 refine wpAny_holding ?_
 show wpAny (model prog w) A _ P E { s with heap:=bq s.heap a vs }
 dsimp only
 have hn2:¬ vs.toArray.size<2:=by rw[List.size_toArray];omega
 rw[if_neg hn2,if_neg hn2]
 refine wpAny_bind (wpAny_mono hk (fun κ s0 hk=>?_) fun _ _ x=>x.elim)
 obtain⟨rfl,cm⟩:=hk
 have zl:=o_ vs
 have ok:Ok κ (fun x:Keyed=>x.1∈vs/\x.2=x.1) (fun x=>kv x.1) (SortSt.mk' κ (vs.toArray.zip vs.toArray) #[] 7 none):=by
  refine⟨rfl,rfl,fun x hx=>?_,?_⟩
  ·have hx:x∈(vs.toArray.zip vs.toArray).toList:=Array.mem_toList_iff.mpr hx
   rw[zl] at hx
   obtain⟨v,hv,rfl⟩:=List.mem_map.mp hx
   exact⟨hv,rfl⟩
  ·show((vs.toArray.zip vs.toArray).toList.map _).Nodup
   rw[zl,List.map_map];exact nd
 refine wpAny_bind (wpAny_mono (rW (E:=E) (Q:=fun _ st'=>failedOf st'=none/\((arrOf st').map (·.2)).toList.Perm vs/\((arrOf st').map (·.2)).toList.Pairwise (fun x y=>kv x<kv y)) cm ok rfl (fun st' f1 pm sr=>⟨f1,?_,?_⟩)) ?_ fun _ _ e=>e)
 ·have:=pm.map (fun x:Keyed=>x.2)
  rw[Array.toList_map]
  refine this.trans ?_
  show((vs.toArray.zip vs.toArray).toList.map _).Perm vs
  rw[zl,List.map_map]
  have:((fun x:Keyed=>x.2) ∘ fun v=>(v,v))=(id:Value->Value):=rfl
  rw[this,List.map_id]
 ·rw[Array.toList_map,List.pairwise_map]
  refine List.Pairwise.imp_of_mem ?_ sr
  intro x y hx hy lt
  have gx:∀z:Keyed,z∈(arrOf st').toList->z.2=z.1:=fun z hz=>by
   have hz:=pm.mem_iff.mp hz
   have hz:z∈(vs.toArray.zip vs.toArray).toList:=hz
   rw[zl] at hz
   obtain⟨v,_,rfl⟩:=List.mem_map.mp hz
   rfl
  rw[gx x hx,gx y hy];exact lt
 rintro⟨⟨⟩,st'⟩ s' ⟨rfl,hf,pm,sr⟩
 dsimp only
 have hsz:((arrOf st').map (·.2)).size=vs.length:=by have:=pm.length_eq;simpa using this
 refine wpAny_bind (seqEpoch_at hm rfl ?_)
 refine wpAny_bind (listUpdate_at hm rfl ?_ (Nat.zero_le _) (Nat.le_trans (Nat.le_of_eq hsz) (by rw[sizeLine_eq];omega)))
 rw[hf]
 simp only[bne_self_eq_false,Bool.false_eq_true,if_false]
 have:=h _ pm sr
 rw[Array.toArray_toList] at this
 exact wpAny_pure this
theorem tW {l:Addr} {kv:Value->Int} {Q:Value->Shared->Prop} (hl:s.heap.IsList l vs.toArray) (h2:2<=vs.length) (hz:vs.length<=100000)
  (hk:wpAny (model prog w) A.in1.in1 (keyKind' vs.toArray) (fun κ s'=>s'={ s with heap:=bq (bg s.heap vs) (s.heap.objs.size+1) vs }/\Cmp prog w A.in1.in1 { s with heap:=bq (bg s.heap vs) (s.heap.objs.size+1) vs } κ (fun x=>x.1∈vs/\x.2=x.1) (fun x=>kv x.1)) (fun _ _=>False) { s with heap:=bq (bg s.heap vs) (s.heap.objs.size+1) vs }) (nd:(vs.map kv).Nodup)
  (h:∀out:List Value,out.Perm vs->out.Pairwise (fun x y=>kv x<kv y)->Q (.ref (s.heap.objs.size+1)) { s with heap:=sortedAll s.heap vs out.toArray }) :
  wpAny (model prog w) A (call (.builtin "sorted") [.ref l]) Q E s:=by
 refine Calls.call_function_entry kind_sorted plain_sorted entry_sorted (args_sorted1 _) ?_
 unfold Builtin.«sorted»
 refine wpAny_bind (m:=checkCount "sorted" 1 1 _) (wpAny_pure ?_)
 refine wpAny_bind (collect_list hl ?_ (by rw[sizeLine_eq];omega))
 refine wpAny_bind (wpAny_newList ?_ (by rw[sizeLine_eq];omega))
 have hsz:((s.heap.push (seqObj "list" #[] 0)).update s.heap.objs.size (Obj.mapSeq (·++vs.toArray))).objs.size=s.heap.objs.size+1:=by
  rw[Heap.size_update,size_push']
 have hoL:(bg s.heap vs).get? (s.heap.objs.size+1)=some (seqObj "list" vs.toArray 0):=by
  unfold bg;rw[<- hsz];exact Heap.get?_push_size _ rfl
 show wpAny _ _ _ _ _ { s with heap:=bg s.heap vs }
 rw[hsz]
 refine wpAny_bind (wpAny_holding (wpAny_call_entry slot_list_sort ⟨_,hoL,rfl⟩ entry_list_sort (nL (s:={ s with heap:=bg s.heap vs }) hoL h2 hz hk nd fun out pm sr=>⟨_,rfl,?_⟩) (args_list_sort _)))
 exact wpAny_pure ⟨_,rfl,h out pm sr⟩
end
noncomputable def kT:Nat->List Int->Int
 | 0,_=>0
 | _+1,[]=>0
 | n+1,x::r=>(x+1)*100 ^ n+kT n r
noncomputable def eU:List Int->List Int->Bool
 | [],ys=>decide (0<ys.length)
 | _::_,[]=>false
 | x::xs,y::ys=>if x=y then eU xs ys else decide (x<y)
noncomputable def Bd (xs:List Int):Prop:=∀x∈xs,0<=x/\x<=98
theorem rl:∀(n:Nat) {xs:List Int},Bd xs->0<=kT n xs/\kT n xs<100 ^ n
 | 0,xs,_=>by unfold kT;exact⟨Int.le_refl _,by decide⟩
 | n+1,[],_=>by unfold kT;exact⟨Int.le_refl _,Int.pow_pos (by decide)⟩
 | n+1,x::r,b=>by
  have h:=rl n (xs:=r) fun y hy=>b y (List.mem_cons_of_mem _ hy)
  have hx:=b x List.mem_cons_self
  have p:(0:Int)<100 ^ n:=Int.pow_pos (by decide)
  unfold kT
  have q1:0<=(x+1)*100 ^ n:=Int.mul_nonneg (by omega) (by omega)
  have q2:(x+1)*100 ^ n<=99*100 ^ n:=Int.mul_le_mul_of_nonneg_right (by omega) (by omega)
  have q3:(100:Int) ^ (n+1)=100*100 ^ n:=by rw[Int.pow_succ,Int.mul_comm]
  exact⟨by omega,by omega⟩
theorem tG:∀(n:Nat) {xs ys:List Int},Bd xs->Bd ys->xs.length<=n->ys.length<=n->eU xs ys=decide (kT n xs<kT n ys)
 | n,[],[],_,_,_,_=>by cases n<;>simp[eU,kT]
 | 0,[],y::ys,_,_,_,h=>by simp at h
 | 0,x::xs,ys,_,_,h,_=>by simp at h
 | n+1,[],y::ys,_,by_,_,_=>by
  have h:=(rl n (xs:=ys) fun z hz=>by_ z (List.mem_cons_of_mem _ hz)).1
  have hy:=by_ y List.mem_cons_self
  have p:(0:Int)<100 ^ n:=Int.pow_pos (by decide)
  have q:0<(y+1)*100 ^ n:=Int.mul_pos (by omega) p
  unfold eU kT
  rw[decide_eq_true (by simp:0<(y::ys).length),decide_eq_true (by omega)]
 | n+1,x::xs,[],bx,_,_,_=>by
  have h:=(rl n (xs:=xs) fun z hz=>bx z (List.mem_cons_of_mem _ hz)).1
  have hx:=bx x List.mem_cons_self
  have p:(0:Int)<100 ^ n:=Int.pow_pos (by decide)
  have q:0<(x+1)*100 ^ n:=Int.mul_pos (by omega) p
  unfold eU kT
  rw[decide_eq_false (by omega)]
 | n+1,x::xs,y::ys,bx,by_,lx,ly=>by
  have ih:=tG n (xs:=xs) (ys:=ys) (fun z hz=>bx z (List.mem_cons_of_mem _ hz)) (fun z hz=>by_ z (List.mem_cons_of_mem _ hz)) (by simpa using lx) (by simpa using ly)
  have hX:=rl n (xs:=xs) fun z hz=>bx z (List.mem_cons_of_mem _ hz)
  have hY:=rl n (xs:=ys) fun z hz=>by_ z (List.mem_cons_of_mem _ hz)
  have p:(0:Int)<100 ^ n:=Int.pow_pos (by decide)
  unfold eU kT
  by_cases e:x=y
  ·subst e
   rw[if_pos rfl,ih]
   by_cases z:kT n xs<kT n ys
   ·rw[decide_eq_true z,decide_eq_true (by omega)]
   ·rw[decide_eq_false z,decide_eq_false (by omega)]
  ·rw[if_neg e]
   by_cases z:x<y
   ·have:(x+1+1)*100 ^ n<=(y+1)*100 ^ n:=Int.mul_le_mul_of_nonneg_right (by omega) (by omega)
    have:(x+1+1)*100 ^ n=(x+1)*100 ^ n+100 ^ n:=by rw[Int.add_mul (x+1) 1,Int.one_mul]
    rw[decide_eq_true z,decide_eq_true (by omega)]
   ·have:(y+1+1)*100 ^ n<=(x+1)*100 ^ n:=Int.mul_le_mul_of_nonneg_right (by omega) (by omega)
    have:(y+1+1)*100 ^ n=(y+1)*100 ^ n+100 ^ n:=by rw[Int.add_mul (y+1) 1,Int.one_mul]
    rw[decide_eq_false z,decide_eq_false (by omega)]
inductive Tps (h:Heap):List Value->List (List Int)->Prop
 | nil:Tps h [] []
 | cons {a:Addr} {o:Obj} {k:Nat} {us:Array Value} {xs:List Int} {vs:List Value} {xss:List (List Int)}:h.get? a=some o->o.cls=.type "tuple" -> o.data=.seq us k->IntsAre us.toList xs->Tps h vs xss->Tps h (.ref a::vs) (xs::xss)
noncomputable def kvH (h:Heap):Value->Int
 | .ref a=>match h.get? a with
  | some o=>match o.data with
   | .seq us _=>kT 20 (us.toList.map numOf)
   | _=>0
  | none=>0
 | _=>0
section
variable {prog:Program} {w:World} {A:Around} {E:Value->Shared->Prop} {s:Shared} {vs:List Value} {xss:List (List Int)} {h h':Heap}
theorem Tps.len (r:Tps h vs xss):vs.length=xss.length:=by
 induction r with
 | nil=>rfl
 | cons _ _ _ _ _ ih=>simp[ih]
theorem Tps.keeps (r:Tps h vs xss) (k:∀b o,h.get? b=some o->h'.get? b=some o):Tps h' vs xss:=by
 induction r with
 | nil=>exact .nil
 | cons a b c d _ ih=>exact .cons (k _ _ a) b c d ih
theorem Tps.kv (r:Tps h vs xss):vs.map (kvH h)=xss.map (kT 20):=by
 induction r with
 | nil=>rfl
 | @cons a o k us xs vs xss ha hc hd hi r ih=>
  rw[List.map_cons,List.map_cons,ih]
  congr 1
  show kvH h (.ref a)=_
  unfold kvH
  simp only[ha,hd,hi.nums]
structure OkT (xss:List (List Int)):Prop where
 h2:2<=xss.length
 hz:xss.length<=100000
 bd:∀xs∈xss,Bd xs/\xs.length<=20
 nd:(xss.map (kT 20)).Nodup
theorem yo {β γ:Type} {f:β->γ}:∀{out m:List γ},out.Perm m->∀{l:List β},m=l.map f->∃q:List β,q.Perm l/\out=q.map f:=by
 intro out m h
 induction h with
 | nil=>intro l e;exact⟨[],by have:l=[]:=List.map_eq_nil_iff.mp e.symm;rw[this],rfl⟩
 | cons x _ ih=>
  intro l e
  cases l with
  | nil=>cases e
  | cons b l=>
   injection e with e1 e2
   obtain⟨q,hq,e3⟩:=ih e2
   exact⟨b::q,hq.cons b,by rw[e3,e1];rfl⟩
 | swap x y l'=>
  intro l e
  cases l with
  | nil=>cases e
  | cons b l=>
   cases l with
   | nil=>simp at e
   | cons c l=>
    simp only[List.map_cons,List.cons.injEq] at e
    obtain⟨e1,e2,e3⟩:=e
    exact⟨c::b::l,List.Perm.swap _ _ _,by rw[List.map_cons,List.map_cons,<- e1,<- e2,<- e3]⟩
 | trans _ _ ih1 ih2=>
  intro l e
  obtain⟨q,hq,e2⟩:=ih2 e
  obtain⟨q',hq',e3⟩:=ih1 e2
  exact⟨q',hq'.trans hq,e3⟩
theorem range_getD {β:Type} (l:List β) (d:β):l=(List.range l.length).map fun i=>l.getD i d:=by
 apply List.ext_getElem (by simp)
 intro i h1 h2
 simp[h1]
end
end L2.Srt
namespace L2
open PySem PySem.Spec PyProof.Rows L2.Srt
inductive TpV (K:PySem.W.Frag) (H:Hp):List V->List (List Int)->Prop
 | nil:TpV K H [] []
 | cons {a:Addr} {ns:List Int} {xs:List V} {xss:List (List Int)}:SqT K H a (ns.map V.int)->TpV K H xs xss->TpV K H (.ref a::xs) (ns::xss)
theorem TpV.len {K:PySem.W.Frag} {H:Hp} {xs:List V} {xss:List (List Int)} (r:TpV K H xs xss):xs.length=xss.length:=by
 induction r with
 | nil=>rfl
 | cons _ _ ih=>simp[ih]
theorem lN:∀{ns:List Int} {us:List Value},Vals (ns.map V.int) us->IntsAre us ns
 | [],_,.nil=>.nil
 | n::ns,_,.cons ⟨t,e⟩ r=>by subst e;exact .cons n t (lN r)
section
variable {X:Cx}
theorem Inv.tps {pins:List (Addr × Obj)} {σ:St} {H:Hp} {s:Shared} (I:Inv X pins σ H s) {xs:List V} {xss:List (List Int)} (r:TpV X.K H xs xss):∀{us:List Value},Vals xs us->Tps s.heap us xss:=by
 induction r with
 | nil=>intro us v;cases v;exact .nil
 | cons h _ ih=>
  intro us v
  cases v with
  | cons ru rv=>
   cases ru
   obtain⟨its,rt,pl,hz⟩:=I.tuple h
   obtain⟨o,ho,hc,n,hd⟩:=pl
   exact .cons ho hc hd (by simpa using lN rt) (ih rv)
end
end L2
namespace L2.FE
open PySem PySem.Spec PyProof.Rows L2.Srt
noncomputable def sR (x:List Int):List (List Int)->List (List Int)
 | []=>[x]
 | y::r=>if kT 20 x<=kT 20 y then x::y::r else y::sR x r
noncomputable def iT:List (List Int)->List (List Int)
 | []=>[]
 | x::r=>sR x (iT r)
theorem j9 (x:List Int):∀l,(sR x l).Perm (x::l)
 | []=>.refl _
 | y::r=>by
  unfold sR
  split
  ·exact .refl _
  ·exact((j9 x r).cons y).trans (.swap x y r)
theorem jc:∀l,(iT l).Perm l
 | []=>.refl _
 | x::r=>(j9 x _).trans ((jc r).cons x)
theorem kA (x:List Int):∀l,l.Pairwise (fun a b=>kT 20 a<=kT 20 b)->(sR x l).Pairwise (fun a b=>kT 20 a<=kT 20 b)
 | [],_=>by simp[sR]
 | y::r,h=>by
  unfold sR
  rw[List.pairwise_cons] at h
  split
  ·rename_i hx
   refine List.pairwise_cons.mpr ⟨fun z hz=>?_,List.pairwise_cons.mpr h⟩
   rcases List.mem_cons.mp hz with rfl | hz
   ·exact hx
   ·exact Int.le_trans hx (h.1 z hz)
  ·rename_i hx
   refine List.pairwise_cons.mpr ⟨fun z hz=>?_,kA x r h.2⟩
   rcases List.mem_cons.mp ((j9 x r).mem_iff.mp hz) with rfl | hz
   ·omega
   ·exact h.1 z hz
theorem f_:∀l,(iT l).Pairwise (fun a b=>kT 20 a<=kT 20 b)
 | []=>.nil
 | x::r=>kA x _ (f_ r)
theorem ja:∀{xs ys:List (List Int)},xs.Perm ys->xs.Pairwise (fun a b=>kT 20 a<kT 20 b)->ys.Pairwise (fun a b=>kT 20 a<=kT 20 b)->xs=ys
 | [],ys,p,_,_=>by rw[List.Perm.eq_nil p.symm]
 | x::xs,[],p,_,_=>absurd (List.Perm.eq_nil p) (by simp)
 | x::xs,y::ys,p,hx,hy=>by
  rw[List.pairwise_cons] at hx hy
  have e:x=y:=by
   have a:x∈y::ys:=p.mem_iff.mp List.mem_cons_self
   have b:y∈x::xs:=p.mem_iff.mpr List.mem_cons_self
   rcases List.mem_cons.mp b with z | b
   ·exact z.symm
   ·have b':=hx.1 y b
    rcases List.mem_cons.mp a with z | a
    ·exact z
    ·have:=hy.1 x a;omega
  subst e
  rw[ja (List.perm_cons x |>.mp p) hx.2 hy.2]
noncomputable def sJ (ns:List Int):D:=.tup (ns.map D.int)
noncomputable def gK:List D->Option (List (List Int))
 | []=>some []
 | .tup ds::r=>match intsOf ds,gK r with
  | some ns,some xss=>some (ns::xss)
  | _,_=>none
 | _::_=>none
theorem mE:∀(xss:List (List Int)),gK (xss.map sJ)=some xss
 | []=>rfl
 | ns::xss=>by
  rw[List.map_cons]
  show(match intsOf (ns.map D.int),gK (xss.map sJ) with | some ns,some xss=>some (ns::xss) | _,_=>none)=_
  rw[eK,mE xss]
theorem xX {xss:List (List Int)} {q:List Nat} (pm:q.Perm (List.range xss.length)) (up:(q.map fun i=>kT 20 (xss.getD i [])).Pairwise (· < ·)):q.map (fun i=>xss.getD i [])=iT xss:=by
 refine ja ?_ ?_ (f_ xss)
 ·have e:=L2.Srt.range_getD xss []
  have this:(q.map fun i=>xss.getD i []).Perm ((List.range xss.length).map fun i=>xss.getD i []):=pm.map _
  exact(this.trans (.of_eq e.symm)).trans (jc xss).symm
 ·rw[List.pairwise_map] at up ⊢
  exact up
section
variable {X:Cx} {g:GG} {ε:EE} {K:PySem.W.Frag}
theorem ow {α:List Addr} {H:Hp}:∀{ns:List Int} {vs:List V},av K g α H (ns.map D.int) vs->vs=ns.map V.int
 | [],_,.nil=>rfl
 | n::ns,_,.cons r rs=>by cases r;rw[ow rs];rfl
theorem qE {α:List Addr} {H:Hp}:∀{ds:List D} {xs:List V} {xss:List (List Int)},av K g α H ds xs->gK ds=some xss->TpV K H xs xss/\ds=xss.map sJ
 | _,_,xss,.nil,e=>by cases e;exact⟨.nil,rfl⟩
 | d::ds,_,xss,.cons rd rs,e=>by
  cases rd with
  | @tup es p vs hp rs2=>
   have e:(match intsOf es,gK ds with | some ns,some xss=>some (ns::xss) | _,_=>none)=some xss:=e
   cases e1:intsOf es with
   | none=>rw[e1] at e;cases e
   | some ns=>
    cases e2:gK ds with
    | none=>rw[e1,e2] at e;cases e
    | some yss=>
     rw[e1,e2] at e
     cases e
     obtain⟨a,b⟩:=qE rs e2
     have e3:=cX e1
     subst e3
     have e4:=ow rs2
     subst e4
     exact⟨.cons (SqT.of hp) a,by rw[b];rfl⟩
  | _=>cases e
end
end L2.FE
namespace L2.Srt
open PySem PySem.W PyProof.Rows PySem.Calls L2.SM
section
variable {prog:Program} {w:World} {A:Around} {E:Value->Shared->Prop} {s:Shared}
theorem mQ {xs ys:List Int} {a b:Addr} {oa ob:Obj} {us vs:Array Value} {na nb:Nat} {P:Fin->Shared->Prop} (hoa:s.heap.get? a=some oa) (hda:oa.data=.seq us na) (ia:IntsAre us.toList xs)
  (hob:s.heap.get? b=some ob) (cb:ob.cls=.type "tuple") (hdb:ob.data=.seq vs nb) (ib:IntsAre vs.toList ys) (h:P (.done (.ret (.bool (eU xs ys)))) s) :
  wpAny (model prog w) A (Builtin.«tuple.__lt__» ⟨[.ref a,.ref b],[]⟩) P E s:=by
 have hTb:s.TypeIs (.ref b) "tuple" := ⟨_,hob,cb⟩
 show wpAny _ _ (isInstance (.ref b) (.type "tuple") >>= _) _ _ s
 refine wpAny_bind (wpAny_isInstance hTb isSubtype_tuple_tuple ?_)
 simp only[Bool.not_true,Bool.false_eq_true,if_false]
 refine wpAny_bind (wpAny_tupleItemsOf hoa hda ?_)
 refine wpAny_bind (wpAny_tupleItemsOf hob hdb ?_)
 refine wpAny_bind ?_
 refine wpAny_forIn_list _
  (fun rest r s'=>r.1=none/\s'=s/\∃x' y' xs' ys',rest=List.zip xs' ys'/\IntsAre xs' x'/\IntsAre ys' y'/\eU x' y'=eU xs ys/\decide (xs'.length<ys'.length)=decide (us.size<vs.size))
  _ ?_ ?_ _ _ ⟨rfl,rfl,xs,ys,us.toList,vs.toList,rfl,ia,ib,rfl,by simp⟩
 ·rintro⟨u,v⟩ rest r s' ⟨hr,rfl,x',y',xs',ys',hz,hx',hy',hdec,hlen⟩
  cases hx' with
  | nil=>simp at hz
  | cons k1 t1 hx''=>
   cases hy' with
   | nil=>simp at hz
   | cons k2 t2 hy''=>
    simp only[List.zip_cons_cons,List.cons.injEq,Prod.mk.injEq] at hz
    obtain⟨⟨rfl,rfl⟩,rfl⟩:=hz
    refine wpAny_bind (wpAny_eqBool_int ?_)
    by_cases hk:k1=k2
    ·subst hk
     rw[show(k1 == k1)=true by simp]
     simp only[Bool.not_true,Bool.false_eq_true,if_false]
     refine wpAny_pure ⟨rfl,rfl,_,_,_,_,rfl,hx'',hy'',?_,by simpa using hlen⟩
     rw[<- hdec]
     conv=>rhs;unfold eU
     rw[if_pos rfl]
    ·rw[show(k1 == k2)=false by simpa using hk]
     simp only[Bool.not_false,if_true]
     have hf:eU xs ys=decide (k1<k2):=by rw[<- hdec];unfold eU;rw[if_neg hk]
     rw[hf] at h
     refine wpAny_bind (wpAny_rule (wpAny_bind ?_))
     refine(show wpAny (model prog w) A (compareOp .Lt (.int k1 t1) (.int k2 t2)) _ E s' from lt_int ?_)
     exact wpAny_bind (wpAny_pure (wpAny_pure (wpAny_pure h)))
 ·rintro⟨r1,r2⟩ s' ⟨hr,rfl,x',y',xs',ys',hz,hx',hy',hdec,hlen⟩
  simp only at hr
  subst hr
  refine wpAny_pure ?_
  have hfin:decide (us.size<vs.size)=eU xs ys:=by
   rw[<- hdec,<- hlen]
   cases hx' with
   | nil=>
    cases hy' with
    | nil=>simp[eU]
    | cons _ _ _=>simp[eU]
   | cons _ _ _=>
    cases hy' with
    | nil=>simp[eU]
    | cons _ _ _=>simp at hz
  show P (.done (.ret (.bool (decide (us.size<vs.size))))) s'
  rw[hfin];exact h
theorem tF {xs ys:List Int} {a b:Addr} {oa ob:Obj} {us vs:Array Value} {na nb:Nat} {Q:Bool->Shared->Prop} (hu:A.units<cLine) (hoa:s.heap.get? a=some oa) (ca:oa.cls=.type "tuple") (hda:oa.data=.seq us na) (ia:IntsAre us.toList xs)
  (hob:s.heap.get? b=some ob) (cb:ob.cls=.type "tuple") (hdb:ob.data=.seq vs nb) (ib:IntsAre vs.toList ys) (h:Q (eU xs ys) s):wpAny (model prog w) A (keyLt' oneType' (.ref a) (.ref b)) Q E s:=by
 have hT:s.TypeIs (.ref a) "tuple" := ⟨_,hoa,ca⟩
 rw[keyLt'_oneType,oneLt'_eq]
 simp only[if_true]
 refine wpAny_bind (wpAny_cRoomFor hu ?_)
 refine wpAny_bind (wpAny_callSpecialIfBound?_slot hT F.slot_tuple_lt (wpAny_call_entry F.slot_tuple_lt hT F.entry_tuple_lt (mQ hoa hda ia hob cb hdb ib ⟨_,rfl,?_⟩) (F.args_tuple_lt_2 _ _)))
 exact wpAny_truthy_bool h
theorem Tps.memC {h:Heap} {vs:List Value} {xss:List (List Int)} (r:Tps h vs xss) {v:Value} (hv:v∈vs):∃a o k us xs,v=.ref a/\h.get? a=some o/\o.cls=.type "tuple" /\ o.data=.seq us k/\IntsAre us.toList xs/\xs∈xss/\kvH h v=kT 20 xs:=by
 induction r with
 | nil=>cases hv
 | @cons a o k us xs vs xss ha hc hd hi r ih=>
  rcases List.mem_cons.mp hv with rfl | hv
  ·refine⟨a,o,k,us,xs,rfl,ha,hc,hd,hi,List.mem_cons_self,?_⟩
   unfold kvH
   simp only[ha,hd,hi.nums]
  ·obtain⟨a',o',k',us',xs',e1,e2,e0,e3,e4,e5,e6⟩:=ih hv
   exact⟨a',o',k',us',xs',e1,e2,e0,e3,e4,List.mem_cons_of_mem _ e5,e6⟩
theorem k4:∀{vs:List Value} {xss:List (List Int)} {Q:List (Option Value)->Shared->Prop},Tps s.heap vs xss->(∀fs:List (Option Value),fs.length=xss.length->(xss.head?=some []->fs.head?=some none)->Q fs s)->wpAny (model prog w) A (vs.mapM firstOfTuple') Q E s
 | _,_,Q,.nil,h=>by rw[List.mapM_nil];exact wpAny_pure (h [] rfl (by simp))
 | _,_,Q,@Tps.cons _ a o k us xs vs xss ha hc hd hi r,h=>by
  rw[List.mapM_cons]
  refine wpAny_bind ?_
  rw[kas_first_eq]
  refine wpAny_bind (Looks.here (show Looks (model prog w) s.heap (typeOf (.ref a)) o.cls from(Looks.ld ha).andThen .now) ?_)
  rw[hc,if_neg (by first | decide | simp)]
  refine wpAny_bind (listItems_at ha hd (wpAny_pure ?_))
  refine wpAny_bind (k4 r fun fs hl _=>wpAny_pure (h _ (by simp[hl]) (fun e=>?_)))
  have e:xs=[]:=by simpa using e
  subst e
  have:us.toList=[]:=by cases hi':us.toList with | nil=>rfl | cons _ _=>rw[hi'] at hi;cases hi
  have:us = #[]:=by simpa using this
  subst this
  rfl
theorem oV {vs:List Value} {xss:List (List Int)} {Q:SortKind->Shared->Prop} (r:Tps s.heap vs xss) (he:xss.head?=some []) (h:Q oneType' s):wpAny (model prog w) A (keyKind' vs.toArray) Q E s:=by
 rw[kat_kind_eq,List.mapM_toArray,map_eq_pure_bind]
 refine wpAny_bind (wpAny_bind (k4 r fun fs hl hf=>wpAny_pure ?_))
 have hf:=hf he
 obtain⟨fr,rfl⟩:∃fr,fs=none::fr:=by
  cases fs with
  | nil=>simp at hf
  | cons x fr=>simp at hf;subst hf;exact⟨fr,rfl⟩
 rw[if_neg (by simp),if_neg (by simp)]
 obtain⟨v₁,vr,rfl⟩:∃v₁ vr,vs=v₁::vr:=by
  cases r with
  | nil=>simp at he
  | cons _ _ _ _ _=>exact⟨_,_,rfl⟩
 rw[oneTypeOnly'_eq,List.mapM_toArray,map_eq_pure_bind]
 refine wpAny_bind (wpAny_bind (wpAny_bind (kas_mapM (r:=Value.type "tuple") _ (fun v hv Q' hq=>?_) (wpAny_pure ?_))))
 ·obtain⟨a,o,k,us,xs,rfl,ha,hc,_⟩:=r.memC hv
  refine Looks.here (show Looks (model prog w) s.heap (typeOf (.ref a)) o.cls from(Looks.ld ha).andThen .now) ?_
  rw[hc];exact hq
 ·have hall:((List.map (fun _=>Value.type "tuple") (v₁::vr)).toArray.all fun x=>x == Value.type "tuple")=true:=by
   simp only[List.all_toArray,List.all_map,List.all_eq_true]
   intro _ _
   show(Value.type "tuple" == Value.type "tuple")=true
   decide +kernel
  have h0:(List.map (fun _=>Value.type "tuple") (v₁::vr)).toArray[0]?=some (Value.type "tuple"):=by simp
  rw[h0]
  simp only[hall,if_true]
  exact wpAny_pure (wpAny_pure h)
end
section
variable {prog:Program} {w:World} {A:Around} {E:Value->Shared->Prop} {s:Shared} {vs:List Value} {xss:List (List Int)} {h h':Heap}
theorem qT (hu:A.units+64<cLine) {l:Addr} {Q:Value->Shared->Prop} (hl:s.heap.IsList l vs.toArray) (r:Tps s.heap vs xss) (ok:OkT xss) (ne:xss.head?=some [])
  (h:∀q:List Nat,q.Perm (List.range xss.length)->(q.map fun i=>kT 20 (xss.getD i [])).Pairwise (· < ·)->Q (.ref (s.heap.objs.size+1)) { s with heap:=sortedAll s.heap vs (List.toArray (q.map fun i=>vs.getD i Value.none)) }) :
  wpAny (model prog w) A (call (.builtin "sorted") [.ref l]) Q E s:=by
 have len:=r.len
 have keep:∀b o,s.heap.get? b=some o->(bq (bg s.heap vs) (s.heap.objs.size+1) vs).get? b=some o:=fun b o q=>Ap (Nat.ne_of_lt (Nat.lt_succ_of_lt (Heap.lt_size q))) (zC q)
 have r1:=r.keeps keep
 have h2:=ok.h2
 have hz:=ok.hz
 refine tW (kv:=kvH (bq (bg s.heap vs) (s.heap.objs.size+1) vs)) hl (by omega) (by omega) ?_ (by rw[r1.kv];exact ok.nd) (fun out pm sr=>?_)
 ·refine oV r1 ne ⟨rfl,fun x y hx hy C hc=>?_⟩
  obtain⟨a,oa,ka,ua,xa,e1,ga,ca,da,ia,ma,va⟩:=r1.memC hx.1
  obtain⟨b,ob,kb,ub,xb,e2,gb,cb,db,ib,mb,vb⟩:=r1.memC hy.1
  have hd:decide (kvH (bq (bg s.heap vs) (s.heap.objs.size+1) vs) x.1<kvH (bq (bg s.heap vs) (s.heap.objs.size+1) vs) y.1)=eU xa xb:=by
   simp only[va,vb]
   exact(tG 20 (ok.bd _ ma).1 (ok.bd _ mb).1 (ok.bd _ ma).2 (ok.bd _ mb).2).symm
  replace hc:C (decide (kvH (bq (bg s.heap vs) (s.heap.objs.size+1) vs) x.1<kvH (bq (bg s.heap vs) (s.heap.objs.size+1) vs) y.1)) _:=hc
  rw[hd] at hc
  rw[e1,e2]
  exact tF (by show A.units+1+1<cLine;omega) ga ca da ia gb cb db ib hc
 ·obtain⟨q,hq,e⟩:=yo pm (range_getD vs Value.none)
  rw[e]
  rw[len] at hq
  refine h q hq ?_
  rw[e,List.pairwise_map] at sr
  rw[List.pairwise_map]
  refine List.Pairwise.imp_of_mem ?_ sr
  intro i j hi hj lt
  have kq:∀i∈q,kvH (bq (bg s.heap vs) (s.heap.objs.size+1) vs) (vs.getD i Value.none)=kT 20 (xss.getD i []):=fun i hi=>by
   have hi':i<xss.length:=by have:=hq.mem_iff.mp hi;simpa using this
   have hv:i<vs.length:=by omega
   have kk:=r1.kv
   have e1:(vs.map (kvH (bq (bg s.heap vs) (s.heap.objs.size+1) vs)))[i]'(by simpa using hv)=(xss.map (kT 20))[i]'(by simpa using hi'):=by simp only[kk]
   simpa [hv,hi'] using e1
  rw[kq i hi,kq j hj] at lt
  exact lt
end
end L2.Srt
namespace L2
open PySem PySem.Spec PyProof.Rows L2.Srt
section
variable {X:Cx}
theorem tJ (hu:X.A.units+64<cLine):ba X (.builtin "sorted") (fun vs H Q=>∃(p:Addr) (xs:List V) (xss:List (List Int)),vs=[.ref p]/\SqL X.K H p xs/\TpV X.K H xs xss/\OkT xss/\xss.head?=some [] ∧
  ∀(l:Addr) (q:List Nat),q.Perm (List.range xss.length)->(q.map fun i=>kT 20 (xss.getD i [])).Pairwise (· < ·)->H l=none->Q (.ref l) (upd H l (.lst (q.map fun i=>xs.getD i .non)))):=by
 intro pins s σ H xs0 us Q I r h
 obtain⟨p,xs,xss,rfl,hq,pr,ok,ne,q⟩:=h
 obtain⟨u,rfl,rx⟩:=vals1 r
 cases rx
 obtain⟨its,rv,pl,hz⟩:=I.list hq
 refine qT hu pl.isList (I.tps pr rv) ok ne fun a pm up=>?_
 obtain⟨k,hk⟩:=sortedAll_at s.heap its (List.toArray (a.map fun i=>its.getD i Value.none))
 have hn:H (s.heap.objs.size+1)=none:=I.hok.fresh (Nat.le_succ _)
 have lx:=pr.len
 have al:a.length=xss.length:=by rw[pm.length_eq,List.length_range]
 have len:(a.map fun i=>xs.getD i V.non).length<=sizeLine:=by
  rw[List.length_map,al,<- lx];exact hz
 have vp:=nZ rv a (fun i hi=>by
  have:=pm.mem_iff.mp hi
  have:i<xss.length:=by simpa using this
  omega)
 refine⟨.ref (s.heap.objs.size+1),upd H (s.heap.objs.size+1) (.lst (a.map fun i=>xs.getD i .non)),I.laid (t':=s.toks) (fun _ _ z=>sortedAll_old z) (Nat.le_succ _) ⟨len,a.map fun i=>its.getD i Value.none,k,vp,?_⟩,rfl,q _ a pm up hn⟩
 rw[hk]
end
end L2
namespace L2.FE
open PySem PySem.Spec PyProof.Rows L2.Srt
noncomputable def okE (xss:List (List Int)):Bool:=decide (2<=xss.length/\xss.length<=100000)&&decide (xss.head?=some [])&&xss.all (fun xs=>decide (xs.length<=20)&&xs.all fun x=>decide (0<=x/\x<=98))&&decide ((xss.map (kT 20)).Nodup)
noncomputable def kh (nl:NL):List D->Hh->R D:=fun ds h=>match ds with
 | [d]=>match gp d h with
  | some xs=>if xs.length<2 then nl xs h else match gK xs with
   | some xss=>if okE xss=true then nl ((iT xss).map sJ) h else .bad
   | none=>.bad
  | none=>.bad
 | _=>.bad
theorem Cb {xss:List (List Int)} (e:okE xss=true):OkT xss/\xss.head?=some []:=by
 unfold okE at e
 simp only[Bool.and_eq_true,decide_eq_true_eq,List.all_eq_true] at e
 obtain⟨⟨⟨⟨e1,e2⟩,e3⟩,e4⟩,e5⟩:=e
 exact⟨⟨e1,e2,fun xs hx=>⟨fun x hx'=>(e4 xs hx).2 x hx',(e4 xs hx).1⟩,e5⟩,e3⟩
section
variable {K:PySem.W.Frag} {g:GG} {ε:EE}
noncomputable abbrev AI (K:PySem.W.Frag) (F:VK->VK):List V->Hp->VK->Prop:=fun vs H Q=>∃(p:Addr) (xs:List V) (xss:List (List Int)),vs=[.ref p]/\SqL K H p xs/\TpV K H xs xss/\OkT xss/\xss.head?=some [] ∧
  ∀(l:Addr) (q:List Nat),q.Perm (List.range xss.length)->(q.map fun i=>kT 20 (xss.getD i [])).Pairwise (· < ·)->H l=none->F Q (.ref l) (upd H l (.lst (q.map fun i=>xs.getD i .non)))
theorem zr {α:List Addr} {H:Hp} {h:Hh} {d:D} {x:V} {ds:List D} (r:aM K g α H h) (rd:aC K g α H d x) (e:gp d h=some ds):∃p vs,x=.ref p/\SqL K H p vs/\av K g α H ds vs:=by
 unfold gp at e
 cases rd with
 | frl hq rs=>cases e;exact⟨_,_,rfl,hq.sq,rs⟩
 | ref hp=>obtain⟨vs,hv,rs⟩:=r.lst e hp;exact⟨_,vs,rfl,SqL.of hv,rs⟩
 | _=>cases e
theorem xn {nl:NL} [gH nl]:kG K g ε (kh nl) (fun vs H Q=>Ac K gn vs H Q\/AI K gn vs H Q):=by
 intro α H h a x Q r ra w
 cases ra with
 | nil=>exact w.elim
 | cons rd rr=>
  cases rr with
  | cons _ _=>exact w.elim
  | nil=>
   unfold kh at w
   dsimp only at w
   cases e0:gp _ h with
   | none=>rw[e0] at w;exact w.elim
   | some ds=>
    rw[e0] at w
    dsimp only at w
    obtain⟨p,vs,rfl,hq,rs⟩:=zr r rd e0
    by_cases z:ds.length<2
    ·rw[if_pos z] at w
     exact .inl ⟨p,vs,rfl,hq,by rw[<- rs.length];exact z,fun l hl=>NL.post w r rs hl⟩
    ·rw[if_neg z] at w
     cases e:gK ds with
     | none=>rw[e] at w;exact w.elim
     | some xss=>
      rw[e] at w
      obtain⟨ok,w⟩:=WQ.dH w
      obtain⟨pr,rfl⟩:=qE rs e
      obtain⟨o1,o2⟩:=Cb ok
      refine .inr ⟨p,vs,xss,rfl,hq,pr,o1,o2,fun l q pm up hl=>?_⟩
      have lt:∀i∈q,i<xss.length:=fun i hi=>by
       have:=pm.mem_iff.mp hi
       simpa using this
      have rp:=sd rs q (fun i hi=>by rw[List.length_map];exact lt i hi)
      have ee:(q.map fun i=>(xss.map sJ).getD i .non)=(iT xss).map sJ:=by
       rw[<- xX pm up,List.map_map]
       refine List.map_congr_left fun i hi=>?_
       have:=lt i hi
       simp[this]
      rw[ee] at rp
      exact NL.post w r rp hl
end
end L2.FE
namespace FC
open PySem L2 L2.FE
noncomputable def bw:MF:=cQ 2 (aF (iz (a_ asB (au dLt (ag 1) (ah iK (aa (ag 0) ak)))) (bO (au dIx (ag 0) (ag 1))) dI)
  (bO (cC (.int 0))))
noncomputable def bF:MF:=cQ 2 (aF (bb 1 (ah rM (aa (ag 0) (aa (au cn (cC (.int 0)) (ag 0)) ak))))
  (bO (ah (eR p9) (aa (ag 1) (aa (ah ya (aa (au dGe (ag 1) (au zQ (cC (.int 10)) (cC (.int 18)))) ak)) (aa (au kO (ag 1) (cC (.int 1000003))) ak))))))
noncomputable def cY:MF:=cQ 1 (aF (bb 0 (au kO (au (bQ aD) (ag 0) (cC (.int 7919))) (cC (.int 2147483647))))
  (bO (au kO (au (bQ aD) (au (bQ aD) (au (fZ aD) (ag 0) (ag 0)) (au (fZ aD) (cC (.int 48271)) (ag 0))) (cC (.int 12345))) (cC (.int 2147483629)))))
noncomputable def aE:MF:=cQ 3 (aF (iz (xK (a_ asB (au dEq (au dIx (ag 0) (cC (.int 1))) (cC (.int 1)))) (a_ asB (au dGt (au dIx (ag 0) (cC (.int 0))) (cC (.int 0))))) (aF (bb 2 (au kO (au dIx (ag 0) (cC (.int 0))) (ag 1)))
  (aF (pW kc (ag 0) (cC (.int 0)) (au vC (au dIx (ag 0) (cC (.int 0))) (ag 1)))
  (bO (ag 2)))) dI)
  (aF (pW kc (ag 0) (cC (.int 2)) (ah cY (aa (au (bQ aD) (ah cY (aa (au dIx (ag 0) (cC (.int 2))) ak)) (cC (.int 7))) ak)))
  (bO (au kO (au vC (au dIx (ag 0) (cC (.int 2))) (cC (.int 64))) (ag 1)))))
noncomputable def bE:MF:=cQ 3 (aF (bb 1 (ah (eR aD) (aa (ah cF ak) ak)))
  (aF (dU (eg kz (aa (au cn (ag 0) (cC (.int 2))) (aa (cUn jk (cC (.int 1))) (aa (cUn jk (cC (.int 1))) ak)))) (gN 2) (bb 1 (au (bQ aD) (au (bQ aD) (ah (eR aD) (aa (ah cF ak) ak)) (bA aD (bo (ag 1)) [2] (AA (a_ asB (au dEq (ag 0) (ah cF ak))) (a_ asB (au dGt (au dIx (ag 0) (cC (.int 0))) (ag 1)))) (au (bQ aD) (ah cF (aa (ag 1) ak)) (ag 0)))) (dM aD (ag 1) (eZ (cC (.int 1))) dC))))
  (bO (ag 1))))
noncomputable def eO:MF:=cQ 1 (bO (uM (cUn (rZ "int") (ag 0)) (xq (cUn (rZ "bool") (ag 0)))))
noncomputable def bT:MF:=cQ 3 (bO (uM (ah eO (aa (ag 0) ak)) (qc dLe dLe (ag 1) (ag 0) (ag 2))))
noncomputable def az:MF:=cQ 3 (iz (lQ (a_ jI (ah bT (aa (ag 0) (aa (ag 1) (aa (ag 2) ak)))))) DM dI)
noncomputable def aX:MF:=cQ 2 (bO (ah (ke aD) (aa (cIf (a_ jI (ag 1)) (au (bQ aD) (au dIx (ag 1) (cUn jk (cC (.int 1)))) (cC (.int 1))) (cC (.int 0))) (aa (au cn (ag 0) (cC (.int 1))) ak))))
noncomputable def eB:MF:=fun ds h=>((cQ 4 (aF (cV (ah az (aa (ag 0) (aa (cC (.int 1)) (aa (cC (.int 12)) ak)))))
  (aF (cV (ah az (aa (ag 1) (aa (cC (.int 0)) (aa (cC (.int 12)) ak)))))
  (aF (bb 2 (ah (eR p9) (aa (ah cF ak) ak)))
  (aF (dU (eg fJ (aa (ag 1) ak)) (gN 3) (bb 2 (gq (bo (ag 2)) [0] (bo (ah aX (aa (ag 2) (aa (ag 0) ak)))) (au (bQ aD) (ag 0) (ah cF (aa (ag 1) ak))))))
  (bO (ag 2))))))) ds h).bind (lS h)
noncomputable def bh:MF:=cQ 5 (aF (BB 2 3 (ah cF (aa (cC (.int 1)) (aa (cC (.int 1)) ak))))
  (aF (dU (eg fJ (aa (ag 1) ak)) (gN 4) (mR 2 3 (aa (au (fZ aD) (ag 2) (ah rM (aa (cC (.int 0)) (aa (au cn (ag 0) (ag 4)) ak)))) (aa (au (fZ aD) (ag 3) (au (bQ aD) (ag 4) (cC (.int 1)))) ak))))
  (bO (au vC (ag 2) (ag 3)))))
noncomputable def bS:MF:=fun ds h=>((cQ 10 (aF (bb 2 (au (bQ aD) (ah (mB aD) (aa (ag 1) ak)) (ah (eR aD) (aa (au cn (ag 0) (cC (.int 1))) ak))))
  (aF (bb 3 (ah (eR p9) ak))
  (aF (dU (pV (ag 2)) (gT2 4 5) (aF (bb 6 (au (fZ aD) (au cn (cC (.int 1)) (au (fZ aD) (cC (.int 2)) (au kO (ag 4) (cC (.int 2))))) (ah bh (aa (ag 0) (aa (au (bQ aD) (ag 5) (cC (.int 1))) ak)))))
  (aF (dU (eg fJ (aa (ag 4) ak)) (gN 7) (aF (mR 8 9 (aa (au cn (cC (.int 1)) (au (fZ aD) (cC (.int 2)) (au kO (au cn (au cn (ag 4) (ag 7)) (cC (.int 1))) (cC (.int 2))))) (aa (au dIx (ag 2) (ag 7)) ak)))
  (bb 6 (au (bQ aD) (ag 6) (au (fZ aD) (au (fZ aD) (ag 8) (au dIx (ag 3) (ag 7))) (ah bh (aa (au cn (au cn (ag 0) (ag 9)) (cC (.int 1))) (aa (au cn (ag 5) (ag 9)) ak))))))))
  (cV (ij c_ (ag 3) (aa (ag 6) ak))))))
  (bO (au dIx (ag 3) (cUn jk (cC (.int 1))))))))) ds h).bind (cB h)
noncomputable def eE:MF:=fun ds h=>((cQ 4 (aF (cV (ah az (aa (ag 0) (aa (cC (.int 1)) (aa (cC (.int 12)) ak)))))
  (aF (cV (ah az (aa (ag 1) (aa (cC (.int 0)) (aa (cC (.int 12)) ak)))))
  (aF (bb 2 (ah (eR aD) (aa (ah cF ak) ak)))
  (aF (dU (eg fJ (aa (ag 1) ak)) (gN 3) (bb 2 (gq (bo (ag 2)) [0] (bo (ah aX (aa (ag 2) (aa (ag 0) ak)))) (au (bQ aD) (ag 0) (ah cF (aa (ag 1) ak))))))
  (bO (ag 2))))))) ds h).bind (cB h)
noncomputable def gf:MF:=cQ 4 (aF (cV (ah az (aa (ag 0) (aa (cC (.int 1)) (aa (cC (.int 12)) ak)))))
  (aF (iz (lQ (a_ jI (cUn (rZ "tuple") (ag 1)))) (bO (cC (.bl false))) dI)
  (aF (bb 2 (cC (.int 0)))
  (aF (dU (bo (ag 1)) (gN 3) (aF (iz (lQ (a_ jI (ah bT (aa (ag 3) (aa (ag 2) (aa (au cn (ag 0) (cC (.int 2))) ak)))))) (bO (cC (.bl false))) dI)
  (bb 2 (au (bQ aD) (ag 3) (cC (.int 1))))))
  (bO (cC (.bl true)))))))
noncomputable def dq:MF:=cQ 2 (iz (lQ (a_ jI (ah gf (aa (ag 0) (aa (ag 1) ak))))) DM dI)
noncomputable def i6:MF:=cQ 1 (bO (ah eJ (aa (bA aD (eg fJ (aa (au cn (ah iK (aa (ag 0) ak)) (cC (.int 1))) ak)) [0] (a_ asB (au dGt (au dIx (ag 1) (ag 0)) (au dIx (ag 1) (au (bQ aD) (ag 0) (cC (.int 1)))))) (ag 0)) ak)))
noncomputable def fV:MF:=cQ 1 (aF (iz (a_ asB (au dEq (ah iK (aa (ag 0) ak)) (cC (.int 0)))) (bO (cC (.int 0))) dI)
  (bO (au cn (au dIx (ag 0) (cUn jk (cC (.int 1)))) (ah iK (aa (bA aD (bo (ag 0)) [0] (a_ asB (au dLt (ag 0) (au dIx (ag 1) (cUn jk (cC (.int 1)))))) (ag 0)) ak)))))
noncomputable def d_:MF:=cQ 3 (aF (iz (a_ asB (au dEq (ah iK (aa (ag 2) ak)) (cC (.int 0)))) (bO (ah oY (aa (au dIx (ag 0) (cUn jk (cC (.int 1)))) ak))) dI)
  (aF (iz (a_ asB (au dNe (ah i6 (aa (ag 2) ak)) (ah eJ (aa (bA aD (bo (ag 1)) [2] (a_ asB (au dLt (ag 0) (au cn (ah iK (aa (ag 1) ak)) (cC (.int 1))))) (ag 0)) ak)))) (bO (cC (.int 0))) dI)
  (bO (au dIx (au dIx (ag 0) (au cn (ah iK (aa (ag 0) ak)) (ah iK (aa (ag 2) ak)))) (ah fV (aa (ag 2) ak))))))
noncomputable def dF:MF:=fun ds h=>((cQ 6 (aF (bb 2 (ah (eR p9) (aa (ah (eR aD) (aa (cC (.int 1)) ak)) ak)))
  (aF (dU (eg vN (aa (cC (.int 1)) (aa (ag 0) ak))) (gN 3) (aF (bb 4 (au dIx (ag 2) (cUn jk (cC (.int 1)))))
  (aF (bb 5 (au (dIn false) (au cn (au cn (ag 0) (cC (.int 1))) (ag 3)) (ag 1)))
  (cV (ij c_ (ag 2) (aa (bA aD (eg fJ (aa (au (bQ aD) (ag 3) (cC (.int 1))) ak)) [5,4] tt1 (ah oY (aa (cIf (a_ jI (ag 1)) (dM aD (ag 2) dC (eZ (ag 0))) (dM aD (ag 2) (eZ (ag 0)) dC)) ak))) ak))))))
  (bO (ag 2))))) ds h).bind (cB h)
noncomputable def cg:MF:=cQ 2 (aF (cV (ah dq (aa (ag 0) (aa (ag 1) ak))))
  (bO (ah d_ (aa (ah dF (aa (ag 0) (aa (ag 1) ak))) (aa (ag 1) (aa (ah cF ak) ak))))))
noncomputable def ck:MF:=fun ds h=>((cQ 4 (aF (cV (ah az (aa (ag 0) (aa (cC (.int 1)) (aa (cC (.int 10)) ak)))))
  (aF (bb 1 (ah (kh aD) (aa (iI (eg fJ (aa (ag 0) ak)) [0] (bo (ah eE (aa (ag 2) (aa (ag 0) ak)))) (ag 1)) ak)))
  (aF (bb 2 (bA aD (bo (ag 1)) [0] tt1 (ah cg (aa (ag 1) (aa (ag 0) ak)))))
  (aF (bb 3 (ah gu (aa (ag 2) ak)))
  (bO (ah cF (aa (ag 3) (aa (ah eJ (aa (bA aD (uw (aa (ag 1) (aa (ag 2) ak))) [3] (unp (a_ asB (au dEq (ag 1) (ag 2)))) (unp (ag 0))) ak)) ak))))))))) ds h).bind (cB h)
noncomputable def lF:MF:=fun ds h=>((cQ 13 (aF (dU (bo (au (bQ aD) (ah (eR aD) (aa (ah bw (aa (ag 0) (aa (cC (.int 0)) ak))) ak)) (dM aD (ag 0) (eZ (cC (.int 1))) (eZ (cC (.int 3)))))) (gN 1) (aF (bb 2 (ah bF (aa (ag 1) ak)))
  (aF (mR 3 4 (aa (ah aE (aa (ag 2) (aa (cC (.int 2)) ak))) (aa (au (bQ aD) (cC (.int 1)) (ah aE (aa (ag 2) (aa (cC (.int 12)) ak)))) ak)))
  (aF (bb 5 (au (bQ aD) (cC (.int 1)) (ah aE (aa (ag 2) (aa (cC (.int 10)) ak)))))
  (aF (bb 6 (au dIx (ah (eR aD) (aa (ah aE (aa (ag 2) (aa (cC (.int 13)) ak))) (aa (ah aE (aa (ag 2) (aa (ag 4) ak))) ak))) (ag 3)))
  (aF (dU (bo (ah cF (aa (ag 6) (aa (cC (.int 0)) (aa (cC (.int 12)) ak))))) (gN 7) (aF (bb 8 (bA aD (bo (ah bE (aa (ag 4) ak))) [7] (a_ asB (au dEq (ah iK (aa (ag 0) ak)) (ag 1))) (ag 0)))
  (dU (eg fJ (aa (cC (.int 2)) ak)) (gN 9) (aF (bb 10 (ah eB (aa (ag 4) (aa (ag 7) ak))))
  (aF (iz (a_ asB (au dNe (ah eQ (aa (ag 10) ak)) (ah eQ (aa (ag 8) ak)))) (bO (cC (.bl false))) dI)
  (cV (ij c_ (ag 10) (aa (ah cF ak) ak))))))))
  (aF (bb 11 (bA aD (bo (ah bE (aa (ag 5) ak))) [5] tt1 (ah cF (aa (ah bS (aa (ag 1) (aa (ag 0) ak))) (aa (ag 0) ak)))))
  (aF (bb 12 (ah gu (aa (bA aD (bo (ag 11)) [] (unp tt1) (unp (ag 0))) ak)))
  (iz (a_ asB (au dNe (ah eQ (aa (ah ck (aa (ag 5) ak)) ak)) (ah eQ (aa (ah cF (aa (ag 12) (aa (ah eJ (aa (bA aD (bo (ag 11)) [12] (unp (a_ asB (au dEq (ag 0) (ag 2)))) (unp (ag 1))) ak)) ak))) ak)))) (bO (cC (.bl false))) dI)))))))))
  (bO (cC (.bl true))))) ds h).bind (cB h)
noncomputable def aP (i:Nat):Stmt:=PySem.Challenge.pw_fallcounts_k34_sets_listed_and_greatest.main.body.getD i (.Pass ⟨0,0,0,0⟩)
structure Blt (mg:Str->Option Value):Prop where
 bool:mg "bool" = none
 enumerate:mg "enumerate" = none
 int:mg "int" = none
 isinstance:mg "isinstance" = none
 len:mg "len" = none
 list:mg "list" = none
 max:mg "max" = none
 range:mg "range" = none
 repr:mg "repr" = none
 sorted:mg "sorted" = none
 sum:mg "sum" = none
 tuple:mg "tuple" = none
 zip:mg "zip" = none
section
variable {P:Program} {w:World} {K:PySem.W.Frag} {mg:Str->Option Value} {base:Heap} {g:GG}
theorem kF:aY ["_law_script", "_law_k"] ["_law_script", "_law_k"] (aw (aP 24)):=⟨rfl,rfl,rfl,by decide +kernel,rfl,by decide +kernel,by decide +kernel⟩
theorem jQ (D:aV K mg "_law_cell_at" (aP 24)) (T:Blt mg):Has P w K mg base g "_law_cell_at" 1 ["_law_script", "_law_k"] bw:=by
 obtain⟨f,fd,hm,F⟩:=D
 refine⟨f,fd,eT F kF (fun cdv A outer s H E hr=>?_),F.kp,F.binds (fun _ _ _ _ _ _ us hl=>lE hl fun _ _=>rfl),hm,bc F⟩
 exact(@ax _ _ _ _ _ _ _ (@k6 _ _ _ _ _ _ _ _ _ _ (@cH _ _ _ _ _ _ _ _ _ _ _ xJ yE (ae 1) (aW fP fO rfl T.len PySem.boot_len (@af _ _ _ _ _ _ _ (ae 0) aj rfl)) (cq _)) (@aJ _ _ _ _ _ (@bD _ _ _ _ _ _ (@cJ _ _ _ _ _ _ _ _ _ _ bI cO (ae 0) (ae 1) (fun _ _=>rfl)))) dg)
   (@aJ _ _ _ _ _ (@bD _ _ _ _ _ _ aq)))
theorem gR:aY ["_law_cell", "_law_left"] ["_law_cell"] (aw (aP 26)):=⟨rfl,rfl,rfl,by decide +kernel,rfl,by decide +kernel,by decide +kernel⟩
theorem kD (D:aV K mg "_law_pen_of" (aP 26)) (T:Blt mg):Has P w K mg base g "_law_pen_of" 1 ["_law_cell"] bF:=by
 obtain⟨f,fd,hm,F⟩:=D
 refine⟨f,fd,eT F gR (fun cdv A outer s H E hr=>?_),F.kp,F.binds (fun _ _ _ _ _ _ us hl=>qZ hl fun _=>rfl),hm,bc F⟩
 exact(@ax _ _ _ _ _ _ _ (@cu _ _ _ _ _ _ 1 _ _ gR.nd rfl (by first | exact Or.inl rfl | exact Or.inr rfl) (aW (nR rfl) uT rfl T.max PyProof.Rows.boot_max (@af _ _ _ _ _ _ _ (ae 0) (@af _ _ _ _ _ _ _ (@aA _ _ _ _ _ _ _ _ _ _ _ bW bV aq (ae 0)) aj rfl) rfl)) rfl (.inl rfl))
   (@aJ _ _ _ _ _ (@bD _ _ _ _ _ _ (@eN _ _ _ _ _ _ _ _ (@af _ _ _ _ _ _ _ (ae 1) (@af _ _ _ _ _ _ _ (fG vt BQ rfl T.int PyProof.Rows.boot_int (@af _ _ _ _ _ _ _ (@yB _ _ _ _ _ _ _ _ _ _ _ CW DZ (ae 1) (@aA _ _ _ _ _ _ _ _ _ _ _ yW B_ aq aq) (cq _)) aj rfl)) (@af _ _ _ _ _ _ _ (@aA _ _ _ _ _ _ _ _ _ _ _ i8 je (ae 1) aq) aj rfl) rfl) rfl)))))
theorem jL:aY ["_law_seed"] ["_law_seed"] (aw (aP 25)):=⟨rfl,rfl,rfl,by decide +kernel,rfl,by decide +kernel,by decide +kernel⟩
theorem nM (D:aV K mg "_law_next" (aP 25)) (T:Blt mg):Has P w K mg base g "_law_next" 1 ["_law_seed"] cY:=by
 obtain⟨f,fd,hm,F⟩:=D
 refine⟨f,fd,eT F jL (fun cdv A outer s H E hr=>?_),F.kp,F.binds (fun _ _ _ _ _ _ us hl=>qZ hl fun _=>rfl),hm,bc F⟩
 exact(@ax _ _ _ _ _ _ _ (@cu _ _ _ _ _ _ 0 _ _ jL.nd rfl (by first | exact Or.inl rfl | exact Or.inr rfl) (@aA _ _ _ _ _ _ _ _ _ _ _ i8 je (@aA _ _ _ _ _ _ _ _ _ _ _ bP bK (ae 0) aq) aq) rfl (.inl rfl))
   (@aJ _ _ _ _ _ (@bD _ _ _ _ _ _ (@aA _ _ _ _ _ _ _ _ _ _ _ i8 je (@aA _ _ _ _ _ _ _ _ _ _ _ bP bK (@aA _ _ _ _ _ _ _ _ _ _ _ bP bK (@aA _ _ _ _ _ _ _ _ _ _ _ gr gj (ae 0) (ae 0)) (@aA _ _ _ _ _ _ _ _ _ _ _ gr gj aq (ae 0))) aq) aq))))
theorem jv:aY ["_law_pen", "_law_many", "_law_found"] ["_law_pen", "_law_many"] (aw (aP 27)):=⟨rfl,rfl,rfl,by decide +kernel,rfl,by decide +kernel,by decide +kernel⟩
theorem mJ (D:aV K mg "_law_draw" (aP 27)) (T:Blt mg) (fj:Has P w K mg base g "_law_next" 1 ["_law_seed"] cY):Has P w K mg base g "_law_draw" 2 ["_law_pen", "_law_many"] aE:=by
 obtain⟨f,fd,hm,F⟩:=D
 obtain⟨yO,wj,iP,iO,iR,iU,_⟩:=fj
 refine⟨f,fd,eT F jv (fun cdv A outer s H E hr=>?_),F.kp,F.binds (fun _ _ _ _ _ _ us hl=>lE hl fun _ _=>rfl),hm,bc F⟩
 exact(@ax _ _ _ _ _ _ _ (@k6 _ _ _ _ _ _ _ _ _ _ (PW.pt (@BM _ _ _ _ _ _ _ _ _ (@cH _ _ _ _ _ _ _ _ _ _ _ (jg hr.units) mC (@cJ _ _ _ _ _ _ _ _ _ _ bI cO (ae 0) aq (fun _ _=>rfl)) aq (cq _)) (@zq _ _ _ _ _ _ (@cH _ _ _ _ _ _ _ _ _ _ _ wH yf (@cJ _ _ _ _ _ _ _ _ _ _ bI cO (ae 0) aq (fun _ _=>rfl)) aq (cq _))))) (@ax _ _ _ _ _ _ _ (@cu _ _ _ _ _ _ 2 _ _ jv.nd rfl (by first | exact Or.inl rfl | exact Or.inr rfl) (@aA _ _ _ _ _ _ _ _ _ _ _ i8 je (@cJ _ _ _ _ _ _ _ _ _ _ bI cO (ae 0) aq (fun _ _=>rfl)) (ae 1)) rfl (.inl rfl))
   (@ax _ _ _ _ _ _ _ (t_ (@aA _ _ _ _ _ _ _ _ _ _ _ lT sP (@cJ _ _ _ _ _ _ _ _ _ _ bI cO (ae 0) aq (fun _ _=>rfl)) (ae 1)) (ae 0) aq set_list rf)
   (@aJ _ _ _ _ _ (@bD _ _ _ _ _ _ (ae 2))))) dg)
   (@ax _ _ _ _ _ _ _ (t_ (aL (iP.mono (by decide)) hr rfl iU iO iR (@af _ _ _ _ _ _ _ (@aA _ _ _ _ _ _ _ _ _ _ _ bP bK (aL (iP.mono (by decide)) hr rfl iU iO iR (@af _ _ _ _ _ _ _ (@cJ _ _ _ _ _ _ _ _ _ _ bI cO (ae 0) aq (fun _ _=>rfl)) aj rfl) (ai aK)) aq) aj rfl) (ai aK)) (ae 0) aq set_list rf)
   (@aJ _ _ _ _ _ (@bD _ _ _ _ _ _ (@aA _ _ _ _ _ _ _ _ _ _ _ i8 je (@aA _ _ _ _ _ _ _ _ _ _ _ lT sP (@cJ _ _ _ _ _ _ _ _ _ _ bI cO (ae 0) aq (fun _ _=>rfl)) aq) (ae 1))))))
theorem dZ:aY ["_law_n", "_law_found", "_law_place"] ["_law_n"] (aw (aP 30)):=⟨rfl,rfl,rfl,by decide +kernel,rfl,by decide +kernel,by decide +kernel⟩
theorem mY (D:aV K mg "_law_sets" (aP 30)) (T:Blt mg):Has P w K mg base g "_law_sets" 1 ["_law_n"] bE:=by
 obtain⟨f,fd,hm,F⟩:=D
 refine⟨f,fd,eT F dZ (fun cdv A outer s H E hr=>?_),F.kp,F.binds (fun _ _ _ _ _ _ us hl=>qZ hl fun _=>rfl),hm,bc F⟩
 exact(@ax _ _ _ _ _ _ _ (@cu _ _ _ _ _ _ 1 _ _ dZ.nd rfl (by first | exact Or.inl rfl | exact Or.inr rfl) (@eN _ _ _ _ _ _ _ _ (@af _ _ _ _ _ _ _ (@cP _ _ _ _ _ _ _ aj) aj rfl)) rfl (.inl rfl))
   (@ax _ _ _ _ _ _ _ (iE PassesOwn.never rfl (zL rfl T.range (@af _ _ _ _ _ _ _ (@aA _ _ _ _ _ _ _ _ _ _ _ bW bV (ae 0) aq) (@af _ _ _ _ _ _ _ (@kl _ _ _ _ _ _ _ _ _ iA gY aq) (@af _ _ _ _ _ _ _ (@kl _ _ _ _ _ _ _ _ _ iA gY aq) aj rfl) rfl) rfl)) (bf (i:=2) dZ.nd rfl (by first | exact Or.inl rfl | exact Or.inr rfl)) dD (@aJ _ _ _ _ _ (@cu _ _ _ _ _ _ 1 _ _ dZ.nd rfl (by first | exact Or.inl rfl | exact Or.inr rfl) (@aA _ _ _ _ _ _ _ _ _ _ _ bP bK (@aA _ _ _ _ _ _ _ _ _ _ _ bP bK (@eN _ _ _ _ _ _ _ _ (@af _ _ _ _ _ _ _ (@cP _ _ _ _ _ _ _ aj) aj rfl)) (gS (osc:=aw (aP 30)) [2] ["_law_some", "_law_place"] rfl rfl rfl rfl (by decide +kernel) ⟨by decide +kernel,by decide +kernel,rfl,by decide +kernel,rfl,by decide +kernel⟩ (@cE _ _ _ _ _ _ (ae 1))
    (fun cl C ao ar fp=>(jm (PW.pt (@DY _ _ _ _ _ _ _ _ _ (@cH _ _ _ _ _ _ _ _ _ _ _ (jg hr.units) mC (ae 0) (@cP _ _ _ _ _ _ _ aj) (cq _)) (@BN _ _ _ _ _ _ (@cH _ _ _ _ _ _ _ _ _ _ _ wH yf (@cJ _ _ _ _ _ _ _ _ _ _ bI cO (ae 0) aq (fun _ _=>rfl)) (ae 1) (cq _))))))) (fun cl C ao ar fp=>(@aA _ _ _ _ _ _ _ _ _ _ _ bP bK (@cP _ _ _ _ _ _ _ (@af _ _ _ _ _ _ _ (ae 1) aj rfl)) (ae 0))))) (jE (ae 1) (@jz _ _ _ _ _ aq) oQ)) rfl (.inl rfl))))
   (@aJ _ _ _ _ _ (@bD _ _ _ _ _ _ (ae 1)))))
theorem rB:aY ["thing"] ["thing"] (aw (aP 5)):=⟨rfl,rfl,rfl,by decide +kernel,rfl,by decide +kernel,by decide +kernel⟩
theorem qb (D:aV K mg "is_whole" (aP 5)) (T:Blt mg):Has P w K mg base g "is_whole" 1 ["thing"] eO:=by
 obtain⟨f,fd,hm,F⟩:=D
 refine⟨f,fd,eT F rB (fun cdv A outer s H E hr=>?_),F.kp,F.binds (fun _ _ _ _ _ _ us hl=>qZ hl fun _=>rfl),hm,bc F⟩
 exact(@aJ _ _ _ _ _ (@bD _ _ _ _ _ _ (@xw _ _ _ _ _ _ _ _ _ (sG (ae 0) rfl T.isinstance rfl T.int PyProof.Rows.boot_int) (@yc _ _ _ _ _ _ _ (@BI _ _ _ _ _ _ (sG (ae 0) rfl T.isinstance rfl T.bool PyProof.Rows.boot_bool))))))
theorem pH:aY ["thing", "least", "most"] ["thing", "least", "most"] (aw (aP 6)):=⟨rfl,rfl,rfl,by decide +kernel,rfl,by decide +kernel,by decide +kernel⟩
theorem nq (D:aV K mg "is_within" (aP 6)) (T:Blt mg) (fY:Has P w K mg base g "is_whole" 1 ["thing"] eO):Has P w K mg base g "is_within" 2 ["thing", "least", "most"] bT:=by
 obtain⟨f,fd,hm,F⟩:=D
 obtain⟨Ai,yT,qj,pX,pZ,pB,_⟩:=fY
 refine⟨f,fd,eT F pH (fun cdv A outer s H E hr=>?_),F.kp,F.binds (fun _ _ _ _ _ _ us hl=>B7 hl fun _ _ _=>rfl),hm,bc F⟩
 exact(@aJ _ _ _ _ _ (@bD _ _ _ _ _ _ (@xw _ _ _ _ _ _ _ _ _ (aL (qj.mono (by decide)) hr rfl pB pX pZ (@af _ _ _ _ _ _ _ (ae 0) aj rfl) (ai aK)) (@yc _ _ _ _ _ _ _ (yj AX AX AU AU (ae 1) (ae 0) (ae 2))))))
theorem jY:aY ["thing", "least", "most"] ["thing", "least", "most"] (aw (aP 7)):=⟨rfl,rfl,rfl,by decide +kernel,rfl,by decide +kernel,by decide +kernel⟩
theorem jN (D:aV K mg "number_needed" (aP 7)) (T:Blt mg) (bZ:Has P w K mg base g "is_within" 2 ["thing", "least", "most"] bT):Has P w K mg base g "number_needed" 3 ["thing", "least", "most"] az:=by
 obtain⟨f,fd,hm,F⟩:=D
 obtain⟨ng,lO,fB,fw,fv,fo,_⟩:=bZ
 refine⟨f,fd,eT F jY (fun cdv A outer s H E hr=>?_),F.kp,F.binds (fun _ _ _ _ _ _ us hl=>B7 hl fun _ _ _=>rfl),hm,bc F⟩
 exact(@aJ _ _ _ _ _ (@k6 _ _ _ _ _ _ _ _ _ _ (@pL _ _ _ _ _ _ (@fE _ _ _ _ _ _ jW (aL (fB.mono (by decide)) hr rfl fo fw fv (@af _ _ _ _ _ _ _ (ae 0) (@af _ _ _ _ _ _ _ (ae 1) (@af _ _ _ _ _ _ _ (ae 2) aj rfl) rfl) rfl) (ai (ai (ai aK)))) (fun _=>rfl))) (@aJ _ _ _ _ _ (PS.imp rT fun E σ H ⟨α,env,h,s,w⟩=>w.elim)) dg))
theorem kf:aY ["n", "some"] ["n", "some"] (aw (aP 19)):=⟨rfl,rfl,rfl,by decide +kernel,rfl,by decide +kernel,by decide +kernel⟩
theorem jq (D:aV K mg "places_behind" (aP 19)) (T:Blt mg):Has P w K mg base g "places_behind" 1 ["n", "some"] aX:=by
 obtain⟨f,fd,hm,F⟩:=D
 refine⟨f,fd,eT F kf (fun cdv A outer s H E hr=>?_),F.kp,F.binds (fun _ _ _ _ _ _ us hl=>lE hl fun _ _=>rfl),hm,bc F⟩
 exact(@aJ _ _ _ _ _ (@bD _ _ _ _ _ _ (xf rfl rfl T.list rfl T.range (@af _ _ _ _ _ _ _ (@rR _ _ _ _ _ _ _ _ _ _ (@fE _ _ _ _ _ _ jW (ae 1) (fun _=>rfl)) (@aA _ _ _ _ _ _ _ _ _ _ _ bP bK (@cJ _ _ _ _ _ _ _ _ _ _ bI cO (ae 1) (@kl _ _ _ _ _ _ _ _ _ iA gY aq) (fun _ _=>rfl)) aq) aq) (@af _ _ _ _ _ _ _ (@aA _ _ _ _ _ _ _ _ _ _ _ bW bV (ae 0) aq) aj rfl) rfl))))
theorem cw:aY ["n", "k", "sets", "step"] ["n", "k"] (aw (aP 18)):=⟨rfl,rfl,rfl,by decide +kernel,rfl,by decide +kernel,by decide +kernel⟩
theorem sj (D:aV K mg "sets_of" (aP 18)) (T:Blt mg) {bL:Tok} (aU:mg "MOST_NUMBERS" = some (.int 12 bL)) (aG:Has P w K mg base g "number_needed" 3 ["thing", "least", "most"] az) (bp:Has P w K mg base g "places_behind" 1 ["n", "some"] aX):Has P w K mg base g "sets_of" 4 ["n", "k"] eB:=by
 obtain⟨f,fd,hm,F⟩:=D
 obtain⟨dy,cT,aT,aQ,aR,aS,_⟩:=aG
 obtain⟨jo,jf,du,dw,df,dk,_⟩:=bp
 refine⟨f,fd,yG (eT F cw (fun cdv A outer s H E hr=>?_)),F.kp,F.binds (fun _ _ _ _ _ _ us hl=>lE hl fun _ _=>rfl),hm,bc F⟩
 exact(@ax _ _ _ _ _ _ _ (fA (aL (aT.mono (by decide)) hr rfl aS aQ aR (@af _ _ _ _ _ _ _ (ae 0) (@af _ _ _ _ _ _ _ aq (@af _ _ _ _ _ _ _ (fL rfl aU) aj rfl) rfl) rfl) (ai (ai (ai aK)))))
   (@ax _ _ _ _ _ _ _ (fA (aL (aT.mono (by decide)) hr rfl aS aQ aR (@af _ _ _ _ _ _ _ (ae 1) (@af _ _ _ _ _ _ _ aq (@af _ _ _ _ _ _ _ (fL rfl aU) aj rfl) rfl) rfl) (ai (ai (ai aK)))))
   (@ax _ _ _ _ _ _ _ (@cu _ _ _ _ _ _ 2 _ _ cw.nd rfl (by first | exact Or.inl rfl | exact Or.inr rfl) (@eN _ _ _ _ _ _ _ _ (@af _ _ _ _ _ _ _ (@cP _ _ _ _ _ _ _ aj) aj rfl)) rfl (.inl rfl))
   (@ax _ _ _ _ _ _ _ (iE PassesOwn.never rfl (eX rfl T.range (@af _ _ _ _ _ _ _ (ae 1) aj rfl)) (bf (i:=3) cw.nd rfl (by first | exact Or.inl rfl | exact Or.inr rfl)) dD (@aJ _ _ _ _ _ (l6 (osc:=aw (aP 18)) [0] ["some", "place", "n"] rfl rfl rfl rfl (by decide +kernel) ⟨by decide +kernel,by decide +kernel,rfl,by decide +kernel,by decide +kernel⟩ (@cE _ _ _ _ _ _ (ae 2)) (fun cl C ao ar fp=>⟨Or.inl rfl,rfl⟩) (fun cl C ao ar fp=>⟨Or.inl rfl,rfl⟩)
    (fun cl C ao ar fp=>(@cE _ _ _ _ _ _ (aL (du.mono (by decide)) hr rfl dk dw df (@af _ _ _ _ _ _ _ (ae 2) (@af _ _ _ _ _ _ _ (ae 0) aj rfl) rfl) (ai (ai aK))))) (fun cl C ao ar fp=>(@aA _ _ _ _ _ _ _ _ _ _ _ bP bK (ae 0) (@cP _ _ _ _ _ _ _ (@af _ _ _ _ _ _ _ (ae 1) aj rfl)))) (i:=2) cw.nd rfl)))
   (@aJ _ _ _ _ _ (@bD _ _ _ _ _ _ (ae 2)))))))
theorem dh:aY ["_law_x", "_law_n", "_law_top", "_law_bottom", "_law_turn"] ["_law_x", "_law_n"] (aw (aP 28)):=⟨rfl,rfl,rfl,by decide +kernel,rfl,by decide +kernel,by decide +kernel⟩
theorem kH (D:aV K mg "_law_picked" (aP 28)) (T:Blt mg):Has P w K mg base g "_law_picked" 1 ["_law_x", "_law_n"] bh:=by
 obtain⟨f,fd,hm,F⟩:=D
 refine⟨f,fd,eT F dh (fun cdv A outer s H E hr=>?_),F.kp,F.binds (fun _ _ _ _ _ _ us hl=>lE hl fun _ _=>rfl),hm,bc F⟩
 exact(@ax _ _ _ _ _ _ _ (DP (i:=2) (j:=3) rfl dh.nd rfl rfl (@cP _ _ _ _ _ _ _ (@af _ _ _ _ _ _ _ aq (@af _ _ _ _ _ _ _ aq aj rfl) rfl)))
   (@ax _ _ _ _ _ _ _ (iE PassesOwn.never rfl (eX rfl T.range (@af _ _ _ _ _ _ _ (ae 1) aj rfl)) (bf (i:=4) dh.nd rfl (by first | exact Or.inl rfl | exact Or.inr rfl)) dD (@aJ _ _ _ _ _ (sN (i:=2) (j:=3) rfl dh.nd rfl rfl (by decide) (@af _ _ _ _ _ _ _ (@aA _ _ _ _ _ _ _ _ _ _ _ gr gj (ae 2) (aW (nR rfl) uT rfl T.max PyProof.Rows.boot_max (@af _ _ _ _ _ _ _ aq (@af _ _ _ _ _ _ _ (@aA _ _ _ _ _ _ _ _ _ _ _ bW bV (ae 0) (ae 4)) aj rfl) rfl))) (@af _ _ _ _ _ _ _ (@aA _ _ _ _ _ _ _ _ _ _ _ gr gj (ae 3) (@aA _ _ _ _ _ _ _ _ _ _ _ bP bK (ae 4) aq)) aj rfl) rfl))))
   (@aJ _ _ _ _ _ (@bD _ _ _ _ _ _ (@aA _ _ _ _ _ _ _ _ _ _ _ lT sP (ae 2) (ae 3))))))
theorem bu:aY ["_law_n", "_law_some", "_law_ends", "_law_ways", "_law_at", "_law_end", "_law_total", "_law_ahead", "_law_sign", "_law_here"] ["_law_n", "_law_some"] (aw (aP 29)):=⟨rfl,rfl,rfl,by decide +kernel,rfl,by decide +kernel,by decide +kernel⟩
theorem mK (D:aV K mg "_law_just" (aP 29)) (T:Blt mg) (dQ:Has P w K mg base g "_law_picked" 1 ["_law_x", "_law_n"] bh):Has P w K mg base g "_law_just" 2 ["_law_n", "_law_some"] bS:=by
 obtain⟨f,fd,hm,F⟩:=D
 obtain⟨we,vT,gz,gy,gE,gB,_⟩:=dQ
 refine⟨f,fd,jO (eT F bu (fun cdv A outer s H E hr=>?_)),F.kp,F.binds (fun _ _ _ _ _ _ us hl=>lE hl fun _ _=>rfl),hm,bc F⟩
 exact(@ax _ _ _ _ _ _ _ (@cu _ _ _ _ _ _ 2 _ _ bu.nd rfl (by first | exact Or.inl rfl | exact Or.inr rfl) (@aA _ _ _ _ _ _ _ _ _ _ _ bP bK (aW (ba.frz vV) zo rfl T.sorted PyProof.Rows.boot_sorted (@af _ _ _ _ _ _ _ (ae 1) aj rfl)) (@eN _ _ _ _ _ _ _ _ (@af _ _ _ _ _ _ _ (@aA _ _ _ _ _ _ _ _ _ _ _ bW bV (ae 0) aq) aj rfl))) rfl (.inl rfl))
   (@ax _ _ _ _ _ _ _ (@cu _ _ _ _ _ _ 3 _ _ bu.nd rfl (by first | exact Or.inl rfl | exact Or.inr rfl) (@eN _ _ _ _ _ _ _ _ aj) rfl (.inl rfl))
   (@ax _ _ _ _ _ _ _ (iE PassesOwn.never rfl (zJ rfl T.enumerate (ae 2)) (sH rfl (fM (bf (i:=4) bu.nd rfl (by first | exact Or.inl rfl | exact Or.inr rfl)) (fM (bf (i:=5) bu.nd rfl (by first | exact Or.inl rfl | exact Or.inr rfl)) o7))) xH (@ax _ _ _ _ _ _ _ (@cu _ _ _ _ _ _ 6 _ _ bu.nd rfl (by first | exact Or.inl rfl | exact Or.inr rfl) (@aA _ _ _ _ _ _ _ _ _ _ _ gr gj (@aA _ _ _ _ _ _ _ _ _ _ _ bW bV aq (@aA _ _ _ _ _ _ _ _ _ _ _ gr gj aq (@aA _ _ _ _ _ _ _ _ _ _ _ i8 je (ae 4) aq))) (aL (gz.mono (by decide)) hr rfl gB gy gE (@af _ _ _ _ _ _ _ (ae 0) (@af _ _ _ _ _ _ _ (@aA _ _ _ _ _ _ _ _ _ _ _ bP bK (ae 5) aq) aj rfl) rfl) (ai (ai aK)))) rfl (.inl rfl))
   (@ax _ _ _ _ _ _ _ (iE PassesOwn.never rfl (eX rfl T.range (@af _ _ _ _ _ _ _ (ae 4) aj rfl)) (bf (i:=7) bu.nd rfl (by first | exact Or.inl rfl | exact Or.inr rfl)) dD (@ax _ _ _ _ _ _ _ (sN (i:=8) (j:=9) rfl bu.nd rfl rfl (by decide) (@af _ _ _ _ _ _ _ (@aA _ _ _ _ _ _ _ _ _ _ _ bW bV aq (@aA _ _ _ _ _ _ _ _ _ _ _ gr gj aq (@aA _ _ _ _ _ _ _ _ _ _ _ i8 je (@aA _ _ _ _ _ _ _ _ _ _ _ bW bV (@aA _ _ _ _ _ _ _ _ _ _ _ bW bV (ae 4) (ae 7)) aq) aq))) (@af _ _ _ _ _ _ _ (@cJ _ _ _ _ _ _ _ _ _ _ bI cO (ae 2) (ae 7) (fun _ _=>rfl)) aj rfl) rfl))
   (@aJ _ _ _ _ _ (@cu _ _ _ _ _ _ 6 _ _ bu.nd rfl (by first | exact Or.inl rfl | exact Or.inr rfl) (@aA _ _ _ _ _ _ _ _ _ _ _ bP bK (ae 6) (@aA _ _ _ _ _ _ _ _ _ _ _ gr gj (@aA _ _ _ _ _ _ _ _ _ _ _ gr gj (ae 8) (@cJ _ _ _ _ _ _ _ _ _ _ bI cO (ae 3) (ae 7) (fun _ _=>rfl))) (aL (gz.mono (by decide)) hr rfl gB gy gE (@af _ _ _ _ _ _ _ (@aA _ _ _ _ _ _ _ _ _ _ _ bW bV (@aA _ _ _ _ _ _ _ _ _ _ _ bW bV (ae 0) (ae 9)) aq) (@af _ _ _ _ _ _ _ (@aA _ _ _ _ _ _ _ _ _ _ _ bW bV (ae 5) (ae 9)) aj rfl) rfl) (ai (ai aK))))) rfl (.inl rfl)))))
   (@aJ _ _ _ _ _ (fA (sL PySem.F.slot_list_append PySem.F.type_list_append eh kg (ae 3) (@af _ _ _ _ _ _ _ (ae 6) aj rfl)))))))
   (@aJ _ _ _ _ _ (@bD _ _ _ _ _ _ (@cJ _ _ _ _ _ _ _ _ _ _ bI cO (ae 3) (@kl _ _ _ _ _ _ _ _ _ iA gY aq) (fun _ _=>rfl)))))))
theorem qU (D:aV K mg "sets_of" (aP 18)) (T:Blt mg) {bL:Tok} (aU:mg "MOST_NUMBERS" = some (.int 12 bL)) (aG:Has P w K mg base g "number_needed" 3 ["thing", "least", "most"] az) (bp:Has P w K mg base g "places_behind" 1 ["n", "some"] aX):Has P w K mg base g "sets_of" 4 ["n", "k"] eE:=by
 obtain⟨f,fd,hm,F⟩:=D
 obtain⟨dy,cT,aT,aQ,aR,aS,_⟩:=aG
 obtain⟨jo,jf,du,dw,df,dk,_⟩:=bp
 refine⟨f,fd,jO (eT F cw (fun cdv A outer s H E hr=>?_)),F.kp,F.binds (fun _ _ _ _ _ _ us hl=>lE hl fun _ _=>rfl),hm,bc F⟩
 exact(@ax _ _ _ _ _ _ _ (fA (aL (aT.mono (by decide)) hr rfl aS aQ aR (@af _ _ _ _ _ _ _ (ae 0) (@af _ _ _ _ _ _ _ aq (@af _ _ _ _ _ _ _ (fL rfl aU) aj rfl) rfl) rfl) (ai (ai (ai aK)))))
   (@ax _ _ _ _ _ _ _ (fA (aL (aT.mono (by decide)) hr rfl aS aQ aR (@af _ _ _ _ _ _ _ (ae 1) (@af _ _ _ _ _ _ _ aq (@af _ _ _ _ _ _ _ (fL rfl aU) aj rfl) rfl) rfl) (ai (ai (ai aK)))))
   (@ax _ _ _ _ _ _ _ (@cu _ _ _ _ _ _ 2 _ _ cw.nd rfl (by first | exact Or.inl rfl | exact Or.inr rfl) (@eN _ _ _ _ _ _ _ _ (@af _ _ _ _ _ _ _ (@cP _ _ _ _ _ _ _ aj) aj rfl)) rfl (.inl rfl))
   (@ax _ _ _ _ _ _ _ (iE PassesOwn.never rfl (eX rfl T.range (@af _ _ _ _ _ _ _ (ae 1) aj rfl)) (bf (i:=3) cw.nd rfl (by first | exact Or.inl rfl | exact Or.inr rfl)) dD (@aJ _ _ _ _ _ (l6 (osc:=aw (aP 18)) [0] ["some", "place", "n"] rfl rfl rfl rfl (by decide +kernel) ⟨by decide +kernel,by decide +kernel,rfl,by decide +kernel,by decide +kernel⟩ (@cE _ _ _ _ _ _ (ae 2)) (fun cl C ao ar fp=>⟨Or.inl rfl,rfl⟩) (fun cl C ao ar fp=>⟨Or.inl rfl,rfl⟩)
    (fun cl C ao ar fp=>(@cE _ _ _ _ _ _ (aL (du.mono (by decide)) hr rfl dk dw df (@af _ _ _ _ _ _ _ (ae 2) (@af _ _ _ _ _ _ _ (ae 0) aj rfl) rfl) (ai (ai aK))))) (fun cl C ao ar fp=>(@aA _ _ _ _ _ _ _ _ _ _ _ bP bK (ae 0) (@cP _ _ _ _ _ _ _ (@af _ _ _ _ _ _ _ (ae 1) aj rfl)))) (i:=2) cw.nd rfl)))
   (@aJ _ _ _ _ _ (@bD _ _ _ _ _ _ (ae 2)))))))
theorem eY:aY ["n", "thing", "least", "place"] ["n", "thing"] (aw (aP 15)):=⟨rfl,rfl,rfl,by decide +kernel,rfl,by decide +kernel,by decide +kernel⟩
theorem o8 (D:aV K mg "set_good" (aP 15)) (T:Blt mg) {bL:Tok} (aU:mg "MOST_NUMBERS" = some (.int 12 bL)) (aG:Has P w K mg base g "number_needed" 3 ["thing", "least", "most"] az) (bZ:Has P w K mg base g "is_within" 2 ["thing", "least", "most"] bT):Has P w K mg base g "set_good" 4 ["n", "thing"] gf:=by
 obtain⟨f,fd,hm,F⟩:=D
 obtain⟨dy,cT,aT,aQ,aR,aS,_⟩:=aG
 obtain⟨ng,lO,fB,fw,fv,fo,_⟩:=bZ
 refine⟨f,fd,eT F eY (fun cdv A outer s H E hr=>?_),F.kp,F.binds (fun _ _ _ _ _ _ us hl=>lE hl fun _ _=>rfl),hm,bc F⟩
 exact(@ax _ _ _ _ _ _ _ (fA (aL (aT.mono (by decide)) hr rfl aS aQ aR (@af _ _ _ _ _ _ _ (ae 0) (@af _ _ _ _ _ _ _ aq (@af _ _ _ _ _ _ _ (fL rfl aU) aj rfl) rfl) rfl) (ai (ai (ai aK)))))
   (@ax _ _ _ _ _ _ _ (@k6 _ _ _ _ _ _ _ _ _ _ (@pL _ _ _ _ _ _ (@fE _ _ _ _ _ _ jW (sG (ae 1) rfl T.isinstance rfl T.tuple PyProof.Rows.boot_tuple) (fun _=>rfl))) (@aJ _ _ _ _ _ (@bD _ _ _ _ _ _ nQ)) dg)
   (@ax _ _ _ _ _ _ _ (@cu _ _ _ _ _ _ 2 _ _ eY.nd rfl (by first | exact Or.inl rfl | exact Or.inr rfl) aq rfl (.inl rfl))
   (@ax _ _ _ _ _ _ _ (iE PassesOwn.never rfl (@cE _ _ _ _ _ _ (ae 1)) (bf (i:=3) eY.nd rfl (by first | exact Or.inl rfl | exact Or.inr rfl)) dD (@ax _ _ _ _ _ _ _ (@k6 _ _ _ _ _ _ _ _ _ _ (@pL _ _ _ _ _ _ (@fE _ _ _ _ _ _ jW (aL (fB.mono (by decide)) hr rfl fo fw fv (@af _ _ _ _ _ _ _ (ae 3) (@af _ _ _ _ _ _ _ (ae 2) (@af _ _ _ _ _ _ _ (@aA _ _ _ _ _ _ _ _ _ _ _ bW bV (ae 0) aq) aj rfl) rfl) rfl) (ai (ai (ai aK)))) (fun _=>rfl))) (@aJ _ _ _ _ _ (@bD _ _ _ _ _ _ nQ)) dg)
   (@aJ _ _ _ _ _ (@cu _ _ _ _ _ _ 2 _ _ eY.nd rfl (by first | exact Or.inl rfl | exact Or.inr rfl) (@aA _ _ _ _ _ _ _ _ _ _ _ bP bK (ae 3) aq) rfl (.inl rfl)))))
   (@aJ _ _ _ _ _ (@bD _ _ _ _ _ _ nQ))))))
theorem nN:aY ["n", "thing"] ["n", "thing"] (aw (aP 16)):=⟨rfl,rfl,rfl,by decide +kernel,rfl,by decide +kernel,by decide +kernel⟩
theorem l0 (D:aV K mg "set_needed" (aP 16)) (T:Blt mg) (gi:Has P w K mg base g "set_good" 4 ["n", "thing"] gf):Has P w K mg base g "set_needed" 5 ["n", "thing"] dq:=by
 obtain⟨f,fd,hm,F⟩:=D
 obtain⟨AL,yS,oJ,o9,pG,p6,_⟩:=gi
 refine⟨f,fd,eT F nN (fun cdv A outer s H E hr=>?_),F.kp,F.binds (fun _ _ _ _ _ _ us hl=>lE hl fun _ _=>rfl),hm,bc F⟩
 exact(@aJ _ _ _ _ _ (@k6 _ _ _ _ _ _ _ _ _ _ (@pL _ _ _ _ _ _ (@fE _ _ _ _ _ _ jW (aL (oJ.mono (by decide)) hr rfl p6 o9 pG (@af _ _ _ _ _ _ _ (ae 0) (@af _ _ _ _ _ _ _ (ae 1) aj rfl) rfl) (ai (ai aK))) (fun _=>rfl))) (@aJ _ _ _ _ _ (PS.imp rT fun E σ H ⟨α,env,h,s,w⟩=>w.elim)) dg))
theorem q_:aY ["numbers"] ["numbers"] (aw (aP 9)):=⟨rfl,rfl,rfl,by decide +kernel,rfl,by decide +kernel,by decide +kernel⟩
theorem oR (D:aV K mg "falls_in" (aP 9)) (T:Blt mg):Has P w K mg base g "falls_in" 1 ["numbers"] i6:=by
 obtain⟨f,fd,hm,F⟩:=D
 refine⟨f,fd,eT F q_ (fun cdv A outer s H E hr=>?_),F.kp,F.binds (fun _ _ _ _ _ _ us hl=>qZ hl fun _=>rfl),hm,bc F⟩
 exact(@aJ _ _ _ _ _ (@bD _ _ _ _ _ _ (fG dE jx rfl T.tuple PyProof.Rows.boot_tuple (@af _ _ _ _ _ _ _ (gS (osc:=aw (aP 9)) [0] ["place", "numbers"] rfl rfl rfl rfl (by decide +kernel) ⟨by decide +kernel,by decide +kernel,rfl,by decide +kernel,rfl,by decide +kernel⟩ (eX rfl T.range (@af _ _ _ _ _ _ _ (@aA _ _ _ _ _ _ _ _ _ _ _ bW bV (aW fP fO rfl T.len PySem.boot_len (@af _ _ _ _ _ _ _ (ae 0) aj rfl)) aq) aj rfl))
    (fun cl C ao ar fp=>(jm (@cH _ _ _ _ _ _ _ _ _ _ _ wH yf (@cJ _ _ _ _ _ _ _ _ _ _ bI cO (ae 1) (ae 0) (fun _ _=>rfl)) (@cJ _ _ _ _ _ _ _ _ _ _ bI cO (ae 1) (@aA _ _ _ _ _ _ _ _ _ _ _ bP bK (ae 0) aq) (fun _ _=>rfl)) (cq _)))) (fun cl C ao ar fp=>(ae 0))) aj rfl))))
theorem nK:aY ["begun"] ["begun"] (aw (aP 11)):=⟨rfl,rfl,rfl,by decide +kernel,rfl,by decide +kernel,by decide +kernel⟩
theorem l8 (D:aV K mg "lower_left" (aP 11)) (T:Blt mg):Has P w K mg base g "lower_left" 1 ["begun"] fV:=by
 obtain⟨f,fd,hm,F⟩:=D
 refine⟨f,fd,eT F nK (fun cdv A outer s H E hr=>?_),F.kp,F.binds (fun _ _ _ _ _ _ us hl=>qZ hl fun _=>rfl),hm,bc F⟩
 exact(@ax _ _ _ _ _ _ _ (@k6 _ _ _ _ _ _ _ _ _ _ (@cH _ _ _ _ _ _ _ _ _ _ _ (jg hr.units) mC (aW fP fO rfl T.len PySem.boot_len (@af _ _ _ _ _ _ _ (ae 0) aj rfl)) aq (cq _)) (@aJ _ _ _ _ _ (@bD _ _ _ _ _ _ aq)) dg)
   (@aJ _ _ _ _ _ (@bD _ _ _ _ _ _ (@aA _ _ _ _ _ _ _ _ _ _ _ bW bV (@cJ _ _ _ _ _ _ _ _ _ _ bI cO (ae 0) (@kl _ _ _ _ _ _ _ _ _ iA gY aq) (fun _ _=>rfl)) (aW fP fO rfl T.len PySem.boot_len (@af _ _ _ _ _ _ _ (gS (osc:=aw (aP 11)) [0] ["number", "begun"] rfl rfl rfl rfl (by decide +kernel) ⟨by decide +kernel,by decide +kernel,rfl,by decide +kernel,rfl,by decide +kernel⟩ (@cE _ _ _ _ _ _ (ae 0))
    (fun cl C ao ar fp=>(jm (@cH _ _ _ _ _ _ _ _ _ _ _ xJ yE (ae 0) (@cJ _ _ _ _ _ _ _ _ _ _ bI cO (ae 1) (@kl _ _ _ _ _ _ _ _ _ iA gY aq) (fun _ _=>rfl)) (cq _)))) (fun cl C ao ar fp=>(ae 0))) aj rfl))))))
theorem nh:aY ["rests", "some", "begun"] ["rests", "some", "begun"] (aw (aP 22)):=⟨rfl,rfl,rfl,by decide +kernel,rfl,by decide +kernel,by decide +kernel⟩
theorem lr (D:aV K mg "just_count" (aP 22)) (T:Blt mg) (fT:Has P w K mg base g "falls_in" 1 ["numbers"] i6) (eF:Has P w K mg base g "lower_left" 1 ["begun"] fV):Has P w K mg base g "just_count" 2 ["rests", "some", "begun"] d_:=by
 obtain⟨f,fd,hm,F⟩:=D
 obtain⟨zE,yR,o6,pk,oH,qe,_⟩:=fT
 obtain⟨yi,wd,lX,mw,mI,lH,_⟩:=eF
 refine⟨f,fd,eT F nh (fun cdv A outer s H E hr=>?_),F.kp,F.binds (fun _ _ _ _ _ _ us hl=>B7 hl fun _ _ _=>rfl),hm,bc F⟩
 exact(@ax _ _ _ _ _ _ _ (@k6 _ _ _ _ _ _ _ _ _ _ (@cH _ _ _ _ _ _ _ _ _ _ _ (jg hr.units) mC (aW fP fO rfl T.len PySem.boot_len (@af _ _ _ _ _ _ _ (ae 2) aj rfl)) aq (cq _)) (@aJ _ _ _ _ _ (@bD _ _ _ _ _ _ (aW (oq rfl) xD rfl T.sum PyProof.Rows.boot_sum (@af _ _ _ _ _ _ _ (@cJ _ _ _ _ _ _ _ _ _ _ bI cO (ae 0) (@kl _ _ _ _ _ _ _ _ _ iA gY aq) (fun _ _=>rfl)) aj rfl)))) dg)
   (@ax _ _ _ _ _ _ _ (@k6 _ _ _ _ _ _ _ _ _ _ (@cH _ _ _ _ _ _ _ _ _ _ _ (tH hr.units) xU (aL (o6.mono (by decide)) hr rfl qe pk oH (@af _ _ _ _ _ _ _ (ae 2) aj rfl) (ai aK)) (fG dE jx rfl T.tuple PyProof.Rows.boot_tuple (@af _ _ _ _ _ _ _ (gS (osc:=aw (aP 22)) [2] ["place", "begun"] rfl rfl rfl rfl (by decide +kernel) ⟨by decide +kernel,by decide +kernel,rfl,by decide +kernel,rfl,by decide +kernel⟩ (@cE _ _ _ _ _ _ (ae 1))
    (fun cl C ao ar fp=>(jm (@cH _ _ _ _ _ _ _ _ _ _ _ xJ yE (ae 0) (@aA _ _ _ _ _ _ _ _ _ _ _ bW bV (aW fP fO rfl T.len PySem.boot_len (@af _ _ _ _ _ _ _ (ae 1) aj rfl)) aq) (cq _)))) (fun cl C ao ar fp=>(ae 0))) aj rfl)) (cq _)) (@aJ _ _ _ _ _ (@bD _ _ _ _ _ _ aq)) dg)
   (@aJ _ _ _ _ _ (@bD _ _ _ _ _ _ (@cJ _ _ _ _ _ _ _ _ _ _ bI cO (@cJ _ _ _ _ _ _ _ _ _ _ bI cO (ae 0) (@aA _ _ _ _ _ _ _ _ _ _ _ bW bV (aW fP fO rfl T.len PySem.boot_len (@af _ _ _ _ _ _ _ (ae 0) aj rfl)) (aW fP fO rfl T.len PySem.boot_len (@af _ _ _ _ _ _ _ (ae 2) aj rfl))) (fun _ _=>rfl)) (aL (lX.mono (by decide)) hr rfl lH mw mI (@af _ _ _ _ _ _ _ (ae 2) aj rfl) (ai aK)) (fun _ _=>rfl))))))
theorem di:aY ["n", "some", "rests", "left", "fewer", "falls"] ["n", "some"] (aw (aP 21)):=⟨rfl,rfl,rfl,by decide +kernel,rfl,by decide +kernel,by decide +kernel⟩
theorem mP (D:aV K mg "set_rests" (aP 21)) (T:Blt mg):Has P w K mg base g "set_rests" 1 ["n", "some"] dF:=by
 obtain⟨f,fd,hm,F⟩:=D
 refine⟨f,fd,jO (eT F di (fun cdv A outer s H E hr=>?_)),F.kp,F.binds (fun _ _ _ _ _ _ us hl=>lE hl fun _ _=>rfl),hm,bc F⟩
 exact(@ax _ _ _ _ _ _ _ (@cu _ _ _ _ _ _ 2 _ _ di.nd rfl (by first | exact Or.inl rfl | exact Or.inr rfl) (@eN _ _ _ _ _ _ _ _ (@af _ _ _ _ _ _ _ (@eN _ _ _ _ _ _ _ _ (@af _ _ _ _ _ _ _ aq aj rfl)) aj rfl)) rfl (.inl rfl))
   (@ax _ _ _ _ _ _ _ (iE PassesOwn.never rfl (zS rfl T.range (@af _ _ _ _ _ _ _ aq (@af _ _ _ _ _ _ _ (ae 0) aj rfl) rfl)) (bf (i:=3) di.nd rfl (by first | exact Or.inl rfl | exact Or.inr rfl)) dD (@ax _ _ _ _ _ _ _ (@cu _ _ _ _ _ _ 4 _ _ di.nd rfl (by first | exact Or.inl rfl | exact Or.inr rfl) (@cJ _ _ _ _ _ _ _ _ _ _ bI cO (ae 2) (@kl _ _ _ _ _ _ _ _ _ iA gY aq) (fun _ _=>rfl)) rfl (.inl rfl))
   (@ax _ _ _ _ _ _ _ (@cu _ _ _ _ _ _ 5 _ _ di.nd rfl (by first | exact Or.inl rfl | exact Or.inr rfl) (@yB _ _ _ _ _ _ _ _ _ _ _ uZ DX (@aA _ _ _ _ _ _ _ _ _ _ _ bW bV (@aA _ _ _ _ _ _ _ _ _ _ _ bW bV (ae 0) aq) (ae 3)) (ae 1) (by rfl)) rfl (.inl rfl))
   (@aJ _ _ _ _ _ (fA (sL PySem.F.slot_list_append PySem.F.type_list_append eh kg (ae 2) (@af _ _ _ _ _ _ _ (gS (osc:=aw (aP 21)) [5,4] ["lower", "falls", "fewer"] rfl rfl rfl rfl (by decide +kernel) ⟨by decide +kernel,by decide +kernel,rfl,by decide +kernel,rfl,by decide +kernel⟩ (eX rfl T.range (@af _ _ _ _ _ _ _ (@aA _ _ _ _ _ _ _ _ _ _ _ bP bK (ae 3) aq) aj rfl))
    (fun cl C ao ar fp=>pf) (fun cl C ao ar fp=>(aW (oq rfl) xD rfl T.sum PyProof.Rows.boot_sum (@af _ _ _ _ _ _ _ (@rR _ _ _ _ _ _ _ _ _ _ (@fE _ _ _ _ _ _ jW (ae 1) (fun _=>rfl)) (jE (ae 2) oQ (@jz _ _ _ _ _ (ae 0))) (jE (ae 2) (@jz _ _ _ _ _ (ae 0)) oQ)) aj rfl)))) aj rfl)))))))
   (@aJ _ _ _ _ _ (@bD _ _ _ _ _ _ (ae 2)))))
theorem pQ:aY ["n", "some"] ["n", "some"] (aw (aP 17)):=⟨rfl,rfl,rfl,by decide +kernel,rfl,by decide +kernel,by decide +kernel⟩
theorem mT (D:aV K mg "just_many" (aP 17)) (T:Blt mg) (eP:Has P w K mg base g "set_needed" 5 ["n", "thing"] dq) (eH:Has P w K mg base g "just_count" 2 ["rests", "some", "begun"] d_) (e_:Has P w K mg base g "set_rests" 1 ["n", "some"] dF):Has P w K mg base g "just_many" 6 ["n", "some"] cg:=by
 obtain⟨f,fd,hm,F⟩:=D
 obtain⟨wV,wa,lG,lK,lP,lh,_⟩:=eP
 obtain⟨yp,wc,k_,mz,mD,k7,_⟩:=eH
 obtain⟨yQ,yx,ni,nG,nD,nJ,_⟩:=e_
 refine⟨f,fd,eT F pQ (fun cdv A outer s H E hr=>?_),F.kp,F.binds (fun _ _ _ _ _ _ us hl=>lE hl fun _ _=>rfl),hm,bc F⟩
 exact(@ax _ _ _ _ _ _ _ (fA (aL (lG.mono (by decide)) hr rfl lh lK lP (@af _ _ _ _ _ _ _ (ae 0) (@af _ _ _ _ _ _ _ (ae 1) aj rfl) rfl) (ai (ai aK))))
   (@aJ _ _ _ _ _ (@bD _ _ _ _ _ _ (aL (k_.mono (by decide)) hr rfl k7 mz mD (@af _ _ _ _ _ _ _ (aL (ni.mono (by decide)) hr rfl nJ nG nD (@af _ _ _ _ _ _ _ (ae 0) (@af _ _ _ _ _ _ _ (ae 1) aj rfl) rfl) (ai (ai aK))) (@af _ _ _ _ _ _ _ (ae 1) (@af _ _ _ _ _ _ _ (@cP _ _ _ _ _ _ _ aj) aj rfl) rfl) rfl) (ai (ai (ai aK)))))))
theorem ed:aY ["n", "sets", "counts", "many"] ["n"] (aw (aP 20)):=⟨rfl,rfl,rfl,by decide +kernel,rfl,by decide +kernel,by decide +kernel⟩
theorem nv (D:aV K mg "most_sets" (aP 20)) (T:Blt mg) {gA:Tok} (dR:mg "MOST_COMPARED" = some (.int 10 gA)) (aG:Has P w K mg base g "number_needed" 3 ["thing", "least", "most"] az) (iq:Has P w K mg base g "sets_of" 4 ["n", "k"] eE) (fm:Has P w K mg base g "just_many" 6 ["n", "some"] cg):Has P w K mg base g "most_sets" 7 ["n"] ck:=by
 obtain⟨f,fd,hm,F⟩:=D
 obtain⟨dy,cT,aT,aQ,aR,aS,_⟩:=aG
 obtain⟨Bi,Ab,rk,rV,se,rE,_⟩:=iq
 obtain⟨yL,xO,nB,mN,m9,nA,_⟩:=fm
 refine⟨f,fd,jO (eT F ed (fun cdv A outer s H E hr=>?_)),F.kp,F.binds (fun _ _ _ _ _ _ us hl=>qZ hl fun _=>rfl),hm,bc F⟩
 exact(@ax _ _ _ _ _ _ _ (fA (aL (aT.mono (by decide)) hr rfl aS aQ aR (@af _ _ _ _ _ _ _ (ae 0) (@af _ _ _ _ _ _ _ aq (@af _ _ _ _ _ _ _ (fL rfl dR) aj rfl) rfl) rfl) (ai (ai (ai aK)))))
   (@ax _ _ _ _ _ _ _ (@cu _ _ _ _ _ _ 1 _ _ ed.nd rfl (by first | exact Or.inl rfl | exact Or.inr rfl) (aW (ba.or (ba.frz sx) (ba.frz (tJ hr.units))) xn rfl T.sorted PyProof.Rows.boot_sorted (@af _ _ _ _ _ _ _ (vc (osc:=aw (aP 20)) [0] ["k", "some", "n"] rfl rfl rfl (by decide +kernel) ⟨by decide +kernel,by decide +kernel,rfl,by decide +kernel,by decide +kernel⟩ (eX rfl T.range (@af _ _ _ _ _ _ _ (ae 0) aj rfl)) (fun cl C ao ar fp=>⟨Or.inl rfl,rfl⟩) (fun cl C ao ar fp=>⟨Or.inl rfl,rfl⟩)
    (fun cl C ao ar fp=>(@cE _ _ _ _ _ _ (aL (rk.mono (by decide)) hr rfl rE rV se (@af _ _ _ _ _ _ _ (ae 2) (@af _ _ _ _ _ _ _ (ae 0) aj rfl) rfl) (ai (ai aK))))) (fun cl C ao ar fp=>(ae 1))) aj rfl)) rfl (.inl rfl))
   (@ax _ _ _ _ _ _ _ (jh (osc:=aw (aP 20)) [0] ["some", "n"] rfl rfl rfl rfl (by decide +kernel) ⟨by decide +kernel,by decide +kernel,rfl,by decide +kernel,rfl,by decide +kernel⟩ (@cE _ _ _ _ _ _ (ae 1))
    (fun cl C ao ar fp=>pf) (fun cl C ao ar fp=>(aL (nB.mono (by decide)) hr rfl nA mN m9 (@af _ _ _ _ _ _ _ (ae 1) (@af _ _ _ _ _ _ _ (ae 0) aj rfl) rfl) (ai (ai aK)))) (i:=2) ed.nd rfl)
   (@ax _ _ _ _ _ _ _ (@cu _ _ _ _ _ _ 3 _ _ ed.nd rfl (by first | exact Or.inl rfl | exact Or.inr rfl) (aW (oD rfl) ux rfl T.max PyProof.Rows.boot_max (@af _ _ _ _ _ _ _ (ae 2) aj rfl)) rfl (.inl rfl))
   (@aJ _ _ _ _ _ (@bD _ _ _ _ _ _ (@cP _ _ _ _ _ _ _ (@af _ _ _ _ _ _ _ (ae 3) (@af _ _ _ _ _ _ _ (fG dE jx rfl T.tuple PyProof.Rows.boot_tuple (@af _ _ _ _ _ _ _ (lZ (osc:=aw (aP 20)) [3] ["some", "count", "many"] rfl rfl rfl rfl (by decide +kernel) ⟨by decide +kernel,by decide +kernel,rfl,by decide +kernel,by decide +kernel⟩ (Ad rfl T.zip (@af _ _ _ _ _ _ _ (ae 1) (@af _ _ _ _ _ _ _ (ae 2) aj rfl) rfl)) (fun cl C ao ar fp=>⟨Or.inl rfl,rfl⟩) (fun cl C ao ar fp=>⟨Or.inl rfl,rfl⟩)
    (fun cl C ao ar fp=>(jm (@cH _ _ _ _ _ _ _ _ _ _ _ (jg hr.units) mC (ae 1) (ae 2) (cq _)))) (fun cl C ao ar fp=>(ae 0))) aj rfl)) aj rfl) rfl))))))))
theorem dN:aY ["_law_script", "_law_cell", "_law_pen", "_law_way", "_law_n", "_law_few", "_law_k", "_law_size", "_law_due", "_law_turn", "_law_found", "_law_counts", "_law_most"] ["_law_script"] (aw (aP 31)):=⟨rfl,rfl,rfl,by decide +kernel,rfl,by decide +kernel,by decide +kernel⟩
theorem zu (D:aV K mg "law" (aP 31)) (T:Blt mg) (dB:Has P w K mg base g "_law_cell_at" 1 ["_law_script", "_law_k"] bw) (dJ:Has P w K mg base g "_law_pen_of" 1 ["_law_cell"] bF) (fh:Has P w K mg base g "_law_draw" 2 ["_law_pen", "_law_many"] aE) (fe:Has P w K mg base g "_law_sets" 1 ["_law_n"] bE) (iu:Has P w K mg base g "sets_of" 4 ["n", "k"] eB) (fc:Has P w K mg base g "_law_just" 2 ["_law_n", "_law_some"] bS) (fC:Has P w K mg base g "most_sets" 7 ["n"] ck):Has P w K mg base g "law" 8 ["_law_script"] lF:=by
 obtain⟨f,fd,hm,F⟩:=D
 obtain⟨vv,t7,j8,jS,jU,jZ,_⟩:=dB
 obtain⟨wb,vg,kM,kL,kC,kI,_⟩:=dJ
 obtain⟨yU,xt,cN,cL,cI,cM,_⟩:=fh
 obtain⟨yN,wW,iS,iW,iQ,iV,_⟩:=fe
 obtain⟨Bf,zf,rQ,qB,qX,rh,_⟩:=iu
 obtain⟨yM,wt,mO,mX,nI,nr,_⟩:=fc
 obtain⟨yP,xo,mZ,nu,nj,ny,_⟩:=fC
 refine⟨f,fd,jO (eT F dN (fun cdv A outer s H E hr=>?_)),F.kp,F.binds (fun _ _ _ _ _ _ us hl=>qZ hl fun _=>rfl),hm,bc F⟩
 exact(@ax _ _ _ _ _ _ _ (iE PassesOwn.never rfl (@cE _ _ _ _ _ _ (@aA _ _ _ _ _ _ _ _ _ _ _ bP bK (@eN _ _ _ _ _ _ _ _ (@af _ _ _ _ _ _ _ (aL (j8.mono (by decide)) hr rfl jZ jS jU (@af _ _ _ _ _ _ _ (ae 0) (@af _ _ _ _ _ _ _ aq aj rfl) rfl) (ai (ai aK))) aj rfl)) (jE (ae 0) (@jz _ _ _ _ _ aq) (@jz _ _ _ _ _ aq)))) (bf (i:=1) dN.nd rfl (by first | exact Or.inl rfl | exact Or.inr rfl)) dD (@ax _ _ _ _ _ _ _ (@cu _ _ _ _ _ _ 2 _ _ dN.nd rfl (by first | exact Or.inl rfl | exact Or.inr rfl) (aL (kM.mono (by decide)) hr rfl kI kL kC (@af _ _ _ _ _ _ _ (ae 1) aj rfl) (ai aK)) rfl (.inl rfl))
   (@ax _ _ _ _ _ _ _ (sN (i:=3) (j:=4) rfl dN.nd rfl rfl (by decide) (@af _ _ _ _ _ _ _ (aL (cN.mono (by decide)) hr rfl cM cL cI (@af _ _ _ _ _ _ _ (ae 2) (@af _ _ _ _ _ _ _ aq aj rfl) rfl) (ai (ai aK))) (@af _ _ _ _ _ _ _ (@aA _ _ _ _ _ _ _ _ _ _ _ bP bK aq (aL (cN.mono (by decide)) hr rfl cM cL cI (@af _ _ _ _ _ _ _ (ae 2) (@af _ _ _ _ _ _ _ aq aj rfl) rfl) (ai (ai aK)))) aj rfl) rfl))
   (@ax _ _ _ _ _ _ _ (@cu _ _ _ _ _ _ 5 _ _ dN.nd rfl (by first | exact Or.inl rfl | exact Or.inr rfl) (@aA _ _ _ _ _ _ _ _ _ _ _ bP bK aq (aL (cN.mono (by decide)) hr rfl cM cL cI (@af _ _ _ _ _ _ _ (ae 2) (@af _ _ _ _ _ _ _ aq aj rfl) rfl) (ai (ai aK)))) rfl (.inl rfl))
   (@ax _ _ _ _ _ _ _ (@cu _ _ _ _ _ _ 6 _ _ dN.nd rfl (by first | exact Or.inl rfl | exact Or.inr rfl) (@cJ _ _ _ _ _ _ _ _ _ _ bI cO (@eN _ _ _ _ _ _ _ _ (@af _ _ _ _ _ _ _ (aL (cN.mono (by decide)) hr rfl cM cL cI (@af _ _ _ _ _ _ _ (ae 2) (@af _ _ _ _ _ _ _ aq aj rfl) rfl) (ai (ai aK))) (@af _ _ _ _ _ _ _ (aL (cN.mono (by decide)) hr rfl cM cL cI (@af _ _ _ _ _ _ _ (ae 2) (@af _ _ _ _ _ _ _ (ae 4) aj rfl) rfl) (ai (ai aK))) aj rfl) rfl)) (ae 3) (fun _ _=>rfl)) rfl (.inl rfl))
   (@ax _ _ _ _ _ _ _ (@iE _ _ _ _ _ _ _ _ _ _ _ PassesOwn.never rfl (@cE _ _ _ _ _ _ (@cP _ _ _ _ _ _ _ (@af _ _ _ _ _ _ _ (ae 6) (@af _ _ _ _ _ _ _ aq (@af _ _ _ _ _ _ _ aq aj rfl) rfl) rfl))) (bf (i:=7) dN.nd rfl (by first | exact Or.inl rfl | exact Or.inr rfl)) dD (@ax _ _ _ _ _ _ _ (jh (osc:=aw (aP 31)) [7] ["_law_some", "_law_size"] rfl rfl rfl rfl (by decide +kernel) ⟨by decide +kernel,by decide +kernel,rfl,by decide +kernel,rfl,by decide +kernel⟩ (@cE _ _ _ _ _ _ (aL (iS.mono (by decide)) hr rfl iV iW iQ (@af _ _ _ _ _ _ _ (ae 4) aj rfl) (ai aK)))
    (fun cl C ao ar fp=>(jm (@cH _ _ _ _ _ _ _ _ _ _ _ (jg hr.units) mC (aW fP fO rfl T.len PySem.boot_len (@af _ _ _ _ _ _ _ (ae 0) aj rfl)) (ae 1) (cq _)))) (fun cl C ao ar fp=>(ae 0)) (i:=8) dN.nd rfl)
   (@aJ _ _ _ _ _ (iE PassesOwn.never rfl (eX rfl T.range (@af _ _ _ _ _ _ _ aq aj rfl)) (bf (i:=9) dN.nd rfl (by first | exact Or.inl rfl | exact Or.inr rfl)) dD (@ax _ _ _ _ _ _ _ (@cu _ _ _ _ _ _ 10 _ _ dN.nd rfl (by first | exact Or.inl rfl | exact Or.inr rfl) (aL (rQ.mono (by decide)) hr rfl rh qB qX (@af _ _ _ _ _ _ _ (ae 4) (@af _ _ _ _ _ _ _ (ae 7) aj rfl) rfl) (ai (ai aK))) rfl (.inl rfl))
   (@ax _ _ _ _ _ _ _ (@k6 _ _ _ _ _ _ _ _ _ _ (@cH _ _ _ _ _ _ _ _ _ _ _ (tH hr.units) xU (aW (kQ hr.gd hr.units) kY rfl T.repr PyProof.Rows.boot_repr (@af _ _ _ _ _ _ _ (ae 10) aj rfl)) (aW (kQ hr.gd hr.units) kY rfl T.repr PyProof.Rows.boot_repr (@af _ _ _ _ _ _ _ (ae 8) aj rfl)) (cq _)) (@aJ _ _ _ _ _ (@bD _ _ _ _ _ _ nQ)) dg)
   (@aJ _ _ _ _ _ (fA (sL PySem.F.slot_list_append PySem.F.type_list_append eh kg (ae 10) (@af _ _ _ _ _ _ _ (@cP _ _ _ _ _ _ _ aj) aj rfl))))))))) (by intro _;rfl))
   (@ax _ _ _ _ _ _ _ (jh (osc:=aw (aP 31)) [5] ["_law_some", "_law_few"] rfl rfl rfl rfl (by decide +kernel) ⟨by decide +kernel,by decide +kernel,rfl,by decide +kernel,rfl,by decide +kernel⟩ (@cE _ _ _ _ _ _ (aL (iS.mono (by decide)) hr rfl iV iW iQ (@af _ _ _ _ _ _ _ (ae 5) aj rfl) (ai aK)))
    (fun cl C ao ar fp=>pf) (fun cl C ao ar fp=>(@cP _ _ _ _ _ _ _ (@af _ _ _ _ _ _ _ (aL (mO.mono (by decide)) hr rfl nr mX nI (@af _ _ _ _ _ _ _ (ae 1) (@af _ _ _ _ _ _ _ (ae 0) aj rfl) rfl) (ai (ai aK))) (@af _ _ _ _ _ _ _ (ae 0) aj rfl) rfl))) (i:=11) dN.nd rfl)
   (@ax _ _ _ _ _ _ _ (@cu _ _ _ _ _ _ 12 _ _ dN.nd rfl (by first | exact Or.inl rfl | exact Or.inr rfl) (aW (oD rfl) ux rfl T.max PyProof.Rows.boot_max (@af _ _ _ _ _ _ _ (lZ (osc:=aw (aP 31)) [] ["_law_many", "_law_some"] rfl rfl rfl rfl (by decide +kernel) ⟨by decide +kernel,by decide +kernel,rfl,by decide +kernel,by decide +kernel⟩ (@cE _ _ _ _ _ _ (ae 11)) (fun cl C ao ar fp=>⟨Or.inl rfl,rfl⟩) (fun cl C ao ar fp=>⟨Or.inl rfl,rfl⟩)
    (fun cl C ao ar fp=>pf) (fun cl C ao ar fp=>(ae 0))) aj rfl)) rfl (.inl rfl))
   (@aJ _ _ _ _ _ (@k6 _ _ _ _ _ _ _ _ _ _ (@cH _ _ _ _ _ _ _ _ _ _ _ (tH hr.units) xU (aW (kQ hr.gd hr.units) kY rfl T.repr PyProof.Rows.boot_repr (@af _ _ _ _ _ _ _ (aL (mZ.mono (by decide)) hr rfl ny nu nj (@af _ _ _ _ _ _ _ (ae 5) aj rfl) (ai aK)) aj rfl)) (aW (kQ hr.gd hr.units) kY rfl T.repr PyProof.Rows.boot_repr (@af _ _ _ _ _ _ _ (@cP _ _ _ _ _ _ _ (@af _ _ _ _ _ _ _ (ae 12) (@af _ _ _ _ _ _ _ (fG dE jx rfl T.tuple PyProof.Rows.boot_tuple (@af _ _ _ _ _ _ _ (lZ (osc:=aw (aP 31)) [12] ["_law_many", "_law_some", "_law_most"] rfl rfl rfl rfl (by decide +kernel) ⟨by decide +kernel,by decide +kernel,rfl,by decide +kernel,by decide +kernel⟩ (@cE _ _ _ _ _ _ (ae 11)) (fun cl C ao ar fp=>⟨Or.inl rfl,rfl⟩) (fun cl C ao ar fp=>⟨Or.inl rfl,rfl⟩)
    (fun cl C ao ar fp=>(jm (@cH _ _ _ _ _ _ _ _ _ _ _ (jg hr.units) mC (ae 0) (ae 2) (cq _)))) (fun cl C ao ar fp=>(ae 1))) aj rfl)) aj rfl) rfl)) aj rfl)) (cq _)) (@aJ _ _ _ _ _ (@bD _ _ _ _ _ _ nQ)) dg))))))))))
   (@aJ _ _ _ _ _ (@bD _ _ _ _ _ _ nQ)))
end
structure Text (K:PySem.W.Frag):Prop where
 eM:cy K "_law_cell_at" (aP 24)
 ft:cy K "_law_pen_of" (aP 26)
 iD:cy K "_law_next" (aP 25)
 iw:cy K "_law_draw" (aP 27)
 ik:cy K "_law_sets" (aP 30)
 jl:cy K "is_whole" (aP 5)
 gQ:cy K "is_within" (aP 6)
 dP:cy K "number_needed" (aP 7)
 dS:cy K "places_behind" (aP 19)
 jV:cy K "sets_of" (aP 18)
 fq:cy K "_law_picked" (aP 28)
 gL:cy K "_law_just" (aP 29)
 iY:cy K "set_good" (aP 15)
 gk:cy K "set_needed" (aP 16)
 jb:cy K "falls_in" (aP 9)
 gg:cy K "lower_left" (aP 11)
 fS:cy K "just_count" (aP 22)
 gT:cy K "set_rests" (aP 21)
 ip:cy K "just_many" (aP 17)
 gZ:cy K "most_sets" (aP 20)
 xM:cy K "law" (aP 31)
 sk:PySem.W.nsIn K mainGlobals "bool" = some none
 il:PySem.W.nsIn K mainGlobals "enumerate" = some none
 xW:PySem.W.nsIn K mainGlobals "int" = some none
 gc:PySem.W.nsIn K mainGlobals "isinstance" = some none
 wY:PySem.W.nsIn K mainGlobals "len" = some none
 tS:PySem.W.nsIn K mainGlobals "list" = some none
 x8:PySem.W.nsIn K mainGlobals "max" = some none
 p_:PySem.W.nsIn K mainGlobals "range" = some none
 tN:PySem.W.nsIn K mainGlobals "repr" = some none
 lD:PySem.W.nsIn K mainGlobals "sorted" = some none
 wk:PySem.W.nsIn K mainGlobals "sum" = some none
 pJ:PySem.W.nsIn K mainGlobals "tuple" = some none
 xE:PySem.W.nsIn K mainGlobals "zip" = some none
 bX:∃t,PySem.W.nsIn K mainGlobals "MOST_COMPARED" = some (some (Value.int 10 t))
 cv:∃t,PySem.W.nsIn K mainGlobals "MOST_NUMBERS" = some (some (Value.int 12 t))
theorem all_mk {P:Program} {w:World} {K:PySem.W.Frag} {h:Heap} {mg:Str->Option Value} {fa:Addr} (X:K.In h) (G:h.Ns mainGlobals mg) (hfa:mg "law" = some (.ref fa)) (t:Text K) :
  ∃fd:FuncData,(∀(s:Shared) (v:Value),BindsTo s fd ⟨[v],[]⟩ [("_law_script", v)])/\∀base:Heap,K.In base->base.Ns mainGlobals mg->eL P w K mg base CX0 8 fa fd ["_law_script"] (spM K (gOf mg) 1 lF):=by
 have T:Blt mg:=⟨PySem.W.mg_none_of X G t.sk,PySem.W.mg_none_of X G t.il,PySem.W.mg_none_of X G t.xW,PySem.W.mg_none_of X G t.gc,PySem.W.mg_none_of X G t.wY,PySem.W.mg_none_of X G t.tS,PySem.W.mg_none_of X G t.x8,PySem.W.mg_none_of X G t.p_,PySem.W.mg_none_of X G t.tN,PySem.W.mg_none_of X G t.lD,PySem.W.mg_none_of X G t.wk,PySem.W.mg_none_of X G t.pJ,PySem.W.mg_none_of X G t.xE⟩
 obtain⟨gA,bX⟩:=t.bX
 have dR:=PySem.W.mg_of X G bX
 obtain⟨bL,cv⟩:=t.cv
 have aU:=PySem.W.mg_of X G cv
 have l_:=aV.of X G t.eM
 have mV:=aV.of X G t.ft
 have qR:=aV.of X G t.iD
 have qV:=aV.of X G t.iw
 have qy:=aV.of X G t.ik
 have sT:=aV.of X G t.jl
 have qr:=aV.of X G t.gQ
 have kK:=aV.of X G t.dP
 have kJ:=aV.of X G t.dS
 have oF:=aV.of X G t.jV
 have mS:=aV.of X G t.fq
 have rS:=aV.of X G t.gL
 have tD:=aV.of X G t.iY
 have pe:=aV.of X G t.gk
 have tQ:=aV.of X G t.jb
 have pF:=aV.of X G t.gg
 have qh:=aV.of X G t.fS
 have qS:=aV.of X G t.gT
 have qK:=aV.of X G t.ip
 have rY:=aV.of X G t.gZ
 have Ei:=aV.of X G t.xM
 obtain⟨f,fd,hm,F⟩:=Ei
 have e:=hfa.symm.trans hm
 cases e
 refine⟨fd,?_,fun base _ _=>?_⟩
 ·obtain⟨oc,od,kV,doc,pm,an,cdv,ct,osl,rfl,lk,hcd⟩:=F.ex
  exact fun s v=>.of_eq rfl
 ·have dB:=jQ (P:=P) (w:=w) (base:=base) (g:=gOf mg) l_ T
  have dJ:=kD (P:=P) (w:=w) (base:=base) (g:=gOf mg) mV T
  have fj:=nM (P:=P) (w:=w) (base:=base) (g:=gOf mg) qR T
  have fh:=mJ (P:=P) (w:=w) (base:=base) (g:=gOf mg) qV T fj
  have fe:=mY (P:=P) (w:=w) (base:=base) (g:=gOf mg) qy T
  have fY:=qb (P:=P) (w:=w) (base:=base) (g:=gOf mg) sT T
  have bZ:=nq (P:=P) (w:=w) (base:=base) (g:=gOf mg) qr T fY
  have aG:=jN (P:=P) (w:=w) (base:=base) (g:=gOf mg) kK T bZ
  have bp:=jq (P:=P) (w:=w) (base:=base) (g:=gOf mg) kJ T
  have iu:=sj (P:=P) (w:=w) (base:=base) (g:=gOf mg) oF T aU aG bp
  have dQ:=kH (P:=P) (w:=w) (base:=base) (g:=gOf mg) mS T
  have fc:=mK (P:=P) (w:=w) (base:=base) (g:=gOf mg) rS T dQ
  have iq:=qU (P:=P) (w:=w) (base:=base) (g:=gOf mg) oF T aU aG bp
  have gi:=o8 (P:=P) (w:=w) (base:=base) (g:=gOf mg) tD T aU aG bZ
  have eP:=l0 (P:=P) (w:=w) (base:=base) (g:=gOf mg) pe T gi
  have fT:=oR (P:=P) (w:=w) (base:=base) (g:=gOf mg) tQ T
  have eF:=l8 (P:=P) (w:=w) (base:=base) (g:=gOf mg) pF T
  have eH:=lr (P:=P) (w:=w) (base:=base) (g:=gOf mg) qh T fT eF
  have e_:=mP (P:=P) (w:=w) (base:=base) (g:=gOf mg) qS T
  have fm:=mT (P:=P) (w:=w) (base:=base) (g:=gOf mg) qK T eP eH e_
  have fC:=nv (P:=P) (w:=w) (base:=base) (g:=gOf mg) rY T dR aG iq fm
  have zZ:=zu (P:=P) (w:=w) (base:=base) (g:=gOf mg) ⟨_,_,hm,F⟩ T dB dJ fh fe iu fc fC
  exact Cw F hm zZ
theorem walk {l:PySem.W.OpenLaw} {q:Program} {loose:List Str} {XP:(Str->Option Value)->Heap->Prop} {YP:World->Heap->Prop} {d:DefRec} {K:Params->PySem.W.Frag} (hn:l.most=some 63) (hdf:d.params.defaults=[])
  (hY:∀(w:World) (h:Heap),YP w h->(K w.params).In h)
  (ok:∀ns:List Int,ns.length<=63->∃h,lF [.scr (ns.map D.int)] []=.ok (.bl true) h)
  (F:∀(w:World) (mg:Str->Option Value) (fa:Addr) (h:Heap),(K w.params).In h->h.Ns mainGlobals mg->mg d.name=some (.ref fa) →
   ∃fd:FuncData,(∀(s:Shared) (u:Value),BindsTo s fd ⟨[u],[]⟩ [("_law_script", u)])/\∀base:Heap,(K w.params).In base->base.Ns mainGlobals mg->eL l.prog w (K w.params) mg base CX0 8 fa fd ["_law_script"] (spM (K w.params) (gOf mg) 1 lF)) :
  PySem.W.WalkO q loose XP YP l.row.toRowW d [] (fun f vs=>PySem.call f vs):=
 Cz (k:=8) hn hdf ⟨rfl,by decide,by decide,rfl⟩ hY ok F
theorem bB {i:Int} (h1:-(10 ^ 30)<=i) (h2:i<=10 ^ 30):sml i=true:=s_ (Nat.le_trans (show i.natAbs<=10 ^ 30 by omega) (by decide +kernel))
theorem yd {h:Hh} {n:Nat} {ds:List D} (e:ay h n=some ds):n<h.length:=by
 unfold ay at e
 by_cases hl:n<h.length
 ·exact hl
 ·rw[List.getElem?_eq_none (by omega)] at e;cases e
theorem uH {h:Hh} {n:Nat} {ds es:List D} (e:ay h n=some ds):ay (h.set n (.lst es)) n=some es:=by
 unfold ay;rw[List.getElem?_set_self (yd e)]
theorem AF {h t:Hh} {n:Nat} {ds:List D} (e:ay h n=some ds):ay (h++t) n=some ds:=by
 have:=yd e
 unfold ay at e ⊢;rw[List.getElem?_append_left this];exact e
structure Pen where
 a:Int
 b:Int
 s:Int
noncomputable abbrev h8 (p:Pen):List D:=[.int p.a,.int p.b,.int p.s]
noncomputable def nxt (x:Int):Int:=((x+7919) % 2147483647*((x+7919) % 2147483647)+48271*((x+7919) % 2147483647)+12345) % 2147483629
noncomputable def dA (p:Pen) (m:Int):Int:=if p.b=1/\0<p.a then p.a % m else nxt (nxt p.s+7) / 64 % m
noncomputable def eI (p:Pen) (m:Int):Pen:=if p.b=1/\0<p.a then ⟨p.a / m,p.b,p.s⟩ else ⟨p.a,p.b,nxt (nxt p.s+7)⟩
theorem uG (p:Pen) {m:Int} (h:0<m):0<=dA p m:=by unfold dA;split<;>exact Int.emod_nonneg _ (by omega)
theorem rj (p:Pen) {m:Int} (h:0<m):dA p m<m:=by unfold dA;split<;>exact Int.emod_lt_of_pos _ h
@[simp] theorem Ey {x:Int} {h:Hh}:cY [.int x] h=.ok (.int (nxt x)) h:=by
 have h1:0<=(x+7919) % 2147483647:=Int.emod_nonneg _ (by decide)
 have h2:(x+7919) % 2147483647<2147483647:=Int.emod_lt_of_pos _ (by decide)
 have s1:sml ((x+7919) % 2147483647)=true:=bB (by omega) (by omega)
 have s2:sml 48271=true:=by decide +kernel
 simp[cY,cD,s1,s2,nxt]
theorem Cy {p:Pen} {m:Int} {h:Hh} {n:Nat} (e:ay h n=some (h8 p)) (hm:0<m) (hm2:m<=10 ^ 20):aE [.ref n,.int m] h=.ok (.int (dA p m)) (h.set n (.lst (h8 (eI p m)))):=by
 have s1:sml m=true:=bB (by omega) (by omega)
 have s2:sml 64=true:=by decide +kernel
 have i2:∀(x y z:Int) (h:Hh),ixK [D.int x,.int y,.int z] 2 h=.ok (.int z) h:=fun _ _ _ _=>rfl
 have n0:ixN (h8 p).length 0=some 0:=rfl
 have n2:ixN (h8 p).length 2=some 2:=rfl
 by_cases c:p.b=1
 ·by_cases c2:0<p.a
  ·simp[aE,cD,oh e,c,c2,hm,s1,p8 e n0,dA,eI]
  ·simp[aE,cD,oh e,c,c2,i2,p8 e n2,oh (uH e),s1,s2,hm,dA,eI]
 ·simp[aE,cD,oh e,c,i2,p8 e n2,oh (uH e),s1,s2,hm,dA,eI]
@[simp] theorem fX {p:Pen} {m:Int} {h t:Hh} (hm:0<m/\m<=10 ^ 20):aE [.ref h.length,.int m] (h++.lst (h8 p)::t)=.ok (.int (dA p m)) (h++.lst (h8 (eI p m))::t):=by
 rw[Cy dv hm.1 hm.2,pS]
noncomputable def uh (c:Int):Pen:=⟨max c (0 - c),if max c (0 - c) ≥ 10 ^ 18 then 1 else 0,max c (0 - c) % 1000003⟩
@[simp] theorem Gh {c:Int} {h:Hh}:bF [.int c] h=.ok (.ref h.length) (h++[.lst (h8 (uh c))]):=by
 have s1:sml 10=true:=by decide +kernel
 simp[bF,cD,s1,uh]
@[simp] theorem E8 {ns:List Int} {h:Hh}:bw [.scr (ns.map D.int),.int 0] h=.ok (.int (ns.headD 0)) h:=by
 cases ns with
 | nil=>simp[bw,cD]
 | cons c r=>simp[bw,cD]
@[simp] theorem Es {i:Int} {h:Hh}:eO [.int i] h=.ok (.bl true) h:=by simp[eO,cD]
@[simp] theorem Dm {i a b:Int} {h:Hh}:bT [.int i,.int a,.int b] h=.ok (.bl (decide (a<=i/\i<=b))) h:=by
 by_cases z:a<=i<;>simp[bT,cD,z]
@[simp] theorem g_ {i a b:Int} {h:Hh} (hi:a<=i/\i<=b):az [.int i,.int a,.int b] h=.ok .non h:=by
 simp[az,cD,hi]
noncomputable def jH {X:Type} (xs:List X) (lo hi:Option Int):List X:=(xs.drop (HT.sIx xs.length 0 lo)).take (HT.sIx xs.length xs.length hi - HT.sIx xs.length 0 lo)
theorem ju {X:Type} (f:X->D) (xs:List X) (lo hi:Option Int):cutD (xs.map f) lo hi=(jH xs lo hi).map f:=by
 unfold cutD jH
 rw[List.length_map,List.map_take,List.map_drop]
theorem zg {X:Type} (xs:List X) (k:Nat):jH xs none (some (k:Int))=xs.take k:=by
 unfold jH
 rw[HT.rF,HT.uA]
 simp
theorem oA {X:Type} (xs:List X) (k:Nat):jH xs (some (k:Int)) none=xs.drop k:=by
 unfold jH
 rw[HT.rF,HT.uA]
 rcases Nat.le_total k xs.length with h | h
 ·rw[Nat.min_eq_left h,List.take_of_length_le (by simp)]
 ·rw[Nat.min_eq_right h];simp[List.drop_eq_nil_of_le h]
theorem mF {k:Nat} {h:Hh}:∀{ns:List Int},(∀x∈ns,sml x=true)->cW (toPy (k+1) h) (ns.map D.int)=some (ns.map PyData.int)
 | [],_=>rfl
 | n::r,hs=>by
  have h1:sml n=true:=hs n List.mem_cons_self
  rw[List.map_cons,cW,mF (ns:=r) fun x hx=>hs x (List.mem_cons_of_mem _ hx)]
  simp[toPy,h1]
theorem nY:∀ns:List Int,PyData.bulkAll (ns.map PyData.int)=ns.length
 | []=>rfl
 | n::r=>by rw[List.map_cons,PyData.bulkAll,nY r,PyData.bulk,List.length_cons];omega
theorem t4 (i:Int):∀ns:List Int,((ns.map D.int).any fun d=>eqF d (.int i))=ns.any (· == i)
 | []=>rfl
 | n::r=>by rw[List.map_cons,List.any_cons,List.any_cons,t4 i r];rfl
theorem v_ (ns:List Int):(ns.map D.int).all dX=true:=by simp[dX]
@[simp] theorem F0 {neg:Bool} {i:Int} {ns:List Int} {h:Hh}:dIn neg (.int i) (.tup (ns.map D.int)) h=.ok (.bl (if neg then !(ns.any (· == i)) else ns.any (· == i))) h:=by
 simp only[dIn,eW,dX,v_,and_self,if_true,t4]
theorem B8 {h:Hh} (w:Wf h) (p:Pen):Wf (h++[.lst (h8 p)]):=w.app rfl
theorem lL (p:Pen) {m:Nat} (h:0<m):∃k:Nat,dA p (m:Int)=(k:Int)/\k<m:=by
 have h0:=uG p (show(0:Int)<(m:Int) by omega)
 have h1:=rj p (show(0:Int)<(m:Int) by omega)
 exact⟨(dA p m).toNat,by omega,by omega⟩
theorem C8 (p:Pen) (m:Int) (h:0<m):∃k:Nat,dA p m=(k:Int)/\(k:Int)<m:=by
 have h0:=uG p h
 have h1:=rj p h
 exact⟨(dA p m).toNat,by omega,by omega⟩
theorem oj (p:Pen) {m:Nat} (h:0<m):∃k:Nat,1+dA p (m:Int)=(k:Int)/\1<=k/\k<=m:=by
 obtain⟨k,e,hk⟩:=lL p h
 exact⟨k+1,by omega,by omega,by omega⟩
theorem vZ (ns:List Int) (lo hi:Option Int):cutD (ns.map D.int) lo hi=(jH ns lo hi).map D.int:=ju _ _ _ _
theorem zW {X:Type} (xs:List X) (lo hi:Option Int):(jH xs lo hi).length<=xs.length:=by
 unfold jH;rw[List.length_take,List.length_drop];omega
noncomputable def ch:Nat->Nat->Nat
 | _,0=>1
 | 0,_+1=>0
 | n+1,k+1=>ch n k+ch n (k+1)
theorem As (n:Nat):ch n 0=1:=by cases n<;>rfl
theorem qH:∀{n k:Nat},n<k->ch n k=0
 | 0,k+1,_=>rfl
 | n+1,k+1,h=>by rw[ch,qH (by omega),qH (by omega)]
theorem kP:∀(n i:Nat),ch n (i+1)*(i+1)=ch n i*(n - i)
 | 0,0=>rfl
 | 0,i+1=>by simp[ch]
 | n+1,0=>by
  have:=kP n 0
  rw[As] at this
  show(ch n 0+ch n (0+1))*(0+1)=ch (n+1) 0*(n+1 - 0)
  rw[As,As]
  omega
 | n+1,i+1=>by
  by_cases h:i<=n
  ·have a:=kP n (i+1)
   have b:=kP n i
   rw[show ch (n+1) (i+1+1)=ch n (i+1)+ch n (i+1+1) from rfl,show ch (n+1) (i+1)=ch n i+ch n (i+1) from rfl]
   rw[Nat.add_mul,a,Nat.add_mul,show n+1 - (i+1)=n - i by omega,<- b]
   by_cases h2:i+1<=n
   ·rw[<- Nat.mul_add,<- Nat.mul_add]
    congr 1
    omega
   ·have:n=i:=by omega
    subst this
    rw[qH (show n<n+1 by omega)]
    simp
  ·rw[qH (show n+1<i+1 by omega),qH (show n+1<i+1+1 by omega)];simp
noncomputable def ff (x:Nat):Nat->Nat
 | 0=>1
 | t+1=>ff x t*(x - t)
noncomputable def fac:Nat->Nat
 | 0=>1
 | t+1=>fac t*(t+1)
theorem ue:∀t,0<fac t
 | 0=>by decide
 | t+1=>Nat.mul_pos (ue t) (by omega)
theorem A4 (x:Nat):∀t,ff x t=ch x t*fac t
 | 0=>by rw[As];rfl
 | t+1=>by
  have a:=kP x t
  rw[ff,A4 x t,fac,Nat.mul_right_comm,<- a,Nat.mul_assoc,Nat.mul_comm (t+1)]
theorem zA:∀t,t<=41->fac t<=10 ^ 60:=by decide +kernel
theorem A_ (x:Nat):∀t,ff x t<=(x+1) ^ t
 | 0=>by simp[ff]
 | t+1=>by rw[ff,Nat.pow_succ];exact Nat.mul_le_mul (A_ x t) (by omega)
theorem Cp {x t:Nat} (hx:x<=1000100) (ht:t<=41):sml (ff x t:Int)=true:=by
 refine s_ ?_
 rw[Int.natAbs_natCast]
 refine Nat.le_trans (A_ x t) (Nat.le_trans (Nat.pow_le_pow_left (show x+1<=10 ^ 7 by omega) t) (Nat.le_trans (Nat.pow_le_pow_right (by decide) ht) (by decide +kernel)))
theorem uO {t:Nat} (ht:t<=41):sml (fac t:Int)=true:=by
 refine s_ ?_
 rw[Int.natAbs_natCast]
 exact Nat.le_trans (zA t ht) (by decide +kernel)
theorem u4 {x n:Nat} {h:Hh} (hx:x<=1000100) (hn:n<=40):bh [.int x,.int n] h=.ok (.int (ch x n)) h:=by
 obtain⟨q,e⟩:=ug (tg:=gN 4) (body:=mR 2 3 (aa (au (fZ aD) (ag 2) (ah rM (aa (cC (.int 0)) (aa (au cn (ag 0) (ag 4)) ak)))) (aa (au (fZ aD) (ag 3) (au (bQ aD) (ag 4) (cC (.int 1)))) ak))) n
  (fun(s:Nat × Option D)=>[some (.int x),some (.int n),some (.int (ff x s.1)),some (.int (fac s.1)),s.2]) (fun _=>h) (fun _ i=>(i+1,some (.int (i:Nat)))) (fun i s=>s.1=i) (0,none) rfl (fun i s hi hs=>⟨rfl,.inl (by
   subst hs
   have s1:=Cp hx (show s.1<=41 by omega)
   have s0:=uO (show s.1<=41 by omega)
   have mx:max 0 ((x:Int) - s.1)=((x - s.1:Nat):Int):=by omega
   have s2:sml ((x - s.1:Nat):Int)=true:=bB (by omega) (by omega)
   have s3:sml ((s.1:Int)+1)=true:=bB (by omega) (by omega)
   simp[s1,s2,s3,s0,mx]
   simp[ff,fac])⟩)
 generalize List.foldl (fun(_:Nat × Option D) i=>(i+1,some (D.int (i:Nat)))) (0,none) (List.range n)=s9 at q e
 subst e
 have z1:s9.1<=1000000:=by omega
 have z2:=ue s9.1
 have z3:(0:Int)<(fac s9.1:Int):=by omega
 have z4:=uO (show s9.1<=41 by omega)
 have z5:(ff x s9.1:Int) / (fac s9.1:Int)=(ch x s9.1:Int):=by
  rw[A4,Int.natCast_mul,Int.mul_ediv_cancel _ (by omega)]
 simp only[ff,fac] at q
 simp[bh,cD,z1] at q ⊢
 simp[q,z2,z3,z4,z5]
theorem um {σ:Type} {tg:D->En->Hh->R En} {body:MS} (enc:Nat->D) (N:Nat) (E:σ->En) (G:σ->Hh) (I:Nat->σ->Prop)
  (st:∀i s,i<N->I i s->∃s',I (i+1) s'/\(tg (enc i) (E s) (G s)).bind body=.ok (.nx (E s')) (G s')) :
  ∀(k i:Nat) (s:σ),i+k=N->I i s->∃s',cS tg body ((List.range' i k).map enc) (E s) (G s)=.ok (.nx (E s')) (G s')/\I N s':=by
 intro k
 induction k with
 | zero=>
  intro i s e hi
  have:i=N:=by omega
  subst this
  exact⟨s,rfl,hi⟩
 | succ k ih=>
  intro i s e hi
  obtain⟨s1,a,b⟩:=st i s (by omega) hi
  obtain⟨s2,c,d⟩:=ih (i+1) s1 (by omega) a
  refine⟨s2,?_,d⟩
  rw[List.range'_succ,List.map_cons,cS,<- aZ,b]
  exact c
noncomputable def vX (a:Int):List Int->List Int
 | []=>[a]
 | x::r=>a::vX (a+x) r
noncomputable def tP:List Int->List Int
 | []=>[0]
 | x::r=>(x+(tP r).headD 0)::tP r
noncomputable def iL (n:Nat) (S:List Int):Nat->List Int
 | 0=>[1]
 | l+1=>if S.any (· == (n:Int) - 1 - ((l:Int)+1)) then vX 0 (iL n S l) else tP (iL n S l)
noncomputable def bR (n:Nat) (S:List Int):Int:=(iL n S (n - 1)).sum
noncomputable def chB (n k:Nat):Nat:=65537 ^ n / 65536 ^ k % 65536
theorem Bw:∀n,n<13->∀k,k<14->chB n k=ch n k:=by decide +kernel
noncomputable def sgP (k:Nat):Int:=if k % 2=0 then 1 else -1
noncomputable def zc (n:Nat) (ends w:List Int) (a:Nat):Int:=
 (List.range a).foldl (fun t j=>t+sgP (a - j - 1)*gI w j*(chB ((n:Int) - gI ends j - 1).toNat (gI ends a - gI ends j).toNat:Int)) (sgP a*(chB n (gI ends a+1).toNat:Int))
noncomputable def cZ (n:Nat) (ends:List Int):Nat->List Int
 | 0=>[]
 | a+1=>cZ n ends a++[zc n ends (cZ n ends a) a]
noncomputable def AH (n:Nat) (S:List Int):Int:=gI (cZ n (S++[(n:Int) - 1]) (S.length+1)) S.length
noncomputable def subs:Nat->List (List Int)
 | 0=>[[]]
 | m+1=>subs m++(subs m).map (·++[(m:Int)])
noncomputable def okW (n:Nat) (w:List Int) (S:List Int):Bool:=Nat.beq (bR n S).natAbs (gI w S.length).natAbs&&decide (bR n S=gI w S.length)&&w.all fun x=>Nat.ble x.natAbs 1000000000000000
noncomputable def okJ (n:Nat) (S:List Int):Bool:=okW n (cZ n (S++[(n:Int) - 1]) (S.length+1)) S
theorem BC:∀n,n<10->1<=n->(subs (n - 1)).all (okJ n)=true:=by decide +kernel
theorem ze:(subs 9).all (okJ 10)=true:=by decide +kernel
structure Sub (m:Nat) (S:List Int):Prop where
 up:S.Pairwise (· < ·)
 inn:∀x∈S,0<=x/\x<(m:Int)
theorem Sub.mem:∀{m:Nat} {S:List Int},Sub m S->S∈subs m
 | 0,[],_=>by simp[subs]
 | 0,x::r,s=>by have:=s.inn x (by simp);omega
 | m+1,S,s=>by
  by_cases z:((m:Nat):Int)∈S
  ·obtain⟨a,b,e⟩:=List.append_of_mem z
   have hb:b=[]:=by
    cases b with
    | nil=>rfl
    | cons y b=>
     have up:=s.up
     rw[e] at up
     have:=(List.pairwise_append.mp up).2.1
     have h1:=(List.pairwise_cons.mp this).1 y (by simp)
     have h2:=s.inn y (by rw[e];simp)
     omega
   subst hb
   have sa:Sub m a:=⟨by have:=s.up;rw[e] at this;exact(List.pairwise_append.mp this).1,fun x hx=>by
    have h1:=s.inn x (by rw[e];simp[hx])
    have up:=s.up
    rw[e] at up
    have h2:=(List.pairwise_append.mp up).2.2 x hx (m:Int) (by simp)
    omega⟩
   rw[subs,e]
   exact List.mem_append_right _ (List.mem_map.mpr ⟨a,sa.mem,rfl⟩)
  ·rw[subs]
   refine List.mem_append_left _ (Sub.mem (m:=m) ⟨s.up,fun x hx=>?_⟩)
   have h1:=s.inn x hx
   have:x≠(m:Int):=fun e=>z (e ▸ hx)
   omega
theorem Sub.len {m:Nat} {S:List Int} (s:Sub m S):S.length<=m:=by
 have key:∀(m:Nat),∀T∈subs m,T.length<=m:=by
  intro m
  induction m with
  | zero=>intro T h;simp[subs] at h;subst h;simp
  | succ m ih=>
   intro T h
   rcases List.mem_append.mp h with h | h
   ·have:=ih T h;omega
   ·obtain⟨U,hU,rfl⟩:=List.mem_map.mp h
    have:=ih U hU
    simp;omega
 exact key m S s.mem
theorem xY {n:Nat} {S:List Int} (h1:1<=n) (hn:n<=10) (s:Sub (n - 1) S):okJ n S=true:=by
 have m:=s.mem
 by_cases z:n<10
 ·exact List.all_eq_true.mp (BC n z h1) S m
 ·have:n=10:=by omega
  subst this
  exact List.all_eq_true.mp ze S m
theorem uc {n:Nat} {S:List Int} (h1:1<=n) (hn:n<=10) (s:Sub (n - 1) S):bR n S=AH n S/\∀x∈cZ n (S++[(n:Int) - 1]) (S.length+1),x.natAbs<=1000000000000000:=by
 have h:=xY h1 hn s
 unfold okJ okW at h
 simp only[Bool.and_eq_true,decide_eq_true_eq,List.all_eq_true] at h
 exact⟨h.1.2,fun x hx=>Nat.le_of_ble_eq_true (h.2 x hx)⟩
theorem pE:∀(f:List Int) (a:Int),vX a f=(List.range (f.length+1)).map fun k=>a+(f.take k).sum
 | [],a=>by simp[vX]
 | x::r,a=>by
  rw[vX,pE r (a+x),show(x::r).length+1=(r.length+1)+1 from rfl,List.range_succ_eq_map (n:=r.length+1)]
  simp[Function.comp_def,Int.add_assoc]
theorem pT:∀(f:List Int),tP f=(List.range (f.length+1)).map fun k=>(f.drop k).sum
 | []=>by simp[tP]
 | x::r=>by
  rw[tP,pT r,List.length_cons,List.range_succ_eq_map (n:=r.length+1),List.map_cons,List.map_map]
  simp[List.range_succ_eq_map]
theorem qC (n:Nat) (S:List Int):∀l,(iL n S l).length=l+1
 | 0=>rfl
 | l+1=>by
  have:=qC n S l
  unfold iL
  split
  ·rw[pE];simp[this]
  ·rw[pT];simp[this]
theorem xu {n l:Nat} {S:List Int} {h:Hh} {b:Bool} (hb:b=S.any (· == (n:Int) - 1 - ((l:Int)+1))):cU tt1 (ah oY (aa (cIf (a_ jI (ag 1)) (dM aD (ag 2) dC (eZ (ag 0))) (dM aD (ag 2) (eZ (ag 0)) dC)) ak)) (fun d=>[some d,some (.bl b),some (.frl ((iL n S l).map D.int))]) (bj 0 (l+2)) h=.ok ((iL n S (l+1)).map D.int) h:=by
 have hl:=qC n S l
 rw[vF (fun k=>D.int (if b then ((iL n S l).take k).sum else ((iL n S l).drop k).sum)) (fun k hk=>by
  cases b with
  | true=>simp[ju,zg,-List.map_take]
  | false=>simp[ju,oA,-List.map_drop])]
 congr 1
 rw[show iL n S (l+1)=if S.any (· == (n:Int) - 1 - ((l:Int)+1)) then vX 0 (iL n S l) else tP (iL n S l) from rfl,<- hb]
 cases b with
 | true=>rw[if_pos rfl,pE,hl];simp
 | false=>rw[if_neg (by simp),pT,hl];simp
noncomputable def gF (n:Nat) (S:List Int) (l:Nat):List D:=(List.range (l+1)).map fun j=>D.frl ((iL n S j).map D.int)
theorem ur (n:Nat) (S:List Int) (l:Nat):gF n S (l+1)=gF n S l++[.frl ((iL n S (l+1)).map D.int)]:=by simp[gF,List.range_succ]
theorem u6 (n:Nat) (S:List Int) (l:Nat):(gF n S l).length=l+1:=by simp[gF]
theorem sZ (n:Nat) (S:List Int) (l:Nat):(gF n S l).all (deep 7)=true:=by
 simp[gF,deep,List.all_eq_true]
theorem uQ {n l:Nat} {S:List Int} {h:Hh}:ixK (gF n S l) (-1) h=.ok (.frl ((iL n S l).map D.int)) h:=by
 cases l with
 | zero=>exact jn (xs:=[])
 | succ l=>rw[ur];exact jn
theorem zt {n:Nat} {S:List Int} {h:Hh} (h1:1<=n) (hn:n<=12) (w:Wf h):dF [.int n,.tup (S.map D.int)] h=.ok (.frl (gF n S (n - 1))) h:=by
 obtain⟨q,e⟩:=wD (tg:=gN 3) (body:=(aF (bb 4 (au dIx (ag 2) (cUn jk (cC (.int 1))))) (aF (bb 5 (au (dIn false) (au cn (au cn (ag 0) (cC (.int 1))) (ag 3)) (ag 1))) (cV (ij c_ (ag 2) (aa (bA aD (eg fJ (aa (au (bQ aD) (ag 3) (cC (.int 1))) ak)) [5,4] tt1 (ah oY (aa (cIf (a_ jI (ag 1)) (dM aD (ag 2) dC (eZ (ag 0))) (dM aD (ag 2) (eZ (ag 0)) dC)) ak))) ak)))))) 1 (n - 1)
  (fun(s:Nat × Option D × Option D × Option D)=>[some (.int n),some (.tup (S.map D.int)),some (.ref h.length),s.2.1,s.2.2.1,s.2.2.2]) (fun s=>h++[.lst (gF n S s.1)])
  (fun s i=>(i+1,some (.int (1+i)),some (.frl ((iL n S i).map D.int)),some (.bl (S.any (· == (n:Int) - 1 - ((i:Int)+1)))))) (fun i s=>s.1=i) (0,none,none,none) rfl (fun i s hi hs=>⟨rfl,.inl (by
   subst hs
   have z1:(1+(s.1:Int)+1).natAbs<=1000000:=by omega
   have z2:(1+(s.1:Int)+1).toNat=s.1+2:=by omega
   have z3:s.1+2<=1000000:=by omega
   have z4:s.1+1<1000000:=by omega
   have z5:(n:Int) - 1 - (1+(s.1:Int))=(n:Int) - 1 - ((s.1:Int)+1):=by omega
   have c:=xu (n:=n) (l:=s.1) (S:=S) (h:=h++[.lst (gF n S s.1)]) (b:=S.any (· == (n:Int) - 1 - ((s.1:Int)+1))) rfl
   simp[uQ,z1,z2,z3,z4,z5,c,u6,ur])⟩)
 generalize List.foldl _ _ _=s9 at q e
 obtain⟨i9,a9,b9,c9⟩:=s9
 simp only at e
 subst e
 have z1:n<=1000000:=by omega
 have z2:((n:Int) - 1).toNat=n - 1:=by omega
 have r0:gF n S 0=[.frl [.int 1]]:=rfl
 have ex:=u9 (t:=[]) w (sZ n S (n - 1))
 rw[r0] at q
 dsimp only at q
 simp[dF,cD,z1,z2,q,ex]
theorem rm {n:Nat} {S:List Int} {h:Hh} (h1:1<=n) (hn:n<=12) (s:Sub (n - 1) S):dq [.int n,.tup (S.map D.int)] h=.ok .non h:=by
 have z0:1<=(n:Int)/\(n:Int)<=12:=by omega
 obtain⟨q,e⟩:=qG (tg:=gN 3) (body:=(aF (iz (lQ (a_ jI (ah bT (aa (ag 3) (aa (ag 2) (aa (au cn (ag 0) (cC (.int 2))) ak)))))) (bO (cC (.bl false))) dI) (bb 2 (au (bQ aD) (ag 3) (cC (.int 1))))))
  (fun(s:Int × Option D)=>[some (.int n),some (.tup (S.map D.int)),some (.int s.1),s.2]) (fun _=>h) D.int (fun _ x=>(x+1,some (.int x))) (fun r s=>r.Pairwise (· < ·)/\(∀x∈r,s.1<=x)/\∀x∈r,x<=(n:Int) - 2) (fun s x r ⟨a,b,c⟩=>by
   have b1:=b x (by simp)
   have c1:=c x (by simp)
   refine⟨⟨(List.pairwise_cons.mp a).2,fun y hy=>?_,fun y hy=>c y (by simp[hy])⟩,.inl (by simp[b1,c1])⟩
   have:=(List.pairwise_cons.mp a).1 y hy
   show x+1<=y
   omega) S (0,none) ⟨s.up,fun x hx=>(s.inn x hx).1,fun x hx=>by have:=(s.inn x hx).2;omega⟩
 generalize List.foldl _ _ _=s9 at q e
 dsimp only at q
 simp[dq,gf,cD,z0,q]
theorem Cq {n:Nat} {S:List Int} {h:Hh} (h1:1<=n) (hn:n<=12) (s:Sub (n - 1) S) (w:Wf h):cg [.int n,.tup (S.map D.int)] h=.ok (.int (bR n S)) h:=by
 simp[cg,d_,cD,rm (h:=h) h1 hn s,zt (h:=h) h1 hn w,uQ,bR]
theorem lp {x y:Int} {h:Hh} (h0:0<=x) (hx:x<=12) (h1:0<=y) (hy:y<=13):bh [.int x,.int y] h=.ok (.int (chB x.toNat y.toNat)) h:=by
 have q:=u4 (x:=x.toNat) (n:=y.toNat) (h:=h) (by omega) (by omega)
 rw[Int.toNat_of_nonneg h0,Int.toNat_of_nonneg h1] at q
 rw[q,Bw x.toNat (by omega) y.toNat (by omega)]
theorem uF (x y:Nat):sml (chB x y:Int)=true:=by
 refine bB (by omega) ?_
 have:chB x y<65536:=Nat.mod_lt _ (by decide)
 omega
theorem A3 (a:Nat):(1:Int) - 2*((a:Int) % 2)=sgP a:=by unfold sgP;split<;>omega
theorem B4 {a j:Nat} (h:j<a):(1:Int) - 2*(((a:Int) - (j:Int) - 1) % 2)=sgP (a - j - 1):=by rw[<- A3];omega
theorem wF (a:Nat):sml (sgP a)=true:=by unfold sgP;split<;>exact bB (by decide) (by decide)
theorem g9 (n:Nat) (E:List Int):∀a,(cZ n E a).length=a
 | 0=>rfl
 | a+1=>by rw[cZ,List.length_append,g9 n E a];rfl
theorem qp (n:Nat) (E:List Int) {x:Int}:∀{a b:Nat},a<=b->x∈cZ n E a->x∈cZ n E b
 | a,0,h,m=>by have:a=0:=by omega
               subst this;exact m
 | a,b+1,h,m=>by
  by_cases z:a=b+1
  ·subst z;exact m
  ·rw[cZ];exact List.mem_append_left _ (qp n E (by omega) m)
noncomputable def FI (E w:List Int) (n a:Nat):Int->Nat->Int:=fun t j=>t+sgP (a - j - 1)*gI w j*(chB ((n:Int) - gI E j - 1).toNat (gI E a - gI E j).toNat:Int)
noncomputable def BJ:MS:=(aF (mR 8 9 (aa (au cn (cC (.int 1)) (au (fZ aD) (cC (.int 2)) (au kO (au cn (au cn (ag 4) (ag 7)) (cC (.int 1))) (cC (.int 2))))) (aa (au dIx (ag 2) (ag 7)) ak)))
  (bb 6 (au (bQ aD) (ag 6) (au (fZ aD) (au (fZ aD) (ag 8) (au dIx (ag 3) (ag 7))) (ah bh (aa (au cn (au cn (ag 0) (ag 9)) (cC (.int 1))) (aa (au cn (ag 5) (ag 9)) ak)))))))
structure Ends (n:Nat) (E:List Int):Prop where
 up:∀i j,i<j->j<E.length->gI E i<gI E j
 inn:∀i,i<E.length->0<=gI E i/\gI E i<n
theorem Dd {n a:Nat} {S E w:List Int} {t0:Int} {d7 d8 d9:Option D} {h:Hh} (hn:n<=12) (en:Ends n E) (ha:a<E.length) (hw:w.length=a) (hb:∀x∈w,x.natAbs<=1000000000000000) :
  ∃e7 e8 e9,cS (gN 7) BJ (bj 0 a) [some (.int n),some (.tup (S.map D.int)),some (.frl (E.map D.int)),some (.ref h.length),some (.int a),some (.int (gI E a)),some (.int t0),d7,d8,d9] (h++[.lst (w.map D.int)]) =
   .ok (.nx [some (.int n),some (.tup (S.map D.int)),some (.frl (E.map D.int)),some (.ref h.length),some (.int a),some (.int (gI E a)),some (.int ((List.range a).foldl (FI E w n a) t0)),e7,e8,e9]) (h++[.lst (w.map D.int)]):=by
 obtain⟨q,e⟩:=ug (tg:=gN 7) (body:=BJ) a
  (fun(s:Int × Option D × Option D × Option D)=>[some (.int n),some (.tup (S.map D.int)),some (.frl (E.map D.int)),some (.ref h.length),some (.int a),some (.int (gI E a)),some (.int s.1),s.2.1,s.2.2.1,s.2.2.2]) (fun _=>h++[.lst (w.map D.int)])
  (fun s j=>(FI E w n a s.1 j,some (.int j),some (.int (sgP (a - j - 1))),some (.int (gI E j)))) (fun i s=>s.1=(List.range i).foldl (FI E w n a) t0) (t0,d7,d8,d9) rfl (fun i s hi hs=>⟨by rw[List.range_succ,List.foldl_append,<- hs];rfl,.inl (by
   have c1:=en.inn i (by omega)
   have c2:=en.inn a ha
   have c3:=en.up i a hi ha
   have l1:=lp (x:=(n:Int) - gI E i - 1) (y:=gI E a - gI E i) (h:=h++[.lst (w.map D.int)]) (by omega) (by omega) (by omega) (by omega)
   have i1:=qd (h:=h++[.lst (w.map D.int)]) (ns:=E) (i:=(i:Int)) (j:=i) rfl (by omega)
   have i2:=qd (h:=h++[.lst (w.map D.int)]) (ns:=w) (i:=(i:Int)) (j:=i) rfl (by omega)
   have b1:=hb _ (sW (ns:=w) (j:=i) (by omega))
   have s1:=wF (a - i - 1)
   have s2:sml (gI w i)=true:=bB (by omega) (by omega)
   have s3:sml (sgP (a - i - 1)*gI w i)=true:=by
    unfold sgP;split
    ·rw[Int.one_mul];exact s2
    ·rw[Int.neg_one_mul];exact bB (by omega) (by omega)
   have s4:=uF ((n:Int) - gI E i - 1).toNat (gI E a - gI E i).toNat
   have fi:FI E w n a s.1 i=s.1+sgP (a - i - 1)*gI w i*(chB ((n:Int) - gI E i - 1).toNat (gI E a - gI E i).toNat:Int):=rfl
   generalize chB ((n:Int) - gI E i - 1).toNat (gI E a - gI E i).toNat=cc at l1 s4 fi
   have g:=B4 (a:=a) (j:=i) hi
   have s5:sml 2=true:=by decide +kernel
   have s6:sml (((a:Int) - (i:Int) - 1) % 2)=true:=bB (by omega) (by omega)
   simp[BJ,l1,i1,i2,s1,s2,s3,s4,s5,s6,g,fi])⟩)
 generalize List.foldl _ (t0,d7,d8,d9) _=s9 at q e
 obtain⟨t9,a9,b9,c9⟩:=s9
 dsimp only at q e
 exact⟨a9,b9,c9,by rw[q,e]⟩
noncomputable def BK:MS:=(aF (bb 6 (au (fZ aD) (au cn (cC (.int 1)) (au (fZ aD) (cC (.int 2)) (au kO (ag 4) (cC (.int 2))))) (ah bh (aa (ag 0) (aa (au (bQ aD) (ag 5) (cC (.int 1))) ak)))))
  (aF (dU (eg fJ (aa (ag 4) ak)) (gN 7) BJ)
  (cV (ij c_ (ag 3) (aa (ag 6) ak)))))
theorem DU {n a:Nat} {S E:List Int} {d4 d5 d6 d7 d8 d9:Option D} {h:Hh} (hn:n<=12) (en:Ends n E) (hl:E.length<=12) (ha:a<E.length) (hb:∀x∈cZ n E a,x.natAbs<=1000000000000000) :
  ∃e6 e7 e8 e9,(gT2 4 5 (.tup [.int a,.int (gI E a)]) [some (.int n),some (.tup (S.map D.int)),some (.frl (E.map D.int)),some (.ref h.length),d4,d5,d6,d7,d8,d9] (h++[.lst ((cZ n E a).map D.int)])).bind BK =
   .ok (.nx [some (.int n),some (.tup (S.map D.int)),some (.frl (E.map D.int)),some (.ref h.length),some (.int a),some (.int (gI E a)),e6,e7,e8,e9]) (h++[.lst ((cZ n E (a+1)).map D.int)]):=by
 have c2:=en.inn a ha
 have l1:=lp (x:=(n:Int)) (y:=gI E a+1) (h:=h++[.lst ((cZ n E a).map D.int)]) (by omega) (by omega) (by omega) (by omega)
 have g:=A3 a
 have s1:=wF a
 have s4:=uF n (gI E a+1).toNat
 have s5:sml 2=true:=by decide +kernel
 have s6:sml ((a:Int) % 2)=true:=bB (by omega) (by omega)
 have z1:a<=1000000:=by omega
 have z2:a<1000000:=by omega
 obtain⟨e7,e8,e9,q⟩:=Dd (S:=S) (E:=E) (w:=cZ n E a) (t0:=sgP a*(chB n (gI E a+1).toNat:Int)) (d7:=d7) (d8:=d8) (d9:=d9) (h:=h) hn en ha (g9 n E a) hb
 refine⟨some (.int (zc n E (cZ n E a) a)),e7,e8,e9,?_⟩
 have wl:=g9 n E a
 simp[BK,l1,g,s1,s4,s5,s6,z1,z2,q,wl]
 refine⟨rfl,?_⟩
 rw[cZ,List.map_append]
 rfl
theorem zG {n:Nat} {S E:List Int} {h:Hh} (hn:n<=12) (en:Ends n E) (hl:E.length<=12) (hb:∀x∈cZ n E E.length,x.natAbs<=1000000000000000) :
  ∃e4 e5 e6 e7 e8 e9,cS (gT2 4 5) BK (gv (E.map D.int)) [some (.int n),some (.tup (S.map D.int)),some (.frl (E.map D.int)),some (.ref h.length),none,none,none,none,none,none] (h++[.lst []]) =
   .ok (.nx [some (.int n),some (.tup (S.map D.int)),some (.frl (E.map D.int)),some (.ref h.length),e4,e5,e6,e7,e8,e9]) (h++[.lst ((cZ n E E.length).map D.int)]):=by
 have key:∀(k j:Nat) (d4 d5 d6 d7 d8 d9:Option D),j+k=E.length->∃e4 e5 e6 e7 e8 e9,cS (gT2 4 5) BK (((List.range k).map fun i=>j+i).map fun(i:Nat)=>D.tup [.int i,.int (gI E i)]) [some (.int n),some (.tup (S.map D.int)),some (.frl (E.map D.int)),some (.ref h.length),d4,d5,d6,d7,d8,d9] (h++[.lst ((cZ n E j).map D.int)]) =
   .ok (.nx [some (.int n),some (.tup (S.map D.int)),some (.frl (E.map D.int)),some (.ref h.length),e4,e5,e6,e7,e8,e9]) (h++[.lst ((cZ n E E.length).map D.int)]):=by
  intro k
  induction k with
  | zero=>intro j d4 d5 d6 d7 d8 d9 e;have:j=E.length:=by omega
          subst this;exact⟨_,_,_,_,_,_,rfl⟩
  | succ k ih=>
   intro j d4 d5 d6 d7 d8 d9 e
   obtain⟨e6,e7,e8,e9,q⟩:=DU (S:=S) (d4:=d4) (d5:=d5) (d6:=d6) (d7:=d7) (d8:=d8) (d9:=d9) (h:=h) (a:=j) hn en hl (by omega) (fun x hx=>hb x (qp n E (by omega) hx))
   obtain⟨f4,f5,f6,f7,f8,f9,q2⟩:=ih (j+1) (some (.int j)) (some (.int (gI E j))) e6 e7 e8 e9 (by omega)
   refine⟨f4,f5,f6,f7,f8,f9,?_⟩
   rw[List.range_succ_eq_map,List.map_cons,List.map_cons,List.map_map,List.map_map,jF,<- aZ,Nat.add_zero,q,bz,xP,<- q2]
   congr 1
   rw[List.map_map]
   apply List.map_congr_left
   intro i _
   simp only[Function.comp_apply,Nat.succ_eq_add_one]
   rw[show j+(i+1)=j+1+i by omega]
 obtain⟨e4,e5,e6,e7,e8,e9,q⟩:=key E.length 0 none none none none none none (by omega)
 refine⟨e4,e5,e6,e7,e8,e9,?_⟩
 rw[vJ,<- q]
 simp[cZ]
theorem yz {n:Nat} {S:List Int} (h1:1<=n) (s:Sub (n - 1) S):Ends n (S++[(n:Int) - 1]):=by
 have up:(S++[(n:Int) - 1]).Pairwise (· < ·):=by
  rw[List.pairwise_append]
  exact⟨s.up,by simp,fun x hx y hy=>by
   have:=(s.inn x hx).2
   simp at hy;omega⟩
 refine⟨fun i j hij hj=>?_,fun i hi=>?_⟩
 ·rw[rO hj,rO (by omega)]
  exact List.pairwise_iff_getElem.mp up i j (by omega) hj hij
 ·have m:=sW hi
  rcases List.mem_append.mp m with m | m
  ·have:=s.inn _ m;omega
  ·simp at m;omega
theorem yC {m:Nat} {S:List Int} (s:Sub m S):sortI S=S:=
 (gM (sortI_perm S).symm (s.up.imp fun h=>Int.le_of_lt h) (fW S)).symm
theorem u0 {n:Nat} {S:List Int} {h:Hh} (h1:1<=n) (hn:n<=10) (s:Sub (n - 1) S) (w:Wf h):bS [.int n,.tup (S.map D.int)] h=.ok (.int (bR n S)) h:=by
 obtain⟨e1,e2⟩:=uc h1 hn s
 have sl:=s.len
 have le:(S++[(n:Int) - 1]).length=S.length+1:=by simp
 obtain⟨e4,e5,e6,e7,e8,e9,q⟩:=zG (S:=S) (h:=h) (by omega) (yz h1 s) (by omega) (by rw[le];exact e2)
 rw[le] at q
 have z1:S.length<64:=by omega
 have z2:S.length+1<=1000000:=by omega
 have so:=yC s
 have mp:S.map D.int++[D.int ((n:Int) - 1)]=(S++[(n:Int) - 1]).map D.int:=by simp
 have ix:ixK ((cZ n (S++[(n:Int) - 1]) (S.length+1)).map D.int) (-1) (h++[.lst ((cZ n (S++[(n:Int) - 1]) (S.length+1)).map D.int)])=.ok (.int (AH n S)) (h++[.lst ((cZ n (S++[(n:Int) - 1]) (S.length+1)).map D.int)]):=by
  unfold AH
  have wl:=g9 n (S++[(n:Int) - 1]) S.length
  rw[cZ,List.map_append]
  rw[show([zc n (S++[(n:Int) - 1]) (cZ n (S++[(n:Int) - 1]) S.length) S.length].map D.int)=[D.int (zc n (S++[(n:Int) - 1]) (cZ n (S++[(n:Int) - 1]) S.length) S.length)] from rfl,jn]
  congr 2
  unfold gI
  rw[List.getD_eq_getElem?_getD,List.getElem?_append_right (by omega),wl]
  simp
 have ex:cB h (.int (bR n S)) (h++[.lst ((cZ n (S++[(n:Int) - 1]) (S.length+1)).map D.int)])=.ok (.int (bR n S)) h:=fQ w rfl
 rw[<- e1] at ix
 have eq:bS=fun ds h=>((cQ 10 (aF (bb 2 (au (bQ aD) (ah (mB aD) (aa (ag 1) ak)) (ah (eR aD) (aa (au cn (ag 0) (cC (.int 1))) ak)))) (aF (bb 3 (ah (eR p9) ak)) (aF (dU (pV (ag 2)) (gT2 4 5) BK) (bO (au dIx (ag 3) (cUn jk (cC (.int 1))))))))) ds h).bind (cB h):=rfl
 rw[eq]
 simp[cD,z1,z2,so,mp,q,ix,ex,-List.map_append]
end FC
namespace FC
open PySem L2 L2.FE L2.Srt
noncomputable def tpI (b:List Int):D:=.tup (b.map D.int)
noncomputable def LSf:Nat->Nat->List (List Int)
 | _,0=>[[]]
 | p,m+1=>[]::(LSf (p+1) m).map (fun s=>(p:Int)::s)++(LSf (p+1) m).tail
noncomputable def CB:Nat->Nat->Nat->List (List Int)
 | _,_,0=>[[]]
 | _,0,_+1=>[]
 | p,m+1,k+1=>(CB (p+1) m k).map (fun s=>(p:Int)::s)++CB (p+1) m (k+1)
theorem pv:∀(p m:Nat),LSf p m=[]::(LSf p m).tail
 | p,0=>rfl
 | p,m+1=>rfl
theorem Ah (p:Int) (k:Nat) (L:List (List Int)):(L.map (fun s=>p::s)).filter (fun s=>s.length == k+1)=(L.filter fun s=>s.length == k).map (fun s=>p::s):=by
 rw[List.filter_map]
 congr 1
 apply List.filter_congr
 intro s _
 show((p::s).length == k+1)=(s.length == k)
 rw[List.length_cons]
 rw[Bool.eq_iff_iff];simp
theorem ud:∀(m p k:Nat),(LSf p m).filter (fun s=>s.length == k)=CB p m k
 | 0,p,0=>rfl
 | 0,p,k+1=>rfl
 | m+1,p,0=>by
  unfold LSf CB
  rw[List.cons_append,List.filter_cons,if_pos (by rfl),List.filter_append]
  have e1:((LSf (p+1) m).map (fun s=>(p:Int)::s)).filter (fun s=>s.length == 0)=[]:=by
   apply List.filter_eq_nil_iff.mpr
   intro s hs
   obtain⟨t,_,rfl⟩:=List.mem_map.mp hs
   simp
  have e2:(LSf (p+1) m).tail.filter (fun s=>s.length == 0)=[]:=by
   have ih:=ud m (p+1) 0
   rw[pv,List.filter_cons,if_pos (by rfl)] at ih
   have:CB (p+1) m 0=[[]]:=by cases m<;>rfl
   rw[this] at ih
   simpa using ih
  rw[e1,e2];rfl
 | m+1,p,k+1=>by
  have ih:=ud m (p+1) (k+1)
  rw[pv,List.filter_cons,if_neg (by simp)] at ih
  unfold LSf CB
  rw[List.cons_append,List.filter_cons,if_neg (by simp),List.filter_append,Ah,ud m (p+1) k,ih]
noncomputable def gG (p0 e:Nat) (s:List Int):List (List Int):=match s.getLast? with
 | none=>(List.range (e - p0)).map fun(i:Nat)=>s++[((p0+i:Nat):Int)]
 | some l=>(List.range ((e:Int) - l - 1).toNat).map fun(i:Nat)=>s++[l+1+i]
theorem ext_cons {p e:Nat} (s:List Int) (h:p+1<=e):gG p e ((p:Int)::s)=(gG (p+1) e s).map (fun t=>(p:Int)::t):=by
 unfold gG
 cases s with
 | nil=>
  simp only[List.getLast?_singleton,List.getLast?_nil]
  rw[List.map_map,show((e:Int) - (p:Int) - 1).toNat=e - (p+1) by omega]
  apply List.map_congr_left
  intro i _
  show[(p:Int)]++[(p:Int)+1+i]=(p:Int)::([]++[((p+1+i:Nat):Int)])
  simp
 | cons x r=>
  rw[List.getLast?_cons_cons]
  cases hl:(x::r).getLast? with
  | none=>simp at hl
  | some l=>
   simp only
   rw[List.map_map]
   apply List.map_congr_left
   intro i _
   rfl
theorem Ci {p q e:Nat} {s:List Int} (h:s≠[]):gG p e s=gG q e s:=by
 unfold gG
 cases hl:s.getLast? with
 | none=>simp at hl;exact absurd hl h
 | some l=>rfl
theorem oO:∀(m p k:Nat),∀s∈CB p m k,s.length=k
 | 0,p,0,s,h=>by rw[show CB p 0 0=[[]] from rfl,List.mem_singleton] at h;subst h;rfl
 | m+1,p,0,s,h=>by rw[show CB p (m+1) 0=[[]] from rfl,List.mem_singleton] at h;subst h;rfl
 | 0,p,k+1,s,h=>by cases h
 | m+1,p,k+1,s,h=>by
  unfold CB at h
  rcases List.mem_append.mp h with h | h
  ·obtain⟨t,ht,rfl⟩:=List.mem_map.mp h
   rw[List.length_cons,oO m (p+1) k t ht]
  ·exact oO m (p+1) (k+1) s h
theorem oI:∀(m p k:Nat),(CB p m k).flatMap (gG p (p+m))=CB p m (k+1)
 | 0,p,0=>by
  show[[]].flatMap (gG p (p+0))=[]
  simp[gG]
 | 0,p,k+1=>rfl
 | m+1,p,0=>by
  have ih:=oI m (p+1) 0
  have e0:CB (p+1) m 0=[[]]:=by cases m<;>rfl
  rw[e0] at ih
  show[[]].flatMap (gG p (p+(m+1)))=(CB (p+1) m 0).map (fun s=>(p:Int)::s)++CB (p+1) m 1
  rw[e0,<- ih]
  simp only[List.flatMap_cons,List.flatMap_nil,List.append_nil,List.map_cons,List.map_nil]
  unfold gG
  simp only[List.getLast?_nil,List.nil_append]
  rw[show p+(m+1) - p=m+1 by omega,show p+1+m - (p+1)=m by omega,List.range_succ_eq_map,List.map_cons,List.map_map]
  show[((p+0:Nat):Int)]::_=[(p:Int)]::_
  congr 1
  apply List.map_congr_left
  intro i _
  show[((p+(i+1):Nat):Int)]=[((p+1+i:Nat):Int)]
  rw[show p+(i+1)=p+1+i by omega]
 | m+1,p,k+1=>by
  have ih1:=oI m (p+1) k
  have ih2:=oI m (p+1) (k+1)
  rw[show p+1+m=p+(m+1) by omega] at ih1 ih2
  have a1:((CB (p+1) m k).map (fun s=>(p:Int)::s)).flatMap (gG p (p+(m+1)))=(CB (p+1) m (k+1)).map (fun s=>(p:Int)::s):=by
   rw[<- ih1,List.flatMap_map,List.map_flatMap,List.flatMap_def,List.flatMap_def]
   congr 1
   apply List.map_congr_left
   intro s _
   exact ext_cons s (by omega)
  have a2:(CB (p+1) m (k+1)).flatMap (gG p (p+(m+1)))=CB (p+1) m (k+2):=by
   refine Eq.trans ?_ ih2
   rw[List.flatMap_def,List.flatMap_def]
   congr 1
   apply List.map_congr_left
   intro s hs
   exact Ci (by intro z;have:=oO m (p+1) (k+1) s hs;rw[z] at this;simp at this)
  conv=>lhs;unfold CB
  conv=>rhs;unfold CB
  rw[List.flatMap_append,a1,a2]
noncomputable def InS (p e:Nat) (s:List Int):Prop:=s.Pairwise (· < ·)/\∀x∈s,(p:Int)<=x/\x<e
theorem rH:∀(m p:Nat),∀s∈LSf p m,InS p (p+m) s/\s.length<=m
 | 0,p,s,h=>by rw[show LSf p 0=[[]] from rfl,List.mem_singleton] at h;subst h;exact⟨⟨.nil,fun x hx=>by cases hx⟩,Nat.le_refl _⟩
 | m+1,p,s,h=>by
  unfold LSf at h
  rw[List.cons_append] at h
  rcases List.mem_cons.mp h with rfl | h
  ·exact⟨⟨.nil,fun x hx=>by cases hx⟩,Nat.zero_le _⟩
  ·rcases List.mem_append.mp h with h | h
   ·obtain⟨t,ht,rfl⟩:=List.mem_map.mp h
    obtain⟨⟨i1,i2⟩,i3⟩:=rH m (p+1) t ht
    refine⟨⟨List.pairwise_cons.mpr ⟨fun x hx=>?_,i1⟩,fun x hx=>?_⟩,by rw[List.length_cons];omega⟩
    ·have:=i2 x hx;omega
    ·rcases List.mem_cons.mp hx with rfl | hx
     ·omega
     ·have:=i2 x hx;omega
   ·obtain⟨⟨i1,i2⟩,i3⟩:=rH m (p+1) s (List.mem_of_mem_tail h)
    exact⟨⟨i1,fun x hx=>by have:=i2 x hx;omega⟩,by omega⟩
theorem h_:∀(m p:Nat),(LSf p m).length=2 ^ m
 | 0,p=>rfl
 | m+1,p=>by
  have ih:=h_ m (p+1)
  unfold LSf
  have:(LSf (p+1) m).tail.length+1=(LSf (p+1) m).length:=by rw[pv (p+1) m];simp
  rw[List.cons_append,List.length_cons,List.length_append,List.length_map,Nat.pow_succ]
  omega
theorem pI:∀(m p:Nat),∀s∈(LSf p m).tail,s≠[]
 | 0,p,s,h=>by cases h
 | m+1,p,s,h=>by
  unfold LSf at h
  rw[List.cons_append,List.tail_cons] at h
  rcases List.mem_append.mp h with h | h
  ·obtain⟨t,_,rfl⟩:=List.mem_map.mp h;simp
  ·exact pI m (p+1) s h
theorem AV:∀(m p:Nat),(LSf p m).Pairwise (fun a b=>eU a b=true)
 | 0,p=>by rw[show LSf p 0=[[]] from rfl];exact List.pairwise_singleton _ _
 | m+1,p=>by
  have ih:=AV m (p+1)
  unfold LSf
  rw[List.cons_append]
  refine List.pairwise_cons.mpr ⟨fun s hs=>?_,List.pairwise_append.mpr ⟨?_,ih.sublist (List.tail_sublist _),fun a ha b hb=>?_⟩⟩
  ·have:s≠[]:=by
    rcases List.mem_append.mp hs with h | h
    ·obtain⟨t,_,rfl⟩:=List.mem_map.mp h;simp
    ·exact pI m (p+1) s h
   cases s with
   | nil=>exact absurd rfl this
   | cons x r=>simp[eU]
  ·rw[List.pairwise_map]
   refine ih.imp fun h=>?_
   unfold eU
   rw[if_pos rfl];exact h
  ·obtain⟨t,_,rfl⟩:=List.mem_map.mp ha
   have hn:=pI m (p+1) b hb
   have hi:=(rH m (p+1) b (List.mem_of_mem_tail hb)).1.2
   cases b with
   | nil=>exact absurd rfl hn
   | cons x r=>
    have:=hi x List.mem_cons_self
    unfold eU
    rw[if_neg (by omega)]
    exact decide_eq_true (by omega)
theorem yI {X:Type} (f:X->Nat) (L:List X):∀n,(((List.range n).flatMap fun k=>L.filter fun x=>f x == k)).Perm (L.filter fun x=>decide (f x<n))
 | 0=>by
  have:(L.filter fun x=>decide (f x<0))=[]:=List.filter_eq_nil_iff.mpr fun x _=>by simp
  rw[this];exact .refl _
 | n+1=>by
  rw[List.range_succ,List.flatMap_append]
  have ih:=yI f L n
  have e1:(L.filter fun x=>decide (f x<n+1)).filter (fun x=>decide (f x<n))=L.filter fun x=>decide (f x<n):=by
   rw[List.filter_filter]
   apply List.filter_congr
   intro x _
   by_cases h:f x<n
   ·rw[decide_eq_true h,decide_eq_true (by omega)];rfl
   ·rw[decide_eq_false h];rfl
  have e2:(L.filter fun x=>decide (f x<n+1)).filter (fun x=>!decide (f x<n))=L.filter fun x=>f x == n:=by
   rw[List.filter_filter]
   apply List.filter_congr
   intro x _
   by_cases h:f x<n
   ·have:(f x == n)=false:=by rw[beq_eq_false_iff_ne];omega
    rw[decide_eq_true h,this];rfl
   ·by_cases h2:f x=n
    ·rw[decide_eq_false h,decide_eq_true (by omega),h2];simp
    ·have:(f x == n)=false:=by rw[beq_eq_false_iff_ne];exact h2
     rw[decide_eq_false h,decide_eq_false (by omega),this];rfl
  have p:=List.filter_append_perm (fun x=>decide (f x<n)) (L.filter fun x=>decide (f x<n+1))
  rw[e1,e2] at p
  refine List.Perm.trans (List.Perm.append ih ?_) p
  simp
noncomputable def LS (n:Nat):List (List Int):=LSf 0 (n - 1)
noncomputable def SO (n k:Nat):List (List Int):=CB 0 (n - 1) k
theorem Ak (n:Nat):SO n 0=[[]]:=by unfold SO;cases n - 1<;>rfl
theorem Ft (n k:Nat):SO n (k+1)=(SO n k).flatMap (gG 0 (n - 1)):=by
 have:=oI (n - 1) 0 k
 rw[Nat.zero_add] at this
 exact this.symm
theorem uP (n k:Nat):(LS n).filter (fun s=>s.length == k)=SO n k:=ud (n - 1) 0 k
theorem gh {n:Nat} {s:List Int} (h:s∈LS n):InS 0 (n - 1) s/\s.length<=n - 1:=by
 have:=rH (n - 1) 0 s h
 rw[Nat.zero_add] at this
 exact this
theorem A2 {n k:Nat} {s:List Int} (h:s∈SO n k):InS 0 (n - 1) s/\s.length<=n - 1:=by
 rw[<- uP] at h
 exact gh (List.mem_filter.mp h).1
theorem yF {n k:Nat} (hn:n<=12):(SO n k).length<=2048:=by
 rw[<- uP]
 refine Nat.le_trans (List.length_filter_le _ _) ?_
 unfold LS
 rw[h_]
 exact Nat.le_trans (Nat.pow_le_pow_right (by decide) (by omega:n - 1<=11)) (by decide)
noncomputable def AS (n:Nat):List (List Int):=(List.range n).flatMap (SO n)
theorem uv {n:Nat} (h1:1<=n):(AS n).Perm (LS n):=by
 have p:=yI (fun s:List Int=>s.length) (LS n) n
 have e:(LS n).filter (fun s=>decide (s.length<n))=LS n:=List.filter_eq_self.mpr fun s hs=>decide_eq_true (by have:=(gh hs).2;omega)
 rw[e] at p
 have e2:((List.range n).flatMap fun k=>(LS n).filter fun s=>s.length == k)=AS n:=by
  unfold AS
  congr 1
  funext k
  exact uP n k
 rw[e2] at p
 exact p
theorem Bb {n:Nat} {s:List Int} (hn:n<=12) (h:InS 0 (n - 1) s):Bd s:=fun x hx=>by have:=h.2 x hx;omega
theorem A8 {n:Nat} (hn:n<=12):(LS n).Pairwise fun a b=>kT 20 a<kT 20 b:=by
 refine List.Pairwise.imp_of_mem ?_ (AV (n - 1) 0)
 intro a b ha hb h
 have ia:=gh (n:=n) ha
 have ib:=gh (n:=n) hb
 rw[tG 20 (Bb hn ia.1) (Bb hn ib.1) (by omega) (by omega)] at h
 exact of_decide_eq_true h
theorem Az {n:Nat} (h1:1<=n) (hn:n<=12):iT (AS n)=LS n/\((AS n).map (kT 20)).Nodup:=by
 have p:=uv h1
 refine⟨(ja (p.symm.trans (jc _).symm) (A8 hn) (f_ _)).symm,?_⟩
 refine(p.map (kT 20)).nodup_iff.mpr ?_
 rw[List.Nodup,List.pairwise_map]
 exact(A8 hn).imp fun h=>by omega
theorem Bc {Y:Type} {P:List D->Prop} {M:List Y} {e1 e2:Y->D} {te:ME} {ff:D->En} {H:Hh} (st:∀y∈M,∀A,P A->te (ff (e1 y)) (H++[.lst A])=.ok (e2 y) (H++[.lst A])/\P (A++[e2 y])):∀(k j:Nat) (A:List D),P A->j+k=M.length->A.length+k<=1000000->lI H.length (Src.snap (M.map e1)).rdr te ff k j (H++[.lst A])=.ok () (H++[.lst (A++(M.drop j).map e2)])/\P (A++(M.drop j).map e2)
 | 0,j,A,pA,e,_=>by
  unfold lI
  have:(Src.snap (M.map e1)).rdr (H++[.lst A]) j=some none:=by
   simp only[Src.rdr]
   rw[List.getElem?_eq_none (by simp;omega)]
  rw[this,List.drop_eq_nil_of_le (by omega)]
  simpa using pA
 | k+1,j,A,pA,e,l=>by
  unfold lI
  have lt:j<M.length:=by omega
  have g:(Src.snap (M.map e1)).rdr (H++[.lst A]) j=some (some (e1 M[j])):=by
   simp only[Src.rdr]
   rw[List.getElem?_map,List.getElem?_eq_getElem lt];rfl
  rw[g]
  have a:tu H.length (e2 M[j]) (H++[.lst A])=.ok () (H++[.lst (A++[e2 M[j]])]):=by
   unfold tu
   rw[dv]
   dsimp only
   rw[if_pos (by omega),pS]
  obtain⟨s1,s2⟩:=st _ (List.getElem_mem lt) A pA
  obtain⟨q1,q2⟩:=Bc st k (j+1) _ s2 (by omega) (by simp;omega)
  dsimp only
  rw[s1,bz,a,bz,q1,List.drop_eq_getElem_cons lt]
  rw[List.append_assoc] at q2 ⊢
  exact⟨rfl,q2⟩
theorem Bg {X Y:Type} {P:List D->Prop} {L:List X} {rd:Rdr} {mi2:MI} {te:ME} {ff:Option D->Option D->En} {H:Hh} (enc:X->D) (g:X->List Y) (e1 e2:X->Y->D) (N:Nat)
  (hr:∀A i,rd (H++[.lst A]) i=some ((L.map enc)[i]?)) (hm:∀x∈L,∀A,P A->mi2 (ff (some (enc x)) none) (H++[.lst A])=.ok (.snap ((g x).map (e1 x))) (H++[.lst A]))
  (st:∀x∈L,∀y∈g x,∀A,P A->te (ff (some (enc x)) (some (e1 x y))) (H++[.lst A])=.ok (e2 x y) (H++[.lst A])/\P (A++[e2 x y])) (hg:∀x∈L,(g x).length<=N) :
  ∀(k i:Nat) (A:List D),P A->i+k=L.length->A.length+k*N<=1000000->jy H.length rd mi2 te ff k i (H++[.lst A])=.ok () (H++[.lst (A++(L.drop i).flatMap fun x=>(g x).map (e2 x))])
 | 0,i,A,_,e,_=>by
  unfold jy
  rw[hr,List.getElem?_eq_none (by rw[List.length_map];omega),List.drop_eq_nil_of_le (by omega)]
  simp
 | k+1,i,A,pA,e,l=>by
  have lt:i<L.length:=by omega
  unfold jy
  rw[hr,List.getElem?_map,List.getElem?_eq_getElem lt]
  have hx:=List.getElem_mem lt
  have gl:=hg _ hx
  rw[Nat.add_mul,Nat.one_mul] at l
  dsimp only[Option.map_some]
  rw[hm _ hx A pA,bz]
  have fu:(Src.snap ((g L[i]).map (e1 L[i]))).fuel (H++[.lst A])=(g L[i]).length:=by
   show((g L[i]).map (e1 L[i])).length=_
   simp
  obtain⟨q1,q2⟩:=Bc (P:=P) (e1:=e1 L[i]) (e2:=e2 L[i]) (te:=te) (ff:=fun e=>ff (some (enc L[i])) (some e)) (H:=H) (fun y hy A pA=>st _ hx y hy A pA) (g L[i]).length 0 A pA (by omega) (by omega)
  rw[List.drop_zero] at q1 q2
  rw[fu,q1,bz]
  rw[Bg enc g e1 e2 N hr hm st hg k (i+1) _ q2 (by omega) (by rw[List.length_append,List.length_map];omega),List.drop_eq_getElem_cons lt,List.flatMap_cons,List.append_assoc]
theorem D8 {X Y:Type} (P:List D->Prop) {L:List X} {sr:Src} {mi:MI} {ix:List Nat} {env:En} {mi2:MI} {te:ME} {H:Hh} (enc:X->D) (g:X->List Y) (e1 e2:X->Y->D) (N:Nat) (hs:mi env H=.ok sr H) (hf:sr.fuel H=L.length)
  (hr:∀A i,sr.rdr (H++[.lst A]) i=some ((L.map enc)[i]?)) (p0:P []) (hm:∀x∈L,∀A,P A->mi2 (cx ix env (some (enc x)) none) (H++[.lst A])=.ok (.snap ((g x).map (e1 x))) (H++[.lst A]))
  (st:∀x∈L,∀y∈g x,∀A,P A->te (cx ix env (some (enc x)) (some (e1 x y))) (H++[.lst A])=.ok (e2 x y) (H++[.lst A])/\P (A++[e2 x y])) (hg:∀x∈L,(g x).length<=N) (hl:L.length*N<=1000000) :
  gq mi ix mi2 te env H=.ok (.ref H.length) (H++[.lst (L.flatMap fun x=>(g x).map (e2 x))]):=by
 unfold gq
 have q:=Bg (P:=P) enc g e1 e2 N hr hm st hg L.length 0 [] p0 (by omega) (by simpa using hl)
 rw[List.drop_zero,List.nil_append] at q
 rw[hs,bz,hf,q];rfl
noncomputable def pbI (n:Nat) (s:List Int):List Int:=match s.getLast? with
 | none=>(List.range (n - 1)).map fun(i:Nat)=>((0+i:Nat):Int)
 | some l=>(List.range (((n - 1:Nat):Int) - l - 1).toNat).map fun(i:Nat)=>l+1+i
theorem BF (n:Nat) (s:List Int):gG 0 (n - 1) s=(pbI n s).map fun x=>s++[x]:=by
 unfold gG pbI
 cases s.getLast?<;>(dsimp only;rw[List.map_map];rfl)
theorem BP {n:Nat} {s:List Int} (h:InS 0 (n - 1) s):(pbI n s).length<=n:=by
 unfold pbI
 cases hl:s.getLast? with
 | none=>dsimp only;rw[List.length_map,List.length_range];omega
 | some l=>
  dsimp only
  rw[List.length_map,List.length_range]
  have:=h.2 l (List.mem_of_getLast? hl)
  omega
theorem xR {n:Nat} {s:List Int} {h:Hh} (h1:1<=n) (hn:n<=12) (hi:InS 0 (n - 1) s):aX [.int n,tpI s] h=.ok (.frl ((pbI n s).map D.int)) h:=by
 unfold pbI tpI
 cases hl:s.getLast? with
 | none=>
  have:s=[]:=by simpa using hl
  subst this
  have z:((n:Int) - 1).toNat=n - 1:=by omega
  have z2:((n:Int) - 1).natAbs<=1000000:=by omega
  have z3:n - 1<=1000000:=by omega
  have e:bj 0 (n - 1)=((List.range (n - 1)).map fun(i:Nat)=>((0+i:Nat):Int)).map D.int:=by rw[eC,List.map_map];apply List.map_congr_left;intro i _;simp
  dsimp only
  rw[<- e]
  simp[aX,cD,jI,z,z2,z3]
 | some l=>
  have hm:=hi.2 l (List.mem_of_getLast? hl)
  have ne:s≠[]:=by intro z;rw[z] at hl;simp at hl
  have ix:∀H:Hh,ixK (s.map D.int) (-1) H=.ok (.int l) H:=fun H=>by
   obtain⟨t,rfl⟩:=List.getLast?_eq_some_iff.mp hl
   rw[List.map_append];exact jn
  have z1:(l+1).natAbs<=1000000:=by omega
  have z2:((n:Int) - 1).natAbs<=1000000:=by omega
  have z3:((n:Int) - 1 - (l+1)).toNat=(((n - 1:Nat):Int) - l - 1).toNat:=by omega
  have z4:(((n - 1:Nat):Int) - l - 1).toNat<=1000000:=by omega
  have tr:∀H:Hh,jI (.tup (s.map D.int)) H=.ok true H:=fun H=>by
   cases s with
   | nil=>exact absurd rfl ne
   | cons x r=>rfl
  have e:bj (l+1) (((n - 1:Nat):Int) - l - 1).toNat=((List.range (((n - 1:Nat):Int) - l - 1).toNat).map fun(i:Nat)=>l+1+(i:Int)).map D.int:=by unfold bj;rw[List.map_map];rfl
  dsimp only
  rw[<- e]
  have z5:((n - 1:Nat):Int) - l<=1000001:=by omega
  simp[aX,cD,tr,ix,z1,z2,z3,z4,z5]
noncomputable def SM2:MI:=(bo (ah aX (aa (ag 2) (aa (ag 0) ak))))
noncomputable def STE:ME:=(au (bQ aD) (ag 0) (ah cF (aa (ag 1) ak)))
noncomputable def SSB:MS:=(bb 2 (gq (bo (ag 2)) [0] SM2 STE))
noncomputable def Lv (X:D) (H:Hh) (ds:List D):Prop:=∃sr:Src,qm X H=.ok sr H/\sr.fuel H=ds.length/\∀A i,sr.rdr (H++[.lst A]) i=some ds[i]?
theorem Cu {ds:List D} {H:Hh}:Lv (.frl ds) H ds:=⟨.snap ds,rfl,rfl,fun _ _=>rfl⟩
theorem xI {ds:List D} {H:Hh} {r:Nat} (e:ay H r=some ds):Lv (.ref r) H ds:=⟨.live r,D4 e,by simp[Src.fuel,e],fun A i=>by simp only[Src.rdr];rw[AF e];rfl⟩
theorem CH {n:Nat} {L:List (List Int)} {X:D} {H:Hh} {d1 d3:Option D} (h1:1<=n) (hn:n<=12) (lv:Lv X H (L.map tpI)) (hi:∀s∈L,InS 0 (n - 1) s/\s.length<=n - 1) (hl:L.length<=2048):SSB [some (.int n),d1,some X,d3] H=.ok (.nx [some (.int n),d1,some (.ref H.length),d3]) (H++[.lst ((L.flatMap (gG 0 (n - 1))).map tpI)]):=by
 obtain⟨sr,s1,s2,s3⟩:=lv
 have q:=D8 (fun _=>True) (L:=L) (sr:=sr) (mi:=bo (ag 2)) (ix:=[0]) (env:=[some (.int n),d1,some X,d3]) (mi2:=SM2) (te:=STE) (H:=H) tpI (pbI n) (fun _ x=>D.int x) (fun s x=>tpI (s++[x])) 12
  (by show(ag 2 [some (.int n),d1,some X,d3] H).bind qm=_;rw[show ag 2 [some (.int n),d1,some X,d3] H=.ok X H by simp,bz,s1]) (by rw[s2,List.length_map]) s3 trivial
  (fun s hs A _=>by
   have xp:=xR (h:=H++[.lst A]) h1 hn (hi s hs).1
   have cp:cx [0] [some (.int n),d1,some X,d3] (some (tpI s)) none=[some (tpI s),none,some (.int n)]:=by simp[cx]
   rw[cp]
   generalize tpI s=ts at *
   simp[SM2,xp])
  (fun s hs x hx A _=>by
   refine⟨?_,trivial⟩
   have cp:cx [0] [some (.int n),d1,some X,d3] (some (tpI s)) (some (.int x))=[some (tpI s),some (.int x),some (.int n)]:=by simp[cx]
   have ls:s.length+1<=1000000:=by have:=(hi s hs).2;omega
   rw[cp]
   simp[STE,tpI,ls])
  (fun s hs=>by have:=BP (hi s hs).1;omega) (by omega)
 have e:(L.flatMap fun s=>(pbI n s).map fun x=>tpI (s++[x]))=(L.flatMap (gG 0 (n - 1))).map tpI:=by
  rw[List.map_flatMap]
  congr 1
  funext s
  rw[BF,List.map_map];rfl
 rw[e] at q
 unfold SSB
 rw[CU,q]
 rfl
theorem mH {k:Nat} {L:List (List Int)}:(L.map tpI).all (deep (k+2))=true:=by
 rw[List.all_eq_true]
 intro d hd
 obtain⟨b,_,rfl⟩:=List.mem_map.mp hd
 show(b.map D.int).all (deep (k+1))=true
 rw[List.all_eq_true]
 intro e he
 obtain⟨i,_,rfl⟩:=List.mem_map.mp he
 rfl
theorem xr {h t:Hh} {ds:List D} {j:Nat} (w:Wf h) (el:ay (h++t) (h.length+j)=some ds) (e:ds.all (deep 7)=true):cB h (.ref (h.length+j)) (h++t)=.ok (.frl ds) h:=by
 unfold cB
 rw[List.take_left' rfl,if_pos (show h.all (lj h.length)=true from w)]
 have:dO h.length (h++t) 8 (.ref (h.length+j))=some (.frl ds):=by
  unfold dO
  have:¬ (h.length+j<h.length):=by omega
  simp only[this,if_false,el]
  rw[List.all_eq_true] at e
  rw[iF fun d hd=>eD 7 d (e d hd)];rfl
 rw[this]
theorem yw {h t:Hh} {ds:List D} {j:Nat} (w:Wf h) (el:ay (h++t) (h.length+j)=some ds) (e:ds.all (deep 8)=true):lS h (.ref (h.length+j)) (h++t)=.ok (.ref h.length) (h++[.lst ds]):=by
 unfold lS
 rw[List.take_left' rfl,if_pos (show h.all (lj h.length)=true from w)]
 have:h.length<=h.length+j:=by omega
 simp only[this,if_true,el]
 rw[List.all_eq_true] at e
 rw[iF fun d hd=>eD 8 d (e d hd)]
theorem DA:eB=fun ds h=>((cQ 4 (aF (cV (ah az (aa (ag 0) (aa (cC (.int 1)) (aa (cC (.int 12)) ak)))))
  (aF (cV (ah az (aa (ag 1) (aa (cC (.int 0)) (aa (cC (.int 12)) ak)))))
  (aF (bb 2 (ah (eR p9) (aa (ah cF ak) ak)))
  (aF (dU (eg fJ (aa (ag 1) ak)) (gN 3) SSB)
  (bO (ag 2))))))) ds h).bind (lS h):=rfl
theorem Di:eE=fun ds h=>((cQ 4 (aF (cV (ah az (aa (ag 0) (aa (cC (.int 1)) (aa (cC (.int 12)) ak)))))
  (aF (cV (ah az (aa (ag 1) (aa (cC (.int 0)) (aa (cC (.int 12)) ak)))))
  (aF (bb 2 (ah (eR aD) (aa (ah cF ak) ak)))
  (aF (dU (eg fJ (aa (ag 1) ak)) (gN 3) SSB)
  (bO (ag 2))))))) ds h).bind (cB h):=rfl
theorem uf {n k:Nat} {h T0:Hh} {X0:D} (h1:1<=n) (hn:n<=12) (lv:Lv X0 (h++T0) [tpI []]):∃T X y,cS (gN 3) SSB (bj 0 k) [some (.int n),some (.int k),some X0,none] (h++T0)=.ok (.nx [some (.int n),some (.int k),some X,y]) (h++T)/\((k=0/\X=X0/\T=T0)\/∃j,X=.ref (h.length+j)/\ay (h++T) (h.length+j)=some ((SO n k).map tpI)):=by
 obtain⟨s,lp,si⟩:=um (σ:=Hh × D × Option D) (tg:=gN 3) (body:=SSB) (fun(i:Nat)=>D.int i) k (fun s=>[some (.int n),some (.int k),some s.2.1,s.2.2]) (fun s=>h++s.1) (fun i s=>Lv s.2.1 (h++s.1) ((SO n i).map tpI)/\((i=0/\s.2.1=X0/\s.1=T0)\/∃j,s.2.1=.ref (h.length+j)/\ay (h++s.1) (h.length+j)=some ((SO n i).map tpI))) (fun i s hi hs=>by
  obtain⟨T,X,y⟩:=s
  obtain⟨lv,_⟩:=hs
  dsimp only at lv ⊢
  have q:=CH (d1:=some (.int k)) (d3:=some (.int i)) h1 hn lv (fun s hs=>A2 hs) (yF hn)
  rw[<- Ft] at q
  have e1:ay (h++(T++[O.lst ((SO n (i+1)).map tpI)])) (h.length+T.length)=some ((SO n (i+1)).map tpI):=by
   rw[<- List.append_assoc,<- List.length_append];exact dv
  refine⟨(T++[.lst ((SO n (i+1)).map tpI)],.ref (h.length+T.length),some (.int i)),⟨xI e1,.inr ⟨_,rfl,e1⟩⟩,?_⟩
  simp only[xi,bz,List.set]
  rw[q,List.append_assoc,List.length_append]) k 0 (T0,X0,none) (by omega) ⟨by rw[Ak];exact lv,.inl ⟨rfl,rfl,rfl⟩⟩
 obtain⟨T,X,y⟩:=s
 dsimp only at lp si
 rw[<- List.range_eq_range',<- eC] at lp
 exact⟨T,X,y,lp,si.2⟩
theorem yZ {n k:Nat} {h:Hh} (w:Wf h) (h1:1<=n) (hn:n<=12) (hk:k<=12):eB [.int n,.int k] h=.ok (.ref h.length) (h++[.lst ((SO n k).map tpI)]):=by
 obtain⟨T,X,y,lp,o⟩:=uf (n:=n) (k:=k) (h:=h) (T0:=[.lst [tpI []]]) (X0:=.ref h.length) h1 hn (xI dv)
 have n1:=g_ (h:=h) (i:=(n:Int)) (a:=1) (b:=12) (by omega)
 have n2:=g_ (h:=h) (i:=(k:Int)) (a:=0) (b:=12) (by omega)
 have z1:k<=1000000:=by omega
 have e:∃j,X=.ref (h.length+j)/\ay (h++T) (h.length+j)=some ((SO n k).map tpI):=by
  rcases o with⟨rfl,rfl,rfl⟩ | o
  ·exact⟨0,rfl,by rw[Ak];exact dv⟩
  ·exact o
 obtain⟨j,rfl,el⟩:=e
 have ex:=yw w el (mH (k:=6))
 rw[DA]
 have t0:tpI []=.tup []:=rfl
 rw[t0] at lp
 generalize (SO n k).map tpI=W at *
 simp[cD,p9,n1,n2,z1,lp,ex]
theorem Aq {n k:Nat} {h:Hh} (w:Wf h) (h1:1<=n) (hn:n<=12) (hk:k<=12):eE [.int n,.int k] h=.ok (.frl ((SO n k).map tpI)) h:=by
 obtain⟨T,X,y,lp,o⟩:=uf (n:=n) (k:=k) (h:=h) (T0:=[]) (X0:=.frl [tpI []]) h1 hn Cu
 have n1:=g_ (h:=h) (i:=(n:Int)) (a:=1) (b:=12) (by omega)
 have n2:=g_ (h:=h) (i:=(k:Int)) (a:=0) (b:=12) (by omega)
 have z1:k<=1000000:=by omega
 have ex:cB h X (h++T)=.ok (.frl ((SO n k).map tpI)) h:=by
  rcases o with⟨rfl,rfl,rfl⟩ | ⟨j,rfl,el⟩
  ·rw[Ak];exact fQ w (by decide)
  ·exact xr w el (mH (k:=5))
 rw[Di]
 have t0:tpI []=.tup []:=rfl
 rw[t0,List.append_nil] at lp
 generalize (SO n k).map tpI=W at *
 simp[cD,n1,n2,z1,lp,ex]
noncomputable def dnI (n:Nat):List Int:=(List.range n).map fun(i:Nat)=>(n:Int) - 1 - i
theorem BW:∀n:Nat,n<12->(xF [.int ((n:Int) - 1),.int (-1),.int (-1)]).bind intsOf=some (dnI n):=by decide +kernel
theorem EY {n:Nat} {h:Hh} (hn:n<12):kz [.int ((n:Int) - 1),.int (-1),.int (-1)] h=.ok (.snap ((dnI n).map D.int)) h:=by
 have q:=BW n hn
 obtain⟨xs,e1,e2⟩:=Option.bind_eq_some_iff.mp q
 rw[<- cX e2]
 simp only[kz,e1]
noncomputable def LTT:MT:=(AA (a_ asB (au dEq (ag 0) (ah cF ak))) (a_ asB (au dGt (au dIx (ag 0) (cC (.int 0))) (ag 1))))
noncomputable def LTE:ME:=(au (bQ aD) (ah cF (aa (ag 1) ak)) (ag 0))
noncomputable def LSB:MS:=(bb 1 (au (bQ aD) (au (bQ aD) (ah (eR aD) (aa (ah cF ak) ak)) (bA aD (bo (ag 1)) [2] LTT LTE)) (dM aD (ag 1) (eZ (cC (.int 1))) dC)))
theorem ls_eq:bE=cQ 3 (aF (bb 1 (ah (eR aD) (aa (ah cF ak) ak)))
  (aF (dU (eg kz (aa (au cn (ag 0) (cC (.int 2))) (aa (cUn jk (cC (.int 1))) (aa (cUn jk (cC (.int 1))) ak)))) (gN 2) LSB)
  (bO (ag 1)))):=rfl
theorem Cj {p m:Nat} {h:Hh} {d0:Option D} (hm:m<=11):LSB [d0,some (.frl ((LSf (p+1) m).map tpI)),some (.int p)] h=.ok (.nx [d0,some (.frl ((LSf p (m+1)).map tpI)),some (.int p)]) h:=by
 have hl:(LSf (p+1) m).length<=2048:=by rw[h_];exact Nat.le_trans (Nat.pow_le_pow_right (by decide) hm) (by decide)
 have q:cU LTT LTE (fun d=>[some d,some (.int p)]) ((LSf (p+1) m).map tpI) h=.ok ((LSf (p+1) m).map fun s=>tpI ((p:Int)::s)) h:=by
  have:=comp_map (h:=h) (tt:=LTT) (te:=LTE) (ee:=fun d=>[some d,some (.int p)]) tpI (fun _=>true) (fun s=>tpI ((p:Int)::s)) (LSf (p+1) m) (fun s hs=>by
   have hi:=rH m (p+1) s hs
   have ls:1+s.length<=1000000:=by omega
   refine⟨?_,fun _=>by simp[LTE,tpI,ls]⟩
   cases s with
   | nil=>simp[LTT,tpI];rfl
   | cons x r=>
    have hx:=hi.1.2 x List.mem_cons_self
    have e1:dEq (tpI (x::r)) (.tup []) h=.ok (.bl false) h:=rfl
    have ix:ixK ((x::r).map D.int) 0 h=.ok (.int x) h:=qd (ns:=x::r) (i:=0) (j:=0) rfl (by simp)
    have g:(p:Int)<x:=by omega
    unfold tpI at *
    simp only[List.map_cons] at *
    simp[LTT,e1,ix,g])
  rw[this,List.filter_eq_self.mpr (fun _ _=>rfl)]
 have c1:cutD ((LSf (p+1) m).map tpI) (some 1) none=(LSf (p+1) m).tail.map tpI:=by
  rw[ju]
  have:jH (LSf (p+1) m) (some ((1:Nat):Int)) none=(LSf (p+1) m).drop 1:=oA _ 1
  have:jH (LSf (p+1) m) (some 1) none=(LSf (p+1) m).drop 1:=this
  rw[this,List.drop_one]
 have e:(LSf p (m+1)).map tpI=[D.tup []]++((LSf (p+1) m).map fun s=>tpI ((p:Int)::s))++(LSf (p+1) m).tail.map tpI:=by
  rw[show LSf p (m+1)=[]::(LSf (p+1) m).map (fun s=>(p:Int)::s)++(LSf (p+1) m).tail from rfl,List.map_append,List.map_cons,List.map_map];rfl
 rw[e]
 have tl:((LSf (p+1) m).tail.map tpI).length<=2048:=by rw[List.length_map,List.length_tail];omega
 have ml:((LSf (p+1) m).map fun s=>tpI ((p:Int)::s)).length<=2048:=by rw[List.length_map];exact hl
 have sl:((LSf (p+1) m).map tpI).length<=2048:=by rw[List.length_map];exact hl
 generalize (LSf (p+1) m).tail.map tpI=T at *
 generalize ((LSf (p+1) m).map fun s=>tpI ((p:Int)::s))=M at *
 generalize (LSf (p+1) m).map tpI=S at *
 have z1:S.length<=1000000:=by omega
 have z2:1+M.length<=1000000:=by omega
 have z3:1+M.length+T.length<=1000000:=by omega
 have z2':M.length+1<=1000000:=by omega
 have z3':M.length+1+T.length<=1000000:=by omega
 simp[LSB,q,c1,z1,z2,z3,z2',z3']
theorem uE {n:Nat} {h:Hh} (h1:1<=n) (hn:n<=12):bE [.int n] h=.ok (.frl ((LS n).map tpI)) h:=by
 obtain⟨s,lp,si⟩:=um (σ:=D × Option D) (tg:=gN 2) (body:=LSB) (fun(i:Nat)=>D.int (((n - 1:Nat):Int) - 1 - i)) (n - 1) (fun s=>[some (.int n),some s.1,s.2]) (fun _=>h) (fun i s=>s.1=.frl ((LSf (n - 1 - i) i).map tpI)) (fun i s hi hs=>by
  obtain⟨X,y⟩:=s
  dsimp only at hs ⊢
  subst hs
  have e:((n - 1:Nat):Int) - 1 - (i:Int)=((n - 1 - (i+1):Nat):Int):=by omega
  have q:=Cj (p:=n - 1 - (i+1)) (m:=i) (h:=h) (d0:=some (.int n)) (by omega)
  rw[show n - 1 - (i+1)+1=n - 1 - i by omega] at q
  refine⟨(.frl ((LSf (n - 1 - (i+1)) (i+1)).map tpI),some (.int ((n - 1 - (i+1):Nat):Int))),rfl,?_⟩
  rw[e]
  simp only[xi,bz,List.set]
  exact q) (n - 1) 0 (.frl [tpI []],none) (by omega) rfl
 obtain⟨X,y⟩:=s
 dsimp only at lp si
 have si:X=.frl ((LS n).map tpI):=by rw[si];unfold LS;rw[Nat.sub_self]
 subst si
 have ir:(dnI (n - 1)).map D.int=(List.range' 0 (n - 1)).map fun(i:Nat)=>D.int (((n - 1:Nat):Int) - 1 - (i:Int)):=by unfold dnI;rw[List.map_map,List.range_eq_range'];rfl
 rw[<- ir] at lp
 have dn:=EY (n:=n - 1) (h:=h) (by omega)
 rw[show((n - 1:Nat):Int) - 1=(n:Int) - 2 by omega] at dn
 have cr:∀(a:MA) (env:En) (h:Hh),eg kz a env h=(a env h).bind kz:=fun _ _ _=>rfl
 have t0:tpI []=.tup []:=rfl
 rw[t0] at lp
 rw[ls_eq]
 generalize (LS n).map tpI=W at *
 generalize (dnI (n - 1)).map D.int=DN at *
 simp[cD,cr,dn,lp]
theorem ph {m:Nat} (L:List (List Int)):bN m (L.map tpI)=true:=n3 fun b=>by simp[tpI,jd]
noncomputable def Ez (A:List D):Prop:=∃L:List (List Int),A=L.map tpI
theorem k8 {m:Nat}:∀(ds:List D),bN m ds=true->bN m (ds++[.tup []])=true
 | [],_=>rfl
 | d::ds,e=>by
  rw[bN,Bool.and_eq_true] at e
  rw[List.cons_append,bN,Bool.and_eq_true]
  exact⟨e.1,k8 ds e.2⟩
noncomputable def MM2:MI:=(bo (ah eE (aa (ag 2) (aa (ag 0) ak))))
noncomputable def MCO:ME:=iI (eg fJ (aa (ag 0) ak)) [0] MM2 (ag 1)
theorem zV {n:Nat} {h:Hh} {d1 d2 d3:Option D} (w:Wf h) (h1:1<=n) (hn:n<=12):MCO [some (.int n),d1,d2,d3] h=.ok (.ref h.length) (h++[.lst ((AS n).map tpI)]):=by
 have z:n<=1000000:=by omega
 have s:eg fJ (aa (ag 0) ak) [some (.int n),d1,d2,d3] h=.ok (.snap (bj 0 n)) h:=by simp[z]
 have q:=D8 Ez (L:=List.range n) (sr:=.snap (bj 0 n)) (mi:=fun _ h=>.ok (.snap (bj 0 n)) h) (ix:=[0]) (env:=[some (.int n),d1,d2,d3]) (mi2:=MM2) (te:=ag 1) (H:=h) (fun(k:Nat)=>D.int k) (SO n) (fun _ s=>tpI s) (fun _ s=>tpI s) 2048
  rfl (by show(bj 0 n).length=_;rw[eC];simp) (fun A i=>by show some ((bj 0 n)[i]?)=_;rw[eC]) ⟨[],rfl⟩
  (fun k hk A ⟨L,e⟩=>by
   subst e
   have hk:k<n:=by simpa using hk
   have xm:=Aq (n:=n) (k:=k) (h:=h++[.lst (L.map tpI)]) (w.app (o:=.lst (L.map tpI)) (ph _)) h1 hn (by omega)
   have cp:cx [0] [some (.int n),d1,d2,d3] (some (.int k)) none=[some (.int k),none,some (.int n)]:=by simp[cx]
   rw[cp]
   have e2:(SO n k).map (fun s=>tpI s)=(SO n k).map tpI:=rfl
   rw[e2]
   generalize (SO n k).map tpI=W at *
   simp[MM2,xm])
  (fun k hk s hs A ⟨L,e⟩=>by
   have cp:cx [0] [some (.int n),d1,d2,d3] (some (.int k)) (some (tpI s))=[some (.int k),some (tpI s),some (.int n)]:=by simp[cx]
   rw[cp]
   exact⟨by simp,L++[s],by rw[e];simp⟩)
  (fun k hk=>yF hn) (by rw[List.length_range];omega)
 have e:((List.range n).flatMap fun k=>(SO n k).map fun s=>tpI s)=(AS n).map tpI:=by unfold AS;rw[List.map_flatMap]
 rw[e] at q
 unfold MCO iI
 rw[s,bz,q];rfl
theorem zh {n:Nat} {h t:Hh} (h1:1<=n) (hn:n<=12):kh aD [.ref h.length] (h++.lst ((AS n).map tpI)::t)=.ok (.frl ((LS n).map tpI)) (h++.lst ((AS n).map tpI)::t):=by
 obtain⟨e1,e2⟩:=Az h1 hn
 have pm:=uv h1
 have al:(AS n).length<=2048:=by
  rw[pm.length_eq];unfold LS;rw[h_]
  exact Nat.le_trans (Nat.pow_le_pow_right (by decide) (by omega:n - 1<=11)) (by decide)
 have l:gp (.ref h.length) (h++.lst ((AS n).map tpI)::t)=some ((AS n).map tpI):=dv
 delta kh;dsimp only
 rw[l]
 dsimp only
 rw[List.length_map]
 have tp:∀L:List (List Int),L.map tpI=L.map sJ:=fun _=>rfl
 by_cases c:(AS n).length<2
 ·rw[if_pos c]
  have:iT (AS n)=AS n:=by
   generalize AS n=L at c
   match L,c with
   | [],_=>rfl
   | [x],_=>rfl
  rw[<- e1,this];rfl
 ·rw[if_neg c,tp (AS n),mE]
  dsimp only
  have ok:okE (AS n)=true:=by
   unfold okE
   simp only[Bool.and_eq_true,decide_eq_true_eq,List.all_eq_true]
   refine⟨⟨⟨⟨by omega,by omega⟩,?_⟩,fun s hs=>?_⟩,e2⟩
   ·unfold AS
    obtain⟨m,rfl⟩:∃m,n=m+1:=⟨n - 1,by omega⟩
    rw[List.range_succ_eq_map,List.flatMap_cons,Ak];rfl
   ·have hi:=gh (n:=n) (pm.subset hs)
    exact⟨by omega,fun x hx=>by have:=hi.1.2 x hx;omega⟩
  rw[if_pos ok,e1];rfl
theorem sA {n:Nat} {s:List Int} (h:s∈LS n):Sub (n - 1) s:=⟨(gh h).1.1,fun x hx=>by have:=(gh h).1.2 x hx;omega⟩
noncomputable def JL (n:Nat):List Int:=(LS n).map (bR n)
noncomputable def MX (n:Nat):Int:=qq (JL n)
noncomputable def TM (n:Nat):List (List Int):=(LS n).filter fun s=>bR n s == MX n
noncomputable abbrev TD (n:Nat):D:=.tup [.int (MX n),.tup ((TM n).map tpI)]
theorem mq:∀{X:Type} (f g:X->D) (L:List X),iN (L.map f) (L.map g)=L.map fun x=>D.tup [f x,g x]
 | X,f,g,[]=>rfl
 | X,f,g,x::L=>by
  rw[List.map_cons,List.map_cons,List.map_cons,<- mq f g L];rfl
theorem DE {k:Nat} {L:List (List Int)}:deep (k+3) (.tup (L.map tpI))=true:=mH (k:=k)
theorem sV (n:Nat):0<(JL n).length:=by unfold JL LS;rw[List.length_map,pv];simp
theorem Ea {ns:List Int} {h:Hh} (hp:0<ns.length):gu [.frl (ns.map D.int)] h=.ok (.int (qq ns)) h:=by
 have l:gp (.frl (ns.map D.int)) h=some (ns.map D.int):=rfl
 simp only[gu,l,eK,if_pos hp]
theorem Ag:ck=fun ds h=>((cQ 4 (aF (cV (ah az (aa (ag 0) (aa (cC (.int 1)) (aa (cC (.int 10)) ak)))))
  (aF (bb 1 (ah (kh aD) (aa MCO ak)))
  (aF (bb 2 (bA aD (bo (ag 1)) [0] tt1 (ah cg (aa (ag 1) (aa (ag 0) ak)))))
  (aF (bb 3 (ah gu (aa (ag 2) ak)))
  (bO (ah cF (aa (ag 3) (aa (ah eJ (aa (bA aD (uw (aa (ag 1) (aa (ag 2) ak))) [3] (unp (a_ asB (au dEq (ag 1) (ag 2)))) (unp (ag 0))) ak)) ak))))))))) ds h).bind (cB h):=rfl
theorem Bo {n:Nat} {h:Hh} (w:Wf h) (h1:1<=n) (hn:n<=10):ck [.int n] h=.ok (TD n) h:=by
 have n1:=g_ (h:=h) (i:=(n:Int)) (a:=1) (b:=10) (by omega)
 have ac:=zV (n:=n) (h:=h) (d1:=none) (d2:=none) (d3:=none) w h1 (by omega)
 have so:=zh (n:=n) (h:=h) (t:=[]) h1 (by omega)
 have w1:Wf (h++[.lst ((AS n).map tpI)]):=w.app (o:=.lst ((AS n).map tpI)) (ph _)
 have ll:(LS n).length<=2048:=by unfold LS;rw[h_];exact Nat.le_trans (Nat.pow_le_pow_right (by decide) (by omega:n - 1<=11)) (by decide)
 have cj:cU tt1 (ah cg (aa (ag 1) (aa (ag 0) ak))) (fun d=>[some d,some (.int n)]) ((LS n).map tpI) (h++[.lst ((AS n).map tpI)])=.ok ((LS n).map fun s=>D.int (bR n s)) (h++[.lst ((AS n).map tpI)]):=lV tpI (fun s=>D.int (bR n s)) (LS n) (fun s hs=>by
  have xj:=Cq (n:=n) (h:=h++[.lst ((AS n).map tpI)]) h1 (by omega) (sA hs) w1
  generalize (AS n).map tpI=W at *
  unfold tpI
  simp[xj])
 have mx:gu [.frl ((LS n).map fun s=>D.int (bR n s))] (h++[.lst ((AS n).map tpI)])=.ok (.int (MX n)) (h++[.lst ((AS n).map tpI)]):=by
  have e:((LS n).map fun s=>D.int (bR n s))=(JL n).map D.int:=by unfold JL;rw[List.map_map];rfl
  rw[e];exact Ea (sV n)
 have cz:cU (unp (a_ asB (au dEq (ag 1) (ag 2)))) (unp (ag 0)) (fun d=>[some d,some (.int (MX n))]) (iN ((LS n).map tpI) ((LS n).map fun s=>D.int (bR n s))) (h++[.lst ((AS n).map tpI)])=.ok ((TM n).map tpI) (h++[.lst ((AS n).map tpI)]):=by
  rw[mq]
  rw[comp_map (fun s=>D.tup [tpI s,.int (bR n s)]) (fun s=>bR n s == MX n) tpI (LS n) (fun s _=>⟨by simp,fun _=>by simp⟩)]
  rfl
 have ex:cB h (TD n) (h++[.lst ((AS n).map tpI)])=.ok (TD n) h:=fQ w (by
  show(true&&(deep 7 (.tup ((TM n).map tpI))&&true))=true
  rw[DE (k:=4)];rfl)
 have zl:(iN ((LS n).map tpI) ((LS n).map fun s=>D.int (bR n s))).length<=1000000:=by rw[mq,List.length_map];omega
 have lt:((LS n).map tpI).length<=1000000:=by rw[List.length_map];omega
 rw[Ag]
 unfold TD at *
 generalize (AS n).map tpI=A at *
 generalize ((LS n).map fun s=>D.int (bR n s))=J at *
 generalize (LS n).map tpI=S at *
 generalize (TM n).map tpI=T at *
 generalize MX n=M at *
 simp[cD,n1,ac,so,lt,cj,mx,zl,cz,ex]
end FC
namespace FC
open PySem L2 L2.FE
noncomputable def B0:MS:=(aF (bb 10 (ah eB (aa (ag 4) (aa (ag 7) ak)))) (aF (iz (a_ asB (au dNe (ah eQ (aa (ag 10) ak)) (ah eQ (aa (ag 8) ak)))) (bO (cC (.bl false))) dI) (cV (ij c_ (ag 10) (aa (ah cF ak) ak)))))
noncomputable def B1:MS:=(aF (bb 8 (bA aD (bo (ah bE (aa (ag 4) ak))) [7] (a_ asB (au dEq (ah iK (aa (ag 0) ak)) (ag 1))) (ag 0))) (dU (eg fJ (aa (cC (.int 2)) ak)) (gN 9) B0))
noncomputable def B2:MS:=(aF (bb 2 (ah bF (aa (ag 1) ak))) (aF (mR 3 4 (aa (ah aE (aa (ag 2) (aa (cC (.int 2)) ak))) (aa (au (bQ aD) (cC (.int 1)) (ah aE (aa (ag 2) (aa (cC (.int 12)) ak)))) ak))) (aF (bb 5 (au (bQ aD) (cC (.int 1)) (ah aE (aa (ag 2) (aa (cC (.int 10)) ak))))) (aF (bb 6 (au dIx (ah (eR aD) (aa (ah aE (aa (ag 2) (aa (cC (.int 13)) ak))) (aa (ah aE (aa (ag 2) (aa (ag 4) ak))) ak))) (ag 3))) (aF (dU (bo (ah cF (aa (ag 6) (aa (cC (.int 0)) (aa (cC (.int 12)) ak))))) (gN 7) B1) (aF (bb 11 (bA aD (bo (ah bE (aa (ag 5) ak))) [5] tt1 (ah cF (aa (ah bS (aa (ag 1) (aa (ag 0) ak))) (aa (ag 0) ak))))) (aF (bb 12 (ah gu (aa (bA aD (bo (ag 11)) [] (unp tt1) (unp (ag 0))) ak))) (iz (a_ asB (au dNe (ah eQ (aa (ah ck (aa (ag 5) ak)) ak)) (ah eQ (aa (ah cF (aa (ag 12) (aa (ah eJ (aa (bA aD (bo (ag 11)) [12] (unp (a_ asB (au dEq (ag 0) (ag 2)))) (unp (ag 1))) ak)) ak))) ak)))) (bO (cC (.bl false))) dI))))))))
theorem wN:lF=fun ds h=>((cQ 13 (aF (dU (bo (au (bQ aD) (ah (eR aD) (aa (ah bw (aa (ag 0) (aa (cC (.int 0)) ak))) ak)) (dM aD (ag 0) (eZ (cC (.int 1))) (eZ (cC (.int 3)))))) (gN 1) B2) (bO (cC (.bl true))))) ds h).bind (cB h):=rfl
noncomputable def xT:Prop:=∀(ns:List Int) (c:Int) (y2 y3 y4 y5 y6 y7 y8 y9 y10 y11 y12:Option D) (h:Hh),Wf h->Ok (B2 [some (.scr (ns.map D.int)),some (.int c),y2,y3,y4,y5,y6,y7,y8,y9,y10,y11,y12] h) fun fl h2=>∃z2 z3 z4 z5 z6 z7 z8 z9 z10 z11 z12,fl=.nx [some (.scr (ns.map D.int)),some (.int c),z2,z3,z4,z5,z6,z7,z8,z9,z10,z11,z12]/\Wf h2
theorem B6 (step:xT) (ns:List Int) (hl:ns.length<=63):∃h,lF [.scr (ns.map D.int)] []=.ok (.bl true) h:=by
 have key:Ok (cS (gN 1) B2 (((ns.headD 0)::jH ns (some 1) (some 3)).map D.int) [some (.scr (ns.map D.int)),none,none,none,none,none,none,none,none,none,none,none,none] []) fun fl h2=>(∃e,fl=.nx e)/\Wf h2:=by
  refine oW D.int (fun e h=>(∃y1 y2 y3 y4 y5 y6 y7 y8 y9 y10 y11 y12,e=[some (.scr (ns.map D.int)),y1,y2,y3,y4,y5,y6,y7,y8,y9,y10,y11,y12])/\Wf h) _ _ _ ⟨⟨_,_,_,_,_,_,_,_,_,_,_,_,rfl⟩,Wf.nil⟩ (fun x e h _ ⟨⟨y1,y2,y3,y4,y5,y6,y7,y8,y9,y10,y11,y12,e1⟩,w⟩=>?_) (fun e h ⟨_,w⟩=>⟨⟨_,rfl⟩,w⟩)
  subst e1
  simp only[xi,bz,List.set]
  refine(step ns x y2 y3 y4 y5 y6 y7 y8 y9 y10 y11 y12 h w).mono fun fl h2 ⟨z2,z3,z4,z5,z6,z7,z8,z9,z10,z11,z12,e2,w2⟩=>?_
  subst e2
  exact⟨⟨_,_,_,_,_,_,_,_,_,_,_,_,rfl⟩,w2⟩
 obtain⟨fl,h2,e,⟨e',rfl⟩,w⟩:=key
 have cl:=zW ns (some 1) (some 3)
 have c1:1+(jH ns (some 1) (some 3)).length<=1000000:=by omega
 have ex:cB [] (.bl true) h2=.ok (.bl true) []:=by
  have:=fQ (h:=[]) (t:=h2) (d:=.bl true) Wf.nil rfl
  simpa using this
 refine⟨[],?_⟩
 have e2:cS (gN 1) B2 (D.int (ns.headD 0)::(jH ns (some 1) (some 3)).map D.int) [some (.scr (ns.map D.int)),none,none,none,none,none,none,none,none,none,none,none,none] []=.ok (.nx e') h2:=e
 rw[wN]
 simp[cD,vZ,c1,e2,ex,-List.headD_eq_head?_getD]
noncomputable def S1:MS:=(bb 2 (ah bF (aa (ag 1) ak)))
noncomputable def S2:MS:=(mR 3 4 (aa (ah aE (aa (ag 2) (aa (cC (.int 2)) ak))) (aa (au (bQ aD) (cC (.int 1)) (ah aE (aa (ag 2) (aa (cC (.int 12)) ak)))) ak)))
noncomputable def S3:MS:=(bb 5 (au (bQ aD) (cC (.int 1)) (ah aE (aa (ag 2) (aa (cC (.int 10)) ak)))))
noncomputable def S4:MS:=(bb 6 (au dIx (ah (eR aD) (aa (ah aE (aa (ag 2) (aa (cC (.int 13)) ak))) (aa (ah aE (aa (ag 2) (aa (ag 4) ak))) ak))) (ag 3)))
noncomputable def S5:MS:=(dU (bo (ah cF (aa (ag 6) (aa (cC (.int 0)) (aa (cC (.int 12)) ak))))) (gN 7) B1)
noncomputable def S6:MS:=(bb 11 (bA aD (bo (ah bE (aa (ag 5) ak))) [5] tt1 (ah cF (aa (ah bS (aa (ag 1) (aa (ag 0) ak))) (aa (ag 0) ak)))))
noncomputable def S7:MS:=(bb 12 (ah gu (aa (bA aD (bo (ag 11)) [] (unp tt1) (unp (ag 0))) ak)))
noncomputable def S8:MS:=(iz (a_ asB (au dNe (ah eQ (aa (ah ck (aa (ag 5) ak)) ak)) (ah eQ (aa (ah cF (aa (ag 12) (aa (ah eJ (aa (bA aD (bo (ag 11)) [12] (unp (a_ asB (au dEq (ag 0) (ag 2)))) (unp (ag 1))) ak)) ak))) ak)))) (bO (cC (.bl false))) dI)
theorem D5:B2=aF S1 (aF S2 (aF S3 (aF S4 (aF S5 (aF S6 (aF S7 (S8))))))):=rfl
end FC
namespace FC
open PySem L2 L2.FE L2.Srt
theorem rC (bt:Nat->Nat->Bool):∀k,argBest bt k<=k
 | 0=>Nat.le_refl _
 | k+1=>by
  have ih:=rC bt k
  unfold argBest
  split<;>omega
theorem max_mem {ns:List Int} (h:0<ns.length):qq ns∈ns:=by
 unfold qq
 have:=rC (fun i j=>decide (ns.getD i 0 > ns.getD j 0)) (ns.length - 1)
 rw[List.getD_eq_getElem?_getD,List.getElem?_eq_getElem (by omega)]
 exact List.getElem_mem _
theorem C0:∀n,n<13->∀z,z<13->(SO n z).length*(z+1)<=8000:=by decide +kernel
theorem jC {k:Nat} {h:Hh}:∀{L:List (List Int)},(∀b∈L,∀x∈b,sml x=true)->cW (toPy (k+2) h) (L.map tpI)=some (L.map fun b=>PyData.tuple (b.map PyData.int))
 | [],_=>rfl
 | b::L,hs=>by
  have e1:toPy (k+2) h (tpI b)=some (.tuple (b.map PyData.int)):=by
   show(cW (toPy (k+1) h) (b.map D.int)).map PyData.tuple=_
   rw[mF (hs b List.mem_cons_self)];rfl
  rw[List.map_cons,cW,e1,jC fun x hx=>hs x (List.mem_cons_of_mem _ hx)]
  rfl
theorem qg {m:Nat}:∀{L:List (List Int)},(∀b∈L,b.length<=m)->PyData.bulkAll (L.map fun b=>PyData.tuple (b.map PyData.int))<=L.length*(m+1)
 | [],_=>by simp[PyData.bulkAll]
 | b::L,hs=>by
  have:=hs b List.mem_cons_self
  have:=qg (L:=L) fun x hx=>hs x (List.mem_cons_of_mem _ hx)
  rw[List.map_cons,PyData.bulkAll,PyData.bulk,nY,List.length_cons,Nat.add_mul];omega
noncomputable abbrev shS (L:List (List Int)):Str:=PyData.shown (.list (L.map fun b=>PyData.tuple (b.map PyData.int)))
theorem wU {n:Nat} {s:List Int} (hn:n<=12) (h:InS 0 (n - 1) s):∀x∈s,sml x=true:=fun x hx=>bB (by have:=h.2 x hx;omega) (by have:=h.2 x hx;omega)
theorem Dw {n z:Nat} (hn:n<=12) (hz:z<=12):(∀(h:Hh) (m:Nat),ay h m=some ((SO n z).map tpI)->eQ [.ref m] h=.ok (.str (shS (SO n z))) h)/\∀h:Hh,eQ [.frl ((SO n z).map tpI)] h=.ok (.str (shS (SO n z))) h:=by
 have hs:∀b∈SO n z,∀x∈b,sml x=true:=fun b hb=>wU hn (A2 hb).1
 have bk:PyData.bulk (.list ((SO n z).map fun b=>PyData.tuple (b.map PyData.int)))<=8000:=by
  have:=qg (m:=z) (L:=SO n z) fun b hb=>Nat.le_of_eq (oO (n - 1) 0 z b hb)
  rw[PyData.bulk]
  exact Nat.le_trans this (C0 n (by omega) z (by omega))
 refine⟨fun h m e=>?_,fun h=>?_⟩
 ·have e1:toPy 12 h (.ref m)=some (.list ((SO n z).map fun b=>PyData.tuple (b.map PyData.int))):=by
   show(match ay h m with | some ds=>(cW (toPy (9+2) h) ds).map PyData.list | none=>none)=_
   rw[e]
   show(cW (toPy (9+2) h) ((SO n z).map tpI)).map PyData.list=_
   rw[jC hs];rfl
  show lJ (.ref m) h=_
  delta lJ;rw[e1];exact if_pos bk
 ·have e1:toPy 12 h (.frl ((SO n z).map tpI))=some (.list ((SO n z).map fun b=>PyData.tuple (b.map PyData.int))):=by
   show(cW (toPy (9+2) h) ((SO n z).map tpI)).map PyData.list=_
   rw[jC hs];rfl
  show lJ (.frl ((SO n z).map tpI)) h=_
  delta lJ;rw[e1];exact if_pos bk
theorem wX {n:Nat} {s:List Int} (h1:1<=n) (hn:n<=10) (h:s∈LS n):sml (bR n s)=true:=by
 obtain⟨e1,e2⟩:=uc h1 hn (sA h)
 rw[e1]
 unfold AH
 have hl:=g9 n (s++[(n:Int) - 1]) (s.length+1)
 have:=e2 _ (sW (ns:=cZ n (s++[(n:Int) - 1]) (s.length+1)) (j:=s.length) (by omega))
 exact bB (by omega) (by omega)
theorem Cd {n:Nat} (h1:1<=n) (hn:n<=10):∃sh,∀h:Hh,eQ [TD n] h=.ok (.str sh) h:=by
 have sM:sml (MX n)=true:=by
  have:=max_mem (sV n)
  obtain⟨s,hs,e⟩:=List.mem_map.mp this
  have q:=wX h1 hn hs
  rw[e] at q;exact q
 have tl:(TM n).length<=512:=by
  refine Nat.le_trans (List.length_filter_le _ _) ?_
  unfold LS;rw[h_]
  exact Nat.le_trans (Nat.pow_le_pow_right (by decide) (by omega:n - 1<=9)) (by decide)
 have hT:∀b∈TM n,b∈LS n:=fun b hb=>(List.mem_filter.mp hb).1
 have hs:∀b∈TM n,∀x∈b,sml x=true:=fun b hb=>wU (by omega:n<=12) (gh (hT b hb)).1
 have bk:PyData.bulk (.tuple [.int (MX n),.tuple ((TM n).map fun b=>PyData.tuple (b.map PyData.int))])<=8000:=by
  have:=qg (m:=9) (L:=TM n) fun b hb=>by have:=(gh (hT b hb)).2;omega
  simp only[PyData.bulk,PyData.bulkAll];omega
 refine⟨PyData.shown (.tuple [.int (MX n),.tuple ((TM n).map fun b=>PyData.tuple (b.map PyData.int))]),fun h=>?_⟩
 have e2:toPy 11 h (.int (MX n))=some (.int (MX n)):=by show(if sml (MX n)=true then some (PyData.int (MX n)) else none)=_;rw[if_pos sM]
 have e3:toPy 11 h (.tup ((TM n).map tpI))=some (.tuple ((TM n).map fun b=>PyData.tuple (b.map PyData.int))):=by
  show(cW (toPy (8+2) h) ((TM n).map tpI)).map PyData.tuple=_
  rw[jC hs];rfl
 have e4:toPy 12 h (TD n)=some (.tuple [.int (MX n),.tuple ((TM n).map fun b=>PyData.tuple (b.map PyData.int))]):=by
  show(cW (toPy 11 h) [.int (MX n),.tup ((TM n).map tpI)]).map PyData.tuple=_
  simp only[cW,e2,e3];rfl
 show lJ (TD n) h=_
 delta lJ;rw[e4];exact if_pos bk
section
variable {d0 d1 y2 y3 y4 y5 y6 y7 y8 y9 y10 y11 y12:Option D} {c:Int} {p:Pen} {h:Hh}
theorem A0 {n z:Nat} (w:Wf h) (h1:1<=n) (hn:n<=12) (hz:z<=12):B0 [d0,d1,y2,y3,some (.int n),y5,y6,some (.int z),some (.frl ((SO n z).map tpI)),y9,y10,y11,y12] h=.ok (.nx [d0,d1,y2,y3,some (.int n),y5,y6,some (.int z),some (.frl ((SO n z).map tpI)),y9,some (.ref h.length),y11,y12]) (h++[.lst ((SO n z).map tpI++[.tup []])]):=by
 have rs:=yZ (k:=z) w h1 hn hz
 obtain⟨r1,r2⟩:=Dw (n:=n) (z:=z) hn hz
 have q1:=r1 (h++[.lst ((SO n z).map tpI)]) h.length dv
 have q2:=r2 (h++[.lst ((SO n z).map tpI)])
 have l:((SO n z).map tpI).length<1000000:=by rw[List.length_map];have:=yF (n:=n) (k:=z) hn;omega
 generalize shS (SO n z)=SH at *
 generalize (SO n z).map tpI=S at *
 simp[B0,rs,q1,q2,l]
theorem yb {n z:Nat} (w:Wf h) (h1:1<=n) (hn:n<=12) (hz:z<=12):∃z8 z9 z10 T,B1 [d0,d1,y2,y3,some (.int n),y5,y6,some (.int z),y8,y9,y10,y11,y12] h=.ok (.nx [d0,d1,y2,y3,some (.int n),y5,y6,some (.int z),z8,z9,z10,y11,y12]) (h++T)/\Wf (h++T):=by
 have ls:=uE (n:=n) (h:=h) h1 hn
 have ll:(LS n).length<=2048:=by unfold LS;rw[h_];exact Nat.le_trans (Nat.pow_le_pow_right (by decide) (by omega:n - 1<=11)) (by decide)
 have q:cU (a_ asB (au dEq (ah iK (aa (ag 0) ak)) (ag 1))) (ag 0) (fun d=>[some d,some (.int z)]) ((LS n).map tpI) h=.ok ((SO n z).map tpI) h:=by
  rw[comp_map tpI (fun s=>s.length == z) tpI (LS n) (fun s _=>by
   have e:((s.length:Int) == (z:Int))=(s.length == z):=by rw[Bool.eq_iff_iff];simp;omega
   exact⟨by simp[tpI,e],fun _=>by simp⟩),uP]
 have l1:((LS n).map tpI).length<=1000000:=by rw[List.length_map];omega
 have w1:Wf (h++[.lst ((SO n z).map tpI++[.tup []])]):=w.app (o:=.lst ((SO n z).map tpI++[.tup []])) (show bN _ _=true from k8 _ (ph _))
 have w2:Wf ((h++[.lst ((SO n z).map tpI++[.tup []])])++[.lst ((SO n z).map tpI++[.tup []])]):=w1.app (o:=.lst ((SO n z).map tpI++[.tup []])) (show bN _ _=true from k8 _ (ph _))
 have b1:=A0 (d0:=d0) (d1:=d1) (y2:=y2) (y3:=y3) (y5:=y5) (y6:=y6) (y9:=some (.int 0)) (y10:=y10) (y11:=y11) (y12:=y12) w h1 hn hz
 have b2:=A0 (d0:=d0) (d1:=d1) (y2:=y2) (y3:=y3) (y5:=y5) (y6:=y6) (y9:=some (.int 1)) (y10:=some (.ref h.length)) (y11:=y11) (y12:=y12) w1 h1 hn hz
 rw[List.append_assoc] at b2 w2
 have lp:cS (gN 9) B0 [.int 0,.int 1] [d0,d1,y2,y3,some (.int n),y5,y6,some (.int z),some (.frl ((SO n z).map tpI)),y9,y10,y11,y12] h=.ok (.nx [d0,d1,y2,y3,some (.int n),y5,y6,some (.int z),some (.frl ((SO n z).map tpI)),some (.int 1),some (.ref (h++[O.lst ((SO n z).map tpI++[.tup []])]).length),y11,y12]) (h++([.lst ((SO n z).map tpI++[.tup []])]++[.lst ((SO n z).map tpI++[.tup []])])):=by
  rw[jF]
  simp only[xi,bz,List.set,b1,xP]
  rw[jF]
  simp only[xi,bz,List.set,b2,xP,uL]
 refine⟨some (.frl ((SO n z).map tpI)),some (.int 1),some (.ref (h++[O.lst ((SO n z).map tpI++[.tup []])]).length),[.lst ((SO n z).map tpI++[.tup []])]++[.lst ((SO n z).map tpI++[.tup []])],?_,w2⟩
 have i2:bj 0 2=[.int 0,.int 1]:=rfl
 generalize (h++[O.lst ((SO n z).map tpI++[.tup []])]).length=LN at *
 generalize ([O.lst ((SO n z).map tpI++[D.tup []])]++[O.lst ((SO n z).map tpI++[D.tup []])])=TT at *
 generalize (LS n).map tpI=S at *
 generalize (SO n z).map tpI=S1 at *
 simp[B1,ls,l1,q,i2,lp]
theorem Eg:S1 [d0,some (.int c),y2,y3,y4,y5,y6,y7,y8,y9,y10,y11,y12] h=.ok (.nx [d0,some (.int c),some (.ref h.length),y3,y4,y5,y6,y7,y8,y9,y10,y11,y12]) (h++[.lst (h8 (uh c))]):=by simp[S1]
theorem D0:∃(wy n:Nat) (p':Pen),wy<2/\1<=n/\n<=12/\S2 [d0,d1,some (.ref h.length),y3,y4,y5,y6,y7,y8,y9,y10,y11,y12] (h++[.lst (h8 p)])=.ok (.nx [d0,d1,some (.ref h.length),some (.int wy),some (.int n),y5,y6,y7,y8,y9,y10,y11,y12]) (h++[.lst (h8 p')]):=by
 have dn:(0:Int)<2/\(2:Int)<=10 ^ 20:=by decide
 have dm:(0:Int)<12/\(12:Int)<=10 ^ 20:=by decide
 obtain⟨k,e,hk⟩:=lL p (m:=2) (by decide)
 obtain⟨n,e2,n1,n2⟩:=oj (eI p 2) (m:=12) (by decide)
 have e:dA p 2=(k:Int):=e
 have e2:1+dA (eI p 2) 12=(n:Int):=e2
 exact⟨k,n,eI (eI p 2) 12,hk,n1,n2,by simp[S2,fX dn,fX dm,e,e2]⟩
theorem DG:∃(m:Nat) (p':Pen),1<=m/\m<=10/\S3 [d0,d1,some (.ref h.length),y3,y4,y5,y6,y7,y8,y9,y10,y11,y12] (h++[.lst (h8 p)])=.ok (.nx [d0,d1,some (.ref h.length),y3,y4,some (.int m),y6,y7,y8,y9,y10,y11,y12]) (h++[.lst (h8 p')]):=by
 have dn:(0:Int)<10/\(10:Int)<=10 ^ 20:=by decide
 obtain⟨k,e,k1,hk⟩:=oj p (m:=10) (by decide)
 have e:1+dA p 10=(k:Int):=e
 exact⟨k,eI p 10,k1,hk,by simp[S3,fX dn,e]⟩
theorem Dr {wy n:Nat} (hw:wy<2) (h1:1<=n) (hn:n<=12):∃(z:Nat) (p':Pen),z<=12/\S4 [d0,d1,some (.ref h.length),some (.int wy),some (.int n),y5,y6,y7,y8,y9,y10,y11,y12] (h++[.lst (h8 p)])=.ok (.nx [d0,d1,some (.ref h.length),some (.int wy),some (.int n),y5,some (.int z),y7,y8,y9,y10,y11,y12]) (h++[.lst (h8 p')]):=by
 have dn:(0:Int)<13/\(13:Int)<=10 ^ 20:=by decide
 have dm:(0:Int)<n/\(n:Int)<=10 ^ 20:=by omega
 obtain⟨k1,e1,b1⟩:=lL p (m:=13) (by decide)
 obtain⟨k2,e2,b2⟩:=C8 (eI p 13) n dm.1
 have e1:dA p 13=(k1:Int):=e1
 have:wy=0\/wy=1:=by omega
 rcases this with rfl | rfl
 ·exact⟨k1,eI (eI p 13) n,by omega,by simp[S4,fX dn,fX dm,e1,e2]⟩
 ·exact⟨k2,eI (eI p 13) n,by omega,by simp[S4,fX dn,fX dm,e1,e2]⟩
theorem C7 {n z:Nat} (w:Wf h) (h1:1<=n) (hn:n<=12) (hz:z<=12):∃z7 z8 z9 z10 T,S5 [d0,d1,y2,y3,some (.int n),y5,some (.int z),y7,y8,y9,y10,y11,y12] h=.ok (.nx [d0,d1,y2,y3,some (.int n),y5,some (.int z),z7,z8,z9,z10,y11,y12]) (h++T)/\Wf (h++T):=by
 obtain⟨a8,a9,a10,T1,e1,w1⟩:=yb (d0:=d0) (d1:=d1) (y2:=y2) (y3:=y3) (y5:=y5) (y6:=some (.int z)) (y8:=y8) (y9:=y9) (y10:=y10) (y11:=y11) (y12:=y12) w h1 hn hz
 obtain⟨b8,b9,b10,T2,e2,w2⟩:=yb (z:=0) (d0:=d0) (d1:=d1) (y2:=y2) (y3:=y3) (y5:=y5) (y6:=some (.int z)) (y8:=a8) (y9:=a9) (y10:=a10) (y11:=y11) (y12:=y12) w1 h1 hn (by decide)
 obtain⟨c8,c9,c10,T3,e3,w3⟩:=yb (z:=12) (d0:=d0) (d1:=d1) (y2:=y2) (y3:=y3) (y5:=y5) (y6:=some (.int z)) (y8:=b8) (y9:=b9) (y10:=b10) (y11:=y11) (y12:=y12) w2 h1 hn (by decide)
 refine⟨some (.int 12),c8,c9,c10,T1++T2++T3,?_,by simpa using w3⟩
 have e2:B1 [d0,d1,y2,y3,some (.int n),y5,some (.int z),some (.int 0),a8,a9,a10,y11,y12] (h++T1)=_:=e2
 have e3:B1 [d0,d1,y2,y3,some (.int n),y5,some (.int z),some (.int 12),b8,b9,b10,y11,y12] (h++T1++T2)=_:=e3
 rw[show h++(T1++T2++T3)=h++T1++T2++T3 by simp]
 generalize h++T1++T2++T3=H3 at *
 generalize h++T1++T2=H2 at *
 generalize h++T1=H1 at *
 simp[S5,jF,uL,e1,e2,e3]
noncomputable abbrev CT (n:Nat):List D:=(LS n).map fun s=>D.tup [.int (bR n s),tpI s]
theorem ym {n:Nat} (hn:n<=12):(LS n).length<=2048:=by unfold LS;rw[h_];exact Nat.le_trans (Nat.pow_le_pow_right (by decide) (by omega:n - 1<=11)) (by decide)
theorem Du {n:Nat} (w:Wf h) (h1:1<=n) (hn:n<=10):S6 [d0,d1,y2,y3,y4,some (.int n),y6,y7,y8,y9,y10,y11,y12] h=.ok (.nx [d0,d1,y2,y3,y4,some (.int n),y6,y7,y8,y9,y10,some (.frl (CT n)),y12]) h:=by
 have ls:=uE (n:=n) (h:=h) h1 (by omega)
 have q:cU tt1 (ah cF (aa (ah bS (aa (ag 1) (aa (ag 0) ak))) (aa (ag 0) ak))) (fun d=>[some d,some (.int n)]) ((LS n).map tpI) h=.ok (CT n) h:=lV tpI (fun s=>D.tup [.int (bR n s),tpI s]) (LS n) (fun s hs=>by
  have xj:=u0 (n:=n) (h:=h) h1 hn (sA hs) w
  unfold tpI
  simp[xj])
 have l1:((LS n).map tpI).length<=1000000:=by rw[List.length_map];have:=ym (n:=n) (by omega);omega
 generalize CT n=C at *
 generalize (LS n).map tpI=S at *
 simp[S6,ls,l1,q]
theorem AB {n:Nat}:cU (unp tt1) (unp (ag 0)) (fun d=>[some d]) (CT n) h=.ok ((JL n).map D.int) h:=by
 rw[comp_map (tt:=unp tt1) (te:=unp (ag 0)) (ee:=fun d=>[some d]) (fun s=>D.tup [.int (bR n s),tpI s]) (fun _=>true) (fun s=>D.int (bR n s)) (LS n) (fun s _=>⟨by simp,fun _=>by simp⟩),List.filter_eq_self.mpr (fun _ _=>rfl)]
 unfold JL;rw[List.map_map];rfl
theorem D_ {n:Nat} (hn:n<=10):S7 [d0,d1,y2,y3,y4,y5,y6,y7,y8,y9,y10,some (.frl (CT n)),y12] h=.ok (.nx [d0,d1,y2,y3,y4,y5,y6,y7,y8,y9,y10,some (.frl (CT n)),some (.int (MX n))]) h:=by
 have q:=AB (n:=n) (h:=h)
 have m:=Ea (h:=h) (sV n)
 have l1:(CT n).length<=1000000:=by unfold CT;rw[List.length_map];have:=ym (n:=n) (by omega);omega
 have m:gu [.frl ((JL n).map D.int)] h=.ok (.int (MX n)) h:=m
 generalize CT n=C at *
 generalize (JL n).map D.int=J at *
 generalize MX n=M at *
 simp[S7,l1,q,m]
theorem Dz {n:Nat} (w:Wf h) (h1:1<=n) (hn:n<=10):S8 [d0,d1,y2,y3,y4,some (.int n),y6,y7,y8,y9,y10,some (.frl (CT n)),some (.int (MX n))] h=.ok (.nx [d0,d1,y2,y3,y4,some (.int n),y6,y7,y8,y9,y10,some (.frl (CT n)),some (.int (MX n))]) h:=by
 obtain⟨sh,rp⟩:=Cd h1 hn
 have rp:=rp h
 have mo:=Bo w h1 hn
 have q:cU (unp (a_ asB (au dEq (ag 0) (ag 2)))) (unp (ag 1)) (fun d=>[some d,some (.int (MX n))]) (CT n) h=.ok ((TM n).map tpI) h:=by
  rw[comp_map (fun s=>D.tup [.int (bR n s),tpI s]) (fun s=>bR n s == MX n) tpI (LS n) (fun s _=>⟨by simp,fun _=>by simp⟩)]
  rfl
 have l1:(CT n).length<=1000000:=by unfold CT;rw[List.length_map];have:=ym (n:=n) (by omega);omega
 unfold TD at *
 generalize CT n=C at *
 generalize (TM n).map tpI=T at *
 generalize MX n=M at *
 simp[S8,mo,rp,l1,q]
end
theorem y_:xT:=by
 intro ns c y2 y3 y4 y5 y6 y7 y8 y9 y10 y11 y12 h w
 rw[D5]
 obtain⟨wy,n,p2,hw,n1,n12,e2⟩:=D0 (d0:=some (.scr (ns.map D.int))) (d1:=some (.int c)) (y3:=y3) (y4:=y4) (y5:=y5) (y6:=y6) (y7:=y7) (y8:=y8) (y9:=y9) (y10:=y10) (y11:=y11) (y12:=y12) (h:=h) (p:=uh c)
 obtain⟨m,p3,m1,m10,e3⟩:=DG (d0:=some (.scr (ns.map D.int))) (d1:=some (.int c)) (y3:=some (.int wy)) (y4:=some (.int n)) (y5:=y5) (y6:=y6) (y7:=y7) (y8:=y8) (y9:=y9) (y10:=y10) (y11:=y11) (y12:=y12) (h:=h) (p:=p2)
 obtain⟨z,p4,hz,e4⟩:=Dr (d0:=some (.scr (ns.map D.int))) (d1:=some (.int c)) (y5:=some (.int m)) (y6:=y6) (y7:=y7) (y8:=y8) (y9:=y9) (y10:=y10) (y11:=y11) (y12:=y12) (h:=h) (p:=p3) hw n1 n12
 obtain⟨z7,z8,z9,z10,T,e5,w5⟩:=C7 (d0:=some (.scr (ns.map D.int))) (d1:=some (.int c)) (y2:=some (.ref h.length)) (y3:=some (.int wy)) (y5:=some (.int m)) (y7:=y7) (y8:=y8) (y9:=y9) (y10:=y10) (y11:=y11) (y12:=y12) (B8 w p4) n1 n12 hz
 have e6:=Du (d0:=some (.scr (ns.map D.int))) (d1:=some (.int c)) (y2:=some (.ref h.length)) (y3:=some (.int wy)) (y4:=some (.int n)) (y6:=some (.int z)) (y7:=z7) (y8:=z8) (y9:=z9) (y10:=z10) (y11:=y11) (y12:=y12) w5 m1 m10
 have e7:=D_ (d0:=some (.scr (ns.map D.int))) (d1:=some (.int c)) (y2:=some (.ref h.length)) (y3:=some (.int wy)) (y4:=some (.int n)) (y5:=some (.int m)) (y6:=some (.int z)) (y7:=z7) (y8:=z8) (y9:=z9) (y10:=z10) (y12:=y12) (h:=h++[.lst (h8 p4)]++T) (n:=m) m10
 have e8:=Dz (d0:=some (.scr (ns.map D.int))) (d1:=some (.int c)) (y2:=some (.ref h.length)) (y3:=some (.int wy)) (y4:=some (.int n)) (y6:=some (.int z)) (y7:=z7) (y8:=z8) (y9:=z9) (y10:=z10) w5 m1 m10
 refine⟨.nx [some (.scr (ns.map D.int)),some (.int c),some (.ref h.length),some (.int wy),some (.int n),some (.int m),some (.int z),z7,z8,z9,z10,some (.frl (CT m)),some (.int (MX m))],h++[.lst (h8 p4)]++T,?_,_,_,_,_,_,_,_,_,_,_,_,rfl,w5⟩
 simp only[DL,Eg,bz,Fb,e2,e3,e4,e5,e6,e7,e8]
theorem Co (ns:List Int) (hl:ns.length<=63):∃h,lF [.scr (ns.map D.int)] []=.ok (.bl true) h:=B6 y_ ns hl
end FC
open PySem PySem.W PyProof.Rows
local macro_rules | `(tactic| o_head $H)=>`(tactic| (refine holds_open (q:=FC.Q) (loose:=[]) (Xt:=(fun s=>xlAt FC.Q [] s&&recOk (RowW.records (OpenRow.toRowW (OpenLaw.row PySem.Challenge.rw_fallcounts_k34_sets_listed_and_greatest))) s)) (XP:=XL FC.Q []) (Yf:=Hook.obs $H) (Ya:=Hook.val $H) (YP:=Hook.says $H) (N:=2718) (L2.FE.vO (by decide) (by kernel_rfl) (fun _=>by kernel_rfl) FC.DV FC.Dn (fun w os=>by kernel_rfl)) (Hook.of $H) (Hook.keeps $H) (fun s e=>xl_of s (Bool.and_eq_true_iff.mp e).1) XL.keeps (by rfl) (by rfl) (by rfl) (fun s e=>recFacts_of (Bool.and_eq_true_iff.mp e).2) (by rfl) (by first | assumption | decide +kernel) (by decide +kernel) ⟨rfl,rfl,rfl,rfl,rfl,by decide +kernel⟩ ?hw ?hc))
set_option maxRecDepth 100000 in
set_option maxHeartbeats 0 in
theorem PySem.Challenge.cw_fallcounts_k34_sets_listed_and_greatest_holds : PySem.Challenge.rw_fallcounts_k34_sets_listed_and_greatest.Holds := by
 w_on;o_law;k_head;w_witness2
 k_fill
 refine FC.walk (l:=PySem.Challenge.rw_fallcounts_k34_sets_listed_and_greatest) rfl rfl (fun w h Y=>by first | exact PySem.W.kIn_of Y | exact PySem.W.km_in_of Y) FC.Co ?F
 case F=>
  intro w mg fa h KX G hmg
  have T:FC.Text (L2.KOf KX):=by
   dsimp only[L2.KOf]
   refine' ⟨?eM,?ft,?iD,?iw,?ik,?jl,?gQ,?dP,?dS,?jV,?fq,?gL,?iY,?gk,?jb,?gg,?fS,?gT,?ip,?gZ,?xM,?sk,?il,?xW,?gc,?wY,?tS,?x8,?p_,?tN,?lD,?wk,?pJ,?xE,?bX,?cv⟩
   (case eM=>refine' L2.FE.bG ?a ?l ?c ?k;(case a=>k_is);(case l=>k_is);(case c=>k_is);(case k=>k_is))
   (case ft=>refine' L2.FE.bG ?a ?l ?c ?k;(case a=>k_is);(case l=>k_is);(case c=>k_is);(case k=>k_is))
   (case iD=>refine' L2.FE.bG ?a ?l ?c ?k;(case a=>k_is);(case l=>k_is);(case c=>k_is);(case k=>k_is))
   (case iw=>refine' L2.FE.bG ?a ?l ?c ?k;(case a=>k_is);(case l=>k_is);(case c=>k_is);(case k=>k_is))
   (case ik=>refine' L2.FE.bG ?a ?l ?c ?k;(case a=>k_is);(case l=>k_is);(case c=>k_is);(case k=>k_is))
   (case jl=>refine' L2.FE.bG ?a ?l ?c ?k;(case a=>k_is);(case l=>k_is);(case c=>k_is);(case k=>k_is))
   (case gQ=>refine' L2.FE.bG ?a ?l ?c ?k;(case a=>k_is);(case l=>k_is);(case c=>k_is);(case k=>k_is))
   (case dP=>refine' L2.FE.bG ?a ?l ?c ?k;(case a=>k_is);(case l=>k_is);(case c=>k_is);(case k=>k_is))
   (case dS=>refine' L2.FE.bG ?a ?l ?c ?k;(case a=>k_is);(case l=>k_is);(case c=>k_is);(case k=>k_is))
   (case jV=>refine' L2.FE.bG ?a ?l ?c ?k;(case a=>k_is);(case l=>k_is);(case c=>k_is);(case k=>k_is))
   (case fq=>refine' L2.FE.bG ?a ?l ?c ?k;(case a=>k_is);(case l=>k_is);(case c=>k_is);(case k=>k_is))
   (case gL=>refine' L2.FE.bG ?a ?l ?c ?k;(case a=>k_is);(case l=>k_is);(case c=>k_is);(case k=>k_is))
   (case iY=>refine' L2.FE.bG ?a ?l ?c ?k;(case a=>k_is);(case l=>k_is);(case c=>k_is);(case k=>k_is))
   (case gk=>refine' L2.FE.bG ?a ?l ?c ?k;(case a=>k_is);(case l=>k_is);(case c=>k_is);(case k=>k_is))
   (case jb=>refine' L2.FE.bG ?a ?l ?c ?k;(case a=>k_is);(case l=>k_is);(case c=>k_is);(case k=>k_is))
   (case gg=>refine' L2.FE.bG ?a ?l ?c ?k;(case a=>k_is);(case l=>k_is);(case c=>k_is);(case k=>k_is))
   (case fS=>refine' L2.FE.bG ?a ?l ?c ?k;(case a=>k_is);(case l=>k_is);(case c=>k_is);(case k=>k_is))
   (case gT=>refine' L2.FE.bG ?a ?l ?c ?k;(case a=>k_is);(case l=>k_is);(case c=>k_is);(case k=>k_is))
   (case ip=>refine' L2.FE.bG ?a ?l ?c ?k;(case a=>k_is);(case l=>k_is);(case c=>k_is);(case k=>k_is))
   (case gZ=>refine' L2.FE.bG ?a ?l ?c ?k;(case a=>k_is);(case l=>k_is);(case c=>k_is);(case k=>k_is))
   (case xM=>refine' L2.FE.bG ?a ?l ?c ?k;(case a=>k_is);(case l=>k_is);(case c=>k_is);(case k=>k_is))
   (case sk=>k_is)
   (case il=>k_is)
   (case xW=>k_is)
   (case gc=>k_is)
   (case wY=>k_is)
   (case tS=>k_is)
   (case x8=>k_is)
   (case p_=>k_is)
   (case tN=>k_is)
   (case lD=>k_is)
   (case wk=>k_is)
   (case pJ=>k_is)
   (case xE=>k_is)
   (case bX=>exact⟨_,rfl⟩)
   (case cv=>exact⟨_,rfl⟩)
  exact FC.all_mk KX G hmg T
