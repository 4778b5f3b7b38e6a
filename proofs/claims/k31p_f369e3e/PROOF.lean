import PyProof.Rows.All
import Wide.All
import OpenK.AllK
import Wide.FinOn
import Lean
import KE.KNestM
import PyProof.EqAt
import PyProof.EqKinds
import PyProof.TupleCall
import PyProof.EnumMake
import PyProof.Draws
import KE.KDictList
import KE.KTryMore
import KE.KEqDict
import PyProof.ExcInit
import PyProof.InstStoreFacts
import KE.KSortTup
import PySem.Challenge.RW_fallcounts_k31_what_is_a_set
set_option Elab.async false
set_option linter.all false
set_option maxRecDepth 100000
set_option maxHeartbeats 8000000
namespace L2.FE
open PySem PySem.W PySem.Calls
noncomputable def Aa:List Obj->BT->Nat->Option BT
 | [],t,_=>some t
 | o::r,t,n=>match ((t.ins n o).get n).isSome with
  | true=>Aa r (t.ins n o) (n+1)
  | false=>none
theorem qZ {life:Life}:∀{r:List Obj} {t T:BT} {n:Nat} {a:Array Obj},Aa r t n=some T->absHeap t n life=⟨a,life⟩->absHeap T (n+r.length) life=⟨a++r.toArray,life⟩
 | [],t,T,n,a,h,e=>by cases h;simpa using e
 | o::r,t,T,n,a,h,e=>by
  unfold Aa at h
  cases g:((t.ins n o).get n).isSome with
  | false=>rw[g] at h;cases h
  | true=>
   rw[g] at h
   have x:absHeap (t.ins n o) (n+1) life=⟨a.push o,life⟩:=by rw[absHeap_ins g,e];rfl
   have:=qZ h x
   rw[List.length_cons,show n+(r.length+1)=n+1+r.length by omega,this]
   simp
noncomputable def uo (p:Program) (w:World) (n₀:Nat) (ann:Option Value):Nat->SharedT->Thread->Option SharedT
 | 0,_,_=>none
 | n+1,s,t=>match through t with
  | true=>some s
  | false=>match PySem.W.Fast.tw6613529449190102663 n₀ ann t with
   | false=>none
   | true=>match PySem.W.Fast.tw10156331382660048174 (PySem.W.Fast.tw11892475500146522536 PySem.W.Fast.tw14364793385576792824) p w s t with
    | some (s',t')=>uo p w n₀ ann n s' t'
    | none=>none
theorem rB {p:Program} {w:World} {n₀:Nat} {ann:Option Value}:∀{n:Nat} {s r:SharedT} {t:Thread},uo p w n₀ ann n s t=some r->topRun treeTable p w n₀ ann n s.abs t=some r.abs
 | 0,_,_,_,h=>by cases h
 | n+1,s,r,t,h=>by
  unfold uo at h
  unfold topRun
  cases ht:through t with
  | true=>rw[ht] at h;cases h;rfl
  | false=>
   rw[ht,<- PySem.W.Fast.te6613529449190102663] at h
   cases hk:stepOk n₀ ann t with
   | false=>simp only[hk] at h;cases h
   | true=>
    simp only[hk] at h
    rw[<- PySem.W.Fast.te10156331382660048174,<- PySem.W.Fast.te11892475500146522536,<- PySem.W.Fast.te14364793385576792824] at h
    cases hs:stepT (denote treeTable) p w s t with
    | none=>rw[hs] at h;cases h
    | some x=>obtain⟨s₂,t₂⟩:=x;rw[hs] at h;rw[stepT_spec hs];exact rB h
noncomputable def oD (p:Program) (w:World) (N:Nat) (os:OsState):Option SharedT:=
 match (boot_heap w.params).isNs mainGlobals with
 | true=>(Aa (boot_heap w.params).objs.toList .nil 0).bind fun T=>uo p w (boot_heap w.params).objs.size ((boot_heap w.params).nsMap mainGlobals (Str.ofString "__annotations__")) N ⟨T,(boot_heap w.params).objs.size,(boot_heap w.params).life,#[],boot_drawn,boot_toks,os⟩ (topStub p)
 | false=>none
noncomputable def zz (p:Program) (w:World) (s₁:Shared):Bool:=staticsOk (PySem.W.Fast.tw5923862056798008813 p.main.body) (boot_heap w.params) s₁.heap&&namesBound p s₁.heap&&gensDone s₁&&laidKept (boot_heap w.params) s₁.heap
theorem wK {p q:Program} {loose:List Str} {Xt:Shared->Bool} {α:Type} {Yf:Shared->α} {Ya:World->α} {N:Nat} (hN:Nat.ble 600 N=true) (e:opening p=plainProg p.main.scope.names) (f:∀s,fenceModules? p s=some s)
  (h1:∀(w:World) (os:OsState),(oD p w N os).map (fun s=>zz p w s.abs)=some true)
  (h2:∀(w:World) (os:OsState),(oD p w N os).map (fun s=>PySem.W.Fast.tw4187177175401517315 q loose (PySem.W.Fast.tw5923862056798008813 p.main.body) Xt true s.abs)=some (openGood q loose))
  (h3:∀(w:World) (os:OsState),(oD p w N os).map (fun s=>Yf s.abs)=some (Ya w)):LeftO p q loose Xt Yf Ya N:=fun w=>by
 obtain⟨s,hs,e'⟩:=Option.map_eq_some_iff.mp (boot_open e hN f w)
 obtain⟨H,gs,d,k,os⟩:=s
 obtain⟨rfl,rfl,rfl,rfl⟩:H=boot_heap w.params/\gs=_/\d=boot_drawn/\k=boot_toks:=by simpa using e'
 obtain⟨r,hr,l1⟩:=Option.map_eq_some_iff.mp (h1 w os)
 obtain⟨r2,hr2,l2⟩:=Option.map_eq_some_iff.mp (h2 w os)
 obtain⟨r3,hr3,l3⟩:=Option.map_eq_some_iff.mp (h3 w os)
 obtain rfl:r=r2:=Option.some.inj (hr.symm.trans hr2)
 obtain rfl:r=r3:=Option.some.inj (hr.symm.trans hr3)
 unfold zz at l1
 rw[<- PySem.W.Fast.te5923862056798008813] at l1
 rw[<- PySem.W.Fast.te4187177175401517315,<- PySem.W.Fast.te5923862056798008813] at l2
 unfold oD at hr
 cases hn:(boot_heap w.params).isNs mainGlobals with
 | false=>rw[hn] at hr;cases hr
 | true=>
  rw[hn] at hr
  obtain⟨T,hT,hr⟩:=Option.bind_eq_some_iff.mp hr
  have z:=qZ (life:=(boot_heap w.params).life) (n:=0) (a:=#[]) hT rfl
  have z':absHeap T (boot_heap w.params).objs.size (boot_heap w.params).life=boot_heap w.params:=by
   rw[Nat.zero_add,Array.length_toList] at z
   rw[z]
   simp
  have hr:=rB hr
  have st:(SharedT.mk T (boot_heap w.params).objs.size (boot_heap w.params).life #[] boot_drawn boot_toks os).abs=⟨boot_heap w.params,#[],boot_drawn,boot_toks,os⟩:=by
   show Shared.mk _ _ _ _ _=_
   rw[z']
  rw[st] at hr
  unfold openEnds
  rw[hs]
  show Option.map _ (topFrom treeTable p w N _)=_
  have t:topFrom treeTable p w N ⟨boot_heap w.params,#[],boot_drawn,boot_toks,os⟩=some r.abs:=by
   unfold topFrom
   dsimp only
   rw[hn]
   rw[hr]
   show(match staticsOk (importedModules p.main.body) (boot_heap w.params) r.abs.heap&&namesBound p r.abs.heap&&gensDone r.abs&&laidKept (boot_heap w.params) r.abs.heap with | true=>_ | false=>_)=_
   rw[l1]
  rw[t]
  show some (openSeen q loose (importedModules p.main.body) Xt true r.abs,Yf r.abs)=_
  rw[l2,l3]
noncomputable def viewOf (p:Program) (keep:List Nat):Program:={ p with main:={ p.main with body:=keep.filterMap fun i=>p.main.body[i]? } }
end L2.FE
section
open PySem PySem.W PyProof.Rows
noncomputable def FC.Q:Program:=L2.FE.viewOf PySem.Challenge.pw_fallcounts_k31_what_is_a_set [1,2,3,4,5,6,7,8,10,11,12,14,15,16,17,18,19,21,22,23,24,25,26,27,28,29,30,31,32,33,34]
theorem FC.Ee:∀(w:World) (os:OsState),(L2.FE.oD PySem.Challenge.pw_fallcounts_k31_what_is_a_set w 5008 os).map (fun s=>L2.FE.zz PySem.Challenge.pw_fallcounts_k31_what_is_a_set w s.abs)=some true:=fun w os=>by kernel_rfl
theorem FC.Fb:∀(w:World) (os:OsState),(L2.FE.oD PySem.Challenge.pw_fallcounts_k31_what_is_a_set w 5008 os).map (fun s=>PySem.W.Fast.tw4187177175401517315 FC.Q [] (PySem.W.Fast.tw5923862056798008813 PySem.Challenge.pw_fallcounts_k31_what_is_a_set.main.body) (fun s=>xlAt FC.Q [] s&&recOk (RowW.records (OpenRow.toRowW (OpenLaw.row PySem.Challenge.rw_fallcounts_k31_what_is_a_set))) s) true s.abs)=some (openGood FC.Q []):=fun w os=>by kernel_rfl
end
namespace L2
open PySem PySem.Spec PyProof.Rows
noncomputable abbrev Key:=Sum Int Str
noncomputable def Bs:Key->Value->Bool
 | .inl k,v=>Value.isInt k v
 | .inr x,v=>Value.isStrOf x v
noncomputable def Hs (w:World):Key->Int
 | .inl k=>hashInt k
 | .inr x=>hashStr w x
theorem bR:∀{k:Key} {v:Value},Bs k v=true->(∃i t,k=Sum.inl i/\v=Value.int i t)\/(∃x t,k=Sum.inr x/\v=Value.str x t)
 | .inl i,v,h=>by
  obtain⟨t,e⟩:=Value.isInt_shape (k:=i) (v:=v) h
  exact .inl ⟨i,t,rfl,e⟩
 | .inr x,v,h=>by
  obtain⟨t,e⟩:=Value.isStrOf_shape (x:=x) (v:=v) h
  exact .inr ⟨x,t,rfl,e⟩
theorem Ct (a b:Int):decide ((Sum.inl a:Key)=Sum.inl b)=(a == b):=by
 by_cases e:a=b
 ·subst e;simp
 ·have h:¬ (Sum.inl a:Key)=Sum.inl b:=fun q=>e (Sum.inl.inj q)
  rw[decide_eq_false h]
  exact(beq_eq_false_iff_ne.mpr e).symm
theorem CJ (a b:Str):decide ((Sum.inr a:Key)=Sum.inr b)=decide (a=b):=by
 by_cases e:a=b
 ·subst e;simp
 ·have h:¬ (Sum.inr a:Key)=Sum.inr b:=fun q=>e (Sum.inr.inj q)
  rw[decide_eq_false h,decide_eq_false e]
theorem Cu (a:Int) (b:Str):decide ((Sum.inl a:Key)=Sum.inr b)=false:=decide_eq_false (fun q=>nomatch q)
theorem BY (a:Str) (b:Int):decide ((Sum.inr a:Key)=Sum.inl b)=false:=decide_eq_false (fun q=>nomatch q)
noncomputable def qv (prog:Program) (w:World):PySem.KeyKind prog w Key where
 is:=Bs
 hash:=Hs w
 inj:=fun v a b ha hb=>by
  rcases bR ha with⟨i,t,rfl,rfl⟩ | ⟨x,t,rfl,rfl⟩
  ·rcases bR hb with⟨j,u,rfl,e⟩ | ⟨y,u,rfl,e⟩
   ·injection e with e1 _;rw[e1]
   ·exact nomatch e
  ·rcases bR hb with⟨j,u,rfl,e⟩ | ⟨y,u,rfl,e⟩
   ·exact nomatch e
   ·injection e with e1 _;rw[e1]
 byValue:=fun k v h=>by
   rcases bR h with⟨i,t,rfl,rfl⟩ | ⟨x,t,rfl,rfl⟩<;>rfl
 pyHash:=fun hv h=>by
  rcases bR hv with⟨i,t,rfl,rfl⟩ | ⟨x,t,rfl,rfl⟩
  ·exact wpAny_pyHash_int h
  ·exact wpAny_pyHash_str h
 eqBool:=fun hu hv h=>by
  rcases bR hu with⟨i,t,rfl,rfl⟩ | ⟨x,t,rfl,rfl⟩
  ·rcases bR hv with⟨j,u,rfl,rfl⟩ | ⟨y,u,rfl,rfl⟩
   ·rw[Ct] at h;exact wpAny_eqBool_int h
   ·rw[Cu] at h;exact SeqAt.EqAt.int_str i t y u _ _ _ _ h
  ·rcases bR hv with⟨j,u,rfl,rfl⟩ | ⟨y,u,rfl,rfl⟩
   ·rw[BY] at h;exact SeqAt.EqAt.str_int x t j u _ _ _ _ h
   ·rw[CJ] at h;exact wpAny_eqBool_str h
 «strs»:=fun k x t v h=>by
  rcases bR h with⟨i,u,rfl,e⟩ | ⟨y,u,rfl,e⟩
  ·exact nomatch e
  ·injection e with e1 _
   subst e1
   cases v<;>rfl
inductive V where
 | non | bl (b:Bool) | int (i:Int) | str (x:Str) | byt (b:Array UInt8) | flt (b:UInt64) | ref (a:Addr) | ty (n:String)
 deriving DecidableEq
noncomputable def RelV:V->Value->Prop
 | .non,u=>u=Value.none
 | .bl b,u=>u=Value.bool b
 | .int i,u=>∃t,u=Value.int i t
 | .str x,u=>∃t,u=Value.str x t
 | .byt b,u=>∃t,u=Value.bytes b t
 | .flt b,u=>∃t,u=Value.float b t
 | .ref a,u=>u=Value.ref a
 | .ty n,u=>u=Value.type n
noncomputable abbrev Vals:List V->List Value->Prop:=Paired RelV
theorem Vals.length {xs:List V} {us:List Value} (r:Vals xs us):xs.length=us.length:=Paired.length r
theorem Vals.get:∀{xs:List V} {us:List Value} {i:Nat} {x:V},Vals xs us->xs[i]?=some x->∃u,us[i]?=some u/\RelV x u
 | _,_,_,_,.nil,e=>by simp at e
 | _,_,0,_,.cons r _,e=>by simp at e;subst e;exact⟨_,rfl,r⟩
 | _,_,i+1,x,.cons _ t,e=>by
  obtain⟨u,h1,h2⟩:=Vals.get (i:=i) (x:=x) t (by simpa using e)
  exact⟨u,by simpa using h1,h2⟩
theorem Vals.set {x:V} {u:Value} (r:RelV x u):∀{xs:List V} {us:List Value} (i:Nat),Vals xs us->Vals (xs.set i x) (us.set i u)
 | _,_,_,.nil=>.nil
 | _,_,0,.cons _ t=>.cons r t
 | _,_,i+1,.cons q t=>.cons q (Vals.set r i t)
theorem Vals.append:∀{xs ys:List V} {us ws:List Value},Vals xs us->Vals ys ws->Vals (xs++ys) (us++ws)
 | _,_,_,_,.nil,s=>s
 | _,_,_,_,.cons r t,s=>.cons r (Vals.append t s)
theorem Vals.take:∀{xs:List V} {us:List Value} (n:Nat),Vals xs us->Vals (xs.take n) (us.take n)
 | _,_,0,_=>.nil
 | _,_,_+1,.nil=>.nil
 | _,_,n+1,.cons r t=>.cons r (Vals.take n t)
theorem Vals.drop:∀{xs:List V} {us:List Value} (n:Nat),Vals xs us->Vals (xs.drop n) (us.drop n)
 | _,_,0,r=>r
 | _,_,_+1,.nil=>.nil
 | _,_,n+1,.cons _ t=>Vals.drop n t
noncomputable def Cp:Option V->Option Value->Prop
 | some v,some u=>RelV v u
 | none,none=>True
 | _,_=>False
noncomputable def KV {κ:Type}:List (κ × V)->List (κ × Value)->Prop:=Paired fun(p:κ × V) (q:κ × Value)=>p.1=q.1/\RelV p.2 q.2
noncomputable def kV:Key->V
 | .inl i=>.int i
 | .inr x=>.str x
inductive HO where
 | lst (xs:List V)
 | tup (xs:List V)
 | dK (kvs:List (Key × V)) | dT (kvs:List (List Key × V))
 | set (S:Int->Bool) (n:Nat)
 | ins (C dx:Addr) (fs:List (Str × V))
 | own (x:Addr)
 | xd (fs:List (Str × V))
 | met (f x:Addr)
 | rng (lo hi:Int)
 | frz (o:Obj) (u:HO)
 | tbl (ps:Array Value)
 | ext (φ:Heap->Prop)
noncomputable abbrev Hp:=Addr->Option HO
noncomputable def upd (H:Hp) (a:Addr) (o:HO):Hp:=fun b=>if b=a then some o else H b
theorem aQ {H:Hp} {a:Addr} {o:HO}:upd H a o a=some o:=by unfold upd;rw[if_pos rfl]
theorem aA {H:Hp} {a b:Addr} {o:HO} (h:b≠a):upd H a o b=H b:=by unfold upd;rw[if_neg h]
theorem Ar {H:Hp} {a:Addr} {o u:HO}:upd (upd H a o) a u=upd H a u:=by
 funext b;unfold upd;split<;>rfl
theorem aP {H:Hp} {a b:Addr} {o:HO} (h:H a=some o) (h':H b=none):a≠b:=by
 intro e;subst e;rw[h] at h';cases h'
noncomputable def jX (h:Heap) (a:Addr) (its:Array Value):Prop:=∃o,h.get? a=some o/\(o.cls=.type "tuple" /\ ∃n,o.data=.seq its n)/\o.dict=none
theorem jX.tup {h:Heap} {a:Addr} {its:Array Value} (x:jX h a its):IsTup h a its:=let ⟨o,e,⟨c,n,d⟩,_⟩:=x;⟨o,e,c,n,d⟩
theorem jX.new (h:Heap) (its:Array Value):jX (h.push { cls:=.type "tuple", data:=.seq its }) h.objs.size its:=⟨_,Heap.get?_push_size _ rfl,⟨rfl,_,rfl⟩,rfl⟩
section
variable (P:Program) (w:World)
noncomputable def bZ (H:Hp) (h:Heap) (a:Addr):HO->Prop
 | .lst xs=>xs.length<=sizeLine/\∃(its:List Value) (n:Nat),Vals xs its/\h.get? a=some { cls:=.type "list", data:=.seq its.toArray n }
 | .tup xs=>xs.length<=sizeLine/\∃its:List Value,Vals xs its/\jX h a its.toArray
 | .dK kvs=>kvs.length<=sizeLine/\(a == sysModules)=false/\∃vs,KV kvs vs/\h.DictOf (qv P w) a vs
 | .dT kvs=>kvs.length<=sizeLine/\(a == sysModules)=false/\∃xs:List (List Key × Addr × Value),
   Paired (fun(p:List Key × V) (q:List Key × Addr × Value)=>p.1=q.1/\H q.2.1=some (.tup (p.1.map kV))/\RelV p.2 q.2.2) kvs xs ∧
   ∃o es ep,h.get? a=some o/\o.ExactDict/\o.data=.dict es ep/\es.toList=xs.map (entryOfKey (tupleKind (qv P w)))/\(xs.map (·.1)).Nodup
 | .set S n=>h.SetOf (intKind P w) a S n
 | .ins C dx fs=>H dx=some (.own a)/\fs.length<=1000/\dx≠a/\h.get? a=some (PySem.W.instObj C dx) ∧
   ∃mA,h.Ns1 dx mA/\(∀f,Cp (fs.lookup f) (mA f))/\PySem.Within mA (fs.map (·.1))
 | .own _=>∃o,h.get? a=some o
 | .xd fs=>∃mA,h.Ns1 a mA/\∀f,Cp (fs.lookup f) (mA f)
 | .rng lo hi=>∃t u v,h.get? a=some { cls:=.type "range", data:=.fields #[.int lo t,.int hi u,.int 1 v] }
 | .frz o u=>h.get? a=some o/\bZ H h a u
 | .tbl ps=>h.get? a=some { cls:=.none,data:=.fields ps }
 | .met f x=>h.get? a=some (PySem.W.methodObj (.ref f) (.ref x))
 | .ext φ=>φ h/\(∃o,h.get? a=some o)/\∀h1 h2:Heap,φ h1->(∀o,h1.get? a=some o->h2.get? a=some o)->φ h2
noncomputable def HOk (H:Hp) (h:Heap):Prop:=∀a o,H a=some o->bZ P w H h a o
end
section
variable {P:Program} {w:World} {H H':Hp} {h h':Heap} {a:Addr} {o:HO}
theorem bZ.lt (x:bZ P w H h a o):a<h.objs.size:=by
 cases o with
 | lst xs=>obtain⟨_,_,_,_,e⟩:=x;exact Heap.lt_size e
 | tup xs=>obtain⟨_,_,_,_,e,_⟩:=x;exact Heap.lt_size e
 | dK kvs=>obtain⟨_,_,_,_,o,_,_,e,_⟩:=x;exact Heap.lt_size e
 | dT kvs=>obtain⟨_,_,_,_,o,_,_,e,_⟩:=x;exact Heap.lt_size e
 | set S n=>obtain⟨o,_,_,_,e,_⟩:=x;exact Heap.lt_size e
 | ins C dx fs=>obtain⟨_,_,_,e,_⟩:=x;exact Heap.lt_size e
 | own y=>obtain⟨_,e⟩:=x;exact Heap.lt_size e
 | xd fs=>obtain⟨_,⟨_,_,_,e,_⟩,_⟩:=x;exact Heap.lt_size e
 | rng lo hi=>obtain⟨_,_,_,e⟩:=x;exact Heap.lt_size e
 | frz ob u=>obtain⟨e,_⟩:=x;exact Heap.lt_size e
 | tbl ps=>exact Heap.lt_size (show h.get? a=some _ from x)
 | met f y=>exact Heap.lt_size (show h.get? a=some _ from x)
 | ext φ=>obtain⟨_,⟨_,e⟩,_⟩:=x;exact Heap.lt_size e
theorem Paired.A1 {α β:Type} {F G:α->β->Prop}:∀{l₁:List α} {l₂:List β},Paired F l₁ l₂->(∀a b,F a b->G a b)->Paired G l₁ l₂
 | _,_,.nil,_=>.nil
 | _,_,.cons r t,f=>.cons (f _ _ r) (Paired.A1 t f)
theorem bZ.iS (x:bZ P w H h a o) (k:∀b u,(b=a\/H b=some (.own a))->h.get? b=some u->h'.get? b=some u)
  (ho:∀b,H b=some (.own a)->H' b=some (.own a)) (ht:∀b xs,H b=some (.tup xs)->H' b=some (.tup xs)):bZ P w H' h' a o:=by
 induction o with
 | lst xs=>obtain⟨z,its,n,r,e⟩:=x;exact⟨z,its,n,r,k _ _ (.inl rfl) e⟩
 | tup xs=>obtain⟨z,its,r,ob,e,c⟩:=x;exact⟨z,its,r,ob,k _ _ (.inl rfl) e,c⟩
 | dK kvs=>obtain⟨z,y,vs,r,ob,es,ep,e,c⟩:=x;exact⟨z,y,vs,r,ob,es,ep,k _ _ (.inl rfl) e,c⟩
 | dT kvs=>
  obtain⟨z,y,xs,r,ob,es,ep,e,c⟩:=x
  exact⟨z,y,xs,Paired.A1 r fun p q z=>⟨z.1,ht _ _ z.2.1,z.2.2⟩,ob,es,ep,k _ _ (.inl rfl) e,c⟩
 | set S n=>obtain⟨ob,es,ep,t,e,c⟩:=x;exact⟨ob,es,ep,t,k _ _ (.inl rfl) e,c⟩
 | ins C dx fs=>
  obtain⟨d,z,ne,e,mA,⟨od,es,ep,e2,c⟩,r⟩:=x
  exact⟨ho _ d,z,ne,k _ _ (.inl rfl) e,mA,⟨od,es,ep,k _ _ (.inr d) e2,c⟩,r⟩
 | own y=>obtain⟨ob,e⟩:=x;exact⟨ob,k _ _ (.inl rfl) e⟩
 | xd fs=>obtain⟨mA,⟨od,es,ep,e,c⟩,r⟩:=x;exact⟨mA,⟨od,es,ep,k _ _ (.inl rfl) e,c⟩,r⟩
 | rng lo hi=>obtain⟨t,u,v,e⟩:=x;exact⟨t,u,v,k _ _ (.inl rfl) e⟩
 | frz ob u ih=>obtain⟨e,q⟩:=x;exact⟨k _ _ (.inl rfl) e,ih q⟩
 | tbl ps=>
  have e:h.get? a=some { cls:=.none,data:=.fields ps }:=x
  show h'.get? a=some { cls:=.none,data:=.fields ps }
  exact k a _ (.inl rfl) e
 | met f y=>
  have e:h.get? a=some (PySem.W.methodObj (.ref f) (.ref y)):=x
  show h'.get? a=some (PySem.W.methodObj (.ref f) (.ref y))
  exact k a _ (.inl rfl) e
 | ext φ=>obtain⟨p,⟨o,e⟩,st⟩:=x;exact⟨st _ _ p fun o q=>k _ _ (.inl rfl) q,⟨o,k _ _ (.inl rfl) e⟩,st⟩
theorem HOk.lt (x:HOk P w H h) (e:H a=some o):a<h.objs.size:=(x a o e).lt
theorem HOk.fresh (x:HOk P w H h) (e:h.objs.size<=a):H a=none:=by
 cases q:H a with
 | none=>rfl
 | some u=>exact absurd (Nat.lt_of_lt_of_le (x.lt q) e) (Nat.lt_irrefl _)
theorem HOk.kept (x:HOk P w H h) (k:∀b u,h.get? b=some u->h'.get? b=some u):HOk P w H h':=fun a o e=>
 (x a o e).iS (fun b u _ q=>k b u q) (fun _ q=>q) fun _ _ q=>q
theorem HOk.laid (x:HOk P w H h) (k:∀b u,h.get? b=some u->h'.get? b=some u) (hp:h.objs.size<=a) (new:bZ P w (upd H a o) h' a o):HOk P w (upd H a o) h':=fun b u e=>by
 have hn:=x.fresh hp
 by_cases hb:b=a
 ·subst hb;rw[aQ] at e;cases e;exact new
 ·rw[aA hb] at e
  exact(x b u e).iS (fun c v _ q=>k c v q) (fun c q=>by rw[aA (aP q hn)];exact q) fun c xs q=>by rw[aA (aP q hn)];exact q
end
noncomputable def Rd (H:Hp) (a:Addr) (u:HO):Prop:=H a=some u\/∃o,H a=some (.frz o u)
theorem Rd.ok {P:Program} {w:World} {H:Hp} {h:Heap} {a:Addr} {u:HO} (r:Rd H a u) (x:HOk P w H h):bZ P w H h a u:=by
 rcases r with r | ⟨o,r⟩
 ·exact x a u r
 ·obtain⟨_,q⟩:=x a _ r
  exact q
noncomputable def Mut:Option HO->Prop
 | some (.lst _)=>True
 | some (.dK _)=>True
 | some (.dT _)=>True
 | some (.set _ _)=>True
 | some (.ins _ _ _)=>True
 | some (.ext _)=>True
 | _=>False
section
variable {P:Program} {w:World} {H:Hp} {h h':Heap} {x e:Addr} {o':HO}
theorem HOk.write (ok:HOk P w H h) (mu:Mut (H x)) (he:e=x\/H e=some (.own x)) (k:∀b u,b≠e->h.get? b=some u->h'.get? b=some u) (heo:∃u,h'.get? e=some u)
  (new:bZ P w (upd H x o') h' x o'):HOk P w (upd H x o') h':=fun b u q=>by
 have nown:∀c y,H c=some (.own y)->c≠x:=fun c y r z=>by subst z;rw[r] at mu;exact mu
 have ntup:∀c xs,H c=some (.tup xs)->c≠x:=fun c xs r z=>by subst z;rw[r] at mu;exact mu
 by_cases hb:b=x
 ·subst hb;rw[aQ] at q;cases q;exact new
 ·rw[aA hb] at q
  by_cases hbe:b=e
  ·have q':H b=some (.own x):=by
    rcases he with z | z
    ·exact absurd (hbe.trans z) hb
    ·rw[hbe];exact z
   rw[q] at q';cases q'
   obtain⟨v,hv⟩:=heo
   exact⟨v,by rw[hbe];exact hv⟩
  ·refine(ok b u q).iS (fun c v hc r=>k c v ?_ r) (fun c r=>by rw[aA (nown c b r)];exact r) fun c xs r=>by rw[aA (ntup c xs r)];exact r
   rcases hc with rfl | hc
   ·exact hbe
   ·rintro rfl
    rcases he with z | z
    ·exact nown c b hc z
    ·rw[hc] at z;cases z;exact hb rfl
end
structure Un (fs ex:List Addr) (H H':Hp) (h h':Heap):Prop where
 keep:∀b o,h.get? b=some o->H b=none->b∉fs->b∉ex->h'.get? b=some o
 slot:∀b o,h.get? b=some o->H b=none->b∈fs->b∉ex->∃sl,h'.get? b=some { o with slots:=sl }
 free:∀b o,h.get? b=some o->H b=none->b∉ex->H' b=none
 there:∀b o,h.get? b=some o->b∉ex->∃o',h'.get? b=some o'
 nB:∀b xs,H b=some (.tup xs)->H' b=some (.tup xs)
 k6:∀b o u,H b=some (.frz o u)->H' b=some (.frz o u)
 m6:∀b ps,H b=some (.tbl ps)->∃more,H' b=some (.tbl (ps++more))
section
variable {fs fs' ex ex':List Addr} {H H1 H2:Hp} {h h1 h2 h':Heap} {a x e:Addr} {o:HO}
theorem Un.any (u:Un fs ex H H1 h h1) {b:Addr} {ob:Obj} (q:h.get? b=some ob) (n:H b=none) (hx:b∉ex):∃sl,h1.get? b=some { ob with slots:=sl }:=by
 by_cases hb:b∈fs
 ·exact u.slot b ob q n hb hx
 ·exact⟨ob.slots,u.keep b ob q n hb hx⟩
theorem Un.kept (k:∀b u,h.get? b=some u->h'.get? b=some u):Un fs ex H H h h':=
 ⟨fun b ob q _ _ _=>k b ob q,fun b ob q _ _ _=>⟨ob.slots,k b ob q⟩,fun _ _ _ n _=>n,fun b ob q _=>⟨ob,k b ob q⟩,fun _ _ q=>q,fun _ _ _ q=>q,fun _ ps q=>⟨#[],by rw[q];simp⟩⟩
theorem Un.refl:Un fs ex H H h h:=Un.kept fun _ _ q=>q
theorem Un.laid (k:∀b u,h.get? b=some u->h'.get? b=some u) (hp:h.objs.size<=a) (hn:H a=none):Un fs ex H (upd H a o) h h' where
 keep:=fun b u q _ _ _=>k b u q
 slot:=fun b u q _ _ _=>⟨u.slots,k b u q⟩
 free:=fun b u q n _=>by rw[aA (Nat.ne_of_lt (Nat.lt_of_lt_of_le (Heap.lt_size q) hp))];exact n
 there:=fun b u q _=>⟨u,k b u q⟩
 nB:=fun b xs q=>by rw[aA (aP q hn)];exact q
 k6:=fun b u xs q=>by rw[aA (aP q hn)];exact q
 m6:=fun b ps q=>⟨#[],by rw[aA (aP q hn),q];simp⟩
theorem Un.write (mu:Mut (H x)) (he:e=x\/H e=some (.own x)) (k:∀b u,b≠e->h.get? b=some u->h'.get? b=some u) (heo:∃u,h'.get? e=some u):Un fs ex H (upd H x o) h h':=by
 have hx:∀b,H b=none->b≠x:=fun b n z=>by subst z;rw[n] at mu;exact mu
 have hb:∀b,H b=none->b≠e:=fun b n z=>by
  subst z
  rcases he with r | r
  ·exact hx b n r
  ·rw[n] at r;cases r
 have hm:∀b u,H b=some u->¬ Mut (some u)->b≠x:=fun b u q nm z=>by subst z;rw[q] at mu;exact nm mu
 refine⟨fun b u q n _ _=>k b u (hb b n) q,fun b u q n _ _=>⟨u.slots,k b u (hb b n) q⟩,fun b u q n _=>by rw[aA (hx b n)];exact n,fun b u q _=>?_,
  fun b xs q=>by rw[aA (hm b _ q fun z=>z)];exact q,fun b u xs q=>by rw[aA (hm b _ q fun z=>z)];exact q,fun b ps q=>⟨#[],by rw[aA (hm b _ q fun z=>z),q];simp⟩⟩
 by_cases hbe:b=e
 ·subst hbe;exact heo
 ·exact⟨u,k b u hbe q⟩
end
noncomputable def trk (h:Heap) (H:Hp):List Addr:=(List.range h.objs.size).filter fun a=>(H a).isSome
noncomputable def qc (h:Heap) (H:Hp):Heap:=PySem.W.hideAll h (trk h H)
theorem vZ (h:Heap) (H:Hp):(qc h H).objs.size=h.objs.size:=PySem.W.hideAll_size _ _
theorem xM {h:Heap} {H:Hp} {b:Addr} {o:Obj} (e:h.get? b=some o) (n:H b=none):(qc h H).get? b=some o:=
 PySem.W.hideAll_get _ e fun hm=>by
  have q:(H b).isSome=true:=(List.mem_filter.mp hm).2
  rw[n] at q;simp at q
theorem As {h:Heap} {H:Hp} {b:Addr} {o:Obj} (e:(qc h H).get? b=some o):h.get? b=some o/\H b=none:=by
 have e':h.get? b=some o:=PySem.W.of_hideAll (trk h H) e
 refine⟨e',?_⟩
 cases q:H b with
 | none=>rfl
 | some x=>
  have hm:b∈trk h H:=List.mem_filter.mpr ⟨List.mem_range.mpr (Heap.lt_size e'),by simp[q]⟩
  have z:(qc h H).get? b=none:=PySem.W.hideAll_none (trk h H) hm
  rw[z] at e;cases e
structure Mod (K:PySem.W.Frag) (mg:Str->Option Value) (base:Heap):Prop where
 kin:K.In base
 glob:base.Ns mainGlobals mg
 blt:∃mb,base.Ns builtinsNs mb/\∀x:Str,x≠"__name__" -> mb x=bootBuiltins x
 nolimit:base.NoLimit
structure Cx where
 prog:Program
 w:World
 K:PySem.W.Frag
 mg:Str->Option Value
 base:Heap
 A:Around
 N:List Str
 aJ:Shared
 aO:Hp
 env:Env
 outer:List Env
 stack:List Env
 ex:List Addr
 fn:Str->Bool
 calm:Bool
 pn:List (Addr × Obj)
 xe:Value->Shared->Prop
noncomputable def frs (l:List Env):List Addr:=l.filterMap (·.frame)
noncomputable abbrev Cx.fs (X:Cx):List Addr:=frs X.outer
noncomputable def Vis (sc:Scope) (x:Str):Prop:=sc.names.lookup x=some .local\/sc.names.lookup x=some .cell\/sc.names.lookup x=some .free
noncomputable def Loc (sc:Scope) (x:Str):Prop:=sc.names.lookup x=some .local\/sc.names.lookup x=some .cell
noncomputable def Look (env:Env) (h:Heap) (m:Str->Option Value) (x:Str) (u:Value):Prop:=
 (env.kindOf x=some .local/\m x=some u)\/((env.kindOf x=some .cell\/env.kindOf x=some .free)/\∃c,env.cells.lookup x=some c/\h.IsCell c (some u))
structure Cx.Ok (X:Cx):Prop where
 mod:Mod X.K X.mg X.base
 kind:X.env.scope.kind=.function
 glob:X.env.globals=mainGlobals
 blt:X.env.builtins=builtinsNs
 above:X.aJ.heap.objs.size<=X.env.locals
 inj:∀x y c,X.env.cells.lookup x=some c->X.env.cells.lookup y=some c->x=y
 has:∀x,(X.env.kindOf x=some .cell\/X.env.kindOf x=some .free)->∃c,X.env.cells.lookup x=some c
 cab:∀x c,X.fn x=true->X.env.cells.lookup x=some c->X.aJ.heap.objs.size<=c
 hd:X.calm=true->X.A.handled=none
 frames:X.A.frames=some X.stack
 stk:X.stack=X.outer\/(X.stack=X.env::X.outer/\X.env.frame=some X.env.locals)
 exf:∀b∈X.ex,b≠X.env.locals/\∀x c,X.env.cells.lookup x=some c->c≠b
 bs:∀b o,X.base.get? b=some o->X.aJ.heap.get? b=some o/\X.aO b=none
 bsz:X.base.objs.size<=X.aJ.heap.objs.size
 qr:∀b o,X.base.get? b=some o->b∉X.ex
 qS:∀b∈X.ex,b∉X.fs
 h7:X.aJ.heap.FunFrames X.base X.outer
 frf:∀b∈X.fs,X.aO b=none
structure Inv (X:Cx) (pins:List (Addr × Obj)) (σ:List (Option V)) (H:Hp) (s:Shared):Prop where
 ok:X.Ok
 os:s.os=X.aJ.os
 bare:AllBare s.gens
 base:Un X.fs X.ex X.aO H X.aJ.heap s.heap
 loc:∃m,s.heap.Ns X.env.locals m/\∀(i:Nat) (x:Str) (v:V),X.N[i]?=some x->σ[i]?=some (some v)->Vis X.env.scope x->∃u,RelV v u/\Look X.env s.heap m x u
 cell:∀x c,X.env.cells.lookup x=some c->∃v,s.heap.IsCell c v
 free:H X.env.locals=none
 dm:∀x c,X.env.cells.lookup x=some c->H c=none
 pin:∀p∈X.pn++pins,s.heap.get? p.1=some p.2/\H p.1=none/\p.1≠X.env.locals/\p.1∉X.fs/\∀v,p.2.data≠.cell v
 hok:HOk X.prog X.w H s.heap
 len:σ.length=X.N.length
section
variable {X:Cx} {pins:List (Addr × Obj)} {σ:List (Option V)} {H H':Hp} {s:Shared} {h':Heap}
theorem Cx.Ok.Gj (ok:X.Ok) {b:Addr} {o:Obj} (e:X.base.get? b=some o):b∉X.fs:=fun hb=>by
 have:=(ok.h7.mem hb).1
 rw[e] at this;cases this
theorem Inv.bs (I:Inv X pins σ H s):∀b o,X.base.get? b=some o->s.heap.get? b=some o/\H b=none:=fun b o e=>
 ⟨I.base.keep b o (I.ok.bs b o e).1 (I.ok.bs b o e).2 (I.ok.Gj e) (I.ok.qr b o e),I.base.free b o (I.ok.bs b o e).1 (I.ok.bs b o e).2 (I.ok.qr b o e)⟩
theorem Inv.bk (I:Inv X pins σ H s):∀b o,X.base.get? b=some o->s.heap.get? b=some o:=fun b o e=>(I.bs b o e).1
theorem Inv.mod (I:Inv X pins σ H s):Mod X.K X.mg X.base:=I.ok.mod
theorem Inv.kIn (I:Inv X pins σ H s):X.K.In s.heap:=I.ok.mod.kin.keeps I.bk
theorem Inv.lt (I:Inv X pins σ H s):X.env.locals<s.heap.objs.size:=let ⟨_,hn,_⟩:=I.loc;hn.lt
theorem Inv.sz (I:Inv X pins σ H s):X.aJ.heap.objs.size<=s.heap.objs.size:=Nat.le_trans I.ok.above (Nat.le_of_lt I.lt)
theorem Inv.D1 (I:Inv X pins σ H s) {a:Addr} (h:s.heap.objs.size<=a):a∉X.fs:=fun hb=>by
 obtain⟨_,o,ho,_⟩:=I.ok.h7.mem hb
 exact absurd (Nat.lt_of_lt_of_le (Heap.lt_size ho) (Nat.le_trans I.sz h)) (Nat.lt_irrefl _)
theorem Inv.cne (I:Inv X pins σ H s):∀x c,X.env.cells.lookup x=some c->c≠X.env.locals:=fun x c e z=>by
 obtain⟨v,o,ho,hd⟩:=I.cell x c e
 obtain⟨m,⟨o',es,ep,ho',hd',_⟩,_⟩:=I.loc
 rw[z,ho'] at ho;cases ho;rw[hd'] at hd;cases hd
theorem Inv.h7 (I:Inv X pins σ H s):s.heap.FunFrames X.base X.outer:=by
 have all:∀(l:List Env),(∀b∈frs l,b∈X.fs)->X.aJ.heap.FunFrames X.base l->s.heap.FunFrames X.base l:=by
  intro l
  induction l with
  | nil=>intro _ _;trivial
  | cons env r ih=>
   intro hs hl
   obtain⟨hk,⟨L,o,hf,hn,ho,hd⟩,hr⟩:=hl
   have hL:L∈X.fs:=hs L (by unfold frs;rw[List.filterMap_cons,hf];exact List.mem_cons_self)
   obtain⟨sl,e⟩:=I.base.slot L o ho (I.ok.frf L hL) hL fun z=>I.ok.qS L z hL
   exact⟨hk,⟨L,_,hf,hn,e,hd⟩,ih (fun b hb=>hs b (by unfold frs;rw[List.filterMap_cons,hf];exact List.mem_cons_of_mem _ hb)) hr⟩
 exact all X.outer (fun _ hb=>hb) I.ok.h7
theorem Inv.stack (I:Inv X pins σ H s):s.heap.FunFrames X.base X.stack:=by
 rcases I.ok.stk with e | ⟨e,hf⟩
 ·rw[e];exact I.h7
 ·rw[e]
  obtain⟨m,hn,_⟩:=I.loc
  refine .cons (by rw[I.ok.kind];decide) hf hn ?_ I.h7
  exact Heap.get?_none_of_le (Nat.le_trans I.ok.bsz I.ok.above)
theorem Inv.gM (I:Inv X pins σ H s):∀b∈frs X.stack,b∈X.env.locals::X.fs:=fun b hb=>by
 rcases I.ok.stk with e | ⟨e,hf⟩
 ·rw[e] at hb;exact List.mem_cons_of_mem _ hb
 ·rw[e] at hb
  unfold frs at hb
  rw[List.filterMap_cons,hf] at hb
  exact hb
theorem Inv.pe (I:Inv X pins σ H s):∀b∈frs X.stack,H b=none:=fun b hb=>by
 rcases List.mem_cons.mp (I.gM b hb) with e | hb
 ·rw[e];exact I.free
 ·obtain⟨_,o,ho,_⟩:=I.ok.h7.mem hb
  exact I.base.free b o ho (I.ok.frf b hb) fun z=>I.ok.qS b z hb
theorem Inv.step {g':Array GenState} {t':Nat} {d':Drawn} {ch:List Addr} (I:Inv X pins σ H s)
  (hch:∀b∈ch,(b∈X.ex\/X.aJ.heap.objs.size<=b)/\b≠X.env.locals/\(∀x c,X.env.cells.lookup x=some c->c≠b)/\∀p∈X.pn++pins,p.1≠b)
  (keep:∀b o,b≠X.env.locals->b∉X.fs->b∉ch->s.heap.get? b=some o->H b=none->h'.get? b=some o)
  (slot:∀b o,b≠X.env.locals->b∈X.fs->b∉ch->s.heap.get? b=some o->H b=none->∃sl,h'.get? b=some { o with slots:=sl }) (free:∀b o,b∉ch->s.heap.get? b=some o->H b=none->H' b=none)
  (there:∀b o,b∉ch->s.heap.get? b=some o->∃o',h'.get? b=some o')
  (nB:∀b xs,H b=some (.tup xs)->H' b=some (.tup xs)) (k6:∀b o u,H b=some (.frz o u)->H' b=some (.frz o u)) (m6:∀b ps,H b=some (.tbl ps)->∃more,H' b=some (.tbl (ps++more)))
  (ns:∀m,s.heap.Ns X.env.locals m->h'.Ns X.env.locals m) (hok:HOk X.prog X.w H' h') (hg:AllBare g') :
  Inv X pins σ H' { s with heap:=h',gens:=g',drawn:=d',toks:=t' }:=by
 have neL:∀b o,X.aJ.heap.get? b=some o->b≠X.env.locals:=fun b o e=>Nat.ne_of_lt (Nat.lt_of_lt_of_le (Heap.lt_size e) I.ok.above)
 have neC:∀b o,X.aJ.heap.get? b=some o->b∉X.ex->b∉ch:=fun b o e hx hb=>by
  rcases(hch b hb).1 with z | z
  ·exact hx z
  ·exact absurd (Nat.lt_of_lt_of_le (Heap.lt_size e) z) (Nat.lt_irrefl _)
 have cellK:∀x c,X.env.cells.lookup x=some c->∀v,s.heap.IsCell c v->h'.IsCell c v:=fun x c e v ⟨o,ho,hd⟩=>by
  have nch:c∉ch:=fun z=>(hch c z).2.2.1 x c e rfl
  by_cases hc:c∈X.fs
  ·obtain⟨sl,q⟩:=slot c o (I.cne x c e) hc nch ho (I.dm x c e)
   exact⟨_,q,hd⟩
  ·exact⟨o,keep c o (I.cne x c e) hc nch ho (I.dm x c e),hd⟩
 refine⟨I.ok,I.os,hg,⟨fun b o e n hb hx=>?_,fun b o e n hb hx=>?_,fun b o e n hx=>?_,fun b o e hx=>?_,fun b xs e=>nB b xs (I.base.nB b xs e),fun b o xs e=>k6 b o xs (I.base.k6 b o xs e),fun b ps e=>?_⟩,?_,fun x c e=>?_,?_,fun x c e=>?_,fun p hp=>?_,hok,I.len⟩
 ·exact keep b o (neL b o e) hb (neC b o e hx) (I.base.keep b o e n hb hx) (I.base.free b o e n hx)
 ·obtain⟨sl,e1⟩:=I.base.slot b o e n hb hx
  obtain⟨sl',e2⟩:=slot b _ (neL b o e) hb (neC b o e hx) e1 (I.base.free b o e n hx)
  exact⟨sl',e2⟩
 ·obtain⟨o',e1⟩:=I.base.there b o e hx
  exact free b o' (neC b o e hx) e1 (I.base.free b o e n hx)
 ·obtain⟨o',e1⟩:=I.base.there b o e hx
  exact there b o' (neC b o e hx) e1
 ·obtain⟨m1,e1⟩:=I.base.m6 b ps e
  obtain⟨m2,e2⟩:=m6 b _ e1
  exact⟨m1++m2,by rw[e2,Array.append_assoc]⟩
 ·obtain⟨m,hn,hl⟩:=I.loc
  refine⟨m,ns m hn,fun i x v e1 e2 e3=>?_⟩
  obtain⟨u,r,l⟩:=hl i x v e1 e2 e3
  refine⟨u,r,?_⟩
  rcases l with l | ⟨k,c,e,z⟩
  ·exact .inl l
  ·exact .inr ⟨k,c,e,cellK x c e _ z⟩
 ·obtain⟨v,z⟩:=I.cell x c e
  exact⟨v,cellK x c e v z⟩
 ·obtain⟨m,⟨o,_,_,ho,_⟩,_⟩:=I.loc
  exact free _ o (fun z=>(hch _ z).2.1 rfl) ho I.free
 ·obtain⟨v,o,ho,hd⟩:=I.cell x c e
  exact free c o (fun z=>(hch c z).2.2.1 x c e rfl) ho (I.dm x c e)
 ·obtain⟨e,n,ne,nf,d⟩:=I.pin p hp
  have nch:p.1∉ch:=fun z=>(hch p.1 z).2.2.2 p hp rfl
  exact⟨keep p.1 p.2 ne nf nch e n,free p.1 p.2 nch e n,ne,nf,d⟩
theorem Inv.un {t':Nat} (I:Inv X pins σ H s) (u:Un X.fs [] H H' s.heap h') (hok:HOk X.prog X.w H' h'):Inv X pins σ H' { s with heap:=h',toks:=t' }:=by
 obtain⟨m,⟨o,es,ep,ho,r⟩,_⟩:=id I.loc
 obtain⟨sl,hL⟩:=u.any ho I.free (by simp)
 exact I.step (g':=s.gens) (d':=s.drawn) (ch:=[]) (fun _ z=>nomatch z) (fun b o _ hb _ e n=>u.keep b o e n hb (by simp)) (fun b o _ hb _ e n=>u.slot b o e n hb (by simp)) (fun b o _ e n=>u.free b o e n (by simp)) (fun b o _ e=>u.there b o e (by simp)) u.nB u.k6 u.m6 (fun m' hm=>by
  obtain⟨o',es',ep',ho',r'⟩:=hm
  rw[ho] at ho';cases ho'
  exact⟨_,es',ep',hL,r'⟩) hok I.bare
theorem Inv.call {g':Array GenState} {t':Nat} {d':Drawn} {ch:List Addr} (I:Inv X pins σ H s) (u:Un (frs X.stack) ch H H' s.heap h') (hok:HOk X.prog X.w H' h') (hg:AllBare g')
  (hch:∀b∈ch,(b∈X.ex\/X.aJ.heap.objs.size<=b)/\b≠X.env.locals/\(∀x c,X.env.cells.lookup x=some c->c≠b)/\∀p∈X.pn++pins,p.1≠b) :
  Inv X pins σ H' { s with heap:=h',gens:=g',drawn:=d',toks:=t' }:=by
 obtain⟨m,⟨o,es,ep,ho,r⟩,_⟩:=id I.loc
 obtain⟨sl,hL⟩:=u.any ho I.free fun z=>(hch _ z).2.1 rfl
 exact I.step (ch:=ch) hch (fun b o hL hb hc e n=>u.keep b o e n (fun z=>(List.mem_cons.mp (I.gM b z)).elim hL hb) hc) (fun b o _ _ hc e n=>u.any e n hc) (fun b o hc e n=>u.free b o e n hc) (fun b o hc e=>u.there b o e hc) u.nB u.k6 u.m6 (fun m' hm=>by
  obtain⟨o',es',ep',ho',r'⟩:=hm
  rw[ho] at ho';cases ho'
  exact⟨_,es',ep',hL,r'⟩) hok hg
theorem Inv.turned {t':Nat} {it:Addr} (I:Inv X pins σ H s) (k:∀b o,b≠it->s.heap.get? b=some o->h'.get? b=some o) (hn:H it=none) (hL:it≠X.env.locals)
  (h1:it∈X.ex\/X.aJ.heap.objs.size<=it) (h2:∀x c,X.env.cells.lookup x=some c->c≠it) (h3:∀p∈X.pn++pins,p.1≠it):Inv X pins σ H { s with heap:=h',toks:=t' }:=by
 have nit:∀b u,H b=some u->b≠it:=fun b u e z=>by rw[z,hn] at e;cases e
 refine I.step (g':=s.gens) (d':=s.drawn) (ch:=[it]) (fun b hb=>?_) (fun b o _ _ hc e _=>k b o (fun z=>hc (by simp[z])) e) (fun b o _ _ hc e _=>⟨o.slots,k b o (fun z=>hc (by simp[z])) e⟩) (fun _ _ _ _ n=>n)
  (fun b o hc e=>⟨o,k b o (fun z=>hc (by simp[z])) e⟩) (fun _ _ e=>e) (fun _ _ _ e=>e) (fun b ps e=>⟨#[],by rw[e];simp⟩) (fun m hm=>?_) (fun b u e=>?_) I.bare
 ·have e:b=it:=by simpa using hb
  subst e
  exact⟨h1,hL,h2,h3⟩
 ·obtain⟨o,es,ep,ho,r⟩:=hm
  exact⟨o,es,ep,k _ o (Ne.symm hL) ho,r⟩
 ·refine(I.hok b u e).iS (fun c v hc q=>k c v ?_ q) (fun _ q=>q) fun _ _ q=>q
  rcases hc with z | z
  ·rw[z];exact nit b u e
  ·exact nit c _ z
theorem Inv.tok (I:Inv X pins σ H s) (t:Nat):Inv X pins σ H { s with toks:=t }:=I.un (h':=s.heap) (t':=t) Un.refl I.hok
theorem Inv.kept {t':Nat} (I:Inv X pins σ H s) (k:∀b u,s.heap.get? b=some u->h'.get? b=some u):Inv X pins σ H { s with heap:=h',toks:=t' }:=I.un (Un.kept k) (I.hok.kept k)
theorem Inv.laid {a:Addr} {o:HO} {t':Nat} (I:Inv X pins σ H s) (k:∀b u,s.heap.get? b=some u->h'.get? b=some u) (hp:s.heap.objs.size<=a) (new:bZ X.prog X.w (upd H a o) h' a o) :
  Inv X pins σ (upd H a o) { s with heap:=h',toks:=t' }:=I.un (Un.laid k hp (I.hok.fresh hp)) (I.hok.laid k hp new)
theorem Inv.write {x e:Addr} {o:HO} {t':Nat} (I:Inv X pins σ H s) (mu:Mut (H x)) (he:e=x\/H e=some (.own x)) (k:∀b u,b≠e->s.heap.get? b=some u->h'.get? b=some u) (heo:∃u,h'.get? e=some u)
  (new:bZ X.prog X.w (upd H x o) h' x o):Inv X pins σ (upd H x o) { s with heap:=h',toks:=t' }:=I.un (Un.write mu he k heo) (I.hok.write mu he k heo new)
theorem Inv.kP {pins':List (Addr × Obj)} (I:Inv X pins σ H s) (h:∀p∈pins',s.heap.get? p.1=some p.2/\H p.1=none/\p.1≠X.env.locals/\p.1∉X.fs/\∀v,p.2.data≠.cell v):Inv X pins' σ H s:=
 ⟨I.ok,I.os,I.bare,I.base,I.loc,I.cell,I.free,I.dm,fun p hp=>(List.mem_append.mp hp).elim (fun z=>I.pin p (List.mem_append_left _ z)) (h p),I.hok,I.len⟩
theorem r8 {N:List Str} (hN:N.Nodup) {i j:Nat} {x:Str} (a:N[i]?=some x) (b:N[j]?=some x):i=j:=by
 obtain⟨h1,e1⟩:=List.getElem?_eq_some_iff.mp a
 obtain⟨h2,e2⟩:=List.getElem?_eq_some_iff.mp b
 exact(List.getElem_inj hN).mp (e1.trans e2.symm)
theorem vB {M:Model} {A:Around} {E:Value->Shared->Prop} {i:Nat} {x:Str} {v:V} {u:Value} {Q:Unit->Shared->Prop} (I:Inv X pins σ H s) (hN:X.N.Nodup) (hi:X.N[i]?=some x) (hx:Loc X.env.scope x) (r:RelV v u)
  (h:∀s',Inv X pins (σ.set i (some v)) H s'->(∃a,Heap.SameBut a s.heap s'.heap/\(a=X.env.locals\/X.env.cells.lookup x=some a))->Q () s') (hf:X.fn x=true\/X.env.scope.names.lookup x=some .local:=by first | exact .inl rfl | exact .inr rfl | assumption):wpAny M A (storeName X.env x u) Q E s:=by
 obtain⟨m,hn,hl⟩:=id I.loc
 have hcls:(X.env.scope.kind == .class || (X.env.scope.kind == .module&&X.env.locals != X.env.globals))=false:=by rw[I.ok.kind];rfl
 have hiσ:i<σ.length:=by rw[I.len];exact(List.getElem?_eq_some_iff.mp hi).1
 have cne:=I.cne
 have tracked:∀{a:Addr} {h':Heap},(∃o,s.heap.get? a=some o/\H a=none)->Heap.SameBut a s.heap h'->HOk X.prog X.w H h':=fun{a h'} ha hs b ob e=>by
  obtain⟨_,_,hfree⟩:=ha
  refine(I.hok b ob e).iS (fun c w' hc q=>(hs.2 c ?_).trans q) (fun _ q=>q) fun _ _ q=>q
  rintro rfl
  rcases hc with rfl | hc
  ·rw[hfree] at e;cases e
  ·rw[hfree] at hc;cases hc
 rcases hx with hk | hk
 ·refine wpAny_storeName_local hk hn (fun h' hn' hs=>?_) hcls
  obtain⟨oL,_,_,hoL,_⟩:=id hn
  refine h _ ⟨I.ok,I.os,I.bare,⟨fun b o e n hb hx=>?_,fun b o e n hb hx=>?_,I.base.free,fun b o e hx=>?_,I.base.nB,I.base.k6,I.base.m6⟩,⟨_,hn',fun j y v' e1 e2 e3=>?_⟩,fun y c e=>?_,I.free,I.dm,fun p hp=>?_,tracked ⟨oL,hoL,I.free⟩ hs,by simpa using I.len⟩ ⟨_,hs,.inl rfl⟩
  ·exact(hs.2 b (Nat.ne_of_lt (Nat.lt_of_lt_of_le (Heap.lt_size e) I.ok.above))).trans (I.base.keep b o e n hb hx)
  ·obtain⟨sl,e1⟩:=I.base.slot b o e n hb hx
   exact⟨sl,(hs.2 b (Nat.ne_of_lt (Nat.lt_of_lt_of_le (Heap.lt_size e) I.ok.above))).trans e1⟩
  ·obtain⟨o',e1⟩:=I.base.there b o e hx
   exact⟨o',(hs.2 b (Nat.ne_of_lt (Nat.lt_of_lt_of_le (Heap.lt_size e) I.ok.above))).trans e1⟩
  ·by_cases hj:j=i
   ·subst hj
    rw[hi] at e1;cases e1
    rw[List.getElem?_set_self hiσ] at e2
    cases e2
    exact⟨u,r,.inl ⟨hk,by simp⟩⟩
   ·rw[List.getElem?_set_ne (Ne.symm hj)] at e2
    obtain⟨u',r',q⟩:=hl j y v' e1 e2 e3
    refine⟨u',r',?_⟩
    rcases q with⟨k,e⟩ | ⟨k,c,e,z⟩
    ·refine .inl ⟨k,?_⟩
     have:y≠x:=fun e=>hj (r8 hN e1 (e ▸ hi))
     simp[this,e]
    ·exact .inr ⟨k,c,e,z.sameBut hs (cne y c e)⟩
  ·obtain⟨w',z⟩:=I.cell y c e
   exact⟨w',z.sameBut hs (cne y c e)⟩
  ·obtain⟨e,n,ne,nf,d⟩:=I.pin p hp
   exact⟨(hs.2 p.1 ne).trans e,n,ne,nf,d⟩
 ·have hfn:X.fn x=true:=by
   rcases hf with z | z
   ·exact z
   ·rw[z] at hk;cases hk
  obtain⟨c,hc⟩:=I.ok.has x (.inl hk)
  obtain⟨w',z⟩:=I.cell x c hc
  refine wpAny_storeName_cell I.ok.kind hk hc z (fun h' hc' hs=>?_)
  obtain⟨oc,hoc,hocd⟩:=id z
  refine h { s with heap:=h' } ⟨I.ok,I.os,I.bare,⟨fun b o e n hb hx=>?_,fun b o e n hb hx=>?_,I.base.free,fun b o e hx=>?_,I.base.nB,I.base.k6,I.base.m6⟩,⟨m,hn.sameBut hs (Ne.symm (cne x c hc)),fun j y v' e1 e2 e3=>?_⟩,fun y c' e=>?_,I.free,I.dm,fun p hp=>?_,tracked ⟨oc,hoc,I.dm x c hc⟩ hs,by simpa using I.len⟩ ⟨c,hs,.inr hc⟩
  ·exact(hs.2 b (Nat.ne_of_lt (Nat.lt_of_lt_of_le (Heap.lt_size e) (I.ok.cab x c hfn hc)))).trans (I.base.keep b o e n hb hx)
  ·obtain⟨sl,e1⟩:=I.base.slot b o e n hb hx
   exact⟨sl,(hs.2 b (Nat.ne_of_lt (Nat.lt_of_lt_of_le (Heap.lt_size e) (I.ok.cab x c hfn hc)))).trans e1⟩
  ·obtain⟨o',e1⟩:=I.base.there b o e hx
   exact⟨o',(hs.2 b (Nat.ne_of_lt (Nat.lt_of_lt_of_le (Heap.lt_size e) (I.ok.cab x c hfn hc)))).trans e1⟩
  ·by_cases hj:j=i
   ·subst hj
    rw[hi] at e1;cases e1
    rw[List.getElem?_set_self hiσ] at e2
    cases e2
    exact⟨u,r,.inr ⟨.inl hk,c,hc,hc'⟩⟩
   ·rw[List.getElem?_set_ne (Ne.symm hj)] at e2
    obtain⟨u',r',q⟩:=hl j y v' e1 e2 e3
    refine⟨u',r',?_⟩
    rcases q with q | ⟨k,c',e,z'⟩
    ·exact .inl q
    ·refine .inr ⟨k,c',e,z'.sameBut hs ?_⟩
     rintro rfl
     exact hj (r8 hN e1 (I.ok.inj _ _ _ e hc ▸ hi))
  ·by_cases hcc:c'=c
   ·subst hcc;exact⟨_,hc'⟩
   ·obtain⟨w2,z2⟩:=I.cell y c' e
    exact⟨w2,z2.sameBut hs hcc⟩
  ·obtain⟨e,n,ne,nf,d⟩:=I.pin p hp
   refine⟨(hs.2 p.1 ?_).trans e,n,ne,nf,d⟩
   intro q
   rw[q,hoc] at e
   have q':oc=p.2:=Option.some.inj e
   exact d w' (by rw[<- q'];exact hocd)
theorem eK {M:Model} {A:Around} {E:Value->Shared->Prop} {i:Nat} {x:Str} {v:V} {u:Value} {Q:Unit->Shared->Prop} (I:Inv X pins σ H s) (hN:X.N.Nodup) (hi:X.N[i]?=some x) (hx:Loc X.env.scope x) (r:RelV v u)
  (h:∀s',Inv X pins (σ.set i (some v)) H s'->Q () s') (hf:X.fn x=true\/X.env.scope.names.lookup x=some .local:=by first | exact .inl rfl | exact .inr rfl | assumption):wpAny M A (storeName X.env x u) Q E s:=
 vB I hN hi hx r (fun s' I' _=>h s' I') hf
theorem Inv.rh {s':Shared} {ch:List Addr} (I:Inv X pins σ H s) (ho:s'.os=s.os) (u:Un (frs X.stack) ch H H' s.heap s'.heap) (hok:HOk X.prog X.w H' s'.heap) (hg:AllBare s'.gens)
  (hch:∀b∈ch,(b∈X.ex\/X.aJ.heap.objs.size<=b)/\b≠X.env.locals/\(∀x c,X.env.cells.lookup x=some c->c≠b)/\∀p∈X.pn++pins,p.1≠b):Inv X pins σ H' s':=by
 obtain⟨h',g',d',t',o'⟩:=s'
 have e:o'=s.os:=ho
 subst e
 exact I.call (g':=g') (t':=t') (d':=d') u hok hg hch
end
noncomputable abbrev XK:=Value->Option Addr->Hp->Prop
noncomputable abbrev St:=List (Option V)
noncomputable abbrev VK:=V->Hp->Prop
noncomputable abbrev TE:=St->Hp->VK->Prop
noncomputable abbrev TT:=St->Hp->(Bool->Hp->Prop)->Prop
noncomputable abbrev TA:=St->Hp->(List V->Hp->Prop)->Prop
structure Ends where
 nx:St->Hp->Prop
 rt:VK
 bk:St->Hp->Prop:=fun _ _=>False
 ct:St->Hp->Prop:=fun _ _=>False
noncomputable abbrev TS:=Ends->St->Hp->Prop
noncomputable def EP (X:Cx) (pins:List (Addr × Obj)) (σ:St) (Q:VK) (u:Value) (s':Shared):Prop:=∃v H',Inv X pins σ H' s'/\RelV v u/\Q v H'
noncomputable def TP (X:Cx) (pins:List (Addr × Obj)) (σ:St) (Q:Bool->Hp->Prop) (b:Bool) (s':Shared):Prop:=∃H',Inv X pins σ H' s'/\Q b H'
noncomputable def AP (X:Cx) (pins:List (Addr × Obj)) (σ:St) (Q:List V->Hp->Prop) (us:List Value) (s':Shared):Prop:=∃vs H',Inv X pins σ H' s'/\Vals vs us/\Q vs H'
noncomputable def SP (X:Cx) (pins:List (Addr × Obj)) (D:Ends) (f:Flow) (s':Shared):Prop:=
 match f with
 | .next=>∃σ' H',Inv X pins σ' H' s'/\D.nx σ' H'
 | .brk=>∃σ' H',Inv X pins σ' H' s'/\D.bk σ' H'
 | .cont=>∃σ' H',Inv X pins σ' H' s'/\D.ct σ' H'
 | .ret u=>∃v σ' H',Inv X pins σ' H' s'/\RelV v u/\D.rt v H'
noncomputable def PE (X:Cx) (e:Expr) (t:TE):Prop:=
 ∀(pins:List (Addr × Obj)) (s:Shared) (σ:St) (H:Hp) (Q:VK),Inv X pins σ H s->t σ H Q->wpAny (model X.prog X.w) X.A (eval e X.env) (EP X pins σ Q) X.xe s
noncomputable def PT (X:Cx) (e:Expr) (t:TT):Prop:=
 ∀(pins:List (Addr × Obj)) (s:Shared) (σ:St) (H:Hp) (Q:Bool->Hp->Prop),Inv X pins σ H s->t σ H Q->wpAny (model X.prog X.w) X.A (isTrue e X.env (eval e X.env)) (TP X pins σ Q) X.xe s
noncomputable def PW (X:Cx) (e:Expr) (t:TT):Prop:=
 ∀(whole:Sem Value) (pins:List (Addr × Obj)) (s:Shared) (σ:St) (H:Hp) (Q:Bool->Hp->Prop),Inv X pins σ H s->t σ H Q->wpAny (model X.prog X.w) X.A (isTrue e X.env whole) (TP X pins σ Q) X.xe s
theorem PW.pt {X:Cx} {e:Expr} {t:TT} (h:PW X e t):PT X e t:=h _
noncomputable def PA (X:Cx) (es:List Expr) (t:TA):Prop:=
 ∀(pos:Pos) (pins:List (Addr × Obj)) (s:Shared) (σ:St) (H:Hp) (Q:List V->Hp->Prop),Inv X pins σ H s->t σ H Q->wpAny (model X.prog X.w) X.A (spliced (backTo pos (starEach es X.env))) (AP X pins σ Q) X.xe s
noncomputable def PS (X:Cx) (st:Stmt) (t:TS):Prop:=
 ∀(pins:List (Addr × Obj)) (s:Shared) (σ:St) (H:Hp) (D:Ends),Inv X pins σ H s->t D σ H->wpAny (model X.prog X.w) X.A (exec st X.env) (SP X pins D) X.xe s
noncomputable def PSs (X:Cx) (st:List Stmt) (t:TS):Prop:=
 ∀(pins:List (Addr × Obj)) (s:Shared) (σ:St) (H:Hp) (D:Ends),Inv X pins σ H s->t D σ H->wpAny (model X.prog X.w) X.A (execs st X.env) (SP X pins D) X.xe s
theorem thn {α:Type} {t:Sem α} {Q Q':α->Shared->Prop} {M:Model} {A:Around} {E:Value->Shared->Prop} {s:Shared} (h:wpAny M A t Q E s) (hQ:∀a s,Q a s->Q' a s):wpAny M A t Q' E s:=wpAny_mono h hQ fun _ _ x=>x
section
variable {X:Cx}
noncomputable def Ge (i:Nat):TE:=fun σ H Q=>∃v,σ[i]?=some (some v)/\Q v H
noncomputable def tC (v:V):TE:=fun _ H Q=>Q v H
theorem ze {i:Nat} {x:Str} {pos:Pos} (hN:X.N[i]?=some x) (hv:Vis X.env.scope x) (hd:(x == ("__debug__" : Str))=false:=by decide) (hcd:(x == ("__classdict__" : Str))=false:=by decide):PE X (.Name x pos) (Ge i):=by
 intro pins s σ H Q I h
 obtain⟨v,e,h⟩:=h
 obtain⟨m,hn,hl⟩:=I.loc
 obtain⟨u,r,l⟩:=hl i x v hN e hv
 have fin:EP X pins σ Q u s:=⟨v,H,I,r,h⟩
 rcases l with⟨hk,hm⟩ | ⟨hk,c,hc,hcell⟩
 ·exact wpAny_Name (wpAny_loadName_local I.ok.kind hk hn hm fin) hd
 ·rcases hk with hk | hk
  ·exact wpAny_Name (wpAny_loadName_cell I.ok.kind hk hc hcell fin) hd
  ·exact wpAny_Name (wpAny_loadName_free I.ok.kind hk hc hcell fin hcd) hd
theorem yf {i j pos}:PE X (.Constant (.int i) j pos) (tC (.int i)):=fun _ _ _ H _ I h=>wpAny_Constant_int ⟨.int i,H,I.tok _,⟨_,rfl⟩,h⟩
theorem D8 {b j pos}:PE X (.Constant (.bool b) j pos) (tC (.bl b)):=fun _ _ _ H _ I h=>Constant_bool ⟨.bl b,H,I,rfl,h⟩
theorem CH {j pos}:PE X (.Constant .none j pos) (tC .non):=fun _ _ _ H _ I h=>Constant_none ⟨.non,H,I,rfl,h⟩
theorem DB {x j pos}:PE X (.Constant (.str x) j pos) (tC (.str x)):=fun _ _ _ H _ I h=>Calls.Constant_str ⟨.str x,H,I.tok _,⟨_,rfl⟩,h⟩
noncomputable def Gl (X:Cx) (x:Str):Prop:=X.env.kindOf x=some .globalImplicit
theorem gZ {E:Value->Shared->Prop} {pins:List (Addr × Obj)} {s:Shared} {σ:St} {H:Hp} {x:Str} {u:Value} {pos:Pos} {Q:Value->Shared->Prop} (I:Inv X pins σ H s) (hg:Gl X x) (hm:X.mg x=some u) (h:Q u s)
  (hd:(x == ("__debug__" : Str))=false:=by decide):wpAny (model X.prog X.w) X.A (eval (.Name x pos) X.env) Q E s:=
 Calls.Name_function_global I.ok.kind hg (Calls.loadGlobal_global (by rw[I.ok.glob];exact I.mod.glob.keeps I.bk) hm h) hd
theorem kf {E:Value->Shared->Prop} {pins:List (Addr × Obj)} {s:Shared} {σ:St} {H:Hp} {x:Str} {u:Value} {pos:Pos} {Q:Value->Shared->Prop} (I:Inv X pins σ H s) (hg:Gl X x) (hm:X.mg x=none) (hv:bootBuiltins x=some u) (h:Q u s)
  (hn:x≠"__name__" := by decide) (hd:(x == ("__debug__" : Str))=false:=by decide):wpAny (model X.prog X.w) X.A (eval (.Name x pos) X.env) Q E s:=by
 obtain⟨mb,h1,h2⟩:=I.mod.blt
 exact Calls.Name_function_global I.ok.kind hg (Calls.loadGlobal_builtin (by rw[I.ok.glob];exact I.mod.glob.keeps I.bk) hm (by rw[I.ok.blt];exact h1.keeps I.bk) ((h2 x hn).trans hv) h) hd
theorem AS {x:Str} {v:V} {u:Value} {pos:Pos} (hg:Gl X x) (hm:X.mg x=some u) (r:RelV v u) (hd:(x == ("__debug__" : Str))=false:=by decide):PE X (.Name x pos) (tC v):=
 fun _ _ _ H _ I h=>gZ I hg hm ⟨v,H,I,r,h⟩ hd
theorem uB {x:Str} {v:V} {u:Value} {pos:Pos} (hg:Gl X x) (hm:X.mg x=none) (hv:bootBuiltins x=some u) (r:RelV v u) (hn:x≠"__name__" := by decide) (hd:(x == ("__debug__" : Str))=false:=by decide):PE X (.Name x pos) (tC v):=
 fun _ _ _ H _ I h=>kf I hg hm hv ⟨v,H,I,r,h⟩ hn hd
variable {a b:Expr} {ta tb:TE} {pos:Pos}
variable {tA tB':TT} {rest:List Expr}
noncomputable def G_ (t u:TT):TT:=fun σ H Q=>t σ H fun c H1=>if c=true then u σ H1 Q else Q false H1
noncomputable def tOr (t u:TT):TT:=fun σ H Q=>t σ H fun c H1=>if c=true then Q true H1 else u σ H1 Q
noncomputable def GN (t:TT):TT:=fun σ H Q=>t σ H fun c H1=>Q (!c) H1
theorem pw_and1 (ha:PT X a tA):PW X (.BoolOp .And [a] pos) tA:=by
 intro wh pins s σ H Q I h
 refine isTrue_and (thn (ha pins s σ H Q I h) fun c s1 e=>?_)
 cases c with
 | true=>exact isTrue_and_nil e
 | false=>exact e
theorem pw_or1 (ha:PT X a tA):PW X (.BoolOp .Or [a] pos) tA:=by
 intro wh pins s σ H Q I h
 refine isTrue_or (thn (ha pins s σ H Q I h) fun c s1 e=>?_)
 cases c with
 | false=>exact isTrue_or_nil e
 | true=>exact e
theorem pw_and (ha:PT X a tA) (hb:PW X (.BoolOp .And (b::rest) pos) tB'):PW X (.BoolOp .And (a::b::rest) pos) (G_ tA tB'):=by
 intro wh pins s σ H Q I h
 refine isTrue_and (thn (ha pins s σ H _ I h) fun c s1 ⟨H1,I1,q1⟩=>?_)
 cases c with
 | true=>exact hb wh pins s1 σ H1 Q I1 q1
 | false=>exact⟨H1,I1,q1⟩
theorem pw_or (ha:PT X a tA) (hb:PW X (.BoolOp .Or (b::rest) pos) tB'):PW X (.BoolOp .Or (a::b::rest) pos) (tOr tA tB'):=by
 intro wh pins s σ H Q I h
 refine isTrue_or (thn (ha pins s σ H _ I h) fun c s1 ⟨H1,I1,q1⟩=>?_)
 cases c with
 | true=>exact⟨H1,I1,q1⟩
 | false=>exact hb wh pins s1 σ H1 Q I1 q1
theorem Cq (ha:PT X a tA):PT X (.UnaryOp .Not a pos) (GN tA):=by
 intro pins s σ H Q I h
 exact isTrue_not (ha pins s σ H (fun c H1=>Q (!c) H1) I h)
noncomputable def Ew (ta tb:TE):TE:=fun σ H Q=>ta σ H fun x H1=>∃c,x=.bl c/\if c=true then tb σ H1 Q else Q (.bl false) H1
noncomputable def Fg (ta:TE):TE:=fun σ H Q=>ta σ H fun x H1=>∃c,x=.bl c/\Q (.bl (!c)) H1
theorem Ci {op} {t:TE} (h:PE X a t):PE X (.BoolOp op [a] pos) t:=fun pins s σ H Q I hw=>BoolOp_one (h pins s σ H Q I hw)
theorem B9 (ha:PE X a ta) (hb:PE X (.BoolOp .And (b::rest) pos) tb):PE X (.BoolOp .And (a::b::rest) pos) (Ew ta tb):=by
 intro pins s σ H Q I h
 refine BoolOp_and (thn (ha pins s σ H _ I h) fun v s1 ⟨x,H1,I1,r1,q1⟩=>?_)
 obtain⟨c,rfl,q1⟩:=q1
 cases r1
 refine wpAny_truthy_bool ?_
 cases c with
 | true=>exact hb pins s1 σ H1 Q I1 q1
 | false=>exact⟨.bl false,H1,I1,rfl,q1⟩
theorem CY (ha:PE X a ta):PE X (.UnaryOp .Not a pos) (Fg ta):=by
 intro pins s σ H Q I h
 refine UnaryOp_ (thn (ha pins s σ H _ I h) fun v s1 ⟨x,H1,I1,r1,q1⟩=>?_)
 obtain⟨c,rfl,q1⟩:=q1
 cases r1
 exact not_of (wpAny_truthy_bool ⟨.bl (!c),H1,I1,rfl,q1⟩)
noncomputable def tIf (t:TT) (ta tb:TE):TE:=fun σ H Q=>t σ H fun c H1=>if c=true then ta σ H1 Q else tb σ H1 Q
theorem yS {c:Expr} (hc:PT X c tA) (ha:PE X a ta) (hb:PE X b tb):PE X (.IfExp c a b pos) (tIf tA ta tb):=by
 intro pins s σ H Q I h
 refine wpAny_IfExp (thn (hc pins s σ H _ I h) fun d s1 ⟨H1,I1,q1⟩=>?_)
 cases d with
 | true=>exact ha pins s1 σ H1 Q I1 q1
 | false=>exact hb pins s1 σ H1 Q I1 q1
end
noncomputable def SqL (K:PySem.W.Frag) (H:Hp) (a:Addr) (xs:List V):Prop:=
 Rd H a (.lst xs) ∨
  ∃(o:Obj) (its:Array Value) (n:Nat),K.lookup a=some o/\o.cls=.type "list" /\ o.dict=none/\o.data=.seq its n/\its.size<=sizeLine/\Vals xs its.toList
noncomputable def SqT (K:PySem.W.Frag) (H:Hp) (a:Addr) (xs:List V):Prop:=
 Rd H a (.tup xs) ∨
  ∃(o:Obj) (its:Array Value) (n:Nat),K.lookup a=some o/\o.cls=.type "tuple" /\ o.data=.seq its n/\its.size<=sizeLine/\Vals xs its.toList
noncomputable def Hg:Value->Option V
 | .none=>some .non
 | .bool b=>some (.bl b)
 | .int i _=>some (.int i)
 | .str x _=>some (.str x)
 | .bytes b _=>some (.byt b)
 | .float b _=>some (.flt b)
 | .ref a=>some (.ref a)
 | .type n=>some (.ty n)
 | _=>none
theorem RelV.abs {x:V} {u:Value} (r:RelV x u):Hg u=some x:=by
 cases x with
 | non=>cases r;rfl
 | bl _=>cases r;rfl
 | int _=>obtain⟨t,rfl⟩:=r;rfl
 | str _=>obtain⟨t,rfl⟩:=r;rfl
 | byt _=>obtain⟨t,rfl⟩:=r;rfl
 | flt _=>obtain⟨t,rfl⟩:=r;rfl
 | ref _=>cases r;rfl
 | ty _=>cases r;rfl
theorem RelV.inj {x y:V} {u:Value} (r:RelV x u) (q:RelV y u):x=y:=Option.some.inj (r.abs.symm.trans q.abs)
theorem Vals.inj:∀{xs ys:List V} {us:List Value},Vals xs us->Vals ys us->xs=ys
 | _,_,_,.nil,.nil=>rfl
 | _,_,_,.cons r t,.cons r' t'=>by rw[r.inj r',Vals.inj t t']
section
variable {X:Cx} {pins:List (Addr × Obj)} {σ:St} {H:Hp} {s:Shared} {a:Addr} {xs ys:List V}
theorem SqL.of {K:PySem.W.Frag} (h:H a=some (.lst xs)):SqL K H a xs:=.inl (.inl h)
theorem SqT.of {K:PySem.W.Frag} (h:H a=some (.tup xs)):SqT K H a xs:=.inl (.inl h)
theorem Inv.list (I:Inv X pins σ H s) (h:SqL X.K H a xs):∃its:List Value,Vals xs its/\PlainL s.heap a its.toArray/\xs.length<=sizeLine:=by
 rcases h with h | ⟨o,its,n,hk,hc,hd,hs,hz,r⟩
 ·obtain⟨z,its,n,r,e⟩:=h.ok I.hok
  exact⟨its,r,⟨_,n,e,rfl,rfl,rfl⟩,z⟩
 ·refine⟨its.toList,r,⟨o,n,I.kIn a o hk,hc,hd,by simpa using hs⟩,?_⟩
  have e:=r.length
  simp only[Array.length_toList] at e
  omega
theorem Inv.tuple (I:Inv X pins σ H s) (h:SqT X.K H a xs):∃its:List Value,Vals xs its/\IsTup s.heap a its.toArray/\xs.length<=sizeLine:=by
 rcases h with h | ⟨o,its,n,hk,hc,hs,hz,r⟩
 ·obtain⟨z,its,r,p⟩:=h.ok I.hok
  exact⟨its,r,p.tup,z⟩
 ·refine⟨its.toList,r,⟨o,I.kIn a o hk,hc,n,by simpa using hs⟩,?_⟩
  have e:=r.length
  simp only[Array.length_toList] at e
  omega
theorem Inv.i_ (I:Inv X pins σ H s) (h:SqL X.K H a xs) (h':SqL X.K H a ys):xs=ys:=by
 obtain⟨its,r,⟨o,n,e,_,_,d⟩,_⟩:=I.list h
 obtain⟨its',r',⟨o',n',e',_,_,d'⟩,_⟩:=I.list h'
 rw[e] at e';cases e'
 rw[d] at d'
 injection d' with d1 _
 have:its=its':=by simpa using congrArg Array.toList d1
 subst this
 exact r.inj r'
theorem Inv.gY (I:Inv X pins σ H s) (h:SqT X.K H a xs) (h':SqT X.K H a ys):xs=ys:=by
 obtain⟨its,r,⟨o,e,_,n,d⟩,_⟩:=I.tuple h
 obtain⟨its',r',⟨o',e',_,n',d'⟩,_⟩:=I.tuple h'
 rw[e] at e';cases e'
 rw[d] at d'
 injection d' with d1 _
 have:its=its':=by simpa using congrArg Array.toList d1
 subst this
 exact r.inj r'
end
noncomputable abbrev Cx.kd (X:Cx) (E:Value->Shared->Prop):Cx:={ X with xe:=E }
noncomputable abbrev Cx.nox (X:Cx):Cx:=X.kd fun _ _=>False
theorem Cx.Ok.kd {X:Cx} (ok:X.Ok) (E:Value->Shared->Prop):(X.kd E).Ok:=
 ⟨ok.mod,ok.kind,ok.glob,ok.blt,ok.above,ok.inj,ok.has,ok.cab,ok.hd,ok.frames,ok.stk,ok.exf,ok.bs,ok.bsz,ok.qr,ok.qS,ok.h7,ok.frf⟩
theorem Cx.Ok.eC {X:Cx} {E:Value->Shared->Prop} (ok:(X.kd E).Ok):X.Ok:=
 ⟨ok.mod,ok.kind,ok.glob,ok.blt,ok.above,ok.inj,ok.has,ok.cab,ok.hd,ok.frames,ok.stk,ok.exf,ok.bs,ok.bsz,ok.qr,ok.qS,ok.h7,ok.frf⟩
section
variable {X:Cx} {pins:List (Addr × Obj)} {σ:St} {H:Hp} {s:Shared} {E:Value->Shared->Prop}
theorem Inv.kd (I:Inv X pins σ H s) (E:Value->Shared->Prop):Inv (X.kd E) pins σ H s:=⟨I.ok.kd E,I.os,I.bare,I.base,I.loc,I.cell,I.free,I.dm,I.pin,I.hok,I.len⟩
theorem Inv.eC (I:Inv (X.kd E) pins σ H s):Inv X pins σ H s:=⟨I.ok.eC,I.os,I.bare,I.base,I.loc,I.cell,I.free,I.dm,I.pin,I.hok,I.len⟩
theorem SP.eC {D:Ends} {f:Flow} {s':Shared} (h:SP (X.kd E) pins D f s'):SP X pins D f s':=by
 cases f with
 | next=>obtain⟨σ',H',I,q⟩:=h;exact⟨σ',H',I.eC,q⟩
 | brk=>obtain⟨σ',H',I,q⟩:=h;exact⟨σ',H',I.eC,q⟩
 | cont=>obtain⟨σ',H',I,q⟩:=h;exact⟨σ',H',I.eC,q⟩
 | ret u=>obtain⟨v,σ',H',I,r,q⟩:=h;exact⟨v,σ',H',I.eC,r,q⟩
theorem PE.nox {e:Expr} {t:TE} (h:PE X.nox e t):PE X e t:=fun pins s σ H Q I hw=>
 wpAny_mono (h pins s σ H Q (I.kd _) hw) (fun _ _ ⟨v,H',I',r,q⟩=>⟨v,H',I'.eC,r,q⟩) fun _ _ z=>False.elim z
theorem PT.nox {e:Expr} {t:TT} (h:PT X.nox e t):PT X e t:=fun pins s σ H Q I hw=>
 wpAny_mono (h pins s σ H Q (I.kd _) hw) (fun _ _ ⟨H',I',q⟩=>⟨H',I'.eC,q⟩) fun _ _ z=>False.elim z
theorem PSs.nox {st:List Stmt} {t:TS} (h:PSs X.nox st t):PSs X st t:=fun pins s σ H D I hw=>
 wpAny_mono (h pins s σ H D (I.kd _) hw) (fun _ _ q=>q.eC) fun _ _ z=>False.elim z
end
section
variable {X:Cx} {st:Stmt} {rest:List Stmt} {t u:TS} {e:Expr} {te:TE} {pos:Pos}
noncomputable def EF:TS:=fun D σ H=>D.nx σ H
noncomputable def Gw (t u:TS):TS:=fun D σ H=>t { D with nx:=u D } σ H
theorem AG:PSs X [] EF:=fun _ _ σ H _ I h=>wpAny_execs_nil ⟨σ,H,I,h⟩
theorem yM (h1:PS X st t) (h2:PSs X rest u):PSs X (st::rest) (Gw t u):=by
 intro pins s σ H D I h
 refine wpAny_execs_cons (thn (h1 pins s σ H { D with nx:=u D } I h) fun f s1 q=>?_)
 cases f with
 | next=>
  obtain⟨σ',H',I',q⟩:=q
  exact h2 pins s1 σ' H' D I' q
 | ret v=>exact q
 | brk=>exact q
 | cont=>exact q
theorem uM (h1:PS X st t):PSs X [st] t:=by
 intro pins s σ H D I h
 refine wpAny_execs_cons (thn (h1 pins s σ H D I h) fun f s1 q=>?_)
 cases f with
 | next=>exact wpAny_execs_nil q
 | ret v=>exact q
 | brk=>exact q
 | cont=>exact q
theorem Inv.quiet {pins:List (Addr × Obj)} {σ:St} {H:Hp} {s:Shared} (I:Inv X pins σ H s):interactive X.env=false:=by simp[interactive,I.ok.kind]
noncomputable def D2 (te:TE):TS:=fun D σ H=>te σ H fun _ H1=>D.nx σ H1
theorem Bd (he:PE X e te) (hs:swapsWith e none pos.line X.env=pure false:=by rfl):PS X (.Expr e pos) (D2 te):=by
 intro pins s σ H D I h
 exact wpAny_Expr_any (thn (he pins s σ H _ I h) fun v s1 ⟨x,H1,I1,r1,q1⟩=>⟨σ,H1,I1,q1⟩) I.quiet hs
noncomputable def Hw (te:TE):TS:=fun D σ H=>te σ H D.rt
theorem xl (he:PE X e te):PS X (.Return (some e) pos) (Hw te):=by
 intro pins s σ H D I h
 exact wpAny_Return_some (thn (he pins s σ H _ I h) fun v s1 ⟨x,H1,I1,r1,q1⟩=>⟨x,σ,H1,I1,r1,q1⟩)
noncomputable def FW (c:TT) (t u:TS):TS:=fun D σ H=>c σ H fun b H1=>if b=true then t D σ H1 else u D σ H1
theorem EM {c:Expr} {a b:List Stmt} {tc:TT} (hc:PT X c tc) (ha:PSs X a t) (hb:PSs X b u):PS X (.If c a b pos) (FW tc t u):=by
 intro pins s σ H D I h
 refine wpAny_If (thn (hc pins s σ H _ I h) fun d s1 ⟨H1,I1,q1⟩=>?_)
 cases d with
 | true=>exact ha pins s1 σ H1 D I1 q1
 | false=>exact hb pins s1 σ H1 D I1 q1
noncomputable def C7:TS:=fun _ _ _=>False
theorem xC:PS X st C7:=fun _ _ _ _ _ _ h=>h.elim
end
noncomputable abbrev TG:=V->St->Hp->(St->Hp->Prop)->Prop
noncomputable abbrev TGs:=List V->St->Hp->(St->Hp->Prop)->Prop
noncomputable def PG (X:Cx) (target:Expr) (t:TG):Prop:=
 ∀(pins:List (Addr × Obj)) (s:Shared) (σ:St) (H:Hp) (v:V) (u:Value) (Q:St->Hp->Prop),Inv X pins σ H s->RelV v u->t v σ H Q →
  wpAny (model X.prog X.w) X.A (assign target X.env u) (fun _ s'=>∃σ' H',Inv X pins σ' H' s'/\Q σ' H') X.xe s
noncomputable def PGs (X:Cx) (ts:List Expr) (t:TGs):Prop:=
 ∀(pins:List (Addr × Obj)) (s:Shared) (σ:St) (H:Hp) (vs:List V) (us:List Value) (Q:St->Hp->Prop),Inv X pins σ H s->Vals vs us->t vs σ H Q →
  wpAny (model X.prog X.w) X.A (assignInOrder ((assignEach ts X.env).map (·.2)) us) (fun _ s'=>∃σ' H',Inv X pins σ' H' s'/\Q σ' H') X.xe s
noncomputable abbrev xm:=V->V->V->Hp->(Hp->Prop)->Prop
noncomputable def CU (X:Cx) (t:xm):Prop:=
 ∀(pins:List (Addr × Obj)) (s:Shared) (σ:St) (H:Hp) (o i v:V) (ov iv u:Value) (Q:Hp->Prop),Inv X pins σ H s->RelV o ov->RelV i iv->RelV v u->t o i v H Q →
  wpAny (model X.prog X.w) X.A (setItem ov iv u) (fun _ s'=>∃H',Inv X pins σ H' s'/\Q H') X.xe s
noncomputable abbrev TIp:=V->V->Hp->VK->Prop
noncomputable def PIp (X:Cx) (op:Operator) (t:TIp):Prop:=
 ∀(pins:List (Addr × Obj)) (s:Shared) (σ:St) (H:Hp) (x y:V) (v u:Value) (Q:VK),Inv X pins σ H s->RelV x v->RelV y u->t x y H Q →
  wpAny (model X.prog X.w) X.A (inplaceOp op v u) (EP X pins σ Q) X.xe s
section
variable {X:Cx} {pos:Pos}
noncomputable def fH (i:Nat):TG:=fun v σ H Q=>Q (σ.set i (some v)) H
theorem dA {i:Nat} {x:Str} (hN:X.N.Nodup) (hi:X.N[i]?=some x) (hx:Loc X.env.scope x) (hf:X.fn x=true\/X.env.scope.names.lookup x=some .local:=by first | exact .inl rfl | exact .inr rfl | assumption):PG X (.Name x pos) (fH i):=by
 intro pins s σ H v u Q I r h
 exact wpAny_assign_Name (eK I hN hi hx r (fun s' I'=>⟨_,H,I',h⟩) hf)
noncomputable def zP:TGs:=fun vs σ H Q=>vs=[]/\Q σ H
noncomputable def lK (t:TG) (u:TGs):TGs:=fun vs σ H Q=>∃v r,vs=v::r/\t v σ H fun σ' H'=>u r σ' H' Q
theorem Bg:PGs X [] zP:=by
 intro pins s σ H vs us Q I r h
 obtain⟨e,h⟩:=h
 subst e
 cases r
 exact assignInOrder_nil ⟨σ,H,I,h⟩
theorem r6 {e:Expr} {es:List Expr} {t:TG} {u:TGs} (h1:PG X e t) (h2:PGs X es u)
  (hs:(assignEach (e::es) X.env).map (·.2)=assign e X.env::(assignEach es X.env).map (·.2):=by rfl):PGs X (e::es) (lK t u):=by
 intro pins s σ H vs us Q I r h
 obtain⟨v,vr,e1,h⟩:=h
 subst e1
 cases r with
 | cons r rr=>
  rw[hs]
  refine assignInOrder_cons (thn (h1 pins s σ H _ _ _ I r h) fun _ s1 ⟨σ1,H1,I1,q1⟩=>?_)
  exact h2 pins s1 σ1 H1 _ _ Q I1 rr q1
noncomputable def Au (K:PySem.W.Frag) (n:Nat) (t:TGs):TG:=fun v σ H Q=>∃a xs,v=.ref a/\SqT K H a xs/\xs.length=n/\t xs σ H Q
theorem Cz {es:List Expr} {k:Nat} {t:TGs} {n:Nat} (hc:X.calm=true) (h:PGs X es t)
  (hn:(assignEach es X.env).length=n:=by rfl) (hst:(assignEach es X.env).findIdx? (·.1)=none:=by rfl):PG X (.Tuple es k pos) (Au X.K n t):=by
 intro pins s σ H v u Q I r hw
 obtain⟨a,xs,e1,hq,hl,hw⟩:=hw
 subst e1
 cases r
 obtain⟨its,rv,ht,hz⟩:=I.tuple hq
 refine assign_Tuple_tuple (I.ok.hd hc) ht (by simp[hn,<- hl,rv.length]) hst fun h' hx=>?_
 have I1:Inv X pins σ H { s with heap:=h' }:=I.kept (t':=s.toks) fun b o e=>hx b o (Nat.ne_of_lt (Heap.lt_size e)) e
 exact h pins _ σ H xs _ Q I1 (by simpa using rv) hw
noncomputable def Hz (to ti:TE) (t:xm):TG:=fun v σ H Q=>to σ H fun o H1=>ti σ H1 fun i H2=>t o i v H2 fun H3=>Q σ H3
theorem Cs {o i:Expr} {to ti:TE} {t:xm} (ho:PE X o to) (hi:PE X i ti) (hs:CU X t)
  (ha:∀v,assign (.Subscript o i pos) X.env v=(do
   let ov ← holding [v] (eval o X.env)
   let iv ← holding [v,ov] (eval i X.env)
   standAt pos
   holding [v,ov,iv] (setItem ov iv v)
   release [v,ov,iv] []):=by intro _;rfl):PG X (.Subscript o i pos) (Hz to ti t):=by
 intro pins s σ H v u Q I r h
 rw[ha]
 refine wpAny_bind (wpAny_holding (thn (ho pins s σ H _ I h) fun ov s1 ⟨x,H1,I1,r1,q1⟩=>?_))
 refine wpAny_bind (wpAny_holding (thn (hi pins s1 σ H1 _ I1 q1) fun iv s2 ⟨y,H2,I2,r2,q2⟩=>?_))
 refine wpAny_bind (wpAny_standAt (wpAny_bind (wpAny_holding (thn (hs pins s2 σ H2 x y v ov iv u _ I2 r1 r2 r q2) fun _ s3 ⟨H3,I3,q3⟩=>?_))))
 exact wpAny_release ⟨σ,H3,I3,q3⟩
noncomputable def BX (te:TE) (g:TG):TS:=fun D σ H=>te σ H fun x H1=>g x σ H1 D.nx
theorem DL {tg e:Expr} {te:TE} {g:TG} (he:PE X e te) (hg:PG X tg g) (hs:swapsWithSole [tg] e pos.line X.env=pure false:=by rfl) (hw:swappedStores [tg] e X.env=pure none:=by rfl)
  (h1:(assignEach [tg] X.env).map (·.2)=[assign tg X.env]:=by rfl):PS X (.Assign [tg] e pos) (BX te g):=by
 intro pins s σ H D I h
 refine wpAny_Assign_stores (thn (he pins s σ H _ I h) fun v s1 ⟨x,H1,I1,r1,q1⟩=>?_) hs hw
 rw[h1]
 exact thn (hg pins s1 σ H1 x v _ I1 r1 q1) fun _ s2 q=>q
theorem Cf {i:Nat} {x:Str} {e:Expr} {te:TE} {pos':Pos} (hN:X.N.Nodup) (hi:X.N[i]?=some x) (hx:Loc X.env.scope x) (he:PE X e te) (hs:swapsWith e (some (.Name x pos')) pos.line X.env=pure false:=by rfl) (hf:X.fn x=true\/X.env.scope.names.lookup x=some .local:=by first | exact .inl rfl | exact .inr rfl | assumption) :
  PS X (.Assign [.Name x pos'] e pos) (BX te (fH i)):=by
 intro pins s σ H D I h
 refine wpAny_Assign_Name (thn (he pins s σ H _ I h) fun v s1 ⟨y,H1,I1,r1,q1⟩=>?_) hs
 exact eK I1 hN hi hx r1 (fun s2 I2=>⟨_,H1,I2,q1⟩) hf
noncomputable def Gx (i j:Nat) (ta:TA):TS:=fun D σ H=>ta σ H fun vs H1=>∃v w,vs=[v,w]/\D.nx ((σ.set i (some v)).set j (some w)) H1
theorem DN {i j:Nat} {x y:Str} {a b:Expr} {ta:TA} {px py pt:Pos} {kt k2 pt2} (hc:X.calm=true) (hN:X.N.Nodup) (hi:X.N[i]?=some x) (hj:X.N[j]?=some y) (hij:i≠j)
  (hx:X.env.scope.names.lookup x=some .local) (hy:X.env.scope.names.lookup y=some .local) (ha:PA X [a,b] ta)
  (hw:swappedStores [.Tuple [.Name x px,.Name y py] kt pt] (.Tuple [a,b] k2 pt2) X.env=pure (some [x,y]))
  (hs:swapsWithSole [.Tuple [.Name x px,.Name y py] kt pt] (.Tuple [a,b] k2 pt2) pos.line X.env=pure false:=by rfl) :
  PS X (.Assign [.Tuple [.Name x px,.Name y py] kt pt] (.Tuple [a,b] k2 pt2) pos) (Gx i j ta):=by
 intro pins s σ H D I h
 rw[exec_Assign_arm]
 refine wpAny_bind (wpAny_standAt ?_)
 rw[hs]
 refine wpAny_bind (wpAny_pure ?_)
 rw[if_neg (by decide)]
 refine wpAny_bind (Tuple_ (thn (ha _ pins s σ H _ I h) fun us s1 ⟨vs,H1,I1,r1,q1⟩=>?_))
 obtain⟨v,w,e1,q1⟩:=q1
 subst e1
 obtain⟨u1,u2,rfl,rv,rw'⟩:∃u1 u2,us=[u1,u2]/\RelV v u1/\RelV w u2:=by
  cases r1 with
  | cons p q=>
   cases q with
   | cons p' q'=>
    cases q'
    exact⟨_,_,rfl,p,p'⟩
 refine wpAny_newObj_type ?_ (by show 2<=sizeLine;decide)
 have I2:Inv X pins σ H1 { s1 with heap:=s1.heap.push { cls:=.type "tuple", data:=.seq [u1,u2].toArray } }:=I1.kept (t':=s1.toks) fun b o e=>Heap.get?_push_of_some _ e
 rw[hw]
 refine wpAny_bind (wpAny_pure ?_)
 show wpAny (model X.prog X.w) X.A (do rule "assign.swapped-stores"; let items ← unpackItems (.ref s1.heap.objs.size) 2 none;assignInOrder [fun v=>bindName X.env y v,fun v=>bindName X.env x v] items.reverse;pure Flow.next) _ _ _
 refine wpAny_bind (wpAny_rule (wpAny_bind (unpackItems_tuple (items:=#[u1,u2]) (I.ok.hd hc) (IsTup.new s1.heap _) fun h' hx'=>?_)))
 have I3:=I2.kept (h':=h') (t':=s1.toks) fun b o e=>hx' b o (Nat.ne_of_lt (Heap.lt_size e)) e
 show wpAny _ _ (assignInOrder [fun v=>bindName X.env y v,fun v=>bindName X.env x v] [u2,u1] >>= fun _=>pure Flow.next) _ _ _
 refine wpAny_bind (assignInOrder_cons (wpAny_bindName (eK I3 hN hj (.inl hy) rw' (fun s2 I4=>?_) (.inr hy))))
 refine assignInOrder_cons (wpAny_bindName (eK I4 hN hi (.inl hx) rv (fun s3 I5=>assignInOrder_nil (wpAny_pure ?_)) (.inr hx)))
 rw[List.set_comm _ _ (Ne.symm hij)] at I5
 exact⟨_,H1,I5,q1⟩
noncomputable def G4 (i:Nat) (te:TE) (ti:TIp):TS:=fun D σ H=>∃x,σ[i]?=some (some x)/\te σ H fun y H1=>ti x y H1 fun z H2=>D.nx (σ.set i (some z)) H2
theorem B6 {i:Nat} {x:Str} {e:Expr} {te:TE} {op:Operator} {ti:TIp} {pos':Pos} (hN:X.N.Nodup) (hi:X.N[i]?=some x) (hx:Loc X.env.scope x) (he:PE X e te) (ho:PIp X op ti) (hf:X.fn x=true\/X.env.scope.names.lookup x=some .local:=by first | exact .inl rfl | exact .inr rfl | assumption) :
  PS X (.AugAssign (.Name x pos') op e pos) (G4 i te ti):=by
 intro pins s σ H D I h
 obtain⟨v,e1,h⟩:=h
 obtain⟨m,hn,hl⟩:=I.loc
 have vis:Vis X.env.scope x:=by rcases hx with k | k;exact .inl k;exact .inr (.inl k)
 obtain⟨u,r,l⟩:=hl i x v hi e1 vis
 refine wpAny_AugAssign_Name ?_
 have go:wpAny (model X.prog X.w) X.A (eval e X.env) (fun w s₂=>wpAny (model X.prog X.w) X.A (inplaceOp op u w) (fun r s₃=>wpAny (model X.prog X.w) X.A (storeName X.env x r) (fun _=>SP X pins D .next) X.xe s₃) X.xe s₂) X.xe s:=by
  refine thn (he pins s σ H _ I h) fun w s1 ⟨y,H1,I1,r1,q1⟩=>?_
  refine thn (ho pins s1 σ H1 v y u w _ I1 r r1 q1) fun z s2 ⟨zv,H2,I2,r2,q2⟩=>?_
  exact eK I2 hN hi hx r2 (fun s3 I3=>⟨_,H2,I3,q2⟩) hf
 rcases l with⟨hk,hm⟩ | ⟨hk,c,hc,hcell⟩
 ·exact wpAny_loadName_local I.ok.kind hk hn hm go
 ·rcases hk with hk | hk
  ·exact wpAny_loadName_cell I.ok.kind hk hc hcell go
  ·rcases hx with k | k
   ·have:X.env.scope.names.lookup x=some .free:=hk
    rw[k] at this;cases this
   ·have:X.env.scope.names.lookup x=some .free:=hk
    rw[k] at this;cases this
noncomputable def ipI (f:Int->Int->Int):TIp:=fun x y H Q=>∃i j,x=.int i/\y=.int j/\Q (.int (f i j)) H
theorem DD:PIp X .Add (ipI fun i j=>i+j):=by
 intro pins s σ H x y v u Q I r1 r2 h
 obtain⟨i,j,e1,e2,q⟩:=h
 subst e1;subst e2
 obtain⟨t,rfl⟩:=r1
 obtain⟨t',rfl⟩:=r2
 exact iadd_int ⟨.int _,H,I.tok _,⟨_,rfl⟩,q⟩
end
section
variable {X:Cx} {pos:Pos}
noncomputable def Dt (c:TT) (tb:TS):TS:=fun D σ H=>∃W:Nat->St->Hp->Prop,(∃m,W m σ H)/\∀m σ H,W m σ H →
 c σ H fun b H1=>if b=true then ∃N:St->Hp->Prop,(∀σ' H',N σ' H'->∃m',m'<m/\W m' σ' H')/\tb { D with nx:=N,ct:=N,bk:=D.nx } σ H1 else D.nx σ H1
theorem yV {c:Expr} {body:List Stmt} {tc:TT} {tb:TS} (hp:PassesOwn (model X.prog X.w) X.A X.env X.xe) (hc:PT X c tc) (hb:PSs X body tb):PS X (.While c body [] pos) (Dt tc tb):=by
 intro pins s σ H D I h
 obtain⟨W,⟨m0,w0⟩,turn⟩:=h
 refine wpAny_While (codeAny_whileLoop (fun n s'=>∃σ' H',Inv X pins σ' H' s'/\W n σ' H') ?_ m0 ⟨σ,H,I,w0⟩)
 rintro n s1 ⟨σ1,H1,I1,w1⟩
 refine wpAny_passesOwn hp (thn (hc pins s1 σ1 H1 _ I1 (turn n σ1 H1 w1)) fun b s2 ⟨H2,I2,q2⟩=>?_)
 cases b with
 | true=>
  obtain⟨N,hN,q2⟩:=q2
  rw[if_pos rfl]
  refine wpAny_passesOwn hp (thn (hb pins s2 σ1 H2 _ I2 q2) fun f s3 q3=>?_)
  cases f with
  | next=>
   obtain⟨σ3,H3,I3,n3⟩:=q3
   obtain⟨m',hm,w3⟩:=hN σ3 H3 n3
   exact⟨m',hm,σ3,H3,I3,w3⟩
  | cont=>
   obtain⟨σ3,H3,I3,n3⟩:=q3
   obtain⟨m',hm,w3⟩:=hN σ3 H3 n3
   exact⟨m',hm,σ3,H3,I3,w3⟩
  | brk=>exact q3
  | ret v=>exact q3
 | false=>
  rw[if_neg Bool.false_ne_true]
  exact wpAny_execs_nil ⟨σ1,H2,I2,q2⟩
end
structure It where
 go:Nat->Hp->Prop
 yld:Nat->Hp->V->Hp->Prop
 stop:Nat->Hp->Prop
noncomputable def mR (X:Cx) (pins:List (Addr × Obj)) (H:Hp) (b:Addr):Prop:=
 H b=none/\b≠X.env.locals/\b∉X.fs/\(b∈X.ex\/X.aJ.heap.objs.size<=b)/\(∀x c,X.env.cells.lookup x=some c->c≠b)/\∀p∈X.pn++pins,p.1≠b
theorem Inv.Ae {X:Cx} {pins:List (Addr × Obj)} {σ:St} {H H':Hp} {s:Shared} {b:Addr} (I:Inv X pins σ H s) (hb:s.heap.objs.size<=b) (hn:H' b=none):mR X pins H' b:=by
 refine⟨hn,Nat.ne_of_gt (Nat.lt_of_lt_of_le I.lt hb),I.D1 hb,.inr (Nat.le_trans I.sz hb),fun x c e z=>?_,fun p hp z=>?_⟩
 ·obtain⟨v,q⟩:=I.cell x c e
  exact absurd (Nat.lt_of_lt_of_le q.lt (by rw[z];exact hb)) (Nat.lt_irrefl _)
 ·exact absurd (Nat.lt_of_lt_of_le (Heap.lt_size (I.pin p hp).1) (by rw[z];exact hb)) (Nat.lt_irrefl _)
structure Turn (P:Program) (w:World) (K:PySem.W.Frag) (tg:Expr) (J:It) (fp:List Addr) (it:Addr) (tn:Nat->Heap->Prop):Prop where
 mem:it∈fp
 obj:∀i h,tn i h->∀b∈fp,∃o,h.get? b=some o/\∀v,o.data≠.cell v
 keep:∀i h h',tn i h->(∀b∈fp,∀o,h.get? b=some o->h'.get? b=some o)->tn i h'
 item:∀(X:Cx),X.prog=P->X.w=w->X.K=K->X.calm=true->∀(i:Nat) (pins:List (Addr × Obj)) (s:Shared) (σ:St) (H:Hp) (E:Value->Shared->Prop),Inv X pins σ H s->(∀b∈fp,mR X pins H b)->tn i s.heap->J.go i H →
  wpAny (model P w) X.A (pyNext (.ref it)) (fun r s1=>∃u,r=some u ∧
   wpAny (model P w) X.A (letOwnedTupleGo tg (.ref it) u) (fun _ s2=>∃x H',Inv X pins σ H' s2/\RelV x u/\J.yld i H x H'/\tn (i+1) s2.heap/\∀b∈fp,H' b=none) E s1) E s
 done:∀(X:Cx),X.prog=P->X.w=w->X.K=K->X.calm=true->∀(i:Nat) (pins:List (Addr × Obj)) (s:Shared) (σ:St) (H:Hp) (E:Value->Shared->Prop),Inv X pins σ H s->(∀b∈fp,mR X pins H b)->tn i s.heap->J.stop i H →
  wpAny (model P w) X.A (pyNext (.ref it)) (fun r s1=>r=none/\Inv X pins σ H s1) E s
 self:∀(A:Around) (i:Nat) (s:Shared) (Q:Value->Shared->Prop) (E:Value->Shared->Prop),tn i s.heap->Q (.ref it) s->wpAny (model P w) A (pyIter (.ref it)) Q E s
noncomputable abbrev TI:=St->Hp->(It->Hp->Prop)->Prop
noncomputable def PIE (X:Cx) (pins:List (Addr × Obj)) (σ:St) (tg:Expr) (R:It->Hp->Prop) (itv:Value) (s2:Shared):Prop:=
 ∃(it:Addr) (fp:List Addr) (tn:Nat->Heap->Prop) (J:It) (H':Hp),itv=.ref it/\Inv X pins σ H' s2/\Turn X.prog X.w X.K tg J fp it tn/\tn 0 s2.heap/\(∀b∈fp,mR X pins H' b)/\R J H'
noncomputable def PI (X:Cx) (tg iter:Expr) (wi:TI):Prop:=
 ∀(pins:List (Addr × Obj)) (s:Shared) (σ:St) (H:Hp) (R:It->Hp->Prop),Inv X pins σ H s->wi σ H R →
  wpAny (model X.prog X.w) X.A (eval iter X.env) (fun v s1=>wpAny (model X.prog X.w) X.A (pyIter v) (PIE X pins σ tg R) X.xe s1) X.xe s
theorem x_ {M:Model} {A:Around} {E:Value->Shared->Prop} {s:Shared} {tg:Expr} {it:Addr} {u:Value} {o:Obj} {n:String} {vs:Array Value} {Q:Unit->Shared->Prop} (ho:s.heap.get? it=some o) (hc:o.cls=.type n) (hd:o.data=.fields vs)
  (hn:["enumerate", "zip", "dict_itemiterator", "dict_reverseitemiterator", "odict_iterator", "itertools.zip_longest", "itertools.pairwise"].contains n=false) (hQ:Q () s):wpAny M A (letOwnedTupleGo tg (.ref it) u) Q E s:=by
 unfold letOwnedTupleGo
 cases tg<;>first
  | exact wpAny_pure hQ
  | (cases u<;>first
    | exact wpAny_pure hQ
    | (refine wpAny_bind (wpAny_load ho ?_)
       rw[hc,hd]
       show wpAny M A (if (["enumerate", "zip", "dict_itemiterator", "dict_reverseitemiterator", "odict_iterator", "itertools.zip_longest", "itertools.pairwise"].contains n&&vs[0]? == some (rawInt _))=true then _ else _) Q E s
       rw[if_neg (by intro h;rw[hn,Bool.false_and] at h;cases h)]
       exact wpAny_pure hQ))
noncomputable def Itl (K:PySem.W.Frag) (a:Addr):It:=
 ⟨fun i H=>∃xs x,SqL K H a xs/\xs[i]?=some x,fun i H x H'=>H'=H/\∀xs,SqL K H a xs->xs[i]?=some x,fun i H=>∃xs,SqL K H a xs/\xs.length<=i⟩
noncomputable def Itt (K:PySem.W.Frag) (a:Addr):It:=
 ⟨fun i H=>∃xs x,SqT K H a xs/\xs[i]?=some x,fun i H x H'=>H'=H/\∀xs,SqT K H a xs->xs[i]?=some x,fun i H=>∃xs,SqT K H a xs/\xs.length<=i⟩
noncomputable def Itr (lo:Int) (n:Nat):It:=⟨fun i _=>i<n,fun i H x H'=>H'=H/\x=.int (lo+i),fun i _=>n<=i⟩
theorem vn {P:Program} {w:World} {K:PySem.W.Frag} {tg:Expr} (a it:Addr):Turn P w K tg (Itl K a) [it] it (fun i h=>h.IsListIter it a i) where
 mem:=by simp
 obj:=fun i h st b hb=>by
  have e:b=it:=by simpa using hb
  subst e
  obtain⟨o,e,c,d⟩:=st
  exact⟨o,e,fun v z=>by rw[d] at z;cases z⟩
 keep:=fun i h h' st k=>st.at fun o e=>k it (by simp) o e
 item:=by
  intro X hP hw hK hc i pins s σ H E I hf st hg
  subst hP hw hK
  obtain⟨xs,x,hq,hx⟩:=hg
  obtain⟨its,rv,p,hz⟩:=I.list hq
  obtain⟨u,hu,ru⟩:=rv.get hx
  obtain⟨f0,f1,f2,f3,f4,f5⟩:=hf it (by simp)
  refine wpAny_pyNext_list_item st p.isList (x:=u) (by simpa using hu) fun h' st' sb=>?_
  have I1:Inv X pins σ H { s with heap:=h' }:=I.turned (t':=s.toks) (fun b o hb e=>(sb.2 b hb).trans e) f0 f1 f3 f4 f5
  obtain⟨o,e,c,d⟩:=id st'
  exact⟨u,rfl,x_ (s:={ s with heap:=h' }) e c d (by decide) ⟨x,H,I1,ru,⟨rfl,fun ys hy=>by rw[I.i_ hy hq];exact hx⟩,st',fun b hb=>(hf b hb).1⟩⟩
 done:=by
  intro X hP hw hK hc i pins s σ H E I hf st hg
  subst hP hw hK
  obtain⟨xs,hq,hx⟩:=hg
  obtain⟨its,rv,p,hz⟩:=I.list hq
  obtain⟨f0,f1,f2,f3,f4,f5⟩:=hf it (by simp)
  have hl:=rv.length
  exact wpAny_pyNext_list_end (I.ok.hd hc) st p.isList (by simp;omega) fun h' eb=>⟨rfl,I.turned (t':=s.toks) (fun b o hb e=>eb b o hb e) f0 f1 f3 f4 f5⟩
 self:=fun _ _ _ _ _ st h=>wpAny_pyIter_listiter st h
theorem sI {P:Program} {w:World} {K:PySem.W.Frag} {tg:Expr} (a it:Addr):Turn P w K tg (Itt K a) [it] it (fun i h=>h.IsTupleIter it a i) where
 mem:=by simp
 obj:=fun i h st b hb=>by
  have e:b=it:=by simpa using hb
  subst e
  obtain⟨o,e,c,d⟩:=st
  exact⟨o,e,fun v z=>by rw[d] at z;cases z⟩
 keep:=fun i h h' st k=>st.at fun o e=>k it (by simp) o e
 item:=by
  intro X hP hw hK hc i pins s σ H E I hf st hg
  subst hP hw hK
  obtain⟨xs,x,hq,hx⟩:=hg
  obtain⟨its,rv,p,hz⟩:=I.tuple hq
  obtain⟨u,hu,ru⟩:=rv.get hx
  obtain⟨f0,f1,f2,f3,f4,f5⟩:=hf it (by simp)
  refine wpAny_pyNext_tuple_item st (show s.heap.IsTuple a its.toArray from p) (x:=u) (by simpa using hu) fun h' st' sb=>?_
  have I1:Inv X pins σ H { s with heap:=h' }:=I.turned (t':=s.toks) (fun b o hb e=>(sb.2 b hb).trans e) f0 f1 f3 f4 f5
  obtain⟨o,e,c,d⟩:=id st'
  exact⟨u,rfl,x_ (s:={ s with heap:=h' }) e c d (by decide) ⟨x,H,I1,ru,⟨rfl,fun ys hy=>by rw[I.gY hy hq];exact hx⟩,st',fun b hb=>(hf b hb).1⟩⟩
 done:=by
  intro X hP hw hK hc i pins s σ H E I hf st hg
  subst hP hw hK
  obtain⟨xs,hq,hx⟩:=hg
  obtain⟨its,rv,p,hz⟩:=I.tuple hq
  obtain⟨f0,f1,f2,f3,f4,f5⟩:=hf it (by simp)
  have hl:=rv.length
  exact wpAny_pyNext_tuple_end (I.ok.hd hc) st (show s.heap.IsTuple a its.toArray from p) (by simp;omega) fun h' eb=>⟨rfl,I.turned (t':=s.toks) (fun b o hb e=>eb b o hb e) f0 f1 f3 f4 f5⟩
 self:=fun _ _ _ _ _ st h=>wpAny_pyIter_tupleiter st h
theorem tZ {P:Program} {w:World} {K:PySem.W.Frag} {tg:Expr} (it:Addr) (lo:Int) (n:Nat):Turn P w K tg (Itr lo n) [it] it (fun i h=>IsRangeIter h it (lo+(i:Nat)*1) ((n:Int) - (i:Nat)) 1) where
 mem:=by simp
 obj:=fun i h st b hb=>by
  have e:b=it:=by simpa using hb
  subst e
  exact⟨_,st,fun v z=>by
   have z':Data.fields _=Data.cell v:=z
   cases z'⟩
 keep:=fun i h h' st k=>k it (by simp) _ st
 item:=by
  intro X hP hw hK hc i pins s σ H E I hf st hg
  subst hP hw hK
  obtain⟨f0,f1,f2,f3,f4,f5⟩:=hf it (by simp)
  have W:=Walks.range (prog:=X.prog) (w:=X.w) (I.ok.hd hc) it lo 1 n
  refine W.item i s _ _ hg st fun v h' tk hv st' kk=>?_
  obtain⟨t,rfl⟩:=hv
  have I1:Inv X pins σ H { s with heap:=h',toks:=tk }:=I.turned (fun b o hb e=>kk b o (by simpa using hb) e) f0 f1 f3 f4 f5
  refine⟨_,rfl,x_ (s:={ s with heap:=h',toks:=tk }) (n:="range_iterator") st' rfl rfl (by decide) ⟨.int (lo+i),H,I1,⟨t,?_⟩,⟨rfl,rfl⟩,st',fun b hb=>(hf b hb).1⟩⟩
  rw[Int.mul_one]
 done:=by
  intro X hP hw hK hc i pins s σ H E I hf st hg
  subst hP hw hK
  obtain⟨f0,f1,f2,f3,f4,f5⟩:=hf it (by simp)
  exact wpAny_pyNext_range_end (I.ok.hd hc) st (by have:n<=i:=hg;omega) fun h' eb=>⟨rfl,I.turned (t':=s.toks) (fun b o hb e=>eb b o hb e) f0 f1 f3 f4 f5⟩
 self:=fun _ _ _ _ _ st h=>wpAny_pyIter_rangeiter st h
section
variable {X:Cx} {tg:Expr}
theorem qX {pins:List (Addr × Obj)} {σ:St} {H:Hp} {s:Shared} {R:It->Hp->Prop} {E:Value->Shared->Prop} {lo hi:Int} {t u v:Tok} {tk:Nat} (I:Inv X pins σ H s) (h1:-(2 ^ 62)<=lo) (h2:lo<2 ^ 62) (h3:-(2 ^ 62)<=hi) (h4:hi<2 ^ 62)
  (q:R (Itr lo (hi - lo).toNat) H):wpAny (model X.prog X.w) X.A (pyIter (.ref s.heap.objs.size)) (PIE X pins σ tg R) E { s with heap:=s.heap.push { cls:=.type "range", data:=.fields #[.int lo t,.int hi u,.int 1 v] },toks:=tk }:=by
 refine wpAny_pyIter_range (IsRange.new ..) (small_one h1 h2 h3 h4) ?_
 have I1:Inv X pins σ H { s with heap:=s.heap.push { cls:=.type "range", data:=.fields #[.int lo t,.int hi u,.int 1 v] },toks:=tk }:=I.kept fun b o e=>Heap.get?_push_of_some _ e
 refine⟨(s.heap.push { cls:=.type "range", data:=.fields #[.int lo t,.int hi u,.int 1 v] }).objs.size,[(s.heap.push { cls:=.type "range", data:=.fields #[.int lo t,.int hi u,.int 1 v] }).objs.size],_,_,H,rfl,
  I1.kept (t':=tk) fun b o e=>Heap.get?_push_of_some _ e,tZ _ lo (hi - lo).toNat,?_,fun b hb=>?_,q⟩
 ·have e1:lo+((0:Nat):Int)*1=lo:=by simp
  have e2:(((hi - lo).toNat:Nat):Int) - ((0:Nat):Int)=Builtin.Range.rangeSize lo hi 1:=by rw[rangeSize_one];split<;>omega
  show IsRangeIter _ _ (lo+((0:Nat):Int)*1) ((((hi - lo).toNat:Nat):Int) - ((0:Nat):Int)) 1
  rw[e1,e2]
  exact Heap.get?_push_size _ rfl
 ·have e:b=(s.heap.push { cls:=.type "range", data:=.fields #[.int lo t,.int hi u,.int 1 v] }).objs.size:=by simpa using hb
  subst e
  exact I1.Ae (Nat.le_refl _) (I1.hok.fresh (Nat.le_refl _))
noncomputable def Es (ta:TA):TI:=fun σ H R=>ta σ H fun vs H1=>∃j:Int,vs=[.int j]/\-(2 ^ 62)<=j/\j<2 ^ 62/\R (Itr 0 j.toNat) H1
noncomputable def Eb (ta:TA):TI:=fun σ H R=>ta σ H fun vs H1=>∃i j:Int,vs=[.int i,.int j]/\(-(2 ^ 62)<=i/\i<2 ^ 62/\-(2 ^ 62)<=j/\j<2 ^ 62)/\R (Itr i (j - i).toNat) H1
theorem vK {a:Expr} {ta:TA} {p pos:Pos} (hg:Gl X "range") (hm:X.mg "range" = none) (ha:PA X [a] ta) (hs:starEach [a] X.env=[(false,eval a X.env)]:=by rfl):PI X tg (.Call (.Name "range" p) [a] [] pos) (Es ta):=by
 intro pins s σ H R I h
 refine Call_ (kf I hg hm boot_range (PyProof.Rows.callWith_type1 (thn (ha pos pins s σ H _ I h) fun us s1 ⟨vs,H1,I1,r1,q1⟩=>?_) hs rfl))
 obtain⟨j,e,q1,q2,q⟩:=q1
 subst e
 cases r1 with
 | cons r rr=>
  cases rr
  obtain⟨t,rfl⟩:=r
  exact call_range_1 (qX I1 (by omega) (by omega) q1 q2 (by simpa using q))
theorem wO {a b:Expr} {ta:TA} {p pos:Pos} (hg:Gl X "range") (hm:X.mg "range" = none) (ha:PA X [a,b] ta) (hs:starEach [a,b] X.env=[(false,eval a X.env),(false,eval b X.env)]:=by rfl) (hs2:starEach [b] X.env=[(false,eval b X.env)]:=by rfl) :
  PI X tg (.Call (.Name "range" p) [a,b] [] pos) (Eb ta):=by
 intro pins s σ H R I h
 refine Call_ (kf I hg hm boot_range (PyProof.Rows.callWith_type1 (thn (ha pos pins s σ H _ I h) fun us s1 ⟨vs,H1,I1,r1,q1⟩=>?_) (by rw[hs,hs2]) (by rw[hs2];rfl)))
 obtain⟨i,j,e,⟨q1,q2,q3,q4⟩,q⟩:=q1
 subst e
 cases r1 with
 | cons r rr=>
  cases rr with
  | cons r' rr=>
   cases rr
   obtain⟨t,rfl⟩:=r
   obtain⟨t',rfl⟩:=r'
   exact call_range_2 (qX I1 q1 q2 q3 q4 q)
noncomputable def Gh (wi:TI) (g:TG) (tb:TS):TS:=fun D σ H=>wi σ H fun J H1=>∃W:Nat->Nat->St->Hp->Prop,(∃m,W 0 m σ H1)/\∀i m σ H,W i m σ H →
 (J.stop i H/\D.nx σ H)\/(J.go i H/\∃N:St->Hp->Prop,(∀σ' H',N σ' H'->∃m',m'<m/\W (i+1) m' σ' H')/\∀x H',J.yld i H x H'->g x σ H' fun σ2 H2=>tb { D with nx:=N,ct:=N,bk:=D.nx } σ2 H2)
noncomputable def l7 (fp:List Addr) (h:Heap):List (Addr × Obj):=fp.filterMap fun b=>(h.get? b).map fun o=>(b,o)
theorem fO {fp:List Addr} {h:Heap} {b:Addr} {o:Obj} (hb:b∈fp) (e:h.get? b=some o):(b,o)∈l7 fp h:=List.mem_filterMap.mpr ⟨b,hb,by rw[e];rfl⟩
theorem wo {fp:List Addr} {h:Heap} {p:Addr × Obj} (hp:p∈l7 fp h):p.1∈fp/\h.get? p.1=some p.2:=by
 obtain⟨b,hb,e⟩:=List.mem_filterMap.mp hp
 cases q:h.get? b with
 | none=>rw[q] at e;cases e
 | some o=>
  rw[q] at e
  have e':(b,o)=p:=Option.some.inj e
  subst e'
  exact⟨hb,q⟩
theorem Inv.pinned {pins:List (Addr × Obj)} {σ:St} {H:Hp} {s:Shared} {fp:List Addr} (I:Inv X pins σ H s) (hf:∀b∈fp,mR X pins H b) (ho:∀b∈fp,∃o,s.heap.get? b=some o/\∀v,o.data≠.cell v):Inv X (pins++l7 fp s.heap) σ H s:=
 I.kP fun p hp=>(List.mem_append.mp hp).elim (fun z=>I.pin p (List.mem_append_right _ z)) fun z=>by
  obtain⟨hb,e⟩:=wo z
  obtain⟨f0,f1,f2,_⟩:=hf p.1 hb
  obtain⟨o,e',d⟩:=ho p.1 hb
  rw[e] at e';cases e'
  exact⟨e,f0,f1,f2,d⟩
theorem Inv.jv {pins pl:List (Addr × Obj)} {σ:St} {H:Hp} {s:Shared} (I:Inv X (pins++pl) σ H s):Inv X pins σ H s:=I.kP fun p hp=>I.pin p (List.mem_append_right _ (List.mem_append_left _ hp))
theorem De {iter:Expr} {body:List Stmt} {wi:TI} {g:TG} {tb:TS} {pos:Pos} (hp:PassesOwn (model X.prog X.w) X.A X.env X.xe) (hc:X.calm=true) (hi:PI X tg iter wi) (hg:PG X tg g) (hb:PSs X body tb)
  (hs:∀x,foldedSetIterable iter X.env x=pure x:=by intro _;rfl):PS X (.For tg iter body [] pos) (Gh wi g tb):=by
 intro pins s σ H D I h
 refine wpAny_For (thn (hi pins s σ H _ I h) fun v s1 h1=>thn h1 fun itv s2 h2=>?_) hs
 obtain⟨it,fp,tn,J,H2,e,I2,T,st2,f2,W,⟨m0,w0⟩,turn⟩:=h2
 subst e
 -- what stays true of the iterator's objects through the loop
 have stat:∀{H':Hp},(∀b∈fp,H' b=none)->∀b∈fp,mR X pins H' b:=fun hn b hb=>⟨hn b hb,(f2 b hb).2⟩
 refine codeAny_forLoop_any (fun n s'=>∃i σ' H',Inv X pins σ' H' s'/\tn i s'.heap/\(∀b∈fp,H' b=none)/\W i n σ' H') ?_ m0 ⟨0,σ,H2,I2,st2,fun b hb=>(f2 b hb).1,w0⟩
 rintro n s3 ⟨i,σ3,H3,I3,st3,fr3,w3⟩
 rcases turn i n σ3 H3 w3 with⟨stop,qn⟩ | ⟨go,N,hN,step⟩
 ·refine wpAny_passesOwn hp (thn (T.done X rfl rfl rfl hc i pins s3 σ3 H3 X.xe I3 (stat fr3) st3 stop) fun r s4 ⟨hr,I4⟩=>?_)
  subst hr
  exact wpAny_execs_nil ⟨σ3,H3,I4,qn⟩
 ·refine wpAny_passesOwn hp (thn (T.item X rfl rfl rfl hc i pins s3 σ3 H3 X.xe I3 (stat fr3) st3 go) fun r s4 ⟨u,hr,h4⟩=>?_)
  subst hr
  refine wpAny_passesOwn hp (thn h4 fun _ s5 ⟨x,H5,I5,r5,y5,st5,fr5⟩=>?_)
  have I5':=I5.pinned (stat fr5) (T.obj _ _ st5)
  refine wpAny_passesOwn hp (thn (hg _ s5 σ3 H5 x u _ I5' r5 (step x H5 y5)) fun _ s6 ⟨σ6,H6,I6,q6⟩=>?_)
  refine wpAny_passesOwn hp (thn (hb _ s6 σ6 H6 _ I6 q6) fun f s7 q7=>?_)
  have again:∀{σ7:St} {H7:Hp},Inv X (pins++l7 fp s5.heap) σ7 H7 s7->N σ7 H7->∃m,m<n/\∃i σ' H',Inv X pins σ' H' s7/\tn i s7.heap/\(∀b∈fp,H' b=none)/\W i m σ' H':=fun{σ7 H7} I7 n7=>by
   obtain⟨m',hm,w7⟩:=hN σ7 H7 n7
   refine⟨m',hm,i+1,σ7,H7,I7.jv,T.keep _ _ _ st5 fun b hb o e=>(I7.pin (b,o) (List.mem_append_right _ (List.mem_append_right _ (fO hb e)))).1,fun b hb=>?_,w7⟩
   obtain⟨o,e,d⟩:=T.obj _ _ st5 b hb
   exact(I7.pin (b,o) (List.mem_append_right _ (List.mem_append_right _ (fO hb e)))).2.1
  cases f with
  | next=>obtain⟨σ7,H7,I7,n7⟩:=q7;exact again I7 n7
  | cont=>obtain⟨σ7,H7,I7,n7⟩:=q7;exact again I7 n7
  | brk=>obtain⟨σ7,H7,I7,q7⟩:=q7;exact⟨σ7,H7,I7.jv,q7⟩
  | ret v=>obtain⟨x7,σ7,H7,I7,r7,q7⟩:=q7;exact⟨x7,σ7,H7,I7.jv,r7,q7⟩
end
noncomputable abbrev R2:=V->V->Hp->VK->Prop
noncomputable def OpR (X:Cx) (f:Value->Value->Sem Value) (r:R2):Prop:=
 ∀(pins:List (Addr × Obj)) (s:Shared) (σ:St) (H:Hp) (x y:V) (v u:Value) (Q:VK),Inv X pins σ H s->RelV x v->RelV y u->r x y H Q →
  wpAny (model X.prog X.w) X.A (f v u) (EP X pins σ Q) X.xe s
noncomputable def UnR (X:Cx) (f:Value->Sem Value) (r:V->Hp->VK->Prop):Prop:=
 ∀(pins:List (Addr × Obj)) (s:Shared) (σ:St) (H:Hp) (x:V) (v:Value) (Q:VK),Inv X pins σ H s->RelV x v->r x H Q →
  wpAny (model X.prog X.w) X.A (f v) (EP X pins σ Q) X.xe s
noncomputable def aR (X:Cx) (f:Value) (r:List V->Hp->VK->Prop):Prop:=
 ∀(pins:List (Addr × Obj)) (s:Shared) (σ:St) (H:Hp) (xs:List V) (us:List Value) (Q:VK),Inv X pins σ H s->Vals xs us->r xs H Q →
  wpAny (model X.prog X.w) X.A (call f us) (EP X pins σ Q) X.xe s
noncomputable def F8 (X:Cx) (r:V->Hp->(Bool->Hp->Prop)->Prop):Prop:=
 ∀(pins:List (Addr × Obj)) (s:Shared) (σ:St) (H:Hp) (x:V) (v:Value) (Q:Bool->Hp->Prop),Inv X pins σ H s->RelV x v->r x H Q →
  wpAny (model X.prog X.w) X.A (truthy v) (TP X pins σ Q) X.xe s
noncomputable def tOp (r:R2) (ta tb:TE):TE:=fun σ H Q=>ta σ H fun x H1=>tb σ H1 fun y H2=>r x y H2 Q
noncomputable def tUn (r:V->Hp->VK->Prop) (ta:TE):TE:=fun σ H Q=>ta σ H fun x H1=>r x H1 Q
noncomputable def rI (C:Int->Int->Prop) (g:Int->Int->V):R2:=fun x y H Q=>∃i j,x=.int i/\y=.int j/\C i j/\Q (g i j) H
noncomputable def rI0 (g:Int->Int->V):R2:=fun x y H Q=>∃i j,x=.int i/\y=.int j/\Q (g i j) H
noncomputable def rU (g:Int->V):V->Hp->VK->Prop:=fun x H Q=>∃i,x=.int i/\Q (g i) H
section
variable {X:Cx} {a b c:Expr} {ta tb tc:TE} {pos:Pos}
theorem Dg (ha:PE X a ta) (hb:PE X b tb) {pins:List (Addr × Obj)} {s:Shared} {σ:St} {H:Hp} {R:V->V->Hp->Prop} (I:Inv X pins σ H s)
  (h:ta σ H fun x H1=>tb σ H1 fun y H2=>R x y H2) {Q:Value->Shared->Prop} {f:Value->Value->Sem Value}
  (hf:∀v u s2 x y H2,Inv X pins σ H2 s2->RelV x v->RelV y u->R x y H2->wpAny (model X.prog X.w) X.A (f v u) Q X.xe s2) :
  wpAny (model X.prog X.w) X.A (eval a X.env) (fun v s₁=>wpAny (model X.prog X.w) X.A (eval b X.env) (fun u s₂=>wpAny (model X.prog X.w) X.A (f v u) Q X.xe s₂) X.xe s₁) X.xe s:=by
 refine thn (ha pins s σ H _ I h) fun v s1 ⟨x,H1,I1,r1,q1⟩=>?_
 refine thn (hb pins s1 σ H1 _ I1 q1) fun u s2 ⟨y,H2,I2,r2,q2⟩=>?_
 exact hf v u s2 x y H2 I2 r1 r2 q2
theorem E9 {op:Operator} {r:R2} (ho:OpR X (binaryOp op) r) (ha:PE X a ta) (hb:PE X b tb):PE X (.BinOp a op b pos) (tOp r ta tb):=by
 intro pins s σ H Q I h
 exact wpAny_BinOp (Dg ha hb I h fun v u s2 x y H2 I2 rx ry q=>ho pins s2 σ H2 x y v u Q I2 rx ry q)
theorem BG {op:UnaryOp} {r:V->Hp->VK->Prop} (ho:UnR X (unaryOp op) r) (ha:PE X a ta):PE X (.UnaryOp op a pos) (tUn r ta):=by
 intro pins s σ H Q I h
 exact UnaryOp_ (thn (ha pins s σ H _ I h) fun v s1 ⟨x,H1,I1,r1,q1⟩=>ho pins s1 σ H1 x v Q I1 r1 q1)
theorem opI {f:Value->Value->Sem Value} {C:Int->Int->Prop} {g:Int->Int->Int}
  (rule:∀(i j:Int) (t u:Tok) (s:Shared) (Q:Value->Shared->Prop) (E:Value->Shared->Prop),C i j->Q (.int (g i j) s.toks) { s with toks:=s.toks+1 }->wpAny (model X.prog X.w) X.A (f (.int i t) (.int j u)) Q E s) :
  OpR X f (rI C fun i j=>.int (g i j)):=by
 intro pins s σ H x y v u Q I rx ry h
 obtain⟨i,j,rfl,rfl,hc,q⟩:=h
 obtain⟨t,rfl⟩:=rx
 obtain⟨t',rfl⟩:=ry
 exact rule i j t t' s _ _ hc ⟨.int (g i j),H,I.tok _,⟨_,rfl⟩,q⟩
theorem Ep {f:Value->Value->Sem Value} {g:Int->Int->Int}
  (rule:∀(i j:Int) (t u:Tok) (s:Shared) (Q:Value->Shared->Prop) (E:Value->Shared->Prop),Q (.int (g i j) s.toks) { s with toks:=s.toks+1 }->wpAny (model X.prog X.w) X.A (f (.int i t) (.int j u)) Q E s) :
  OpR X f (rI0 fun i j=>.int (g i j)):=by
 intro pins s σ H x y v u Q I rx ry h
 obtain⟨i,j,rfl,rfl,q⟩:=h
 obtain⟨t,rfl⟩:=rx
 obtain⟨t',rfl⟩:=ry
 exact rule i j t t' s _ _ ⟨.int (g i j),H,I.tok _,⟨_,rfl⟩,q⟩
theorem zL {f:Value->Value->Sem Value} {g:Int->Int->Bool}
  (rule:∀(i j:Int) (t u:Tok) (s:Shared) (Q:Value->Shared->Prop) (E:Value->Shared->Prop),Q (.bool (g i j)) s->wpAny (model X.prog X.w) X.A (f (.int i t) (.int j u)) Q E s) :
  OpR X f (rI0 fun i j=>.bl (g i j)):=by
 intro pins s σ H x y v u Q I rx ry h
 obtain⟨i,j,rfl,rfl,q⟩:=h
 obtain⟨t,rfl⟩:=rx
 obtain⟨t',rfl⟩:=ry
 exact rule i j t t' s _ _ ⟨.bl (g i j),H,I,rfl,q⟩
theorem C6:OpR X (binaryOp .Add) (rI0 fun i j=>.int (i+j)):=Ep fun _ _ _ _ _ _ _ q=>add_int q
theorem dH:OpR X (binaryOp .Sub) (rI0 fun i j=>.int (i - j)):=Ep fun _ _ _ _ _ _ _ q=>sub_int q
theorem mq:OpR X (binaryOp .Mod) (rI (fun _ j=>0<j) fun i j=>.int (i % j)):=opI fun i j _ _ _ _ _ hc q=>by
 have h1:(0:Int)<j:=hc
 exact mod_int' (by omega) (by rw[Int.fmod_eq_emod_of_nonneg i (by omega)];exact q)
theorem unI {f:Value->Sem Value} {g:Int->Int}
  (rule:∀(i:Int) (t:Tok) (s:Shared) (Q:Value->Shared->Prop) (E:Value->Shared->Prop),Q (.int (g i) s.toks) { s with toks:=s.toks+1 }->wpAny (model X.prog X.w) X.A (f (.int i t)) Q E s) :
  UnR X f (rU fun i=>.int (g i)):=by
 intro pins s σ H x v Q I rx h
 obtain⟨i,rfl,q⟩:=h
 obtain⟨t,rfl⟩:=rx
 exact rule i t s _ _ ⟨.int (g i),H,I.tok _,⟨_,rfl⟩,q⟩
theorem iA:UnR X (unaryOp .USub) (rU fun i=>.int (-i)):=unI fun _ _ _ _ _ q=>neg_int q
end
section
variable {X:Cx} {a b c:Expr} {ta tb tc:TE} {pos:Pos}
theorem qK:OpR X (compareOp .Lt) (rI0 fun i j=>.bl (decide (i<j))):=zL fun _ _ _ _ _ _ _ q=>lt_int q
theorem uJ:OpR X (compareOp .LtE) (rI0 fun i j=>.bl (decide (i<=j))):=zL fun _ _ _ _ _ _ _ q=>le_int q
theorem Bv:OpR X (compareOp .Gt) (rI0 fun i j=>.bl (decide (j<i))):=zL fun _ _ _ _ _ _ _ q=>gt_int q
theorem Fz:OpR X (compareOp .GtE) (rI0 fun i j=>.bl (decide (j<=i))):=zL fun _ _ _ _ _ _ _ q=>ge_int q
theorem bH (b:Expr) {op:CmpOp} (h:op≠.In:=by decide) (h2:op≠.NotIn:=by decide):behindInMarks op b=false:=by
 have e1:(op == CmpOp.In)=false:=by cases op<;>first | rfl | exact absurd rfl h
 have e2:(op == CmpOp.NotIn)=false:=by cases op<;>first | rfl | exact absurd rfl h2
 cases b<;>simp[behindInMarks,e1,e2]
theorem Ag {op:CmpOp} {r:R2} (ho:OpR X (compareOp op) r) (ha:PE X a ta) (hb:PE X b tb) (hm:behindInMarks op b=false):PE X (.Compare a [op] [b] pos) (tOp r ta tb):=by
 intro pins s σ H Q I h
 exact wpAny_Compare1 (Dg ha hb I h fun v u s2 x y H2 I2 rx ry q=>ho pins s2 σ H2 x y v u Q I2 rx ry q) hm
noncomputable def zd (t:TE):TT:=fun σ H Q=>t σ H fun x H'=>∃k,x=.bl k/\Q k H'
theorem Be {op:CmpOp} {r:R2} (ho:OpR X (compareOp op) r) (ha:PE X a ta) (hb:PE X b tb) (hm:behindInMarks op b=false):PT X (.Compare a [op] [b] pos) (zd (tOp r ta tb)):=by
 intro pins s σ H Q I h
 refine wpAny_isTrue_Compare1 (thn (ha pins s σ H _ I h) fun v s1 ⟨x,H1,I1,r1,q1⟩=>thn (hb pins s1 σ H1 _ I1 q1) fun u s2 ⟨y,H2,I2,r2,q2⟩=>
  thn (ho pins s2 σ H2 x y v u _ I2 r1 r2 q2) fun c s3 ⟨z,H3,I3,r3,k,e,q3⟩=>?_) hm
 subst e
 cases r3
 exact wpAny_truthy_bool ⟨H3,I3,q3⟩
noncomputable def t6 (r r':R2) (ta tb tc:TE):TE:=fun σ H Q=>ta σ H fun x H1=>tb σ H1 fun y H2=>r x y H2 fun z H3=>∃k,z=.bl k ∧
 (if k=true then tc σ H3 fun w' H4=>r' y w' H4 Q else Q (.bl false) H3)
theorem yR {op op':CmpOp} {r r':R2} (ho:OpR X (compareOp op) r) (ho':OpR X (compareOp op') r') (ha:PE X a ta) (hb:PE X b tb) (hc:PE X c tc)
  (hm:lastMarks [op,op'] [b,c]=false:=by with_unfolding_all rfl):PE X (.Compare a [op,op'] [b,c] pos) (t6 r r' ta tb tc):=by
 intro pins s σ H Q I h
 refine Compare_chain (thn (ha pins s σ H _ I h) fun v s1 ⟨x,H1,I1,r1,q1⟩=>chain_link (thn (hb pins s1 σ H1 _ I1 q1) fun u s2 ⟨y,H2,I2,r2,q2⟩=>
  thn (ho pins s2 σ H2 x y v u _ I2 r1 r2 q2) fun d s3 ⟨z,H3,I3,r3,k,e,q3⟩=>?_)) hm
 subst e
 cases r3
 refine wpAny_truthy_bool ?_
 cases k with
 | false=>exact ite_ff ⟨.bl false,H3,I3,rfl,q3⟩
 | true=>exact ite_tt (chain_last (thn (hc pins s3 σ H3 _ I3 q3) fun w' s4 ⟨z',H4,I4,r4,q4⟩=>ho' pins s4 σ H4 y z' u w' Q I4 r2 r4 q4))
theorem yJ {op op':CmpOp} {r r':R2} (ho:OpR X (compareOp op) r) (ho':OpR X (compareOp op') r') (ha:PE X a ta) (hb:PE X b tb) (hc:PE X c tc)
  (hm:lastMarks [op,op'] [b,c]=false:=by with_unfolding_all rfl):PT X (.Compare a [op,op'] [b,c] pos) (zd (t6 r r' ta tb tc)):=by
 intro pins s σ H Q I h
 refine isTrue_chain (thn (ha pins s σ H _ I h) fun v s1 ⟨x,H1,I1,r1,q1⟩=>test_link (thn (hb pins s1 σ H1 _ I1 q1) fun u s2 ⟨y,H2,I2,r2,q2⟩=>
  thn (ho pins s2 σ H2 x y v u _ I2 r1 r2 q2) fun d s3 ⟨z,H3,I3,r3,k,e,q3⟩=>?_)) hm
 subst e
 cases r3
 refine wpAny_truthy_bool ?_
 cases k with
 | false=>
  obtain⟨k',e',q'⟩:=q3
  cases e'
  exact ite_ff ⟨H3,I3,q'⟩
 | true=>
  refine ite_tt (test_last (thn (hc pins s3 σ H3 _ I3 q3) fun w' s4 ⟨z',H4,I4,r4,q4⟩=>thn (ho' pins s4 σ H4 y z' u w' _ I4 r2 r4 q4) fun d' s5 ⟨z2,H5,I5,r5,k2,e2,q5⟩=>?_))
  subst e2
  cases r5
  exact wpAny_truthy_bool ⟨H5,I5,q5⟩
noncomputable def Bo (K:PySem.W.Frag) (x:V) (H:Hp) (k:Bool):Prop:=
 match x with
 | .non=>k=false
 | .bl b=>k=b
 | .int i=>k=(i != 0)
 | .str y=>y.length<=sizeLine/\k=((y.length:Int) != 0)
 | .byt y=>y.size<=sizeLine/\k=((y.size:Int) != 0)
 | .ref p=>(∃xs,SqL K H p xs/\k = !xs.isEmpty)\/(∃xs,SqT K H p xs/\k = !xs.isEmpty)\/∃kvs,H p=some (.dK kvs)/\k = !kvs.isEmpty
 | _=>False
theorem sG {κ:Type} {kvs:List (κ × V)} {vs:List (κ × Value)} (r:KV kvs vs):(!vs.isEmpty) = !kvs.isEmpty:=by
 cases r<;>rfl
theorem mK {xs:List V} {its:List Value} (r:Vals xs its):(!its.toArray.isEmpty) = !xs.isEmpty:=by
 cases r<;>simp
theorem iN:(sizeLine:Nat)<2 ^ 63:=by rw[sizeLine_eq];decide
theorem CB:F8 X (fun x H Q=>∃k,Bo X.K x H k/\Q k H):=by
 intro pins s σ H x v Q I rx h
 obtain⟨k,e,q⟩:=h
 have hl:=iN
 have hs:sizeLine=16777216:=sizeLine_eq
 cases x with
 | non=>
  cases rx
  have e':k=false:=e
  subst e'
  exact truthy_none ⟨H,I,q⟩
 | bl b=>
  cases rx
  have e':k=b:=e
  subst e'
  exact wpAny_truthy_bool ⟨H,I,q⟩
 | int i=>
  obtain⟨t,rfl⟩:=rx
  have e':k=(i != 0):=e
  subst e'
  exact PySem.P.truthy_int ⟨H,I,q⟩
 | str y=>
  obtain⟨t,rfl⟩:=rx
  obtain⟨hy,e'⟩:y.length<=sizeLine/\k=((y.length:Int) != 0):=e
  subst e'
  exact PySem.P.truthy_str (by omega) ⟨H,I.tok _,q⟩
 | byt y=>
  obtain⟨t,rfl⟩:=rx
  obtain⟨hy,e'⟩:y.size<=sizeLine/\k=((y.size:Int) != 0):=e
  subst e'
  exact PySem.W.truthy_bytes (by omega) ⟨H,I.tok _,q⟩
 | ref p=>
  cases rx
  have e':(∃xs,SqL X.K H p xs/\k = !xs.isEmpty)\/(∃xs,SqT X.K H p xs/\k = !xs.isEmpty)\/∃kvs,H p=some (.dK kvs)/\k = !kvs.isEmpty:=e
  rcases e' with⟨xs,hx,e'⟩ | ⟨xs,hx,e'⟩ | ⟨kvs,hx,e'⟩
  ·subst e'
   obtain⟨its,r,pl,hz⟩:=I.list hx
   have hlen:=r.length
   exact wpAny_truthy_list pl.isList (by simp only[List.size_toArray];omega) ⟨H,I.tok _,by rw[mK r];exact q⟩
  ·subst e'
   obtain⟨its,r,pl,hz⟩:=I.tuple hx
   have hlen:=r.length
   exact truthy_tuple pl (by simp only[List.size_toArray];omega) ⟨H,I.tok _,by rw[mK r];exact q⟩
  ·subst e'
   obtain⟨hz,hS,vs,r,m⟩:kvs.length<=sizeLine/\(p == sysModules)=false/\∃vs,KV kvs vs/\s.heap.DictOf (qv X.prog X.w) p vs:=I.hok p _ hx
   have hlen:kvs.length=vs.length:=Paired.length r
   exact wpAny_truthy_dict hS m (by omega) ⟨H,I.tok _,by rw[sG r];exact q⟩
 | _=>exact(show False from e).elim
theorem xR (ha:PE X a ta) (he:∀whole,isTrue a X.env whole=(do let v ← whole;standAt a.pos;holding [v] (truthy v))) :
  PT X a (fun σ H Q=>ta σ H fun x H'=>∃k,Bo X.K x H' k/\Q k H'):=by
 intro pins s σ H Q I h
 exact isTrue_plain (thn (ha pins s σ H _ I h) fun v s1 ⟨x,H1,I1,r1,q1⟩=>CB pins s1 σ H1 x v Q I1 r1 q1) (he _)
theorem sE:OpR X (binaryOp .Add) (fun x y H Q=>∃i j,x=.str i/\y=.str j/\i.length+j.length<=sizeLine/\Q (.str (i++j)) H):=by
 intro pins s σ H x y v u Q I rx ry h
 obtain⟨i,j,rfl,rfl,hz,q⟩:=h
 obtain⟨t,rfl⟩:=rx
 obtain⟨t',rfl⟩:=ry
 exact add_str (fun t' tk=>⟨.str (i++j),H,I.tok _,⟨_,rfl⟩,q⟩) hz
theorem vals1 {x:V} {us:List Value} (r:Vals [x] us):∃u,us=[u]/\RelV x u:=by
 cases r with
 | cons r1 r2=>cases r2;exact⟨_,rfl,r1⟩
theorem vals2 {x y:V} {us:List Value} (r:Vals [x,y] us):∃u w',us=[u,w']/\RelV x u/\RelV y w':=by
 cases r with
 | cons r1 r2=>
  cases r2 with
  | cons r3 r4=>cases r4;exact⟨_,_,rfl,r1,r3⟩
theorem wI (hc:X.calm=true):aR X (.builtin "max") (fun xs H Q=>∃i j,xs=[.int i,.int j]/\Q (.int (if j > i then j else i)) H):=by
 intro pins s σ H xs us Q I r h
 obtain⟨i,j,rfl,q⟩:=h
 obtain⟨u,w',rfl,⟨t,rfl⟩,⟨t',rfl⟩⟩:=vals2 r
 refine max_two_ints (I.ok.hd hc) fun h' tk k=>⟨_,H,I.kept k,?_,q⟩
 by_cases hj:j > i
 ·rw[if_pos hj,if_pos hj];exact⟨_,rfl⟩
 ·rw[if_neg hj,if_neg hj];exact⟨_,rfl⟩
theorem wJ (hc:X.calm=true):aR X (.builtin "min") (fun xs H Q=>∃i j,xs=[.int i,.int j]/\Q (.int (if j<i then j else i)) H):=by
 intro pins s σ H xs us Q I r h
 obtain⟨i,j,rfl,q⟩:=h
 obtain⟨u,w',rfl,⟨t,rfl⟩,⟨t',rfl⟩⟩:=vals2 r
 refine min_two_ints (I.ok.hd hc) fun h' tk k=>⟨_,H,I.kept k,?_,q⟩
 by_cases hj:j<i
 ·rw[if_pos hj,if_pos hj];exact⟨_,rfl⟩
 ·rw[if_neg hj,if_neg hj];exact⟨_,rfl⟩
theorem vL:aR X (.type "int") (fun xs H Q=>(∃i,xs=[.int i]/\Q (.int i) H)\/∃k,xs=[.bl k]/\Q (.int (if k then 1 else 0)) H):=by
 intro pins s σ H xs us Q I r h
 rcases h with⟨i,rfl,q⟩ | ⟨k,rfl,q⟩
 ·obtain⟨u,rfl,t,rfl⟩:=vals1 r
  exact call_int_int ⟨.int i,H,I,⟨_,rfl⟩,q⟩
 ·obtain⟨u,rfl,r1⟩:=vals1 r
  cases r1
  exact call_int_bool ⟨.int (if k then 1 else 0),H,I.tok _,⟨_,rfl⟩,q⟩
end
structure DM (h:Heap) (x dx C:Addr) (mA:Str->Option Value):Prop where
 obj:h.get? x=some (PySem.W.instObj C dx)
 ns:h.Ns1 dx mA
 ne:dx≠x
theorem wB {h:Heap} {dx:Addr} {mA:Str->Option Value} (n:h.Ns1 dx mA):∃od,h.get? dx=some od/\∀name,PySem.W.lookIn name od=some (mA name):=by
 obtain⟨o,es,ep,ho,hd,hk,_,hm⟩:=n
 refine⟨o,ho,fun name=>?_⟩
 have e:=hm name
 unfold nsFind findBy at e
 rw[<- Array.find?_toList] at e
 unfold PySem.W.lookIn
 rw[hd]
 dsimp only
 split
 ·rename_i y q
  rw[q] at e
  exact congrArg some e
 ·rename_i q
  rw[q] at e
  have a:es.toList.any (·.refKey)=false:=by
   rw[List.any_eq_false]
   intro y hy
   obtain⟨z,t,hkey⟩:=hk y (Array.mem_toList_iff.mp hy)
   simp[DictEntry.refKey,hkey]
  have a':¬ es.toList.any (·.refKey)=true:=by rw[a];exact Bool.false_ne_true
  rw[if_neg a']
  exact congrArg some e
theorem DM.look {h:Heap} {x dx C:Addr} {mA:Str->Option Value} (I:DM h x dx C mA):∃od,PySem.W.InstAt h x (PySem.W.instObj C dx) C (some od)/\∀name,PySem.W.lookIn name od=some (mA name):=
 let ⟨od,ho,hl⟩:=wB I.ns
 ⟨od,⟨I.obj,rfl,rfl,ho⟩,hl⟩
section
variable {P:Program} {w:World} {H H':Hp} {h h':Heap} {a C dx:Addr} {fs fs':List (Str × V)}
theorem Bh (hok:HOk P w H h) (e:H a=some (.ins C dx fs)):∃mA,DM h a dx C mA/\(∀f,Cp (fs.lookup f) (mA f))/\PySem.Within mA (fs.map (·.1))/\fs.length<=1000/\H dx=some (.own a):=by
 obtain⟨d,z,ne,ob,mA,n,r,q⟩:=(show bZ P w H h a (.ins C dx fs) from hok a _ e)
 exact⟨mA,⟨ob,n,ne⟩,r,q,z,d⟩
end
structure Cls (K:PySem.W.Frag) (C:Addr):Prop where
 pg:PySem.W.plainGet K C Str.empty=true
 hd:PySem.W.hasDictIn K C=true
 po:PySem.W.plainOver K C=true
 sa:PySem.W.findIn K (.ref C) "__setattr__" = some (some (.builtin "object.__setattr__"))
theorem Cls.get {K:PySem.W.Frag} {C:Addr} (c:Cls K C) (f:Str):PySem.W.plainGet K C f=true:=c.pg
section
variable {X:Cx} {pins:List (Addr × Obj)} {σ:St} {H:Hp} {s:Shared} {a C dx:Addr} {fs:List (Str × V)} {f:Str} {v:V} {A:Around} {E:Value->Shared->Prop}
theorem zZ {prog:Program} {w:World} {env:Env} {e:Expr} {f:Str} {pos:Pos} {s:Shared} {Q:Value->Shared->Prop} (hb:attributeBase e f env (eval e env)=eval e env)
  (h:wpAny (model prog w) A (eval e env) (fun o s₁=>wpAny (model prog w) A (getAttr o f true) Q E s₁) E s):wpAny (model prog w) A (eval (.Attribute e f pos) env) Q E s:=
 Attribute_any_ h (by rw[arm_eval_Attribute,hb])
end
section
variable {X:Cx} {pins:List (Addr × Obj)} {σ:St} {H:Hp} {s:Shared} {A:Around} {E:Value->Shared->Prop} {Q:Value->Shared->Prop} {c:Value} {b:Bool}
inductive iG (K:PySem.W.Frag) (H:Hp):V->Value->Prop where
 | non:iG K H .non (.type "NoneType")
 | bl (x:Bool):iG K H (.bl x) (.type "bool")
 | int (i:Int):iG K H (.int i) (.type "int")
 | str (x:Str):iG K H (.str x) (.type "str")
 | flt (x:UInt64):iG K H (.flt x) (.type "float")
 | lst {a:Addr} {xs:List V} (e:H a=some (.lst xs)):iG K H (.ref a) (.type "list")
 | frz {a:Addr} {o:Obj} {xs:List V} (e:H a=some (.frz o (.lst xs))):iG K H (.ref a) (.type "list")
 | tup {a:Addr} {xs:List V} (e:H a=some (.tup xs)):iG K H (.ref a) (.type "tuple")
 | fM {a:Addr} {o:Obj} {kvs:List (Key × V)} (e:H a=some (.frz o (.dK kvs))):iG K H (.ref a) (.type "dict")
 | dK {a:Addr} {kvs:List (Key × V)} (e:H a=some (.dK kvs)):iG K H (.ref a) (.type "dict")
 | dT {a:Addr} {kvs:List (List Key × V)} (e:H a=some (.dT kvs)):iG K H (.ref a) (.type "dict")
 | ins {a C dx:Addr} {fs:List (Str × V)} (e:H a=some (.ins C dx fs)) (cl:Cls K C) (ha:PySem.W.findIn K (.ref C) "__class__" = some (some (.builtin "object.__class__")))
   (hn:PySem.W.specialIn K (.builtin "object.__class__") "__get__" = some (some (.builtin "getset_descriptor.__get__"))) (htk:PySem.W.takesIn K (.builtin "object.__class__")=some true)
   (hm:PySem.W.mroIn K C (.type "object")=some true):iG K H (.ref a) (.ref C)
theorem vP {x:V} {u t:Value} (I:Inv X pins σ H s) (rx:RelV x u) (ty:iG X.K H x t) (e:PySem.W.kitOne X.K t c=some b) (h:∀tk,Q (.bool b) { s with toks:=tk }) :
  wpAny (model X.prog X.w) A (call (.builtin "isinstance") [u,c]) Q E s:=by
 cases ty with
 | non=>cases (show u=Value.none from rx);exact PySem.W.kia_one PySem.W.kitx_none I.kIn True.intro e (fun z=>nomatch z) h
 | bl y=>cases (show u=Value.bool y from rx);exact PySem.W.kia_one PySem.W.kitx_bool I.kIn True.intro e (fun z=>nomatch z) h
 | int i=>obtain⟨t,q⟩:=(show ∃t,u=Value.int i t from rx);cases q;exact PySem.W.kia_one PySem.W.kitx_int I.kIn True.intro e (fun z=>nomatch z) h
 | str y=>obtain⟨t,q⟩:=(show ∃t,u=Value.str y t from rx);cases q;exact PySem.W.kia_one PySem.W.kitx_str I.kIn True.intro e (fun z=>nomatch z) h
 | flt y=>obtain⟨t,q⟩:=(show ∃t,u=Value.float y t from rx);cases q;exact PySem.W.kia_one PySem.W.kitx_float I.kIn True.intro e (fun z=>nomatch z) h
 | @lst a xs ea=>
  cases (show u=Value.ref a from rx)
  obtain⟨_,_,n,_,h1⟩:=(show bZ X.prog X.w H s.heap a (.lst xs) from I.hok a _ ea)
  exact PySem.W.kia_one PySem.W.kitx_list I.kIn ⟨_,h1,rfl⟩ e (fun z=>nomatch z) h
 | @frz a ob xs ea=>
  cases (show u=Value.ref a from rx)
  obtain⟨_,_,_,n,_,h1⟩:=(show bZ X.prog X.w H s.heap a (.frz ob (.lst xs)) from I.hok a _ ea)
  exact PySem.W.kia_one PySem.W.kitx_list I.kIn ⟨_,h1,rfl⟩ e (fun z=>nomatch z) h
 | @tup a xs ea=>
  cases (show u=Value.ref a from rx)
  obtain⟨_,_,_,p⟩:=(show bZ X.prog X.w H s.heap a (.tup xs) from I.hok a _ ea)
  obtain⟨o,h1,⟨h2,_⟩,_⟩:=p
  exact PySem.W.kia_one PySem.W.kitx_tuple I.kIn ⟨o,h1,h2⟩ e (fun z=>nomatch z) h
 | @fM a ob kvs ea=>
  cases (show u=Value.ref a from rx)
  obtain⟨_,_,_,vs,_,p⟩:=(show bZ X.prog X.w H s.heap a (.frz ob (.dK kvs)) from I.hok a _ ea)
  obtain⟨o,es,ep,h1,h2,_⟩:=p
  exact PySem.W.kia_one PySem.W.kitx_dict I.kIn ⟨o,h1,h2.1⟩ e (fun z=>nomatch z) h
 | @dK a kvs ea=>
  cases (show u=Value.ref a from rx)
  obtain⟨_,_,vs,_,p⟩:=(show bZ X.prog X.w H s.heap a (.dK kvs) from I.hok a _ ea)
  obtain⟨o,es,ep,h1,h2,_⟩:=p
  exact PySem.W.kia_one PySem.W.kitx_dict I.kIn ⟨o,h1,h2.1⟩ e (fun z=>nomatch z) h
 | @dT a kvs ea=>
  cases (show u=Value.ref a from rx)
  obtain⟨_,_,xs,_,o,es,ep,h1,h2,_⟩:=(show bZ X.prog X.w H s.heap a (.dT kvs) from I.hok a _ ea)
  exact PySem.W.kia_one PySem.W.kitx_dict I.kIn ⟨o,h1,h2.1⟩ e (fun z=>nomatch z) h
 | @ins a C dx fs ea cl ha hn htk hm=>
  cases (show u=Value.ref a from rx)
  obtain⟨mA,O,_⟩:=Bh I.hok ea
  obtain⟨od,J,_⟩:=O.look
  exact PySem.W.kia_one (PySem.W.kitx_own (cl.get _) cl.hd ha hn htk hm) I.kIn J e (fun z=>nomatch z) h
end
structure cX (k:Nat) (A:Around):Prop where
 hd:A.handled=none
 dp:A.depth+3*k+5<recursionLimit
 un:A.units+16*k+200<cLine
 gd:A.guards=some []
theorem cX.mono {j k:Nat} {A:Around} (r:cX k A) (h:j<=k):cX j A:=⟨r.hd,by have:=r.dp;omega,by have:=r.un;omega,r.gd⟩
theorem cX.deeper {k:Nat} {A:Around} (r:cX (k+1) A) (env:Env):cX k (A.deeper env):=
 ⟨r.hd,by have:=r.dp;show A.depth+1+3*k+5<_;omega,by have:=r.un;show A.units+3+16*k+200<_;omega,r.gd⟩
theorem cX.depth {k:Nat} {A:Around} (r:cX k A):A.depth<recursionLimit:=by have:=r.dp;omega
theorem cX.units {k:Nat} {A:Around} (r:cX k A):A.units+64<cLine:=by have:=r.un;omega
noncomputable def Gs:TA:=fun _ H Q=>Q [] H
noncomputable def Fu (ta:TE) (tr:TA):TA:=fun σ H Q=>ta σ H fun x H1=>tr σ H1 fun xs H2=>Q (x::xs) H2
section
variable {X:Cx} {e:Expr} {es:List Expr} {te:TE} {t:TA} {pos:Pos}
theorem iF:PA X [] Gs:=fun _ _ _ _ H Q I h=>Calls.spliced_nil ⟨[],H,I,.nil,h⟩
theorem dN (ha:PE X e te) (hr:PA X es t) (hs:starEach (e::es) X.env=(false,eval e X.env)::starEach es X.env:=by rfl):PA X (e::es) (Fu te t):=by
 intro pos pins s σ H Q I h
 rw[hs]
 show wpAny _ _ (spliced ((false,eval e X.env)::backTo pos (starEach es X.env))) _ _ s
 refine Calls.spliced_cons (thn (ha pins s σ H _ I h) fun u s1 ⟨x,H1,I1,r1,q1⟩=>?_)
 exact thn (hr pos pins s1 σ H1 _ I1 q1) fun us s2 ⟨xs,H2,I2,r2,q2⟩=>⟨x::xs,H2,I2,.cons r1 r2,q2⟩
noncomputable def Hy (t:TA):TE:=fun σ H Q=>t σ H fun xs H1=>xs.length<=sizeLine/\∀p,H1 p=none->Q (.ref p) (upd H1 p (.tup xs))
noncomputable def GA (t:TA):TE:=fun σ H Q=>t σ H fun xs H1=>xs.length<=sizeLine/\∀p,H1 p=none->Q (.ref p) (upd H1 p (.lst xs))
theorem Dc {x1} (h:PA X es t):PE X (.Tuple es x1 pos) (Hy t):=by
 intro pins s σ H Q I hq
 refine wpAny_Tuple_spliced (thn (h pos pins s σ H _ I hq) fun us s1 ⟨xs,H1,I1,r,z,q⟩=>⟨by rw[<- r.length];exact z,?_⟩)
 have hf:H1 s1.heap.objs.size=none:=I1.hok.fresh (Nat.le_refl _)
 refine⟨.ref s1.heap.objs.size,upd H1 s1.heap.objs.size (.tup xs),I1.laid (t':=s1.toks) (fun b u e=>Heap.get?_push_of_some _ e) (Nat.le_refl _) ?_,rfl,q _ hf⟩
 exact⟨z,us,r,⟨_,Heap.get?_push_size _ rfl,⟨rfl,_,rfl⟩,rfl⟩⟩
theorem B2 (h:PA X es t):PE X (.List es pos) (GA t):=by
 intro pins s σ H Q I hq
 refine wpAny_List_spliced (thn (h pos pins s σ H _ I hq) fun us s1 ⟨xs,H1,I1,r,z,q⟩=>⟨by rw[<- r.length];exact z,?_⟩)
 have hf:H1 s1.heap.objs.size=none:=I1.hok.fresh (Nat.le_refl _)
 refine⟨.ref s1.heap.objs.size,upd H1 s1.heap.objs.size (.lst xs),I1.laid (t':=s1.toks) (fun b u e=>Heap.get?_push_of_some _ e) (Nat.le_refl _) ?_,rfl,q _ hf⟩
 exact⟨z,us,0,r,Heap.get?_push_size _ rfl⟩
end
noncomputable abbrev Sp:=List V->Hp->VK->XK->Prop
noncomputable abbrev CXT:=List Env->Hp->Shared->XK->Value->Shared->Prop
structure yN (P:Program) (w:World) (K:PySem.W.Frag) (mg:Str->Option Value) (base:Heap) (A:Around) (outer:List Env) (s:Shared) (H:Hp):Prop where
 frames:A.frames=some outer
 mod:Mod K mg base
 bs:∀b o,base.get? b=some o->s.heap.get? b=some o/\H b=none
 bsz:base.objs.size<=s.heap.objs.size
 h7:s.heap.FunFrames base outer
 frf:∀b∈frs outer,H b=none
 hok:HOk P w H s.heap
 bare:AllBare s.gens
noncomputable def CE (outer:List Env) (P:Program) (w:World) (H:Hp) (s:Shared) (Q:VK) (u:Value) (s':Shared):Prop:=
 ∃v H',s'.os=s.os/\AllBare s'.gens/\Un (frs outer) [] H H' s.heap s'.heap/\HOk P w H' s'.heap/\RelV v u/\Q v H'
noncomputable def CR (CX:CXT) (outer:List Env) (P:Program) (w:World) (H:Hp) (s:Shared) (Q:VK) (E:XK) (r:Result) (s':Shared):Prop:=
 match r with
 | .ok (.ret u)=>CE outer P w H s Q u s'
 | .ok _=>False
 | .error e=>CX outer H s E e s'
structure ed (P:Program) (w:World) (K:PySem.W.Frag) (mg:Str->Option Value) (base:Heap) (CX:CXT) (k:Nat) (f:Addr) (fd:FuncData) (ps:List Str) (sp:Sp):Prop where
 len:∀vs H Q E,sp vs H Q E->vs.length=ps.length
 run:∀(A:Around) (outer:List Env) (s:Shared) (H:Hp) (args:Args) (us:List Value) (vs:List V) (Q:VK) (E:XK),cX k A->yN P w K mg base A outer s H->BindsTo s fd args (ps.zip us)->Vals vs us->sp vs H Q E →
  codeAny (model P w) A (.call (.ref f) args) (CR CX outer P w H s Q E) s
theorem ed.mono {P:Program} {w:World} {K:PySem.W.Frag} {mg:Str->Option Value} {base:Heap} {CX:CXT} {j k:Nat} {f:Addr} {fd:FuncData} {ps:List Str} {sp:Sp} (F:ed P w K mg base CX j f fd ps sp) (h:j<=k) :
  ed P w K mg base CX k f fd ps sp:=⟨F.len,fun A outer s H args us vs Q E hr=>F.run A outer s H args us vs Q E (hr.mono h)⟩
theorem ed.imp {P:Program} {w:World} {K:PySem.W.Frag} {mg:Str->Option Value} {base:Heap} {CX:CXT} {k:Nat} {f:Addr} {fd:FuncData} {ps:List Str} {sp sp':Sp} (F:ed P w K mg base CX k f fd ps sp)
  (h:∀vs H Q E,sp' vs H Q E->sp vs H Q E):ed P w K mg base CX k f fd ps sp':=
 ⟨fun vs H Q E q=>F.len vs H Q E (h _ _ _ _ q),fun A outer s H args us vs Q E hr he hb hv hs=>F.run A outer s H args us vs Q E hr he hb hv (h _ _ _ _ hs)⟩
section
variable {X:Cx} {pins:List (Addr × Obj)} {σ:St} {H:Hp} {s s':Shared}
theorem Inv.D4 (I:Inv X pins σ H s):yN X.prog X.w X.K X.mg X.base X.A X.stack s H:=
 ⟨I.ok.frames,I.ok.mod,I.bs,Nat.le_trans I.ok.bsz I.sz,I.stack,I.pe,I.hok,I.bare⟩
theorem Inv.after {Q:VK} {u:Value} (I:Inv X pins σ H s) (h:CE X.stack X.prog X.w H s Q u s'):EP X pins σ Q u s':=by
 obtain⟨v,H',os,bare,un,hok,r,q⟩:=h
 obtain⟨hh,g,d,t,os'⟩:=s'
 obtain rfl:os'=s.os:=os
 exact⟨v,H',I.call (h':=hh) (g':=g) (d':=d) (t':=t) (ch:=[]) un hok bare (fun b z=>absurd z (by simp)),r,q⟩
end
noncomputable def BE (sp:Sp) (dvs:List V) (E:XK) (t:TA):TE:=fun σ H Q=>t σ H fun vs H1=>sp (vs++dvs) H1 Q E
noncomputable def Binds (K:PySem.W.Frag) (fd:FuncData) (ps:List Str) (ds:List Value):Prop:=
 ∀(s:Shared) (us:List Value),K.In s.heap->(us++ds).length=ps.length->BindsTo s fd ⟨us,[]⟩ (ps.zip (us++ds))
theorem Binds.all {K:PySem.W.Frag} {fd:FuncData} {ps:List Str} (h:∀us:List Value,us.length=ps.length->bindArgs fd ⟨us,[]⟩=pure (ps.zip us)):Binds K fd ps []:=fun s us _ hl=>by
 rw[List.append_nil] at hl ⊢
 exact .of_eq (h us hl)
noncomputable def Passes (CX:CXT) (X:Cx) (E:XK):Prop:=∀(pins:List (Addr × Obj)) (σ:St) (H:Hp) (s:Shared) (e:Value) (s':Shared),Inv X pins σ H s->CX X.stack H s E e s'->X.xe e s'
section
variable {X:Cx} {CX:CXT} {k:Nat} {f C:Addr} {fd:FuncData} {ps:List Str} {sp:Sp} {dvs:List V} {ds:List Value} {E:XK} {x m:Str} {p pos apos:Pos} {e o:Expr} {es:List Expr} {ta:TE} {t:TA}
theorem B5 {pins:List (Addr × Obj)} {σ:St} {H:Hp} {s:Shared} {Q:VK} {us:List Value} {vs:List V} (F:ed X.prog X.w X.K X.mg X.base CX k f fd ps sp) (hr:cX k X.A) (hb:Binds X.K fd ps ds) (hd:Vals dvs ds) (hx:Passes CX X E)
  (I:Inv X pins σ H s) (r:Vals vs us) (h:sp (vs++dvs) H Q E):wpAny (model X.prog X.w) X.A (call (.ref f) us) (EP X pins σ Q) X.xe s:=by
 have r2:Vals (vs++dvs) (us++ds):=r.append hd
 have hl:(us++ds).length=ps.length:=by rw[<- r2.length];exact F.len _ _ _ _ h
 refine wpAny_call (codeAny_mono (F.run X.A X.stack s H ⟨us,[]⟩ (us++ds) (vs++dvs) Q E hr I.D4 (hb s us I.kIn hl) r2 h) fun r s' hq=>?_)
 cases r with
 | error e=>exact hx pins σ H s e s' I hq
 | ok fl=>
  cases fl with
  | ret u=>exact I.after hq
  | next=>exact False.elim hq
  | brk=>exact False.elim hq
  | cont=>exact False.elim hq
theorem uk (F:ed X.prog X.w X.K X.mg X.base CX k f fd ps sp) (hr:cX k X.A) (hg:Gl X x) (hm:X.mg x=some (.ref f)) (hk:PySem.W.keepIn X.K (.ref f)=true) (hb:Binds X.K fd ps ds) (hd:Vals dvs ds) (hx:Passes CX X E)
  (ha:PA X (e::es) t) (hdb:(x == ("__debug__" : Str))=false:=by decide) (he:starEach (e::es) X.env=(false,eval e X.env)::starEach es X.env:=by rfl) (hpl:(backTo pos (starEach es X.env)).any (·.1)=false:=by rfl) :
  PE X (.Call (.Name x p) (e::es) [] pos) (BE sp dvs E t):=by
 intro pins s σ H Q I h
 refine wpAny_Call_Name_kw (gZ I hg hm ?_ hdb)
 refine PySem.W.callWith_K (h₀:=X.base) I.ok.mod.kin hk (thn (ha pos pins s σ H _ I h) fun us s1 ⟨vs,H1,I1,r,q⟩=>⟨I1.kIn,?_⟩) he hpl
 exact B5 F hr hb hd hx I1 r q
end
structure aM (N P:List Str) (sc:Scope):Prop where
 kind:sc.kind=.function
 co:sc.isCoroutine=false
 gen:sc.isGenerator=false
 nd:N.Nodup
 pre:N.take P.length=P
 par:∀x∈P,sc.names.lookup x=some .local\/sc.names.lookup x=some .cell
 Cn:∀y∈sc.names,y.2≠.free
theorem nW {kindOf:Str->Option NameKind} {x:Str}:∀{binds:List (Str × Value)} {m:Str->Option Value},(∀v,(x,v)∉binds)->bindL kindOf binds m x=m x
 | [],_,_=>rfl
 | (n,v)::r,m,h=>by
  unfold bindL
  rw[nW fun w hw=>h w (List.mem_cons_of_mem _ hw)]
  split
  ·have:x≠n:=by rintro rfl;exact h v List.mem_cons_self
   simp[this]
  ·rfl
theorem n9 {kindOf:Str->Option NameKind} {x:Str}:∀{binds:List (Str × Value)} {m:Str->Option Value},(∀v,(x,v)∉binds)->bindC kindOf binds m x=m x
 | [],_,_=>rfl
 | (n,v)::r,m,h=>by
  unfold bindC
  rw[n9 fun w hw=>h w (List.mem_cons_of_mem _ hw)]
  split
  ·rfl
  ·have:x≠n:=by rintro rfl;exact h v List.mem_cons_self
   simp[this]
theorem oE {kindOf:Str->Option NameKind} {x:Str} {v:Value}:∀{P:List Str} {vs:List Value} {i:Nat} {m:Str->Option Value},P.Nodup->P[i]?=some x->vs[i]?=some v->kindOf x=some .local →
  bindL kindOf (P.zip vs) m x=some v
 | [],_,_,_,_,h,_,_=>by simp at h
 | _::_,[],_,_,_,_,h,_=>by simp at h
 | p::P,w::vs,0,m,nd,h1,h2,hk=>by
  simp at h1 h2;subst h1;subst h2
  show bindL kindOf ((p,w)::P.zip vs) m p=_
  unfold bindL
  rw[nW fun v hv=>(List.nodup_cons.mp nd).1 (List.of_mem_zip hv).1,if_pos hk]
  simp
 | p::P,w::vs,i+1,m,nd,h1,h2,hk=>by
  show bindL kindOf ((p,w)::P.zip vs) m x=_
  unfold bindL
  exact oE (i:=i) (List.nodup_cons.mp nd).2 (by simpa using h1) (by simpa using h2) hk
theorem n4 {kindOf:Str->Option NameKind} {x:Str} {v:Value}:∀{P:List Str} {vs:List Value} {i:Nat} {m:Str->Option Value},P.Nodup->P[i]?=some x->vs[i]?=some v->kindOf x≠some .local →
  bindC kindOf (P.zip vs) m x=some v
 | [],_,_,_,_,h,_,_=>by simp at h
 | _::_,[],_,_,_,_,h,_=>by simp at h
 | p::P,w::vs,0,m,nd,h1,h2,hk=>by
  simp at h1 h2;subst h1;subst h2
  show bindC kindOf ((p,w)::P.zip vs) m p=_
  unfold bindC
  rw[n9 fun v hv=>(List.nodup_cons.mp nd).1 (List.of_mem_zip hv).1,if_neg hk]
  simp
 | p::P,w::vs,i+1,m,nd,h1,h2,hk=>by
  show bindC kindOf ((p,w)::P.zip vs) m x=_
  unfold bindC
  exact n4 (i:=i) (List.nodup_cons.mp nd).2 (by simpa using h1) (by simpa using h2) hk
noncomputable def start (N:List Str) (vs:List V):St:=vs.map some++List.replicate (N.length - vs.length) none
noncomputable def iu (CX:CXT) (P:Program) (w:World) (K:PySem.W.Frag) (mg:Str->Option Value) (base:Heap) (N:List Str) (qual:Str) (scope:Scope) (f:Addr) (cd:Value) (A:Around) (outer:List Env) (s:Shared) (H:Hp) (E:XK):Cx where
 prog:=P
 w:=w
 K:=K
 mg:=mg
 base:=base
 A:=A.deeper (envOfC qual scope s.heap.objs.size f cd)
 N:=N
 aJ:=s
 aO:=H
 env:=envOfC qual scope s.heap.objs.size f cd
 outer:=outer
 stack:=envOfC qual scope s.heap.objs.size f cd::outer
 ex:=[]
 calm:=true
 fn:=fun _=>true
 pn:=[]
 xe:=fun e s'=>wpAny (model P w) (A.deeper (envOfC qual scope s.heap.objs.size f cd)) (leaving (envOfC qual scope s.heap.objs.size f cd) e) (fun _ s''=>CX outer H s E e s'') (fun e' s''=>CX outer H s E e' s'') s'
theorem qW {sc:Scope} {n:Nat} {x:Str} (h:sc.names.lookup x=some .cell):∃c,(cellsFrom n sc.names []).lookup x=some c:=by
 have q:=PySem.W.cellsFrom_some sc.names n [] (.inl h)
 exact Option.isSome_iff_exists.mp q
theorem oG {CX:CXT} {P:Program} {w:World} {K:PySem.W.Frag} {mg:Str->Option Value} {base:Heap} {N ps:List Str} {qual:Str} {scope:Scope} {f:Addr} {cd:Value} {A:Around} {outer:List Env} {s s1:Shared} {H:Hp} {E:XK} {us:List Value} {vs:List V}
  (S:aM N ps scope) (hd:A.handled=none) (e0:yN P w K mg base A outer s H) (hl:vs.length=ps.length) (r:Vals vs us)
  (x:InCallC s s.heap.objs.size (bindL (envOfC qual scope s.heap.objs.size f cd).kindOf (ps.zip us) fun _=>none) (cellsFrom (s.heap.objs.size+1) scope.names []) (bindC (envOfC qual scope s.heap.objs.size f cd).kindOf (ps.zip us) fun _=>none) s1) :
  Inv (iu CX P w K mg base N qual scope f cd A outer s H E) [] (start N vs) H s1:=by
 have hpl:ps.length<=N.length:=by have:=congrArg List.length S.pre;rw[List.length_take] at this;omega
 obtain⟨h1,tk,rfl,hk⟩:=x.done
 have noA:∀b:Addr,b∉(iu CX P w K mg base N qual scope f cd A outer s H E).ex:=fun b z=>absurd (show b∈([]:List Addr) from z) (by simp)
 refine⟨⟨e0.mod,S.kind,rfl,rfl,Nat.le_refl _,fun y z c h1 h2=>?_,fun y hy=>?_,fun y c _ h=>?_,fun _=>hd,Around.frames_deeper e0.frames,.inr ⟨rfl,rfl⟩,fun b z=>absurd z (noA b),e0.bs,e0.bsz,fun b _ _=>noA b,fun b z=>absurd z (noA b),e0.h7,e0.frf⟩,
  rfl,e0.bare,Un.kept hk,⟨_,x.toInCall.ns,fun i y v h1 h2 h3=>?_⟩,fun y c h=>⟨_,x.cell y c h⟩,e0.hok.fresh (Nat.le_refl _),fun y c h=>?_,fun p hp=>absurd (show p∈([]:List (Addr × Obj)) from hp) (by simp),e0.hok.kept hk,?_⟩
 ·exact name_of_addr x.apart (PySem.mem_of_lookup h1) (PySem.mem_of_lookup h2)
 ·have hy:scope.names.lookup y=some .cell\/scope.names.lookup y=some .free:=hy
  rcases hy with hy | hy
  ·exact qW hy
  ·exact absurd rfl (S.Cn _ (PySem.mem_of_lookup hy))
 ·exact Nat.le_of_lt (x.above y c (PySem.mem_of_lookup h))
 ·have hi:i<vs.length:=by
   unfold start at h2
   by_cases hi:i<vs.length
   ·exact hi
   ·rw[List.getElem?_append_right (by simpa using hi)] at h2
    rw[List.getElem?_replicate] at h2
    split at h2<;>cases h2
  have ha:vs[i]?=some v:=by
   unfold start at h2
   rw[List.getElem?_append_left (by simpa using hi),List.getElem?_map] at h2
   cases e:vs[i]? with
   | none=>rw[e] at h2;cases h2
   | some a=>rw[e] at h2;cases h2;rfl
  obtain⟨u,hu,rv⟩:=r.get ha
  have hp:ps[i]?=some y:=by
   rw[<- S.pre,List.getElem?_take_of_lt (by omega)];exact h1
  have ndP:ps.Nodup:=by rw[<- S.pre];exact S.nd.sublist (List.take_sublist _ _)
  refine⟨u,rv,?_⟩
  rcases S.par y (List.mem_of_getElem? hp) with k | k
  ·exact .inl ⟨k,oE ndP hp hu k⟩
  ·obtain⟨c,e⟩:=qW (n:=s.heap.objs.size+1) k
   refine .inr ⟨.inl k,c,e,?_⟩
   have q:=x.cell y c e
   rw[n4 ndP hp hu (by show scope.names.lookup y≠_;rw[k];decide)] at q
   exact q
 ·exact e0.hok.fresh (Nat.le_of_lt (x.above y c (PySem.mem_of_lookup h)))
 ·unfold start
  show _=N.length
  rw[List.length_append,List.length_map,List.length_replicate]
  omega
theorem Bz {CX:CXT} {P:Program} {w:World} {K:PySem.W.Frag} {mg:Str->Option Value} {base:Heap} {k:Nat} {f:Addr} {name qual:Str} {params:Arguments} {body:List Stmt} {scope:Scope} {dV kV doc pm cdv ct oc:Value} {an od:Option Addr}
  {osl:Array (Option Value)} {N ps:List Str} {sp:Sp} (lk:K.lookup f=some ⟨oc,od,.func (PySem.W.fnOf name qual params body scope dV kV doc pm an cdv ct),osl⟩) (hcd:PySem.W.codeIn K cdv qual=true) (S:aM N ps scope)
  (len:∀vs H Q E,sp vs H Q E->vs.length=ps.length)
  (hbody:∀(A:Around) (outer:List Env) (s:Shared) (H:Hp) (vs:List V) (Q:VK) (E:XK),cX k (A.deeper (envOfC qual scope s.heap.objs.size f cdv))->sp vs H Q E →
   ∃t,PSs (iu CX P w K mg base N qual scope f cdv A outer s H E) body t/\t { nx:=fun _ H'=>Q .non H',rt:=Q } (start N vs) H) :
  ed P w K mg base CX (k+1) f (PySem.W.fnOf name qual params body scope dV kV doc pm an cdv ct) ps sp:=by
 refine⟨len,fun A outer s H args us vs Q E hr e0 hb r hsp=>?_⟩
 have hl:=len _ _ _ _ hsp
 have KX:K.In s.heap:=e0.mod.kin.keeps fun b o e=>(e0.bs b o e).1
 have lim:s.heap.NoLimit:=e0.mod.nolimit.keeps fun b o e=>(e0.bs b o e).1
 have hkind:∀y∈ps.zip us,scope.names.lookup y.1=some .local\/(scope.names.lookup y.1=some .cell/\((cellsFrom (s.heap.objs.size+1) scope.names []).lookup y.1).isSome=true):=fun⟨n,v⟩ hy=>by
  rcases S.par n (List.of_mem_zip hy).1 with q | q
  ·exact .inl q
  ·exact .inr ⟨q,PySem.W.cellsFrom_some _ _ _ (.inl q)⟩
 refine codeAny_call_function hr.depth (KX _ _ lk) rfl S.co S.gen rfl (PySem.W.codeRec_of KX hcd) (hb _ _ _ _ ?_)
 refine wpAny_newFunctionEnv_cells S.kind hkind fun env he s1 x=>?_
 subst he
 refine⟨lim.keeps x.toInCall.keep,codeAny_func ?_⟩
 obtain⟨t,ht,hq⟩:=hbody A outer s H vs Q E (hr.deeper _) hsp
 have I:Inv (iu CX P w K mg base N qual scope f cdv A outer s H E) [] (start N vs) H s1:=oG S hr.hd e0 hl r x
 refine wpAny_mono (ht [] s1 (start N vs) H _ I hq) (fun fl s' hs=>?_) fun e s' hs=>hs
 have fin:∀{σ':St} {H':Hp} {v:V} {u:Value},Inv (iu CX P w K mg base N qual scope f cdv A outer s H E) [] σ' H' s'->RelV v u->Q v H'->CE outer P w H s Q u s':=
  fun{σ' H' v u} J rv q=>⟨v,H',J.os,J.bare,J.base,J.hok,rv,q⟩
 cases fl with
 | ret u=>
  obtain⟨v,σ',H',J,rv,q⟩:=hs
  exact fin J rv q
 | next=>
  obtain⟨σ',H',J,q⟩:=hs
  exact fin (v:=V.non) (u:=Value.none) J rfl q
 | brk=>
  obtain⟨_,_,_,q⟩:=hs
  exact False.elim q
 | cont=>
  obtain⟨_,_,_,q⟩:=hs
  exact False.elim q
section
variable {X:Cx} {x:Str} {p pos:Pos} {e:Expr} {es:List Expr} {t:TA} {id T:String} {r:List V->Hp->VK->Prop}
noncomputable def tCB (r:List V->Hp->VK->Prop) (t:TA):TE:=fun σ H Q=>t σ H fun vs H1=>r vs H1 Q
theorem gT (hc:aR X (.builtin id) r) (hg:Gl X x) (hm:X.mg x=none) (hv:bootBuiltins x=some (.builtin id)) (ha:PA X (e::es) t) (hn:x≠"__name__" := by decide) (hdb:(x == ("__debug__" : Str))=false:=by decide)
  (he:starEach (e::es) X.env=(false,eval e X.env)::starEach es X.env:=by rfl) (hpl:(backTo pos (starEach es X.env)).any (·.1)=false:=by rfl):PE X (.Call (.Name x p) (e::es) [] pos) (tCB r t):=by
 intro pins s σ H Q I h
 refine wpAny_Call_Name_kw (kf I hg hm hv ?_ hn hdb)
 exact PyProof.Rows.callWith_builtin1 (thn (ha pos pins s σ H _ I h) fun us s1 ⟨vs,H1,I1,r1,q1⟩=>hc pins s1 σ H1 vs us Q I1 r1 q1) he hpl
theorem g9 (hc:aR X (.type T) r) (hg:Gl X x) (hm:X.mg x=none) (hv:bootBuiltins x=some (.type T)) (ha:PA X (e::es) t) (hn:x≠"__name__" := by decide) (hdb:(x == ("__debug__" : Str))=false:=by decide)
  (he:starEach (e::es) X.env=(false,eval e X.env)::starEach es X.env:=by rfl) (hpl:(backTo pos (starEach es X.env)).any (·.1)=false:=by rfl):PE X (.Call (.Name x p) (e::es) [] pos) (tCB r t):=by
 intro pins s σ H Q I h
 refine wpAny_Call_Name_kw (kf I hg hm hv ?_ hn hdb)
 exact PyProof.Rows.callWith_type1 (thn (ha pos pins s σ H _ I h) fun us s1 ⟨vs,H1,I1,r1,q1⟩=>hc pins s1 σ H1 vs us Q I1 r1 q1) he hpl
end
end L2
namespace HT
open PySem PyProof.Rows
section
variable {prog:Program} {w:World} {A:Around} {E:Value->Shared->Prop} {s:Shared}
theorem Aw {t b:Addr} {vs ws:List Value} {Q:Value->Shared->Prop} (ht:IsTup s.heap t vs.toArray) (hb:IsTup s.heap b ws.toArray) (hv:vs≠[])
  (h1:ws=[]->Q (.ref t) s) (h2:ws≠[]->Q (.ref s.heap.objs.size) { s with heap:=s.heap.push { cls:=.type "tuple", data:=.seq (vs++ws).toArray } })
  (hsz:vs.length+ws.length<=sizeLine):wpAny (model prog w) A (binaryOp .Add (.ref t) (.ref b)) Q E s:=by
 obtain⟨⟨cls,dd,data,sl⟩,ho,hc,n,hd⟩:=id ht
 obtain⟨⟨cls2,dd2,data2,sl2⟩,ho2,hc2,n2,hd2⟩:=id hb
 simp only at hc hd hc2 hd2
 subst hc hd hc2 hd2
 have e:vs.toArray++ws.toArray=(vs++ws).toArray:=by simp
 by_cases hw:ws=[]
 ·exact concat_meets ⟨_,ho,rfl⟩ ⟨_,ho2,rfl⟩ noFill_tuple_add seq_tuple_add PySem.F.slot_tuple_add PySem.F.entry_tuple_add (PySem.F.args_tuple_add_2 _ _)
   (tuple_addW1 t b vs.toArray ws.toArray n n2 dd dd2 sl sl2 (by simpa using hv) (by simp[hw])) ⟨ho,ho2,h1 hw⟩
 ·refine concat_meets ⟨_,ho,rfl⟩ ⟨_,ho2,rfl⟩ noFill_tuple_add seq_tuple_add PySem.F.slot_tuple_add PySem.F.entry_tuple_add (PySem.F.args_tuple_add_2 _ _)
   (tuple_addW2 t b vs.toArray ws.toArray n n2 dd dd2 sl sl2 (by simpa using hv) (by simpa using hw) (by rw[List.size_toArray,List.size_toArray];exact hsz)) ⟨ho,ho2,?_⟩
  rw[e]
  exact h2 hw
noncomputable def sIx (n d:Nat):Option Int->Nat
 | none=>d
 | some v=>if v<0 then (v+(n:Int)).toNat else min v.toNat n
theorem lY (n d:Nat):sIx n d none=d:=rfl
theorem um (n d k:Nat):sIx n d (some (k:Int))=min k n:=by
 show(if (k:Int)<0 then ((k:Int)+(n:Int)).toNat else min (k:Int).toNat n)=min k n
 rw[if_neg (by omega),Int.toNat_natCast]
theorem C9 (n d:Nat) (hd:d<=n) (o:Option Int):sIx n d o<=n:=by
 cases o with
 | none=>exact hd
 | some v=>
  show(if v<0 then (v+(n:Int)).toNat else min v.toNat n)<=n
  by_cases hv:v<0
  ·rw[if_pos hv];omega
  ·rw[if_neg hv];exact Nat.min_le_right _ _
theorem uc (v:Int) (n d:Nat):(if v<0 then max (v+(n:Int)) 0 else min v (n:Int))=((sIx n d (some v):Nat):Int):=by
 show(if v<0 then max (v+(n:Int)) 0 else min v (n:Int))=(((if v<0 then (v+(n:Int)).toNat else min v.toNat n):Nat):Int)
 by_cases hv:v<0
 ·simp only[if_pos hv];omega
 ·simp only[if_neg hv];omega
theorem sQ (lo hi:Option Int) (n:Nat):Builtin.Slice.sliceAdjust lo hi 1 (n:Int)=(((sIx n 0 lo:Nat):Int),((sIx n n hi:Nat):Int)):=by
 have h1:¬ ((1:Int)<0):=by omega
 unfold Builtin.Slice.sliceAdjust
 simp only[h1,if_false]
 refine Prod.ext ?_ ?_
 ·cases lo with
  | none=>rfl
  | some v=>exact uc v n 0
 ·cases hi with
  | none=>rfl
  | some v=>exact uc v n n
theorem tI (i j:Nat):Builtin.Slice.slicePlaces (i:Int) (j:Int) 1=j - i:=by
 unfold Builtin.Slice.slicePlaces
 have h1:(1:Int) > 0:=by omega
 simp only[h1,if_true,Int.ediv_one]
 split<;>omega
theorem mB {v:Value} {o:Option Int} {Q:Option Int->Shared->Prop} (p:IsPart v o) (h:Q o s):wpAny (model prog w) A (Builtin.Slice.slicePartIndex v) Q E s:=by
 cases p with
 | none=>exact slicePart_none h
 | int i t=>exact slicePart_int h
theorem fE {sl:Addr} {vl vu:Value} {lo hi:Option Int} {n:Nat} {Q:Int × Int × Nat->Shared->Prop} (hs:s.heap.IsSliceOf sl vl vu .none) (pl:IsPart vl lo) (pu:IsPart vu hi)
  (h:Q (((sIx n 0 lo:Nat):Int),1,sIx n n hi - sIx n 0 lo) s):wpAny (model prog w) A (Builtin.Slice.sliceApplied (.ref sl) (pure (n:Int))) Q E s:=by
 obtain⟨os,hos,hcs,hds⟩:=id hs
 unfold Builtin.Slice.sliceApplied Builtin.Slice.sliceFields
 refine wpAny_bind (wpAny_bind (wpAny_field hos hds (x:=vl) rfl (wpAny_bind (wpAny_field hos hds (x:=vu) rfl (wpAny_bind (wpAny_field hos hds (x:=.none) rfl (wpAny_pure ?_)))))))
 refine wpAny_bind (slicePart_none ?_)
 show wpAny _ _ (if ((1:Int) == 0)=true then _ else _) _ _ s
 rw[if_neg (by decide)]
 refine wpAny_bind (mB pl (wpAny_bind (mB pu (wpAny_bind (wpAny_pure ?_)))))
 show wpAny _ _ (match Builtin.Slice.sliceAdjust lo hi 1 (n:Int) with | (lo,hi)=>pure (lo,(1:Int),Builtin.Slice.slicePlaces lo hi 1)) _ _ s
 rw[sQ lo hi n]
 show wpAny _ _ (pure (((sIx n 0 lo:Nat):Int),(1:Int),Builtin.Slice.slicePlaces ((sIx n 0 lo:Nat):Int) ((sIx n n hi:Nat):Int) 1)) _ _ s
 rw[tI]
 exact wpAny_pure h
theorem xU (xs:Array Value) (i k:Nat):((List.range k).filterMap fun(m:Nat)=>xs[((i:Int)+(m:Int)*1).toNat]?).toArray=((xs.toList.drop i).take k).toArray:=by
 have e:(fun(m:Nat)=>xs[((i:Int)+(m:Int)*1).toNat]?)=fun m=>xs[i+m]?:=by
  funext m
  have:((i:Int)+(m:Int)*1).toNat=i+m:=by omega
  rw[this]
 rw[e]
 have:=pick_run xs i k
 rw[List.filterMap_map] at this
 have e2:((fun x=>xs[x]?) ∘ fun x=>i+x)=fun m=>xs[i+m]?:=rfl
 rw[e2] at this
 rw[this]
theorem i8 {t sl:Addr} {items:Array Value} {vl vu:Value} {lo hi:Option Int} {Q:Value->Shared->Prop} (ht:IsTup s.heap t items) (hs:s.heap.IsSliceOf sl vl vu .none) (pl:IsPart vl lo) (pu:IsPart vu hi)
  (hw:¬ (sIx items.size 0 lo=0/\sIx items.size items.size hi=items.size))
  (h:Q (.ref s.heap.objs.size) { s with heap:=s.heap.push { cls:=.type "tuple", data:=.seq ((items.toList.drop (sIx items.size 0 lo)).take (sIx items.size items.size hi - sIx items.size 0 lo)).toArray } })
  (hsz:items.size<=sizeLine):wpAny (model prog w) A (getItem (.ref t) (.ref sl)) Q E s:=by
 have htake:sizeOk (.seq ((items.toList.drop (sIx items.size 0 lo)).take (sIx items.size items.size hi - sIx items.size 0 lo)).toArray):=by
  show((items.toList.drop (sIx items.size 0 lo)).take (sIx items.size items.size hi - sIx items.size 0 lo)).toArray.size<=sizeLine
  rw[List.size_toArray,List.length_take,List.length_drop,Array.length_toList]
  omega
 have hj:sIx items.size items.size hi<=items.size:=C9 _ _ (Nat.le_refl _) hi
 obtain⟨os,hos,hcs,hds⟩:=id hs
 have hTs:s.TypeIs (.ref sl) "slice" := ⟨os,hos,hcs⟩
 unfold getItem
 try with_reducible refine wpAny_holding ?_
 first | refine wpAny_bind (wpAny_pure ?_) | skip
 refine wpAny_bind (wpAny_sequenceKey ht.typeIs (by decide) ?_)
 refine wpAny_bind (wpAny_callSpecial?_slot (name:=Str.ofString "__getitem__") ht.typeIs PyProof.Rows.slot_tuple_getitem
  (wpAny_call_entry PyProof.Rows.slot_tuple_getitem ht.typeIs entry_tuple_getitem ?_ (args_tuple_getitem _ _)))
 show wpAny _ _ (Builtin.Tuple.tupleItemsOf (.ref t) >>= _) _ _ s
 refine wpAny_bind (tupleItemsOf_ ht ?_)
 refine wpAny_bind (wpAny_typeOf hTs ?_)
 rw[if_pos (by decide)]
 refine wpAny_bind (fE hs pl pu ?_)
 have hno:¬ ((((sIx items.size 0 lo:Nat):Int) == 0&&(1:Int) == 1&&(sIx items.size items.size hi - sIx items.size 0 lo) == items.size)=true):=by
  intro q
  rw[Bool.and_eq_true,Bool.and_eq_true] at q
  have q1:((sIx items.size 0 lo:Nat):Int)=0:=eq_of_beq q.1.1
  have q2:sIx items.size items.size hi - sIx items.size 0 lo=items.size:=eq_of_beq q.2
  exact hw ⟨by omega,by omega⟩
 show wpAny _ _ (if (((sIx items.size 0 lo:Nat):Int) == 0&&(1:Int) == 1&&(sIx items.size items.size hi - sIx items.size 0 lo) == items.size)=true then _ else _) _ _ s
 rw[if_neg hno,xU]
 first
  | exact wpAny_bind (m:=Builtin.Tuple.tupleExact _) (wpAny_newObj_type (wpAny_pure ⟨_,rfl,wpAny_pure h⟩) htake)
  | exact wpAny_bind (m:=Builtin.Tuple.tupleExact _) (wpAny_newObj_type (wpAny_bind (wpAny_pure (wpAny_pure ⟨_,rfl,wpAny_pure h⟩))) htake)
  | exact wpAny_bind (wpAny_bind (m:=Builtin.Tuple.tupleExact _) (wpAny_newObj_type (wpAny_pure (wpAny_pure ⟨_,rfl,wpAny_pure h⟩)) htake))
  | exact wpAny_bind (wpAny_bind (m:=Builtin.Tuple.tupleExact _) (wpAny_newObj_type (wpAny_pure ⟨_,rfl,wpAny_pure h⟩) htake))
end
end HT
namespace L2
open PySem PySem.Spec PyProof.Rows
noncomputable abbrev TO:=St->Hp->(Option Int->Hp->Prop)->Prop
noncomputable def PO (X:Cx) (e:Option Expr) (t:TO):Prop:=
 ∀(pins:List (Addr × Obj)) (s:Shared) (σ:St) (H:Hp) (Q:Option Int->Hp->Prop),Inv X pins σ H s->t σ H Q →
  wpAny (model X.prog X.w) X.A (evalPart e X.env) (fun u s'=>∃o H',Inv X pins σ H' s'/\IsPart u o/\Q o H') X.xe s
noncomputable def Am:TO:=fun _ H Q=>Q none H
noncomputable def Eh (t:TE):TO:=fun σ H Q=>t σ H fun x H1=>∃i,x=.int i/\Q (some i) H1
theorem intsAre_of {ns:List Int}:∀{us:List Value},Vals (ns.map V.int) us->IntsAre us ns:=by
 induction ns with
 | nil=>intro us r;rw[List.map_nil] at r;cases r;exact .nil
 | cons n ns ih=>
  intro us r
  rw[List.map_cons] at r
  cases r with
  | cons r1 r2=>
   obtain⟨t,e⟩:=r1
   subst e
   exact .cons n t (ih r2)
section
variable {X:Cx} {e:Expr} {te:TE} {lo hi:Option Expr} {tl th:TO} {pos p2:Pos}
theorem Ad:PO X none Am:=by
 intro pins s σ H Q I h
 rw[evalPart_none]
 exact wpAny_pure ⟨none,H,I,.none,h⟩
theorem Bf (h:PE X e te):PO X (some e) (Eh te):=by
 intro pins s σ H Q I hw
 rw[evalPart_some]
 refine thn (h pins s σ H _ I hw) fun u s1 ⟨x,H1,I1,r1,q1⟩=>?_
 obtain⟨i,rfl,q⟩:=q1
 obtain⟨t,rfl⟩:=r1
 exact⟨some i,H1,I1,.int i t,q⟩
noncomputable def SlR (X:Cx) (r:V->Option Int->Option Int->Hp->VK->Prop):Prop:=
 ∀(pins:List (Addr × Obj)) (s:Shared) (σ:St) (H:Hp) (x:V) (v vl vu:Value) (lo hi:Option Int) (sl:Addr) (Q:VK),Inv X pins σ H s->RelV x v->s.heap.IsSliceOf sl vl vu .none->IsPart vl lo->IsPart vu hi->r x lo hi H Q →
  ∃T id,typeLookup (.type T) "__getitem__" = pure (some (.builtin id))/\s.TypeIs v T/\wpAny (model X.prog X.w) X.A (getItem v (.ref sl)) (EP X pins σ Q) X.xe s
theorem SlR.or {r r':V->Option Int->Option Int->Hp->VK->Prop} (h:SlR X r) (h':SlR X r'):SlR X (fun x lo hi H Q=>r x lo hi H Q\/r' x lo hi H Q):=by
 intro pins s σ H x v vl vu lo hi sl Q I rx hs pl pu q
 rcases q with q | q
 ·exact h pins s σ H x v vl vu lo hi sl Q I rx hs pl pu q
 ·exact h' pins s σ H x v vl vu lo hi sl Q I rx hs pl pu q
noncomputable def tSl (r:V->Option Int->Option Int->Hp->VK->Prop) (te:TE) (tl th:TO):TE:=fun σ H Q=>te σ H fun x H1=>tl σ H1 fun l H2=>th σ H2 fun u H3=>r x l u H3 Q
theorem xu {r:V->Option Int->Option Int->Hp->VK->Prop} (hr:SlR X r) (he:PE X e te) (hl:PO X lo tl) (hu:PO X hi th):PE X (.Subscript e (.Slice lo hi none p2) pos) (tSl r te tl th):=by
 intro pins s σ H Q I h
 refine Subscript_ (thn (he pins s σ H _ I h) fun v s1 ⟨x,H1,I1,r1,q1⟩=>?_)
 refine wpAny_Slice (thn (hl pins s1 σ H1 _ I1 q1) fun vl s2 ⟨l,H2,I2,pl,q2⟩=>thn (hu pins s2 σ H2 _ I2 q2) fun vu s3 ⟨u,H3,I3,pu,q3⟩=>?_)
 rw[evalPart_none]
 refine wpAny_pure ?_
 have I4:Inv X pins σ H3 { s3 with heap:=s3.heap.push { cls:=.type "slice", data:=.fields #[vl,vu,.none] } }:=I3.kept (t':=s3.toks) fun b ob q=>Heap.get?_push_of_some _ q
 obtain⟨T,id,hT,ht,hg⟩:=hr pins { s3 with heap:=s3.heap.push { cls:=.type "slice", data:=.fields #[vl,vu,.none] } } σ H3 x v vl vu l u s3.heap.objs.size Q I4 r1 (Heap.IsSliceOf.new ..) pl pu q3
 show wpAny (model X.prog X.w) X.A (subscriptTail e (.Slice lo hi none p2) v (.ref s3.heap.objs.size)) (EP X pins σ Q) X.xe { s3 with heap:=s3.heap.push { cls:=.type "slice", data:=.fields #[vl,vu,.none] } }
 exact tail_any (ops:=[.ref s3.heap.objs.size,v]) ht hT hg (by with_unfolding_all rfl)
noncomputable def nE (xs:List V) (lo hi:Option Int):List V:=(xs.drop (HT.sIx xs.length 0 lo)).take (HT.sIx xs.length xs.length hi - HT.sIx xs.length 0 lo)
theorem kn (xs:List V) (lo hi:Option Int):(nE xs lo hi).length<=xs.length:=by
 unfold nE
 rw[List.length_take,List.length_drop]
 omega
noncomputable def He (K:PySem.W.Frag):V->Option Int->Option Int->Hp->VK->Prop:=fun x lo hi H Q=>∃a xs,x=.ref a/\SqT K H a xs ∧
 ¬ (HT.sIx xs.length 0 lo=0/\HT.sIx xs.length xs.length hi=xs.length)/\∀p,H p=none->Q (.ref p) (upd H p (.tup (nE xs lo hi)))
theorem CI:SlR X (He X.K):=by
 intro pins s σ H x v vl vu lo hi sl Q I rx hs pl pu h
 obtain⟨a,xs,rfl,hx,hw,q⟩:=h
 cases rx
 obtain⟨its,r,ht,hz⟩:=I.tuple hx
 have hlen:its.toArray.size=xs.length:=by rw[List.size_toArray];exact r.length.symm
 refine⟨"tuple", _,PyProof.Rows.slot_tuple_getitem.lookup,ht.typeIs,?_⟩
 refine HT.i8 ht hs pl pu (by rw[hlen];exact hw) ?_ (by rw[hlen];exact hz)
 rw[hlen]
 refine⟨.ref s.heap.objs.size,_,I.laid (t':=s.toks) (o:=.tup (nE xs lo hi)) (fun b ob q=>Heap.get?_push_of_some _ q) (Nat.le_refl _) ?_,rfl,q _ (I.hok.fresh (Nat.le_refl _))⟩
 exact⟨Nat.le_trans (kn xs lo hi) hz,_,(r.drop (HT.sIx xs.length 0 lo)).take (HT.sIx xs.length xs.length hi - HT.sIx xs.length 0 lo),jX.new _ _⟩
noncomputable def BD (K:PySem.W.Frag):R2:=fun x y H Q=>∃a b xs ys,x=.ref a/\y=.ref b/\SqT K H a xs/\SqT K H b ys/\xs≠[]/\xs.length+ys.length<=sizeLine ∧
 (ys=[]->Q (.ref a) H)/\(ys≠[]->∀p,H p=none->Q (.ref p) (upd H p (.tup (xs++ys))))
theorem Vals.p7 {xs:List V} {us:List Value} (r:Vals xs us):us=[]↔xs=[]:=by
 cases r with
 | nil=>simp
 | cons _ _=>simp
theorem Ao:OpR X (binaryOp .Add) (BD X.K):=by
 intro pins s σ H x y v u Q I rx ry h
 obtain⟨a,b,xs,ys,rfl,rfl,ha,hb,hx,hz,q1,q2⟩:=h
 cases rx
 cases ry
 obtain⟨its,r1,p1,_⟩:=I.tuple ha
 obtain⟨its2,r2,p2,_⟩:=I.tuple hb
 refine HT.Aw p1 p2 (fun z=>hx (r1.p7.mp z)) (fun z=>⟨.ref a,H,I,rfl,q1 (r2.p7.mp z)⟩) (fun z=>?_) (by rw[<- r1.length,<- r2.length];exact hz)
 refine⟨.ref s.heap.objs.size,_,I.laid (t':=s.toks) (o:=.tup (xs++ys)) (fun b ob q=>Heap.get?_push_of_some _ q) (Nat.le_refl _) ?_,rfl,q2 (fun w=>z (r2.p7.mpr w)) _ (I.hok.fresh (Nat.le_refl _))⟩
 exact⟨by rw[List.length_append];exact hz,_,r1.append r2,jX.new _ _⟩
end
noncomputable def ixN (n:Nat) (i:Int):Option Nat:=if 0<=i then (if i<n then some i.toNat else none) else if -(n:Int)<=i then some (i+n).toNat else none
noncomputable def atI {α:Type} (xs:List α) (i:Int):Option α:=(ixN xs.length i).bind fun j=>xs[j]?
theorem vc {n:Nat} {i:Int} {j:Nat} (h:ixN n i=some j):seqIndex? i n=some j/\j<n/\-(n:Int)<=i/\i<n:=by
 unfold ixN at h
 by_cases h0:0<=i
 ·rw[if_pos h0] at h
  by_cases h1:i<n
  ·rw[if_pos h1] at h
   have e:i.toNat=j:=Option.some.inj h
   exact⟨by rw[seqIndex_of h0 h1,e],by omega,by omega,h1⟩
  ·rw[if_neg h1] at h;cases h
 ·rw[if_neg h0] at h
  by_cases h1:-(n:Int)<=i
  ·rw[if_pos h1] at h
   have e:(i+n).toNat=j:=Option.some.inj h
   exact⟨by rw[seqIndex_neg (by omega) h1,e],by omega,h1,by omega⟩
  ·rw[if_neg h1] at h;cases h
theorem pR {α:Type} {xs:List α} {i:Int} {v:α} (h:atI xs i=some v):∃j,seqIndex? i xs.length=some j/\xs[j]?=some v/\j<xs.length/\-(xs.length:Int)<=i/\i<xs.length:=by
 unfold atI at h
 cases e:ixN xs.length i with
 | none=>rw[e] at h;cases h
 | some j=>
  rw[e] at h
  obtain⟨h1,h2,h3,h4⟩:=vc e
  exact⟨j,h1,h,h2,h3,h4⟩
theorem Bp {α:Type} {xs:List α} {j:Nat} {v:α} (h:xs[j]?=some v):atI xs (j:Int)=some v:=by
 have hj:j<xs.length:=(List.getElem?_eq_some_iff.mp h).1
 have e:ixN xs.length (j:Int)=some j:=by
  unfold ixN
  rw[if_pos (by omega),if_pos (by omega)];simp
 unfold atI;rw[e];exact h
noncomputable def uK (b:Expr):Prop:=∀o i,subscripted b false o i=operate [o,i] (getItem o i)
noncomputable def IxR (X:Cx) (r:R2):Prop:=
 ∀(value slice:Expr) (pins:List (Addr × Obj)) (s:Shared) (σ:St) (H:Hp) (x y:V) (v u:Value) (Q:VK),Inv X pins σ H s->RelV x v->RelV y u->r x y H Q →
  subscripted slice false v u=operate [v,u] (getItem v u)->wpAny (model X.prog X.w) X.A (subscriptTail value slice v u) (EP X pins σ Q) X.xe s
noncomputable def MtR (X:Cx) (id:String) (r:V->List V->Hp->VK->Prop):Prop:=
 ∀(pins:List (Addr × Obj)) (s:Shared) (σ:St) (H:Hp) (x:V) (xs:List V) (v:Value) (us:List Value) (Q:VK),Inv X pins σ H s->RelV x v->Vals xs us->r x xs H Q →
  wpAny (model X.prog X.w) X.A (call (.builtin id) (v::us)) (EP X pins σ Q) X.xe s
section
variable {X:Cx} {a b:Expr} {ta tb:TE} {pos:Pos}
theorem IxR.or {r r':R2} (h:IxR X r) (h':IxR X r'):IxR X (fun x y H Q=>r x y H Q\/r' x y H Q):=by
 intro value slice pins s σ H x y v u Q I rx ry q hs
 rcases q with q | q
 ·exact h value slice pins s σ H x y v u Q I rx ry q hs
 ·exact h' value slice pins s σ H x y v u Q I rx ry q hs
theorem Eg {r:R2} (hr:IxR X r) (ha:PE X a ta) (hb:PE X b tb) (hs:uK b):PE X (.Subscript a b pos) (tOp r ta tb):=by
 intro pins s σ H Q I h
 exact Subscript_ (Dg ha hb I h fun v u s2 x y H2 I2 rx ry q=>hr a b pins s2 σ H2 x y v u Q I2 rx ry q (hs _ _))
noncomputable def E8 (K:PySem.W.Frag):R2:=fun x y H Q=>∃p xs i v,x=.ref p/\y=.int i/\SqL K H p xs/\atI xs i=some v/\Q v H
noncomputable def ES (K:PySem.W.Frag):R2:=fun x y H Q=>∃p xs i v,x=.ref p/\y=.int i/\SqT K H p xs/\atI xs i=some v/\Q v H
noncomputable def EI:R2:=fun x y H Q=>∃z i c,x=.str z/\y=.int i/\z.length<=sizeLine/\atI z.cps.toList i=some c/\Q (.str ⟨#[c]⟩) H
theorem Bk:IxR X (E8 X.K):=by
 intro value slice pins s σ H x y v u Q I rx ry h hs
 obtain⟨p,xs,i,z,rfl,rfl,hq,he,q⟩:=h
 cases rx
 obtain⟨t,rfl⟩:=ry
 obtain⟨its,r,pl,hz⟩:=I.list hq
 obtain⟨j,h1,h2,h3,h4,h5⟩:=pR he
 obtain⟨w,ew,rw'⟩:=r.get h2
 have hl:=r.length
 have hn:=iN
 have fin:EP X pins σ Q w s:=⟨z,H,I,rw',q⟩
 by_cases h0:0<=i
 ·have hj:i.toNat=j:=by
   rw[seqIndex_of h0 h5] at h1
   exact Option.some.inj h1
  exact item_listR pl.isList h0 (by omega) (by rw[hj];simpa using ew) fin hs
 ·have hj:(i+(its.toArray.size:Int)).toNat=j:=by
   rw[seqIndex_neg (by omega) h4] at h1
   rw[List.size_toArray,<- hl]
   exact Option.some.inj h1
  exact subscriptTail_builtinR (x:=w) pl.isList.typeIs slot_list_getitem.lookup
   (wpAny_getItem_list_neg (Q:=fun r s'=>r=w/\EP X pins σ Q r s') pl.isList (by omega) (by rw[List.size_toArray]<;>omega) (by omega) (by rw[hj];simpa using ew) ⟨rfl,fin⟩) hs
theorem Dj:IxR X (ES X.K):=by
 intro value slice pins s σ H x y v u Q I rx ry h hs
 obtain⟨p,xs,i,z,rfl,rfl,hq,he,q⟩:=h
 cases rx
 obtain⟨t,rfl⟩:=ry
 obtain⟨its,r,pl,hz⟩:=I.tuple hq
 obtain⟨j,h1,h2,h3,h4,h5⟩:=pR he
 obtain⟨w,ew,rw'⟩:=r.get h2
 have hl:=r.length
 have hn:=iN
 have fin:EP X pins σ Q w s:=⟨z,H,I,rw',q⟩
 exact subscriptTail_builtinR (x:=w) pl.typeIs slot_tuple_getitem.lookup
  (getItem_tuple (j:=j) (Q:=fun r s'=>r=w/\EP X pins σ Q r s') pl (by omega) (by omega) (by rw[List.size_toArray,<- hl];exact h1) (by simpa using ew) ⟨rfl,fin⟩) hs
theorem Dk:IxR X EI:=by
 intro value slice pins s σ H x y v u Q I rx ry h hs
 obtain⟨z,i,c,rfl,rfl,hz,he,q⟩:=h
 obtain⟨t,rfl⟩:=rx
 obtain⟨t',rfl⟩:=ry
 obtain⟨j,h1,h2,h3,h4,h5⟩:=pR he
 have hl:z.cps.toList.length=z.length:=by simp[Str.length]
 rw[hl] at h1 h4 h5
 have hn:=iN
 exact tail_any (typeIs_str s z t) slot_str_getitem.lookup (getItem_str (c:=c) (by
  have e1:decide (i < -(2 ^ 63:Int))=false:=decide_eq_false (by omega)
  have e2:decide (i ≥ 2 ^ 63)=false:=decide_eq_false (by omega)
  rw[e1,e2,Bool.or_false]) (by rw[h1];simpa using h2) ⟨.str ⟨#[c]⟩,H,I.tok _,⟨_,rfl⟩,q⟩) hs
noncomputable def rIx (K:PySem.W.Frag):R2:=fun x y H Q=>E8 K x y H Q\/ES K x y H Q\/EI x y H Q
theorem cW:IxR X (rIx X.K):=Bk.or (Dj.or Dk)
theorem tK (its:List Value) (n j:Nat) (u:Value):Obj.mapSeq (·.setIfInBounds j u) { cls:=.type "list", data:=.seq its.toArray n }={ cls:=.type "list", data:=.seq (its.set j u).toArray n }:=by
 simp[Obj.mapSeq]
theorem Inv.lst {pins:List (Addr × Obj)} {σ:St} {H:Hp} {s:Shared} {p:Addr} {xs:List V} (I:Inv X pins σ H s) (h:H p=some (.lst xs)) :
  ∃(its:List Value) (n:Nat),Vals xs its/\s.heap.get? p=some { cls:=.type "list", data:=.seq its.toArray n }/\xs.length<=sizeLine:=by
 obtain⟨z,its,n,r,e⟩:=I.hok p _ h
 exact⟨its,n,r,e,z⟩
theorem Inv.CD {pins:List (Addr × Obj)} {σ:St} {H:Hp} {s:Shared} {p:Addr} {xs ys:List V} {its its':List Value} {n n':Nat} {f:Obj->Obj} (I:Inv X pins σ H s) (h:H p=some (.lst xs))
  (ho:s.heap.get? p=some { cls:=.type "list", data:=.seq its.toArray n }) (hf:f { cls:=.type "list", data:=.seq its.toArray n }={ cls:=.type "list", data:=.seq its'.toArray n' }) (r:Vals ys its') (hz:ys.length<=sizeLine) (t:Nat) :
  Inv X pins σ (upd H p (.lst ys)) { s with heap:=s.heap.update p f,toks:=t }:=by
 have e:(s.heap.update p f).get? p=some { cls:=.type "list", data:=.seq its'.toArray n' }:=by
  rw[Heap.get?_update_self f ho (by rw[hf]<;>rfl),hf]
 refine I.write (x:=p) (e:=p) (by rw[h];trivial) (.inl rfl) (fun b u hb q=>(Heap.get?_update_other _ _ (Ne.symm hb)).trans q) ⟨_,e⟩ ?_
 exact⟨hz,its',n',r,e⟩
noncomputable def BA:V->V->V->Hp->(Hp->Prop)->Prop:=fun o i v H Q=>∃p xs k j,o=.ref p/\i=.int k/\H p=some (.lst xs)/\ixN xs.length k=some j/\Q (upd H p (.lst (xs.set j v)))
theorem set_list:CU X BA:=by
 intro pins s σ H o i v ov iv u Q I ro ri rv h
 obtain⟨p,xs,k,j,rfl,rfl,hp,hj,q⟩:=h
 cases ro
 obtain⟨t,rfl⟩:=ri
 obtain⟨its,n,r,ho,hz⟩:=I.lst hp
 obtain⟨h1,h2,h3,h4⟩:=vc hj
 have hl:=r.length
 have hn:=iN
 have I':Inv X pins σ (upd H p (.lst (xs.set j v))) { s with heap:=s.heap.update p (Obj.mapSeq (·.setIfInBounds j u)) }:=
  I.CD hp ho (tK its n j u) (r.set rv j) (by rw[List.length_set];exact hz) s.toks
 by_cases h0:0<=k
 ·have hk:k.toNat=j:=by
   rw[seqIndex_of h0 h4] at h1
   exact Option.some.inj h1
  exact PySem.W.ki_setAt ho h0 (by omega) (by rw[List.size_toArray,<- hl];exact h4) (by rw[hk];exact⟨_,I',q⟩)
 ·have hk:(k+(its.toArray.size:Int)).toNat=j:=by
   rw[seqIndex_neg (by omega) h3] at h1
   rw[List.size_toArray,<- hl]
   exact Option.some.inj h1
  exact PySem.W.ki_setBack ho (by omega) (by rw[List.size_toArray,<- hl];exact h3) (by omega) (by rw[hk];exact⟨_,I',q⟩)
theorem pX (lo hi:Option Int) (n:Nat):(sliceBounds lo hi none n).1=((HT.sIx n 0 lo:Nat):Int)/\(sliceBounds lo hi none n).2.1=((HT.sIx n n hi:Nat):Int)/\(sliceBounds lo hi none n).2.2=1:=by
 refine⟨?_,?_,rfl⟩
 ·cases lo with
  | none=>simp[sliceBounds,HT.sIx]
  | some i=>
   simp only[sliceBounds,HT.sIx,Option.getD_none,show(1:Int) > 0 by decide,if_true]
   by_cases h:i<0
   ·simp only[h,if_true]<;>omega
   ·simp only[h,if_false]<;>omega
 ·cases hi with
  | none=>simp[sliceBounds,HT.sIx]
  | some i=>
   simp only[sliceBounds,HT.sIx,Option.getD_none,show(1:Int) > 0 by decide,if_true]
   by_cases h:i<0
   ·simp only[h,if_true]<;>omega
   ·simp only[h,if_false]<;>omega
theorem m_ (its:List Value) (lo hi:Option Int):slicePick its.toArray lo hi none=((its.drop (HT.sIx its.length 0 lo)).take (HT.sIx its.length its.length hi - HT.sIx its.length 0 lo)).toArray:=by
 obtain⟨h1,h2,h3⟩:=pX lo hi its.toArray.size
 unfold slicePick
 rw[h1,h2,h3]
 simp only[sliceRange_one,pick_run,List.size_toArray]<;>rfl
noncomputable def Gf (K:PySem.W.Frag):V->Option Int->Option Int->Hp->VK->Prop:=fun x lo hi H Q=>∃a xs,x=.ref a/\SqL K H a xs/\∀p,H p=none->Q (.ref p) (upd H p (.lst (nE xs lo hi)))
theorem Ac:SlR X (Gf X.K):=by
 intro pins s σ H x v vl vu lo hi sl Q I rx hs pl pu h
 obtain⟨a,xs,rfl,hx,q⟩:=h
 cases rx
 obtain⟨its,r,ht,hz⟩:=I.list hx
 have hlen:=r.length
 refine⟨"list", _,slot_list_getitem.lookup,ht.isList.typeIs,?_⟩
 refine wpAny_getItem_list_slice ht.isList hs pl pu .none (by simp) ?_ (by rw[List.size_toArray]<;>omega)
 rw[m_,<- hlen]
 refine⟨.ref s.heap.objs.size,_,I.laid (t':=s.toks) (o:=.lst (nE xs lo hi)) (fun b ob q=>Heap.get?_push_of_some _ q) (Nat.le_refl _) ?_,rfl,q _ (I.hok.fresh (Nat.le_refl _))⟩
 exact⟨Nat.le_trans (kn xs lo hi) hz,_,0,(r.drop (HT.sIx xs.length 0 lo)).take (HT.sIx xs.length xs.length hi - HT.sIx xs.length 0 lo),Heap.get?_push_size _ rfl⟩
noncomputable def ip:V->Bool
 | .non=>true
 | .bl _=>true
 | .int _=>true
 | .str _=>true
 | _=>false
noncomputable def eqV:V->V->Bool
 | .non,.non=>true
 | .bl a,.bl b=>a == b
 | .bl a,.int b=>(if a then 1 else 0) == b
 | .int a,.bl b=>a == (if b then 1 else 0)
 | .int a,.int b=>a == b
 | .str a,.str b=>a == b
 | _,_=>false
theorem B_ {A:Around} {s:Shared} {y x:V} {u v:Value} (ry:RelV y u) (rx:RelV x v) (fy:ip y=true) (fx:ip x=true):SeqAt.EqAt A s u v (eqV y x):=by
 cases y with
 | non=>
  cases ry
  cases x with
  | non=>cases rx;exact SeqAt.EqAt.same _
  | bl b=>cases rx;exact SeqAt.EqAt.none_bool b
  | int b=>obtain⟨t,rfl⟩:=rx;exact SeqAt.EqAt.none_int b t
  | str b=>obtain⟨t,rfl⟩:=rx;exact SeqAt.EqAt.none_str b t
  | _=>exact absurd (show false=true from fx) Bool.false_ne_true
 | bl a=>
  cases ry
  cases x with
  | non=>cases rx;exact SeqAt.EqAt.bool_none a
  | bl b=>cases rx;exact SeqAt.EqAt.bool_bool a b
  | int b=>obtain⟨t,rfl⟩:=rx;exact SeqAt.EqAt.bool_int a b t
  | str b=>obtain⟨t,rfl⟩:=rx;exact SeqAt.EqAt.bool_str a b t
  | _=>exact absurd (show false=true from fx) Bool.false_ne_true
 | int a=>
  obtain⟨t',rfl⟩:=ry
  cases x with
  | non=>cases rx;exact SeqAt.EqAt.int_none a t'
  | bl b=>cases rx;exact SeqAt.EqAt.int_bool a t' b
  | int b=>obtain⟨t,rfl⟩:=rx;exact SeqAt.EqAt.int_int a t' b t
  | str b=>obtain⟨t,rfl⟩:=rx;exact SeqAt.EqAt.int_str a t' b t
  | _=>exact absurd (show false=true from fx) Bool.false_ne_true
 | str a=>
  obtain⟨t',rfl⟩:=ry
  cases x with
  | non=>cases rx;exact SeqAt.EqAt.str_none a t'
  | bl b=>cases rx;exact SeqAt.EqAt.str_bool a t' b
  | int b=>obtain⟨t,rfl⟩:=rx;exact SeqAt.EqAt.str_int a t' b t
  | str b=>obtain⟨t,rfl⟩:=rx;exact SeqAt.EqAt.str_str a t' b t
  | _=>exact absurd (show false=true from fx) Bool.false_ne_true
 | _=>exact absurd (show false=true from fy) Bool.false_ne_true
noncomputable def eqU (x:V) (u:Value):Bool:=match u with
 | .none=>eqV .non x
 | .bool b=>eqV (.bl b) x
 | .int i _=>eqV (.int i) x
 | .str z _=>eqV (.str z) x
 | _=>false
theorem yk {x y:V} {u:Value} (r:RelV y u) (f:ip y=true):eqU x u=eqV y x:=by
 cases y with
 | non=>cases r;rfl
 | bl b=>cases r;rfl
 | int i=>obtain⟨t,rfl⟩:=r;rfl
 | str z=>obtain⟨t,rfl⟩:=r;rfl
 | _=>exact absurd (show false=true from f) Bool.false_ne_true
theorem p9 {x:V}:∀{xs:List V} {us:List Value},Vals xs us->xs.all ip=true->us.any (eqU x)=xs.any fun y=>eqV y x
 | _,_,.nil,_=>rfl
 | y::xs,u::us,.cons r t,f=>by
  rw[List.all_cons,Bool.and_eq_true] at f
  rw[List.any_cons,List.any_cons,yk r f.1,p9 t f.2]
theorem k_ {A:Around} {s:Shared} {x:V} {v:Value} (rx:RelV x v) (fx:ip x=true):∀{xs:List V} {us:List Value},Vals xs us->xs.all ip=true->∀u∈us,SeqAt.EqAt A s u v (eqU x u)
 | _,_,.nil,_=>fun u hu=>by cases hu
 | y::xs,u::us,.cons r t,f=>fun u' hu=>by
  rw[List.all_cons,Bool.and_eq_true] at f
  rcases List.mem_cons.mp hu with rfl | hu
  ·rw[yk r f.1];exact B_ r rx f.1 fx
  ·exact k_ rx fx t f.2 u' hu
noncomputable def inV (x:V) (xs:List V):Bool:=xs.any fun y=>eqV y x
noncomputable def rIn (K:PySem.W.Frag) (neg:Bool):R2:=fun x y H Q=>∃p xs,y=.ref p/\(SqL K H p xs\/SqT K H p xs)/\ip x=true/\xs.all ip=true/\Q (.bl (if neg then !inV x xs else inV x xs)) H
theorem wg:OpR X (compareOp .In) (rIn X.K false):=by
 intro pins s σ H x y v u Q I rx ry h
 obtain⟨p,xs,rfl,hq,fx,fs,q⟩:=h
 cases ry
 rcases hq with hq | hq
 ·obtain⟨its,r,pl,hz⟩:=I.list hq
  refine SeqAt.in_listAt (eqU x) pl.isList (fun w hw=>k_ rx fx r fs w (by simpa using hw)) ⟨.bl _,H,I,rfl,?_⟩
  rw[show its.toArray.any (eqU x)=its.any (eqU x) by simp,p9 r fs]
  exact q
 ·obtain⟨its,r,pl,hz⟩:=I.tuple hq
  refine SeqAt.in_tupleAt (eqU x) pl (fun w hw=>k_ rx fx r fs w (by simpa using hw)) ⟨.bl _,H,I,rfl,?_⟩
  rw[show its.toArray.any (eqU x)=its.any (eqU x) by simp,p9 r fs]
  exact q
theorem qk:aR X (.builtin "len") (fun xs H Q=>∃p ys,xs=[.ref p]/\(SqL X.K H p ys\/SqT X.K H p ys)/\Q (.int ys.length) H):=by
 intro pins s σ H xs us Q I r h
 obtain⟨p,ys,rfl,hq,q⟩:=h
 obtain⟨u,rfl,rx⟩:=vals1 r
 cases rx
 have hn:=iN
 rcases hq with hq | hq
 ·obtain⟨its,r',pl,hz⟩:=I.list hq
  have hlen:=r'.length
  exact Calls.call_len_list pl.isList (by simp only[List.size_toArray]<;>omega) ⟨.int ys.length,H,I.tok _,⟨s.toks+1,by rw[List.size_toArray,hlen]⟩,q⟩
 ·obtain⟨its,r',pl,hz⟩:=I.tuple hq
  have hlen:=r'.length
  exact len_tuple pl (by simp only[List.size_toArray]<;>omega) ⟨.int ys.length,H,I.tok _,⟨s.toks+1,by rw[List.size_toArray,hlen]⟩,q⟩
theorem qB:aR X (.builtin "len") (fun xs H Q=>∃z,xs=[.str z]/\z.length<=sizeLine/\Q (.int z.length) H):=by
 intro pins s σ H xs us Q I r h
 obtain⟨z,rfl,hz,q⟩:=h
 obtain⟨u,rfl,t,rfl⟩:=vals1 r
 have hn:=iN
 exact len_str (by omega) ⟨.int z.length,H,I.tok _,⟨_,rfl⟩,q⟩
theorem aR.or {f:Value} {r r':List V->Hp->VK->Prop} (h:aR X f r) (h':aR X f r'):aR X f (fun xs H Q=>r xs H Q\/r' xs H Q):=by
 intro pins s σ H xs us Q I rs q
 rcases q with q | q
 ·exact h pins s σ H xs us Q I rs q
 ·exact h' pins s σ H xs us Q I rs q
theorem fY:aR X (.type "list") (fun xs H Q=>∃p ys,xs=[.ref p]/\(SqL X.K H p ys\/SqT X.K H p ys)/\∀l,H l=none->Q (.ref l) (upd H l (.lst ys))):=by
 intro pins s σ H xs us Q I r h
 obtain⟨p,ys,rfl,hq,q⟩:=h
 obtain⟨u,rfl,rx⟩:=vals1 r
 cases rx
 have fin:∀(its:List Value),Vals ys its->ys.length<=sizeLine->∀(h':Heap) (c':Nat),(∀b o',s.heap.get? b=some o'->h'.get? b=some o') →
   h'.get? s.heap.objs.size=some { cls:=.type "list", dict:=none,data:=.seq its.toArray c',slots:=#[] }->EP X pins σ Q (.ref s.heap.objs.size) { s with heap:=h' }:=fun its r' hz h' c' kp e=>
  ⟨.ref s.heap.objs.size,_,I.laid (t':=s.toks) kp (Nat.le_refl _) (show bZ X.prog X.w _ h' _ (.lst ys) from⟨hz,its,c',r',e⟩),rfl,q _ (I.hok.fresh (Nat.le_refl _))⟩
 rcases hq with hq | hq
 ·obtain⟨its,r',pl,hz⟩:=I.list hq
  have hlen:=r'.length
  obtain⟨o,ho,hc,n,hd⟩:=pl.isList
  exact call_list_seq p (.inl rfl) ho hc hd (fun h' c' kp e=>fin its r' hz h' c' kp e) (by simp only[List.size_toArray]<;>omega)
 ·obtain⟨its,r',pl,hz⟩:=I.tuple hq
  have hlen:=r'.length
  obtain⟨o,ho,hc,n,hd⟩:=pl
  exact call_list_seq p (.inr rfl) ho hc hd (fun h' c' kp e=>fin its r' hz h' c' kp e) (by simp only[List.size_toArray]<;>omega)
theorem bY:aR X (.type "tuple") (fun xs H Q=>∃p ys,xs=[.ref p]/\((SqL X.K H p ys/\∀l,H l=none->Q (.ref l) (upd H l (.tup ys)))\/(SqT X.K H p ys/\Q (.ref p) H))):=by
 intro pins s σ H xs us Q I r h
 obtain⟨p,ys,rfl,h⟩:=h
 obtain⟨u,rfl,rx⟩:=vals1 r
 cases rx
 rcases h with⟨hq,q⟩ | ⟨hq,q⟩
 ·obtain⟨its,r',pl,hz⟩:=I.list hq
  have hlen:=r'.length
  refine call_tuple_list pl.isList (fun h' kp=>?_) (by simp only[List.size_toArray]<;>omega)
  have I1:Inv X pins σ H { s with heap:=h' }:=I.kept (t':=s.toks) kp
  have I2:Inv X pins σ (upd H h'.objs.size (.tup ys)) { s with heap:=h'.push { cls:=.type "tuple", data:=.seq its.toArray } }:=
   I1.laid (t':=s.toks) (fun b o e=>Heap.get?_push_of_some _ e) (Nat.le_refl _) (show bZ X.prog X.w _ _ _ (.tup ys) from⟨hz,its,r',jX.new _ _⟩)
  exact⟨.ref h'.objs.size,_,I2,rfl,q _ (I1.hok.fresh (Nat.le_refl _))⟩
 ·obtain⟨its,r',pl,hz⟩:=I.tuple hq
  exact call_tuple_same pl ⟨.ref p,H,I,rfl,q⟩
noncomputable def tyV (K:PySem.W.Frag) (T:String) (x:V) (H:Hp):Prop:=match x with
 | .str _=>T="str"
 | .int _=>T="int"
 | .ref p=>(T="list" /\ ∃xs,SqL K H p xs)\/(T="tuple" /\ ∃o,K.lookup p=some o/\o.cls=.type "tuple" /\ o.dict=none) ∨
   (T="dict" /\ ((∃kvs,H p=some (.dK kvs))\/∃kvs,H p=some (.dT kvs)))\/(T="set" /\ ∃S n,H p=some (.set S n))\/(T="tuple" /\ ∃xs,H p=some (.tup xs))
 | _=>False
theorem DG {pins:List (Addr × Obj)} {σ:St} {H:Hp} {s:Shared} {T:String} {x:V} {v:Value} (I:Inv X pins σ H s) (r:RelV x v) (ty:tyV X.K T x H) :
  s.TypeIs v T/\∀a,v=.ref a->∃ob,s.heap.get? a=some ob/\ob.dict=none:=by
 cases x with
 | str z=>
  obtain⟨t,rfl⟩:=r
  cases (show T="str" from ty)
  exact⟨typeIs_str s z t,fun _ e=>nomatch e⟩
 | int i=>
  obtain⟨t,rfl⟩:=r
  cases (show T="int" from ty)
  exact⟨typeIs_int s i t,fun _ e=>nomatch e⟩
 | ref p=>
  cases r
  rcases ty with⟨rfl,xs,hq⟩ | ⟨rfl,o,hk,hc,hd⟩ | ⟨rfl,hk⟩ | ⟨rfl,S,n,hk⟩ | ⟨rfl,xs,hk⟩
  ·obtain⟨its,_,pl,_⟩:=I.list hq
   refine⟨pl.isList.typeIs,fun a e=>?_⟩
   cases e
   obtain⟨o,n,e,c,hd,_⟩:=pl
   exact⟨o,e,hd⟩
  ·refine⟨⟨o,I.kIn p o hk,hc⟩,fun a e=>?_⟩
   cases e
   exact⟨o,I.kIn _ o hk,hd⟩
  ·have z:∃o,s.heap.get? p=some o/\o.ExactDict:=by
    rcases hk with⟨kvs,hk⟩ | ⟨kvs,hk⟩
    ·obtain⟨_,_,_,_,o,_,_,e,ex,_⟩:=I.hok p _ hk
     exact⟨o,e,ex⟩
    ·obtain⟨_,_,_,_,o,_,_,e,ex,_⟩:=I.hok p _ hk
     exact⟨o,e,ex⟩
   obtain⟨o,e,ex⟩:=z
   refine⟨⟨o,e,ex.1⟩,fun a e2=>?_⟩
   cases e2
   exact⟨o,e,ex.2.1⟩
  ·obtain⟨o,_,_,_,e,ex,_⟩:=I.hok p _ hk
   refine⟨⟨o,e,ex.1⟩,fun a e2=>?_⟩
   cases e2
   exact⟨o,e,ex.2.1⟩
  ·obtain⟨_,_,_,o,e,⟨c,_⟩,hd⟩:=I.hok p _ hk
   refine⟨⟨o,e,c⟩,fun a e2=>?_⟩
   cases e2
   exact⟨o,e,hd⟩
 | _=>exact False.elim ty
noncomputable def tBM (K:PySem.W.Frag) (T:String) (r:V->List V->Hp->VK->Prop) (to:TE) (t:TA):TE:=fun σ H Q=>to σ H fun x H1=>tyV K T x H1/\t σ H1 fun xs H2=>r x xs H2 Q
variable {o e:Expr} {es:List Expr} {to:TE} {t:TA} {name:Str} {apos cpos:Pos} {T id:String} {r:V->List V->Hp->VK->Prop}
theorem E7 (pa:PlainAttrs T) (slot:Slot T name id) (hty:typeOf (.builtin id)=pure (.type "method_descriptor")) (hm:MtR X id r) (ho:PE X o to) (ha:PA X (e::es) t)
  (hbase:attributeBase o name X.env (eval o X.env)=eval o X.env:=by rfl)
  (hfew:((backTo cpos (starEach (e::es) X.env)).all (fun x=>!x.1)&&(backToKw cpos (keywordEach [] X.env)).all (fun x=>x.1.isSome)
   && decide ((e::es).length+([]:List Keyword).length+(if ([]:List Keyword).isEmpty then 0 else 1)<30))=true:=by rfl)
  (hline:(apos.endLine == cpos.line)=true:=by rfl) (hs:starEach (e::es) X.env=(false,eval e X.env)::starEach es X.env:=by rfl) (hplain:(backTo cpos (starEach es X.env)).any (·.1)=false:=by rfl) :
  PE X (.Call (.Attribute o name apos) (e::es) [] cpos) (tBM X.K T r to t):=by
 intro pins s σ H Q I h
 refine wpAny_Call_method_late hbase hfew hline rfl (thn (ho pins s σ H _ I h) fun v s1 ⟨x,H1,I1,r1,ty,q1⟩=>?_)
 obtain⟨h1,h2⟩:=DG I1 r1 ty
 refine⟨T,id,pa,slot,hty,h1,h2,?_⟩
 have hA:=ha cpos pins s1 σ H1 _ I1 q1
 rw[hs] at hA ⊢
 refine Calls.callWith_builtin (by show(false || (backTo cpos (starEach es X.env)).any (·.1))=false;rw[hplain]<;>rfl) (Calls.evalArgs_plain ?_)
 exact thn hA fun us s2 ⟨vs,H2,I2,r2,q2⟩=>hm pins s2 σ H2 x vs v us Q I2 r1 r2 q2
/- xs.append(e),list.index on a module's tuple .. are MtR facts of 06m -/
end
noncomputable def MtM (X:Cx) (id:String) (r:V->List V->Hp->VK->Prop):Prop:=
 ∀(pins:List (Addr × Obj)) (s:Shared) (σ:St) (H:Hp) (x:V) (xs:List V) (v:Value) (us:List Value) (Q:VK),Inv X pins σ H s->RelV x v->Vals xs us->r x xs H Q →
  wpAny (model X.prog X.w) X.A (call (.builtin id) (v::us)) (EP X pins σ Q) X.xe s
theorem Vals.one:∀{x:V} {us:List Value},Vals [x] us->∃u,us=[u]/\RelV x u
 | _,_,.cons r .nil=>⟨_,rfl,r⟩
theorem Vals.reverse {xs:List V} {us:List Value} (h:Vals xs us):Vals xs.reverse us.reverse:=by
 induction h with
 | nil=>exact .nil
 | cons r t ih=>rw[List.reverse_cons,List.reverse_cons];exact Vals.append ih (.cons r .nil)
theorem Vals.rep {xs:List V} {us:List Value} (h:Vals xs us):∀k:Nat,Vals (List.replicate k xs).flatten (List.replicate k us).flatten
 | 0=>.nil
 | k+1=>by
  rw[List.replicate_succ,List.replicate_succ,List.flatten_cons,List.flatten_cons]
  exact Vals.append h (Vals.rep h k)
theorem foldl_rep (its:List Value):∀(k:Nat) (acc:List Value),
  List.foldl (fun x1 x2=>x1++x2) acc.toArray (List.replicate k its.toArray)=(acc++(List.replicate k its).flatten).toArray
 | 0,acc=>by simp
 | k+1,acc=>by
  have e:acc.toArray++its.toArray=(acc++its).toArray:=by simp
  have e2:(acc++its)++(List.replicate k its).flatten=acc++(List.replicate (k+1) its).flatten:=by
   rw[List.replicate_succ,List.flatten_cons,List.append_assoc]
  rw[<- e2,<- foldl_rep its k (acc++its),<- e,List.replicate_succ,List.foldl_cons]
section
variable {X:Cx} {pins:List (Addr × Obj)} {σ:St} {H:Hp} {s:Shared} {l b:Addr} {xs ys zs:List V}
theorem Inv.Gr {its its':List Value} {n:Nat} {f:Array Value->Array Value} {t':Nat} (I:Inv X pins σ H s) (hH:H l=some (.lst xs))
  (e:s.heap.get? l=some { cls:=.type "list", data:=.seq its.toArray n }) (hf:f its.toArray=its'.toArray) (hv:Vals ys its') (hz:ys.length<=sizeLine) :
  Inv X pins σ (upd H l (.lst ys)) { s with heap:=s.heap.update l (Obj.mapSeq f),toks:=t' }:=by
 have q:=PySem.IsL.update e f
 rw[hf] at q
 refine I.write (x:=l) (e:=l) (by rw[hH];exact trivial) (.inl rfl) (fun b' u hb hu=>(Heap.get?_update_other s.heap (Obj.mapSeq f) (Ne.symm hb)).trans hu) ⟨_,q⟩ ?_
 exact⟨hz,its',_,hv,q⟩
theorem Inv.B4 {its:List Value} {t':Nat} (I:Inv X pins σ H s) (hv:Vals ys its) (hz:ys.length<=sizeLine) :
  Inv X pins σ (upd H s.heap.objs.size (.lst ys)) { s with heap:=s.heap.push { cls:=.type "list", data:=.seq its.toArray },toks:=t' }:=
 I.laid (fun _ _ q=>Heap.get?_push_of_some _ q) (Nat.le_refl _) ⟨hz,its,0,hv,Heap.get?_push_size _ rfl⟩
theorem Inv.fresh (I:Inv X pins σ H s):H s.heap.objs.size=none:=I.hok.fresh (Nat.le_refl _)
theorem Inv.F6 (I:Inv X pins σ H s) (hH:H l=some (.lst xs)):xs.length<=sizeLine/\∃(its:List Value) (n:Nat),Vals xs its/\xs.length=its.length/\s.heap.get? l=some { cls:=.type "list", data:=.seq its.toArray n }:=by
 obtain⟨z,its,n,r,e⟩:=I.hok l _ hH
 exact⟨z,its,n,r,r.length,e⟩
theorem xy {n:Nat} (h:n<=sizeLine):Builtin.List.listTooLong n=false:=by
 unfold Builtin.List.listTooLong
 exact decide_eq_false (by omega)
end
section
variable {X:Cx}
noncomputable def uN:V->List V->Hp->VK->Prop:=fun x vs H Q=>∃l xs y,x=.ref l/\vs=[y]/\H l=some (.lst xs)/\xs.length<sizeLine/\Q .non (upd H l (.lst (xs++[y])))
theorem g_:MtM X "list.append" uN:=by
 intro pins s σ H x vs v us Q I rx rv h
 obtain⟨l,xs,y,rfl,rfl,hH,hz,q⟩:=h
 cases rx
 obtain⟨u,rfl,ru⟩:=rv.one
 obtain⟨z,its,n,r,hl,e⟩:=I.F6 hH
 refine call_meets F.slot_list_append ⟨_,e,rfl⟩ F.entry_list_append (F.args_list_append_2 _ _) (PySem.list_append l its.toArray n u (by rw[List.size_toArray];omega)) ⟨e,?_⟩
 refine⟨.non,_,I.Gr (its':=its++[u]) hH e (by simp) (r.append (.cons ru .nil)) ?_,rfl,q⟩
 rw[List.length_append,List.length_singleton]
 omega
theorem len_rep {α:Type} (xs:List α) (k:Nat):(List.replicate k xs).flatten.length=k*xs.length:=by
 induction k with
 | zero=>simp
 | succ k ih=>rw[List.replicate_succ,List.flatten_cons,List.length_append,ih,Nat.succ_mul,Nat.add_comm]
end
end L2
namespace Att
open PySem PySem.W PySem.Calls PyProof.Rows
theorem kH {P:Params} {h:Heap}:∀(ns:List Int) (vs:List Value),WellAll P h vs (ns.map WData.int)->IntsAre vs ns:=by
 intro ns
 induction ns with
 | nil=>
  intro vs w
  rw[List.map_nil] at w
  cases w
  exact .nil
 | cons n ns ih=>
  intro vs w
  rw[List.map_cons] at w
  cases w with
  | cons a b=>
   cases a
   exact .cons _ _ (ih _ b)
theorem vF {l:OpenLaw} {n:Nat} (hn:l.most=some n) {P:Params} {h:Heap} {args:List WData} {vals:List Value}
  (hpre:l.row.toRowW.claim.pre args=true) (hwl:WellAll P h vals args) :
  ∃a vs ns,vals=[Value.ref a]/\args=[WData.list (ns.map WData.int)]/\h.get? a=some { cls:=.type "list", data:=.seq vs.toArray }/\IntsAre vs ns/\ns.length<=n:=by
 have hsh:WShape.hasAll [] args [.list .int]=true:=(pre_splitW hpre).1
 have hc:l.pre.holds [] { args:=args }=true:=(pre_splitW hpre).2
 obtain⟨d,r,rfl,h1,h2⟩:=hasAllW_cons hsh
 obtain rfl:=hasAllW_nil h2
 obtain⟨xs,rfl,h3⟩:=hasW_list h1
 obtain⟨ns,rfl⟩:=items_int h3
 have hlen:ns.length<=n:=by
  unfold OpenLaw.pre at hc
  have h4:(WTm.not (.lt (.lit (.int (n:Int))) (.len (.arg 0)))).holds [] { args:=[.list (ns.map .int)] }=true:=by
   have h4:=(holds_andW hc).1
   rw[hn] at h4
   exact h4
  have h5:=condW_of h4 (w_not (w_lt w_lit (w_len_list (w_arg rfl))))
  rw[List.length_map] at h5
  refine Nat.le_of_not_lt fun q=>?_
  have q':(n:Int)<((ns.length:Nat):Int):=by omega
  first
   | (rw[decide_eq_true q'] at h5;exact absurd h5 (by decide))
   | (simp at h5;omega)
 cases hwl with
 | cons w1 w2=>
  cases w2
  cases w1 with
  | list ho hall=>exact⟨_,_,ns,rfl,rfl,ho,kH ns _ hall,hlen⟩
theorem vU (l:OpenLaw) (args:List WData):l.row.toRowW.claim.post args (.bool true) args=true:=
 postW_of (r:=l.row.toRowW) (X:=(true == true))
  (show WShape.has [] (.bool true) .bool=true by first | rfl | decide | simp[WShape.has,WShape.arms,WShape.armsAll])
  (show(WTm.eq .res (.lit (.bool true))).value [] { args:=args,res:=some (.bool true),after:=args }=some (.bool (true == true)) from w_eq_bool (w_res rfl) w_lit) rfl
theorem qG {l:OpenLaw} {n:Nat} {q:Program} {loose:List Str} {XP:(Str->Option Value)->Heap->Prop} {YP:World->Heap->Prop} {d:DefRec}
  (hn:l.most=some n) (hdf:d.params.defaults=[])
  (call:∀(w:World) (aJ s₁:Shared) (mg mb:Str->Option Value) (fa:Addr) (o:Obj) (pm cd doc:Value) (a:Addr) (vs:List Value) (ns:List Int),
   Ground q loose [] XP w aJ mg mb s₁.heap->YP w s₁.heap →
   s₁.heap.get? fa=some o->o.data=.func (docDef d.name d.params d.body d.scope pm cd doc)->s₁.heap.CodeRec cd d.name->mg d.name=some (.ref fa) →
   s₁.heap.get? a=some { cls:=.type "list", data:=.seq vs.toArray }->IntsAre vs ns->ns.length<=n->s₁.gens = #[] →
   codeAny (model l.prog w) callerA (.call (.ref fa) ⟨[.ref a],[]⟩) (fun r s'=>r=.ok (.ret (.bool true))/\OldK s₁.heap s'.heap/\s'.os=s₁.os/\AllBare s'.gens) s₁) :
  WalkO q loose XP YP l.row.toRowW d [] (fun f vs=>PySem.call f vs):=by
 intro w aJ s₁ mg mb G Y fa o pm cd doc dV kV ho hd hcd hD hmg hg args vals as hpre hlay hrd hwl hlo
 obtain rfl:dV=.none:=Dflts.none hD hdf
 obtain rfl:kV=.none:=Dflts.noKw hD
 obtain⟨a,vs,ns,rfl,rfl,hobj,hints,hlen⟩:=vF hn hpre hwl
 refine enter_call (codeAny_mono (call w aJ s₁ mg mb fa o pm cd doc a vs ns G Y ho (fd_plain hd) hcd hmg hobj hints hlen hg) fun r s' hq=>?_)
 obtain⟨rfl,h2,h3,h4⟩:=hq
 exact⟨.inl ⟨.bool true,.bool true,[],rfl,fun _=>rfl,.bool true,vU l _,fun _=>⟨List.Pairwise.nil,fun _ hm=>(nomatch hm)⟩⟩,h2,h3,h4⟩
end Att
namespace L2
open PySem PySem.Spec PyProof.Rows
theorem nN:∀{vs:List Value} {ns:List Int},IntsAre vs ns->Vals (ns.map V.int) vs
 | _,_,.nil=>.nil
 | _,_,.cons n t h=>.cons ⟨t,rfl⟩ (nN h)
noncomputable def AX (H:Hp):Prop:=∀b,H b=none\/∃o xs,H b=some (.frz o (.lst xs))
theorem yW {P:Program} {w:World} {K:PySem.W.Frag} {mg mb:Str->Option Value} {CX:CXT} {k:Nat} {fa a:Addr} {fd:FuncData} {x:Str} {sp:Sp} {s₁:Shared} {vs:List Value} {ns:List Int}
  (KX:K.In s₁.heap) (hns:s₁.heap.Ns mainGlobals mg) (hb:s₁.heap.Ns builtinsNs mb) (hbb:∀x:Str,x≠"__name__" -> mb x=bootBuiltins x) (hlim:s₁.heap.NoLimit) (hg:s₁.gens = #[])
  (ha:s₁.heap.get? a=some { cls:=.type "list", data:=.seq vs.toArray }) (hi:IntsAre vs ns) (hl:ns.length<=sizeLine) (hr:cX k callerA)
  (F:∀base:Heap,K.In base->base.Ns mainGlobals mg->ed P w K mg base CX k fa fd [x] sp) (hbind:∀(s:Shared) (u:Value),BindsTo s fd ⟨[u],[]⟩ [(x,u)])
  (hsp:∀H:Hp,AX H->SqL K H a (ns.map V.int)->sp [.ref a] H (fun v _=>v=.bl true) fun _ _ _=>False)
  (hCX:∀H e s',CX [] H s₁ (fun _ _ _=>False) e s'->False) :
  codeAny (model P w) callerA (.call (.ref fa) ⟨[.ref a],[]⟩) (fun r s'=>r=.ok (.ret (.bool true))/\OldK s₁.heap s'.heap/\s'.os=s₁.os/\AllBare s'.gens) s₁:=by
 have rv:=nN hi
 have lenV:=hi.length
 -- from an abstract heap in which nothing but the script may be tracked
 have core:∀H:Hp,AX H->SqL K H a (ns.map V.int)->HOk P w H s₁.heap->(∀b,H b≠none->b=a)->(H a≠none->K.lookup a=none) →
   codeAny (model P w) callerA (.call (.ref fa) ⟨[.ref a],[]⟩) (fun r s'=>r=.ok (.ret (.bool true))/\OldK s₁.heap s'.heap/\s'.os=s₁.os/\AllBare s'.gens) s₁:=by
  intro H hO hS hok hA hK
  have base_of:∀{b:Addr} {o:Obj},s₁.heap.get? b=some o->H b=none->(qc s₁.heap H).get? b=some o:=fun e n=>xM e n
  have noA:∀{b:Addr} {o:Obj} {es:Array DictEntry} {ep:Nat},s₁.heap.get? b=some o->o.data=.dict es ep->H b=none:=fun{b o es ep} e d=>by
   cases q:H b with
   | none=>rfl
   | some u=>
    have e':b=a:=hA b (by rw[q];simp)
    subst e'
    rw[ha] at e;cases e
    have d':Data.seq vs.toArray _=Data.dict es ep:=d
    cases d'
  have nsK:∀{b:Addr} {m:Str->Option Value},s₁.heap.Ns b m->(qc s₁.heap H).Ns b m:=fun{b m} ⟨o,es,ep,e,d,r⟩=>⟨o,es,ep,base_of e (noA e d),d,r⟩
  have hKb:K.In (qc s₁.heap H):=fun b o e=>base_of (KX b o e) (by
   cases q:H b with
   | none=>rfl
   | some u=>
    have e':b=a:=hA b (by rw[q];simp)
    subst e'
    rw[hK (by rw[q];simp)] at e;cases e)
  have hM:Mod K mg (qc s₁.heap H):=⟨hKb,nsK hns,⟨mb,nsK hb,hbb⟩,let ⟨mc,h1,h2⟩:=hlim;⟨mc,nsK h1,h2⟩⟩
  have e0:yN P w K mg (qc s₁.heap H) callerA [] s₁ H:=⟨rfl,hM,fun b o e=>As e,Nat.le_of_eq (vZ _ _),trivial,fun b hb=>absurd (show b∈([]:List Addr) from hb) (by simp),hok,.of_eq hg⟩
  refine codeAny_mono ((F _ hKb (nsK hns)).run callerA [] s₁ H ⟨[.ref a],[]⟩ [.ref a] [.ref a] _ _ hr e0 (hbind s₁ (.ref a)) (.cons rfl .nil) (hsp H hO hS)) fun r s' h=>?_
  cases r with
  | error e=>exact(hCX H e s' h).elim
  | ok fl=>
   cases fl with
   | next=>exact False.elim h
   | brk=>exact False.elim h
   | cont=>exact False.elim h
   | ret u=>
    obtain⟨v,H',os,bare,un,hok',r',q⟩:=h
    have q':v=.bl true:=q
    subst q'
    obtain rfl:u=Value.bool true:=r'
    refine⟨rfl,OldK.of_keep fun b o e=>?_,os,bare⟩
    cases q:H b with
    | none=>exact un.keep b o e q (by intro z;exact absurd (show b∈([]:List Addr) from z) (by simp)) (by simp)
    | some u=>
     rcases hO b with z | ⟨ob,xs,z⟩
     ·rw[q] at z;cases z
     ·have z2:=un.k6 b ob _ z
      obtain⟨e1,_⟩:=hok b _ z
      obtain⟨e2,_⟩:=hok' b _ z2
      rw[e] at e1;cases e1
      exact e2
 cases hk:K.lookup a with
 | some o=>
  -- the script is one of the module's own objects
  have e:=KX a o hk
  rw[ha] at e
  cases e
  refine core (fun _=>none) (fun _=>.inl rfl) (.inr ⟨_,vs.toArray,_,hk,rfl,rfl,rfl,by rw[List.size_toArray,lenV];exact hl,by simpa using rv⟩) (fun b u z=>by have z':(none:Option HO)=some u:=z;cases z') (fun b z=>absurd rfl z) fun z=>absurd rfl z
 | none=>
  refine core (fun b=>if b=a then some (.frz { cls:=.type "list", data:=.seq vs.toArray } (.lst (ns.map V.int))) else none) (fun b=>?_) (.inl (.inr ⟨{ cls:=.type "list", data:=.seq vs.toArray },if_pos rfl⟩)) (fun b u z=>?_) (fun b z=>?_) fun _=>hk
  ·by_cases hb:b=a
   ·exact .inr ⟨_,_,if_pos hb⟩
   ·exact .inl (if_neg hb)
  ·by_cases hb:b=a
   ·have z':=(if_pos hb).symm.trans z
    cases z'
    subst hb
    exact⟨ha,by rw[List.length_map];exact hl,vs,_,rv,ha⟩
   ·have z':=(if_neg hb).symm.trans z
    cases z'
  ·by_cases hb:b=a
   ·exact hb
   ·exact absurd (if_neg hb) z
noncomputable abbrev KOf {K:PySem.W.Frag} {h:Heap} (_:K.In h):PySem.W.Frag:=K
theorem Ab {l:PySem.W.OpenLaw} {n k:Nat} {q:Program} {loose:List Str} {XP:(Str->Option Value)->Heap->Prop} {YP:World->Heap->Prop} {d:DefRec} {K:Params->PySem.W.Frag} {CX:World->CXT} {sp:World->Sp} {x:Str}
  (hn:l.most=some n) (hn2:n<=sizeLine) (hdf:d.params.defaults=[]) (hr:cX k callerA)
  (hY:∀(w:World) (h:Heap),YP w h->(K w.params).In h)
  (F:∀(w:World) (mg:Str->Option Value) (fa:Addr) (h:Heap),(K w.params).In h->h.Ns mainGlobals mg->mg d.name=some (.ref fa) →
   ∃fd:FuncData,(∀(s:Shared) (u:Value),BindsTo s fd ⟨[u],[]⟩ [(x,u)]) ∧
    ∀base:Heap,(K w.params).In base->base.Ns mainGlobals mg->ed l.prog w (K w.params) mg base (CX w) k fa fd [x] (sp w))
  (hsp:∀(w:World) (H:Hp) (a:Addr) (ns:List Int),ns.length<=n->AX H->SqL (K w.params) H a (ns.map V.int)->sp w [.ref a] H (fun v _=>v=.bl true) fun _ _ _=>False)
  (hCX:∀(w:World) (H:Hp) (s:Shared) (e:Value) (s':Shared),CX w [] H s (fun _ _ _=>False) e s'->False) :
  PySem.W.WalkO q loose XP YP l.row.toRowW d [] (fun f vs=>PySem.call f vs):=by
 refine Att.qG hn hdf fun w aJ s₁ mg mb fa o pm cd doc a vs ns G Y ho hd hcd hmg hobj hints hlen hg=>?_
 have KX:=hY w _ Y
 obtain⟨fd,hb,hF⟩:=F w mg fa _ KX G.T.g hmg
 exact yW KX G.T.g G.T.b G.T.builtins G.T.nolimit hg hobj hints (Nat.le_trans hlen hn2) hr hF hb (fun H hO hS=>hsp w H a ns hlen hO hS) fun H e s'=>hCX w H s₁ e s'
end L2
/- THE LAST THEOREM (shape;LID,My.* are yours):
  My.Adr: a structure of the addresses that your layer names (classes,functions);My.Txt K t: a structure (Prop) of the equations over K;
  My.txt_mk:{K} {implicit addresses ..} (e1:nsIn K mainGlobals "law" = some (some (.ref f))) (e2:K.lookup f=some ⟨oc,od,.func (fnOf "law" "law" params body scope dV kV doc pm an cdv ct),sl⟩) (e3:codeIn K cdv "law" = true) .. : ∃t,My.Txt K t
(the tactic k_is has no namespace: write k_is) -/
namespace L2
open PySem PySem.Spec PyProof.Rows
noncomputable def d9 (s:Stmt):Arguments:=match s with
 | .FunctionDef _ a _ _ _ _ _ _ _ _=>a
 | _=>{ posonlyargs:=[],args:=[],vararg:=none,kwonlyargs:=[],kw_defaults:=[],kwarg:=none,defaults:=[] }
noncomputable def bJ (s:Stmt):List Stmt:=match s with
 | .FunctionDef _ _ b _ _ _ _ _ _ _=>b
 | _=>[]
noncomputable def au (s:Stmt):Scope:=match s with
 | .FunctionDef _ _ _ _ _ _ sc _ _ _=>sc
 | _=>{ kind:=.function,names:=[],isGenerator:=false,isCoroutine:=false }
noncomputable abbrev CX0:CXT:=fun _ _ _ _ _ _=>False
noncomputable abbrev E0:XK:=fun _ _ _=>False
theorem Fn {X:Cx}:Passes CX0 X E0:=fun _ _ _ _ _ _ _ h=>h.elim
structure Fun (K:PySem.W.Frag) (x qual:Str) (st:Stmt) (f:Addr) (fd:FuncData):Prop where
 ex:∃(oc:Value) (od:Option Addr) (kV doc pm:Value) (an:Option Addr) (cdv ct:Value) (osl:Array (Option Value)),
  fd=PySem.W.fnOf x qual (d9 st) (bJ st) (au st) .none kV doc pm an cdv ct/\K.lookup f=some ⟨oc,od,.func fd,osl⟩/\PySem.W.codeIn K cdv qual=true
 kp:PySem.W.keepIn K (.ref f)=true
section
variable {P:Program} {w:World} {K:PySem.W.Frag} {mg:Str->Option Value} {base:Heap}
theorem Fun.ok {x qual:Str} {st:Stmt} {f:Addr} {fd:FuncData} {N ps:List Str} {k:Nat} {sp:Sp} (F:Fun K x qual st f fd) (S:aM N ps (au st)) (len:∀vs H Q E,sp vs H Q E->vs.length=ps.length)
  (hbody:∀(cdv:Value) (A:Around) (outer:List Env) (s:Shared) (H:Hp) (vs:List V) (Q:VK) (E:XK),cX k (A.deeper (envOfC qual (au st) s.heap.objs.size f cdv))->sp vs H Q E →
   ∃t,PSs (iu CX0 P w K mg base N qual (au st) f cdv A outer s H E).nox (bJ st) t/\t { nx:=fun _ H'=>Q .non H',rt:=Q } (start N vs) H):ed P w K mg base CX0 (k+1) f fd ps sp:=by
 obtain⟨oc,od,kV,doc,pm,an,cdv,ct,osl,rfl,lk,hcd⟩:=F.ex
 refine Bz lk hcd S len fun A outer s H vs Q E hr hsp=>?_
 obtain⟨t,h,q⟩:=hbody cdv A outer s H vs Q E hr hsp
 exact⟨t,h.nox,q⟩
theorem Fun.binds {x qual:Str} {st:Stmt} {f:Addr} {fd:FuncData} {ps:List Str} (F:Fun K x qual st f fd)
  (h:∀(kV doc pm:Value) (an:Option Addr) (cdv ct:Value) (us:List Value),us.length=ps.length->bindArgs (PySem.W.fnOf x qual (d9 st) (bJ st) (au st) .none kV doc pm an cdv ct) ⟨us,[]⟩=pure (ps.zip us)):Binds K fd ps []:=by
 obtain⟨oc,od,kV,doc,pm,an,cdv,ct,osl,rfl,lk,hcd⟩:=F.ex
 exact .all (h kV doc pm an cdv ct)
theorem xJ {x qual:Str} {st:Stmt} {f:Addr} {oc:Value} {od an:Option Addr} {osl:Array (Option Value)} {kV doc pm cdv ct:Value} (l:K.lookup f=some ⟨oc,od,.func (PySem.W.fnOf x qual (d9 st) (bJ st) (au st) .none kV doc pm an cdv ct),osl⟩)
  (c:PySem.W.codeIn K cdv qual=true) (k:PySem.W.keepIn K (.ref f)=true):Fun K x qual st f (PySem.W.fnOf x qual (d9 st) (bJ st) (au st) .none kV doc pm an cdv ct):=⟨⟨oc,od,kV,doc,pm,an,cdv,ct,osl,rfl,l,c⟩,k⟩
end
noncomputable def PTs (X:Cx) (ifs:List Expr) (t:TT):Prop:=
 ∀(pins:List (Addr × Obj)) (s:Shared) (σ:St) (H:Hp) (Q:Bool->Hp->Prop),Inv X pins σ H s->t σ H Q →
  wpAny (model X.prog X.w) X.A (forIn ifs true fun c r=>if r=true then do let ok ← isTrue c X.env (eval c X.env);pure (ForInStep.yield ok) else pure (ForInStep.yield r)) (TP X pins σ Q) X.xe s
noncomputable def ET:TT:=fun _ H Q=>Q true H
theorem A3 {X:Cx}:PTs X [] ET:=fun _ _ _ H _ I h=>wpAny_tests_nil ⟨H,I,h⟩
theorem zY {X:Cx} {c:Expr} {t:TT} (h:PT X c t):PTs X [c] t:=fun pins s σ H Q I q=>wpAny_tests_one (h pins s σ H Q I q)
theorem rH {prog:Program} {w:World} {A:Around} {R:Result->Shared->Prop} {s:Shared} {elt target iter:Expr} {ifs:List Expr} {scope:Scope} {pos:Pos} {it acc:Value} {env:Env} (I:Nat->Shared->Prop)
  (turn:∀n s,I n s->wpAny (model prog w) A (pyNext it) (fun r s₁=>match r with
   | none=>R (.ok .next) s₁
   | some v=>wpAny (model prog w) A (letOwnedTupleGo target it v) (fun _ s₁=>wpAny (model prog w) A (assign target env v) (fun _ s₂=>
     wpAny (model prog w) A (forIn ifs true fun c r=>if r=true then do let ok ← isTrue c env (eval c env);pure (ForInStep.yield ok) else pure (ForInStep.yield r)) (fun ok s₃=>
      if ok=true then wpAny (model prog w) A (eval elt env) (fun x s₄=>
       wpAny (model prog w) A (call (.builtin "list.append") [acc,x]) (fun _ s₅=>∃m,m<n/\I m s₅) (fun _ _=>False) s₄) (fun _ _=>False) s₃
      else ∃m,m<n/\I m s₃) (fun _ _=>False) s₂) (fun _ _=>False) s₁) (fun _ _=>False) s₁) (fun _ _=>False) s)
  (n:Nat) (h:I n s) :
  codeAny (model prog w) A (.compLoop (.ListComp elt [⟨target,iter,ifs,0⟩] scope pos) 0 it acc env) R s:=by
 refine codeAny_loop rfl I (fun n s hI=>?_) n h
 show wpAny _ A ((compTurn (.ListComp elt [⟨target,iter,ifs,0⟩] scope pos) 0 it acc env).onRaise (fun x=>do noteFrame x env;theTreesLotGoes x)) _ _ s
 refine wpAny_noted ?_
 rw[compTurn_list]
 refine wpAny_noRaise ?_
 refine wpAny_bind (wpAny_standAt (wpAny_bind (wpAny_mono (turn n s hI) (fun r s₁ h₁=>?_) fun _ _ h'=>h')))
 cases r with
 | none=>exact wpAny_pure h₁
 | some v=>
  refine wpAny_bind (wpAny_mono h₁ (fun _ s₁' h₁'=>?_) fun _ _ h'=>h')
  refine wpAny_bind (wpAny_mono h₁' (fun _ s₂ h₂=>wpAny_bind (wpAny_mono h₂ (fun ok s₃ h₃=>?_) fun _ _ h'=>h')) fun _ _ h'=>h')
  cases ok with
  | false=>exact wpAny_pure ⟨rfl,h₃⟩
  | true=>
   exact wpAny_bind (wpAny_bind (wpAny_mono h₃ (fun x s₄ h₄=>wpAny_bind (wpAny_mono h₄ (fun _ s₅ h₅=>wpAny_pure (wpAny_pure ⟨rfl,h₅⟩)) fun _ _ h'=>h')) fun _ _ h'=>h'))
noncomputable def bF (X:Cx) (scope:Scope) (cl:List (Str × Addr)) (C:Addr) (aJ:Shared) (aO:Hp) (fp:List Addr) (N':List Str):Cx:=
 { X with N:=N',aJ:=aJ,aO:=aO,env:=compEnvC scope cl C X.env,outer:=X.stack,ex:=fp,fn:=fun _=>false,pn:=[] }
theorem iP {env:Env}:∀(names:List (Str × NameKind)) (cs:List (Str × Addr)),(∀y∈names,y.2=.free->∃a,env.cells.lookup y.1=some a)->(∀x c,cs.lookup x=some c->env.cells.lookup x=some c) →
  ∃cl:List (Str × Addr),(forIn names cs fun(y:Str × NameKind) (r:List (Str × Addr))=>if (y.2 == NameKind.free)=true then do let a ← cellOf env y.1;pure (ForInStep.yield ((y.1,a)::r)) else pure (ForInStep.yield r):Sem (List (Str × Addr)))=pure cl ∧
   (∀x c,cl.lookup x=some c->env.cells.lookup x=some c)/\(∀x,((x,NameKind.free)∈names\/∃c,cs.lookup x=some c)->∃c,cl.lookup x=some c)
 | [],cs,_,h=>⟨cs,rfl,h,fun x hx=>by
   rcases hx with z | z
   ·cases z
   ·exact z⟩
 | (n,k)::r,cs,hf,h=>by
  by_cases hk:k=.free
  ·subst hk
   obtain⟨a,ha⟩:=hf (n,.free) (by simp) rfl
   obtain⟨cl,e,h1,h2⟩:=iP r ((n,a)::cs) (fun y hy=>hf y (List.mem_cons_of_mem _ hy)) (fun x c q=>by
    rw[List.lookup_cons] at q
    cases hx:x == n with
    | true=>
     rw[hx] at q
     have:x=n:=by simpa using hx
     subst this
     cases q;exact ha
    | false=>rw[hx] at q;exact h x c q)
   refine⟨cl,?_,h1,fun x hx=>?_⟩
   ·rw[List.forIn_cons]
    have e0:cellOf env n=pure a:=by unfold cellOf;rw[ha]
    simp only[beq_self_eq_true,if_true,e0]
    exact e
   ·have hc:∀z c,cs.lookup z=some c->∃c,((n,a)::cs).lookup z=some c:=fun z c q=>by
     rw[List.lookup_cons]
     cases z == n with
     | true=>exact⟨a,rfl⟩
     | false=>exact⟨c,q⟩
    rcases hx with z | ⟨c,z⟩
    ·rcases List.mem_cons.mp z with q | q
     ·cases q
      exact h2 n (.inr ⟨a,by simp[List.lookup_cons]⟩)
     ·exact h2 x (.inl q)
    ·exact h2 x (.inr (hc x c z))
  ·obtain⟨cl,e,h1,h2⟩:=iP r cs (fun y hy=>hf y (List.mem_cons_of_mem _ hy)) h
   have hb:(k == NameKind.free)=false:=by simpa using hk
   refine⟨cl,?_,h1,fun x hx=>?_⟩
   ·rw[List.forIn_cons]
    simp only[hb,Bool.false_eq_true,if_false]
    exact e
   ·rcases hx with z | z
    ·rcases List.mem_cons.mp z with q | q
     ·cases q;exact absurd rfl hk
     ·exact h2 x (.inl q)
    ·exact h2 x (.inr z)
theorem nv {env:Env} {scope:Scope} (h:∀y∈scope.names,y.2=.free->∃a,env.cells.lookup y.1=some a) :
  ∃cl:List (Str × Addr),closureFor scope env=pure cl/\(∀x c,cl.lookup x=some c->env.cells.lookup x=some c)/\(∀x,(x,NameKind.free)∈scope.names->∃c,cl.lookup x=some c):=by
 obtain⟨cl,e,h1,h2⟩:=iP (env:=env) scope.names [] h (fun x c q=>by cases q)
 refine⟨cl,?_,h1,fun x hx=>h2 x (.inl hx)⟩
 exact Eq.trans (congrArg (fun t:Sem (List (Str × Addr))=>t >>= fun cs=>pure cs) e) rfl
theorem lookup_mem {x:Str} {k:NameKind}:∀{names:List (Str × NameKind)},names.lookup x=some k->(x,k)∈names
 | [],h=>by cases h
 | (n,j)::r,h=>by
  rw[List.lookup_cons] at h
  cases hx:x == n with
  | true=>
   rw[hx] at h
   have:x=n:=by simpa using hx
   subst this
   cases h;simp
  | false=>rw[hx] at h;exact List.mem_cons_of_mem _ (lookup_mem h)
theorem dZ {env:Env} (hf:env.scope.kind=.function):∀{names:List (Str × NameKind)} {x:Str},names.lookup x=some .free->env.kindOf x=some .cell →
  (names.map fun(n,k)=>if (k == NameKind.free&&env.scope.kind == .function&&env.kindOf n == some .cell) then (n,NameKind.cell) else (n,k)).lookup x=some .cell
 | [],_,h,_=>by cases h
 | (n,k)::r,x,h,hc=>by
  have ih:=@dZ env hf r x
  show List.lookup x ((if (k == NameKind.free&&env.scope.kind == .function&&env.kindOf n == some .cell)=true then (n,NameKind.cell) else (n,k))::_)=_
  cases hx:x == n with
  | true=>
   have:x=n:=by simpa using hx
   subst this
   simp only[List.lookup_cons,hx] at h
   cases h
   rw[if_pos (by simp[hf,hc])]
   simp[List.lookup_cons]
  | false=>
   simp only[List.lookup_cons,hx] at h
   by_cases hq:(k == NameKind.free&&env.scope.kind == .function&&env.kindOf n == some .cell)=true
   ·rw[if_pos hq];simp only[List.lookup_cons,hx];exact ih h hc
   ·rw[if_neg hq];simp only[List.lookup_cons,hx];exact ih h hc
theorem f6 {env:Env}:∀{names:List (Str × NameKind)} {x:Str} {k:NameKind},(names.map fun(n,k)=>if (k == NameKind.free&&env.scope.kind == .function&&env.kindOf n == some .cell) then (n,NameKind.cell) else (n,k)).lookup x=some k →
  names.lookup x=some k\/(names.lookup x=some .free/\k=.cell)
 | [],_,_,h=>by cases h
 | (n,j)::r,x,k,h=>by
  have ih:=@f6 env r x k
  have h':List.lookup x ((if (j == NameKind.free&&env.scope.kind == .function&&env.kindOf n == some .cell)=true then (n,NameKind.cell) else (n,j))::(r.map fun(n,k)=>if (k == NameKind.free&&env.scope.kind == .function&&env.kindOf n == some .cell) then (n,NameKind.cell) else (n,k)))=some k:=h
  by_cases hq:(j == NameKind.free&&env.scope.kind == .function&&env.kindOf n == some .cell)=true
  ·rw[if_pos hq] at h'
   have hj:j=.free:=by
    have:=Bool.and_eq_true_iff.mp (Bool.and_eq_true_iff.mp hq).1
    simpa using this.1
   simp only[List.lookup_cons] at h' ⊢
   cases hx:x == n with
   | true=>rw[hx] at h';cases h';exact .inr ⟨by rw[hj],rfl⟩
   | false=>rw[hx] at h';exact ih h'
  ·rw[if_neg hq] at h'
   simp only[List.lookup_cons] at h' ⊢
   cases hx:x == n with
   | true=>rw[hx] at h';cases h';exact .inl rfl
   | false=>rw[hx] at h';exact ih h'
noncomputable def k8 (ix:List Nat) (σ:St):St:=none::ix.map fun i=>(σ[i]?).join
noncomputable abbrev DT (J:It) (tt:TT) (te:TE) (σ':V->St) (acc:Addr) (H1:Hp) (Q:VK):Prop:=
 ∃W:Nat->Nat->List V->Hp->Prop,(∃m,W 0 m [] (upd H1 acc (.lst [])))/\∀i m ys H,W i m ys H →
  (J.stop i H/\Q (.ref acc) H)\/(J.go i H/\∀x H',J.yld i H x H'->tt (σ' x) H' fun b H2=>if b=true then te (σ' x) H2 fun y H3=>
    H3 acc=some (.lst ys)/\ys.length<sizeLine/\∃m',m'<m/\W (i+1) m' (ys++[y]) (upd H3 acc (.lst (ys++[y])))
   else ∃m',m'<m/\W (i+1) m' ys H2)
noncomputable def BP (wi:TI) (ix:List Nat) (tt:TT) (te:TE):TE:=fun σ H Q=>wi σ H fun J H1=>∀acc,H1 acc=none->DT J tt te (fun x=>(k8 ix σ).set 0 (some x)) acc H1 Q
theorem HOk.sameBut {P:Program} {w:World} {H:Hp} {h h':Heap} {C:Addr} (x:HOk P w H h) (hn:H C=none) (k:∀b u,b≠C->h.get? b=some u->h'.get? b=some u):HOk P w H h':=fun b u e=>by
 have nC:∀b u,H b=some u->b≠C:=fun b u e z=>by rw[z,hn] at e;cases e
 refine(x b u e).iS (fun c v hc q=>k c v ?_ q) (fun _ q=>q) fun _ _ q=>q
 rcases hc with z | z
 ·rw[z];exact nC b u e
 ·exact nC c _ z
theorem rR:isSubtype (.type "tuple") (.type "set")=pure false:=by rw[isSubtype_type];kernel_rfl
theorem pV:isSubtype (.type "tuple") (.type "frozenset")=pure false:=by rw[isSubtype_type];kernel_rfl
section
variable {X:Cx}
theorem rK:aR X (.builtin "isinstance") (fun vs H Q=>∃x t n b,vs=[x,.ty n]/\iG X.K H x t/\PySem.W.kitOne X.K t (.type n)=some b/\Q (.bl b) H):=by
 intro pins s σ H xs us Q I r h
 obtain⟨x,t,n,b,rfl,ty,e,q⟩:=h
 obtain⟨u,w',rfl,r1,r2⟩:=vals2 r
 cases r2
 exact vP I r1 ty e fun tk=>⟨.bl b,H,I.tok tk,rfl,q⟩
theorem nD:aR X (.builtin "len") (fun vs H Q=>∃p S n,vs=[.ref p]/\H p=some (.set S n)/\Q (.int n) H):=by
 intro pins s σ H xs us Q I r h
 obtain⟨p,S,n,rfl,hH,q⟩:=h
 obtain⟨u,rfl,rx⟩:=vals1 r
 cases rx
 obtain⟨o,es,ep,tb,ho,hex,hd,hel,hmem,hsz,hfit,rfl⟩:=(show s.heap.SetOf (intKind X.prog X.w) p S n from I.hok p _ hH)
 have hb:(es.size:Int)<2 ^ 63:=by unfold scanBound at hsz;omega
 exact PySem.call_len_set ho hex hd hfit hb ⟨.int es.size,H,I.tok _,⟨_,rfl⟩,q⟩
theorem hG {prog:Program} {w:World} {A:Around} {E:Value->Shared->Prop} {s:Shared} {t sl:Addr} {items:Array Value} {vl vu:Value} {lo hi:Option Int} {Q:Value->Shared->Prop} (ht:IsTup s.heap t items) (hs:s.heap.IsSliceOf sl vl vu .none) (pl:IsPart vl lo) (pu:IsPart vu hi)
  (h1:HT.sIx items.size 0 lo=0) (h2:HT.sIx items.size items.size hi=items.size) (h:Q (.ref t) s):wpAny (model prog w) A (getItem (.ref t) (.ref sl)) Q E s:=by
 obtain⟨os,hos,hcs,hds⟩:=id hs
 have hTs:s.TypeIs (.ref sl) "slice" := ⟨os,hos,hcs⟩
 unfold getItem
 try with_reducible refine wpAny_holding ?_
 first | refine wpAny_bind (wpAny_pure ?_) | skip
 refine wpAny_bind (wpAny_sequenceKey ht.typeIs (by decide) ?_)
 refine wpAny_bind (wpAny_callSpecial?_slot (name:=Str.ofString "__getitem__") ht.typeIs PyProof.Rows.slot_tuple_getitem (wpAny_call_entry PyProof.Rows.slot_tuple_getitem ht.typeIs entry_tuple_getitem ?_ (args_tuple_getitem _ _)))
 show wpAny _ _ (Builtin.Tuple.tupleItemsOf (.ref t) >>= _) _ _ s
 refine wpAny_bind (tupleItemsOf_ ht (wpAny_bind (wpAny_typeOf hTs ?_)))
 rw[if_pos (by decide)]
 refine wpAny_bind (HT.fE hs pl pu ?_)
 rw[h1,h2]
 show wpAny _ _ (if (((0:Nat):Int) == 0&&(1:Int) == 1&&(items.size - 0) == items.size)=true then _ else _) _ _ s
 rw[if_pos (by simp)]
 show wpAny _ _ (Builtin.Tuple.tupleIsExact (.ref t) >>= _) _ _ s
 unfold Builtin.Tuple.tupleIsExact
 refine wpAny_bind (wpAny_bind (wpAny_typeOf ht.typeIs (wpAny_pure ?_)))
 show wpAny _ _ (if (Value.type "tuple" == Value.type "tuple")=true then _ else _) _ _ s
 rw[if_pos (by decide)]
 refine wpAny_bind (wpAny_rule ?_)
 first
  | exact wpAny_pure ⟨_,rfl,wpAny_pure h⟩
  | exact wpAny_bind (wpAny_pure (wpAny_pure ⟨_,rfl,wpAny_pure h⟩))
noncomputable def EB (K:PySem.W.Frag):V->Option Int->Option Int->Hp->VK->Prop:=fun x lo hi H Q=>∃a xs,x=.ref a/\SqT K H a xs/\HT.sIx xs.length 0 lo=0/\HT.sIx xs.length xs.length hi=xs.length/\Q (.ref a) H
theorem zQ:SlR X (EB X.K):=by
 intro pins s σ H x v vl vu lo hi sl Q I rx hs pl pu h
 obtain⟨a,xs,rfl,hx,h1,h2,q⟩:=h
 cases rx
 obtain⟨its,r,ht,hz⟩:=I.tuple hx
 have hlen:its.toArray.size=xs.length:=by rw[List.size_toArray];exact r.length.symm
 refine⟨"tuple", _,PyProof.Rows.slot_tuple_getitem.lookup,ht.typeIs,?_⟩
 exact hG ht hs pl pu (by rw[hlen];exact h1) (by rw[hlen];exact h2) ⟨.ref a,H,I,rfl,q⟩
theorem sk (xs:Array Value):((List.range xs.size).filterMap fun(k:Nat)=>xs[((xs.size:Int) - 1+(k:Int)*(-1)).toNat]?).toArray=xs.toList.reverse.toArray:=by
 have e:((List.range xs.size).filterMap fun(k:Nat)=>xs[((xs.size:Int) - 1+(k:Int)*(-1)).toNat]?)=((List.range xs.size).map fun k=>xs.size - 1 - k).filterMap (xs[·]?):=by
  rw[List.filterMap_map]
  have cg:∀(l:List Nat) (f g:Nat->Option Value),(∀k∈l,f k=g k)->l.filterMap f=l.filterMap g:=by
   intro l
   induction l with
   | nil=>intro _ _ _;rfl
   | cons a r ih=>
    intro f g h
    rw[List.filterMap_cons,List.filterMap_cons,h a (by simp),ih f g fun k hk=>h k (List.mem_cons_of_mem _ hk)]
  refine cg _ _ _ fun k hk=>?_
  have:=List.mem_range.mp hk
  have e1:((xs.size:Int) - 1+(k:Int)*(-1)).toNat=xs.size - 1 - k:=by omega
  show xs[((xs.size:Int) - 1+(k:Int)*(-1)).toNat]?=xs[xs.size - 1 - k]?
  rw[e1]
 rw[e,PySem.W.krv_range,List.filterMap_reverse,PySem.W.krv_all]
theorem jD {prog:Program} {w:World} {A:Around} {E:Value->Shared->Prop} {s:Shared} {sl:Addr} {u:Tok} {n:Nat} {Q:Int × Int × Nat->Shared->Prop} (hs:s.heap.IsSliceOf sl .none .none (.int (-1) u))
  (h:Q ((n:Int) - 1,-1,n) s):wpAny (model prog w) A (Builtin.Slice.sliceApplied (.ref sl) (pure (n:Int))) Q E s:=by
 obtain⟨os,hos,hcs,hds⟩:=id hs
 unfold Builtin.Slice.sliceApplied Builtin.Slice.sliceFields
 refine wpAny_bind (wpAny_bind (wpAny_field hos hds (x:=.none) rfl (wpAny_bind (wpAny_field hos hds (x:=.none) rfl (wpAny_bind (wpAny_field hos hds (x:=.int (-1) u) rfl (wpAny_pure ?_)))))))
 refine wpAny_bind (slicePart_int ?_)
 show wpAny _ _ (if ((-1:Int) == 0)=true then _ else _) _ _ s
 rw[if_neg (by decide)]
 refine wpAny_bind (slicePart_none (wpAny_bind (slicePart_none (wpAny_bind (wpAny_pure ?_)))))
 show wpAny _ _ (match Builtin.Slice.sliceAdjust none none (-1) (n:Int) with | (lo,hi)=>pure (lo,(-1:Int),Builtin.Slice.slicePlaces lo hi (-1))) _ _ s
 rw[show Builtin.Slice.sliceAdjust none none (-1) (n:Int)=((n:Int) - 1,-1) from rfl]
 have hp:Builtin.Slice.slicePlaces ((n:Int) - 1) (-1) (-1)=n:=by
  unfold Builtin.Slice.slicePlaces
  rw[if_neg (by decide)]
  by_cases hz:(n:Int) - 1 > -1
  ·rw[if_pos hz,show(- -1:Int)=1 by decide,Int.ediv_one];omega
  ·rw[if_neg hz];omega
 show wpAny _ _ (pure ((n:Int) - 1,(-1:Int),Builtin.Slice.slicePlaces ((n:Int) - 1) (-1) (-1))) _ _ s
 rw[hp]
 exact wpAny_pure h
theorem jd {prog:Program} {w:World} {A:Around} {E:Value->Shared->Prop} {s:Shared} {t sl:Addr} {items:Array Value} {u:Tok} {Q:Value->Shared->Prop} (ht:IsTup s.heap t items) (hs:s.heap.IsSliceOf sl .none .none (.int (-1) u))
  (h:Q (.ref s.heap.objs.size) { s with heap:=s.heap.push { cls:=.type "tuple", data:=.seq items.toList.reverse.toArray } }) (hsz:items.size<=sizeLine):wpAny (model prog w) A (getItem (.ref t) (.ref sl)) Q E s:=by
 obtain⟨os,hos,hcs,hds⟩:=id hs
 have hTs:s.TypeIs (.ref sl) "slice" := ⟨os,hos,hcs⟩
 unfold getItem
 try with_reducible refine wpAny_holding ?_
 first | refine wpAny_bind (wpAny_pure ?_) | skip
 refine wpAny_bind (wpAny_sequenceKey ht.typeIs (by decide) ?_)
 refine wpAny_bind (wpAny_callSpecial?_slot (name:=Str.ofString "__getitem__") ht.typeIs PyProof.Rows.slot_tuple_getitem (wpAny_call_entry PyProof.Rows.slot_tuple_getitem ht.typeIs entry_tuple_getitem ?_ (args_tuple_getitem _ _)))
 show wpAny _ _ (Builtin.Tuple.tupleItemsOf (.ref t) >>= _) _ _ s
 refine wpAny_bind (tupleItemsOf_ ht (wpAny_bind (wpAny_typeOf hTs ?_)))
 rw[if_pos (by decide)]
 refine wpAny_bind (jD hs ?_)
 show wpAny _ _ (if (((items.size:Int) - 1) == 0&&(-1:Int) == 1&&items.size == items.size)=true then _ else _) _ _ s
 rw[if_neg (by simp)]
 show wpAny _ _ (Builtin.Tuple.tupleExact ((List.range items.size).filterMap fun(k:Nat)=>items[((items.size:Int) - 1+(k:Int)*(-1)).toNat]?).toArray >>= _) _ _ s
 rw[sk]
 have hz:sizeOk (.seq items.toList.reverse.toArray):=by
  show items.toList.reverse.toArray.size<=sizeLine
  simpa using hsz
 first
  | exact wpAny_bind (m:=Builtin.Tuple.tupleExact _) (wpAny_newObj_type (wpAny_pure ⟨_,rfl,wpAny_pure h⟩) hz)
  | exact wpAny_bind (m:=Builtin.Tuple.tupleExact _) (wpAny_newObj_type (wpAny_bind (wpAny_pure (wpAny_pure ⟨_,rfl,wpAny_pure h⟩))) hz)
noncomputable def xW (K:PySem.W.Frag):R2:=fun x y H Q=>∃a b ys,x=.ref a/\y=.ref b/\SqT K H a []/\SqT K H b ys/\Q (.ref b) H
theorem yt:OpR X (binaryOp .Add) (xW X.K):=by
 intro pins s σ H x y v u Q I rx ry h
 obtain⟨a,b,ys,rfl,rfl,ha,hb,q⟩:=h
 cases rx
 cases ry
 obtain⟨its,r1,p1,_⟩:=I.tuple ha
 obtain⟨its2,r2,p2,_⟩:=I.tuple hb
 cases r1
 obtain⟨⟨cls,dd,data,sl⟩,ho,hc,n,hd⟩:=id p1
 obtain⟨⟨cls2,dd2,data2,sl2⟩,ho2,hc2,n2,hd2⟩:=id p2
 simp only at hc hd hc2 hd2
 subst hc hd hc2 hd2
 exact concat_meets ⟨_,ho,rfl⟩ ⟨_,ho2,rfl⟩ noFill_tuple_add seq_tuple_add PySem.F.slot_tuple_add PySem.F.entry_tuple_add (PySem.F.args_tuple_add_2 _ _)
  (tuple_addW0 a b _ _ n n2 dd dd2 sl sl2 (by simp)) ⟨ho,ho2,⟨.ref b,H,I,rfl,q⟩⟩
end
open AutoSeq1 (wpAny_loadPart')
noncomputable def qA (a:Addr) (lo hi st:Int):HO:=.ext fun h=>∃t u v,h.get? a=some { cls:=.type "range", data:=.fields #[.int lo t,.int hi u,.int st v] }
noncomputable def qM (lo st:Int) (n:Nat):List Int:=(List.range n).map fun(i:Nat)=>lo+(i:Int)*st
theorem q_ (lo st:Int) (n:Nat):(qM lo st n).length=n:=by simp[qM]
theorem tF {lo st:Int} {n:Nat} {acc:Array Value} (h:ItemsOf (fun i v=>∃t,v=.int (lo+i*st) t) acc n):Vals ((qM lo st n).map V.int) acc.toList:=by
 obtain⟨hs,hv⟩:=h
 have key:∀(l:List Value) (k:Nat),(∀j v,l[j]?=some v->∃t,v=Value.int (lo+((k+j:Nat):Int)*st) t)->Vals (((List.range' k l.length).map fun(i:Nat)=>lo+(i:Int)*st).map V.int) l:=by
  intro l
  induction l with
  | nil=>intro k _;exact .nil
  | cons a r ih=>
   intro k hk
   rw[List.length_cons,List.range'_succ,List.map_cons,List.map_cons]
   refine .cons ?_ (ih (k+1) fun j v e=>?_)
   ·obtain⟨t,q⟩:=hk 0 a rfl
    exact⟨t,by rw[q];simp⟩
   ·obtain⟨t,q⟩:=hk (j+1) v (by simpa using e)
    exact⟨t,by rw[q];congr 3;omega⟩
 have:=key acc.toList 0 fun j v e=>by
  obtain⟨t,q⟩:=hv j v (by simpa using e)
  exact⟨t,by rw[q];simp⟩
 unfold qM
 rw[List.range_eq_range',<- hs]
 simpa using this
section
variable {X:Cx}
theorem Inv.rng {pins:List (Addr × Obj)} {σ:St} {H:Hp} {s:Shared} {lo hi st:Int} {t u v:Tok} {tk:Nat} (I:Inv X pins σ H s) :
  Inv X pins σ (upd H s.heap.objs.size (qA s.heap.objs.size lo hi st)) { s with heap:=s.heap.push { cls:=.type "range", data:=.fields #[.int lo t,.int hi u,.int st v] },toks:=tk }:=by
 refine I.laid (fun b o e=>Heap.get?_push_of_some _ e) (Nat.le_refl _) ?_
 refine⟨⟨t,u,v,Heap.get?_push_size _ rfl⟩,⟨_,Heap.get?_push_size _ rfl⟩,fun h1 h2 ⟨a,b,c,e⟩ k=>⟨a,b,c,k _ e⟩⟩
theorem vX:aR X (.type "range") (fun vs H Q=>∃j,vs=[.int j]/\∀p,H p=none->Q (.ref p) (upd H p (qA p 0 j 1))):=by
 intro pins s σ H xs us Q I r h
 obtain⟨j,rfl,q⟩:=h
 obtain⟨u,rfl,t,rfl⟩:=vals1 r
 exact call_range_1 ⟨.ref _,_,I.rng,rfl,q _ (I.hok.fresh (Nat.le_refl _))⟩
theorem vG:aR X (.type "range") (fun vs H Q=>∃i j,vs=[.int i,.int j]/\∀p,H p=none->Q (.ref p) (upd H p (qA p i j 1))):=by
 intro pins s σ H xs us Q I r h
 obtain⟨i,j,rfl,q⟩:=h
 obtain⟨u,w',rfl,⟨t,rfl⟩,⟨t',rfl⟩⟩:=vals2 r
 exact call_range_2 ⟨.ref _,_,I.rng,rfl,q _ (I.hok.fresh (Nat.le_refl _))⟩
structure nZ (lo hi st:Int) (n:Nat):Prop where
 sm:Builtin.Range.small lo hi st=true
 sz:Builtin.Range.rangeSize lo hi st=n
 le:n<=2 ^ 20
theorem Inv.Eu {pins:List (Addr × Obj)} {σ:St} {H:Hp} {s:Shared} {p:Addr} {lo hi st:Int} (I:Inv X pins σ H s) (h:H p=some (qA p lo hi st)):∃t u v,IsRange s.heap p lo hi st t u v:=by
 obtain⟨⟨t,u,v,e⟩,_⟩:=I.hok p _ h
 exact⟨t,u,v,e⟩
end
section
variable {prog:Program} {w:World} {A:Around} {E:Value->Shared->Prop} {s:Shared}
theorem rE {Q:List Value->Shared->Prop} {r:Addr} {a b c:Int} {t u v:Tok} {n:Nat} (hh:A.handled=none) (hr:IsRange s.heap r a b c t u v) (ok:nZ a b c n)
  (hQ:∀h' tk (acc:Array Value),(∀b o,s.heap.get? b=some o->h'.get? b=some o)->ItemsOf (fun i v=>∃t,v=.int (a+i*c) t) acc n->Q acc.toList { s with heap:=h',toks:=tk }) :
  wpAny (model prog w) A (collect (.ref r)) Q E s:=by
 unfold collect
 refine wpAny_bind (wpAny_runValue (codeAny_builtin F.entry_proto_collect ?_))
 rw[Around.under_plainId F.plain_proto_collect _]
 show wpAny _ A.in1 (newList [] >>= fun l=>again (.builtin "list.__iadd__" ⟨[l,.ref r],[]⟩)) _ _ s
 refine wpAny_bind (wpAny_newObj_type (wpAny_pure ⟨plainId_quiet F.plain_list_iadd _,codeAny_builtin F.entry_list_iadd ?_⟩))
 rw[Around.under_plainId F.plain_list_iadd _]
 show wpAny _ A.in1 (Builtin.List.listExtendWith (.ref s.heap.objs.size) (.ref r) (.ref s.heap.objs.size)) _ _ _
 have hn:=ok.le
 refine wpAny_mono (wpAny_extend_range (A:=A) (R:=fun z y=>z=.ok (.ret (.ref s.heap.objs.size))/\∃h' tk acc c',y={ s with heap:=h',toks:=tk }/\(∀b o,s.heap.get? b=some o->h'.get? b=some o) ∧
   h'.get? s.heap.objs.size=some { cls:=.type "list", dict:=none,data:=.seq acc c',slots:=#[] }/\ItemsOf (fun i v=>∃t,v=.int (a+i*c) t) acc n)
  (s:={ s with heap:=s.heap.push { cls:=.type "list", data:=.seq ([]:List Value).toArray } }) hh (Heap.get?_push_of_some _ hr) ok.sm ok.sz (by omega) _ _ 0 (Heap.get?_push_size _ rfl)
  (fun h' tk acc c' kp e hi=>⟨rfl,h',tk,acc,c',rfl,fun b o q=>kp b o (Nat.ne_of_lt (Heap.lt_size q)) (Heap.get?_push_of_some _ q),e,hi⟩)) (fun fin y h=>?_) (fun e y h=>?_)
 ·have last:∀y,(∃h' tk acc c',y={ s with heap:=h',toks:=tk }/\(∀b o,s.heap.get? b=some o->h'.get? b=some o) ∧
    h'.get? s.heap.objs.size=some { cls:=.type "list", dict:=none,data:=.seq acc c',slots:=#[] }/\ItemsOf (fun i v=>∃t,v=.int (a+i*c) t) acc n)->wpAny (model prog w) A (match Value.ref s.heap.objs.size with
   | Value.ref a=>do
    match (← load a).data with
     | Data.seq xs _=>pure xs.toList
     | _=>unsupported "internal:collect"
   | _=>unsupported "internal:collect") Q E y:=by
   rintro y ⟨h',tk,acc,c',rfl,kp,e,hi⟩
   show wpAny _ A (load s.heap.objs.size >>= _) _ _ _
   refine wpAny_bind (wpAny_load e ?_)
   exact wpAny_pure (hQ h' tk acc kp hi)
  cases fin with
  | done f=>
   obtain⟨e,h⟩:=h
   cases e
   exact last _ h
  | again c'=>exact⟨h.1,codeAny_mono h.2 fun r y hr=>by obtain⟨rfl,h⟩:=hr;exact last _ h⟩
 ·exact absurd h.1 (by simp)
theorem vY {Q:Value->Shared->Prop} {r:Addr} {a b c:Int} {t u v:Tok} {n:Nat} (hh:A.handled=none) (hr:IsRange s.heap r a b c t u v) (ok:nZ a b c n)
  (hQ:∀(h':Heap) (tk:Nat) (acc:Array Value),(∀b o,s.heap.get? b=some o->h'.get? b=some o)->ItemsOf (fun i v=>∃t,v=.int (a+i*c) t) acc n->Q (.ref h'.objs.size) { s with heap:=h'.push { cls:=.type "tuple", data:=.seq acc },toks:=tk }) :
  wpAny (model prog w) A (call (.type "tuple") [.ref r]) Q E s:=by
 refine callType_codes (Q₁:=fun obj s₁=>s₁.TypeIs obj "tuple" /\ Q obj s₁) F.called_tuple (F.typeCall_tuple_1 _) F.entry_object_init ?_ fun obj s₁ h₁=>
  ⟨h₁.1,F.args_object_init_2 obj _,object_init_meets F.called_tuple.init.lookup F.called_tuple.made (by decide) prog w A.in1 _ s₁ ⟨h₁.1,rfl,h₁.2⟩⟩
 refine codeAny_of_tree ?_
 show wpAny _ A.in1.in1 (do checkBuiltinCall "tuple.__new__" ⟨[.type "tuple", .ref r],[]⟩;again (.builtin "tuple.__new__" ⟨[.type "tuple", .ref r],[]⟩)) _ _ s
 refine wpAny_bind (wpAny_of_eq (F.newCall_tuple_1 _) (wpAny_pure ⟨plainId_quiet F.plain_tuple_new _,codeAny_builtin F.entry_tuple_new ?_⟩))
 rw[Around.under_plainId F.plain_tuple_new _]
 have hsub:=sub_tuple_self
 have hinit:=init_tuple_lookup
 have hmh:=madeHere_tuple
 have hT:s.TypeIs (.ref r) "range" := ⟨_,hr,rfl⟩
 have hh':A.in1.in1.handled=none:=by simp[hh]
 wp_walk using wpAny_typeOf hT,rE hh' hr ok
 intro h' tk acc kp hi
 show wpAny _ _ (Builtin.Tuple.tupleExact acc.toList.toArray >>= fun v=>ret v) _ _ _
 unfold Builtin.Tuple.tupleExact
 have hn:=ok.le
 refine wpAny_bind (wpAny_newObj_type ?_ (by show acc.toList.toArray.size<=sizeLine;simp only[Array.toArray_toList];rw[hi.1,sizeLine_eq];omega))
 rw[show acc.toList.toArray=acc by simp]
 exact wpAny_pure ⟨⟨_,Heap.get?_push_size _ rfl,rfl⟩,hQ h' tk acc kp hi⟩
end
section
variable {X:Cx}
theorem l_ (hc:X.calm=true):aR X (.type "tuple") (fun vs H Q=>∃p lo hi st n,vs=[.ref p]/\H p=some (qA p lo hi st)/\nZ lo hi st n/\∀l,H l=none->Q (.ref l) (upd H l (.tup ((qM lo st n).map V.int)))):=by
 intro pins s σ H xs us Q I r h
 obtain⟨p,lo,hi,st,n,rfl,hp,ok,q⟩:=h
 obtain⟨u,rfl,rx⟩:=vals1 r
 cases rx
 obtain⟨t,u,v,hr⟩:=I.Eu hp
 have hn:=ok.le
 refine vY (I.ok.hd hc) hr ok fun h' tk acc kp hi=>?_
 have hv:=tF hi
 have I1:Inv X pins σ H { s with heap:=h',toks:=tk }:=I.kept kp
 refine⟨.ref h'.objs.size,_,I1.laid (t':=tk) (o:=.tup _) (fun b ob q=>Heap.get?_push_of_some _ q) (Nat.le_refl _) ⟨?_,acc.toList,hv,by simpa using jX.new h' acc⟩,rfl,q _ (I1.hok.fresh (Nat.le_refl _))⟩
 rw[List.length_map,q_,sizeLine_eq];omega
theorem xi {a b:Int} (h1:-1000000<=a) (h2:a<=1000000) (h3:-1000000<=b) (h4:b<=1000000) (h:b - a<=1000000):nZ a b 1 (b - a).toNat:=
 ⟨small_one (by omega) (by omega) (by omega) (by omega),by rw[rangeSize_one];split<;>omega,by omega⟩
inductive RdD (K:PySem.W.Frag) (H:Hp):V->PyData->Prop
 | non:RdD K H .non .none
 | bl (b:Bool):RdD K H (.bl b) (.bool b)
 | int (i:Int):RdD K H (.int i) (.int i)
 | str (x:Str):RdD K H (.str x) (.str x)
 | tup {a:Addr} {xs:List V} {ds:List PyData} (h:SqT K H a xs) (hl:xs.length=ds.length) (hx:∀(i:Nat) x d,xs[i]?=some x->ds[i]?=some d->RdD K H x d):RdD K H (.ref a) (.tuple ds)
 | lst {a:Addr} {xs:List V} {ds:List PyData} (h:SqL K H a xs) (hl:xs.length=ds.length) (hx:∀(i:Nat) x d,xs[i]?=some x->ds[i]?=some d->RdD K H x d):RdD K H (.ref a) (.list ds)
theorem gP {h:Heap}:∀{us:List Value} {ds:List PyData},us.length=ds.length->(∀(i:Nat) u d,us[i]?=some u->ds[i]?=some d->∃as,Reads h u d as)->∃as,ReadsAll h us ds as
 | [],[],_,_=>⟨_,.nil⟩
 | [],_::_,hl,_=>by simp at hl
 | _::_,[],hl,_=>by simp at hl
 | u::us,d::ds,hl,hx=>by
  obtain⟨as,h1⟩:=hx 0 u d rfl rfl
  obtain⟨bs,h2⟩:=gP (us:=us) (ds:=ds) (by simpa using hl) fun i u d e1 e2=>hx (i+1) u d (by simpa using e1) (by simpa using e2)
  exact⟨_,.cons h1 h2⟩
theorem Vals.get' {xs:List V} {us:List Value} {i:Nat} {u:Value} (r:Vals xs us) (h:us[i]?=some u):∃x,xs[i]?=some x/\RelV x u:=by
 have hl:=r.length
 have hi:i<xs.length:=by rw[hl];exact(List.getElem?_eq_some_iff.mp h).1
 obtain⟨u',e1,e2⟩:=r.get (List.getElem?_eq_getElem hi)
 rw[h] at e1;cases e1
 exact⟨_,List.getElem?_eq_getElem hi,e2⟩
theorem Inv.reads {pins:List (Addr × Obj)} {σ:St} {H:Hp} {s:Shared} (I:Inv X pins σ H s) {x:V} {d:PyData} (r:RdD X.K H x d):∀u,RelV x u->∃as,Reads s.heap u d as:=by
 induction r with
 | non=>intro u ru;cases (show u=Value.none from ru);exact⟨_,.none⟩
 | bl b=>intro u ru;cases (show u=Value.bool b from ru);exact⟨_,.bool b⟩
 | int i=>intro u ru;obtain⟨t,q⟩:=(show ∃t,u=Value.int i t from ru);cases q;exact⟨_,.int i t⟩
 | str y=>intro u ru;obtain⟨t,q⟩:=(show ∃t,u=Value.str y t from ru);cases q;exact⟨_,.str y t⟩
 | @tup a xs ds h hl hx ih=>
  intro u ru
  cases (show u=Value.ref a from ru)
  obtain⟨its,rv,p,hz⟩:=I.tuple h
  obtain⟨o,ho,hc,n,hd⟩:=p
  obtain⟨as,ra⟩:=gP (h:=s.heap) (us:=its) (ds:=ds) (by rw[<- rv.length,hl]) fun i u d e1 e2=>by
   obtain⟨y,e3,ry⟩:=rv.get' e1
   exact ih i y d e3 e2 u ry
  exact⟨_,.tuple ho hc hd (by simpa using ra)⟩
 | @lst a xs ds h hl hx ih=>
  intro u ru
  cases (show u=Value.ref a from ru)
  obtain⟨its,rv,p,hz⟩:=I.list h
  obtain⟨o,ho,hc,n,hd⟩:=p.isList
  obtain⟨as,ra⟩:=gP (h:=s.heap) (us:=its) (ds:=ds) (by rw[<- rv.length,hl]) fun i u d e1 e2=>by
   obtain⟨y,e3,ry⟩:=rv.get' e1
   exact ih i y d e3 e2 u ry
  exact⟨_,.list ho hc hd (by simpa using ra)⟩
theorem vx (hg:X.A.guards=some []) (hu:X.A.units+64<cLine):aR X (.builtin "repr") (fun vs H Q=>∃p d,vs=[.ref p]/\RdD X.K H (.ref p) d/\d.showable=true/\d.hasDict=false/\d.depth<=60/\d.shown.length<=sizeLine/\Q (.str d.shown) H):=by
 intro pins s σ H xs us Q I r h
 obtain⟨p,d,rfl,rd,hs,hd,hdp,hz,q⟩:=h
 obtain⟨u,rfl,rx⟩:=vals1 r
 cases rx
 obtain⟨as,ra⟩:=I.reads rd (.ref p) rfl
 exact repr_of_reads' ra hs (PyData.noDict_hsm hd) hg (by omega) (fun _ _ e=>e) (fun h' u tk kp=>⟨.str d.shown,H,I.kept kp,⟨_,rfl⟩,q⟩) hz
theorem sZ:aR X (.builtin "repr") (fun vs H Q=>∃i,vs=[.int i]/\i.natAbs.log2<1920/\Q (.str (toString i)) H):=by
 intro pins s σ H xs us Q I r h
 obtain⟨i,rfl,hi,q⟩:=h
 obtain⟨u,rfl,t,rfl⟩:=vals1 r
 exact PySem.P.repr_of_int hi ⟨.str (toString i),H,I.tok _,⟨_,rfl⟩,q⟩
end
theorem Inv.E6 {X:Cx} {pins:List (Addr × Obj)} {σ:St} {H:Hp} {s:Shared} {C:Addr} {o:Obj} {h':Heap} (I:Inv X (pins++[(C,o)]) σ H s) (cC:∀x c,X.env.cells.lookup x=some c->c≠C) (hC:X.aJ.heap.objs.size<=C) (pC:∀p∈X.pn++pins,p.1≠C) (hs:Heap.SameBut C s.heap h'):Inv X pins σ H { s with heap:=h' }:=by
 have kb:∀b u,b≠C->s.heap.get? b=some u->h'.get? b=some u:=fun b u hb z=>hs.extBut b u hb z
 obtain⟨q0,q1,q2,q3,q4⟩:=I.pin (C,o) (List.mem_append_right _ (List.mem_append_right _ (List.mem_singleton.mpr rfl)))
 have J:Inv X pins σ H s:=I.kP fun p hp=>I.pin p (List.mem_append_right _ (List.mem_append_left _ hp))
 refine J.rh (s':={ s with heap:=h' }) (ch:=[C]) rfl ⟨fun b u z n a c=>kb b u (fun e=>c (by rw[e];exact List.mem_singleton.mpr rfl)) z,fun b u z n a c=>⟨u.slots,kb b _ (fun e=>c (by rw[e];exact List.mem_singleton.mpr rfl)) z⟩,fun b u z n c=>n,fun b u z c=>⟨u,kb b u (fun e=>c (by rw[e];exact List.mem_singleton.mpr rfl)) z⟩,fun b xs z=>z,fun b ob u z=>z,fun b ps z=>⟨#[],by simpa using z⟩⟩ (J.hok.sameBut q1 kb) J.bare fun b hb=>?_
 have e:=List.mem_singleton.mp hb
 subst e
 exact⟨.inr hC,q2,fun x c z=>cC x c z,pC⟩
section
variable {prog:Program} {w:World} {A:Around} {E:Value->Shared->Prop} {s:Shared}
theorem iO {it t:Addr} {i:Nat} {its:Array Value} {x:Value} {Q:Value->Shared->Prop} (hi:s.heap.IsTupleIter it t i) (ht:s.heap.IsTuple t its) (hx:its[i]?=some x) (hQ:∀h',h'.IsTupleIter it t (i+1)->Heap.SameBut it s.heap h'->Q x { s with heap:=h' }) :
  wpAny (model prog w) A (Builtin.SmallTypes.nextOf (.ref it)) Q E s:=by
 obtain⟨oi,h1,h2,h3⟩:=id hi
 obtain⟨ot,k1,_,nt,k2⟩:=ht
 unfold Builtin.SmallTypes.nextOf
 refine wpAny_bind (wpAny_callSpecial?_slot (name:=Str.ofString "__next__") hi.typeIs F.slot_tuple_iterator_next (wpAny_call_entry F.slot_tuple_iterator_next hi.typeIs F.entry_tuple_iterator_next ?_ (F.args_tuple_iterator_next_1 _)))
 refine wpAny_bind (m:=field (.ref it) 0) (wpAny_field h1 h3 (x:=.ref t) rfl ?_)
 show wpAny _ _ (if (Value.ref t == Value.none)=true then _ else field (.ref it) 1 >>= _) _ _ s
 rw[if_neg (show ¬ ((Value.ref t == Value.none)=true) from Bool.false_ne_true)]
 refine wpAny_bind (wpAny_field h1 h3 (x:=.int i 0) rfl (wpAny_bind (m:=seqItems? (.ref t)) (wpAny_seqItems k1 k2 ?_)))
 simp only[Int.toNat_natCast,hx]
 exact wpAny_bind (wpAny_setField h1 h3 (by simp) (wpAny_pure ⟨x,rfl,wpAny_pure (hQ _ ⟨_,Heap.get?_update_self _ h1 (Obj.isFreed_of_fields (Obj.data_mapFields h3 _)),(Obj.cls_mapFields ..).trans h2,by rw[Obj.data_mapFields h3];simp[rawInt]⟩ (Heap.SameBut.update ..))⟩))
theorem nO {it t:Addr} {i:Nat} {its:Array Value} {Q:Value->Shared->Prop} (hh:A.handled=none) (hi:s.heap.IsTupleIter it t i) (ht:s.heap.IsTuple t its) (hx:its[i]?=none)
  (hE:∀h' e,Heap.ExtBut it s.heap h'->(∃o,h'.get? e=some o/\o.cls=.type "StopIteration")->E (.ref e) { s with heap:=h' }):wpAny (model prog w) A (Builtin.SmallTypes.nextOf (.ref it)) Q E s:=by
 obtain⟨oi,h1,h2,h3⟩:=id hi
 obtain⟨ot,k1,_,nt,k2⟩:=ht
 unfold Builtin.SmallTypes.nextOf
 refine wpAny_bind (wpAny_callSpecial?_slot (name:=Str.ofString "__next__") hi.typeIs F.slot_tuple_iterator_next (wpAny_call_entry F.slot_tuple_iterator_next hi.typeIs F.entry_tuple_iterator_next ?_ (F.args_tuple_iterator_next_1 _)))
 refine wpAny_bind (m:=field (.ref it) 0) (wpAny_field h1 h3 (x:=.ref t) rfl ?_)
 show wpAny _ _ (if (Value.ref t == Value.none)=true then _ else field (.ref it) 1 >>= _) _ _ s
 rw[if_neg (show ¬ ((Value.ref t == Value.none)=true) from Bool.false_ne_true)]
 refine wpAny_bind (wpAny_field h1 h3 (x:=.int i 0) rfl (wpAny_bind (m:=seqItems? (.ref t)) (wpAny_seqItems k1 k2 ?_)))
 simp only[Int.toNat_natCast,hx]
 refine wpAny_bind (wpAny_rule (wpAny_bind (wpAny_setField h1 h3 (by simp) (wpAny_bind (m:=newExc (.type "StopIteration") []) ?_))))
 simp only[newExc,newTuple]
 refine wpAny_bind (wpAny_newObj_type (wpAny_bind (m:=firstArgMember _ _) (wpAny_of_eq (a:=Value.none) (by first | rfl | (simp only[firstArgMember];rfl)) (wpAny_newObj_type ?_ (by size_fits)))) (by size_fits))
 simp only[raiseNew]
 refine wpAny_bind (wpAny_handled ?_)
 first | rw[show A.in1.handled=none from hh] | rw[hh]
 exact wpAny_bind (wpAny_pure (wpAny_throw (hE _ _ (((Heap.SameBut.update ..).extBut.push _).push _) ⟨_,Heap.get?_push_size _ rfl,rfl⟩)))
end
theorem Inv.yielded {X:Cx} {pins:List (Addr × Obj)} {σ:St} {H:Hp} {s:Shared} {fp:List Addr} {T:Addr} {o:HO} {h':Heap} {t':Nat} (I:Inv X pins σ H s) (hf:∀b∈fp,mR X pins H b) (k:∀b u,b∉fp->s.heap.get? b=some u->h'.get? b=some u)
  (hT:s.heap.objs.size<=T) (new:bZ X.prog X.w (upd H T o) h' T o):Inv X pins σ (upd H T o) { s with heap:=h',toks:=t' }:=by
 have nT:∀b u,s.heap.get? b=some u->b≠T:=fun b u e z=>absurd (Heap.lt_size e) (by rw[z];exact Nat.not_lt.mpr hT)
 have nH:∀b u,H b=some u->b≠T:=fun b u e z=>absurd (I.hok.lt e) (by rw[z];exact Nat.not_lt.mpr hT)
 have nf:∀b u,H b=some u->b∉fp:=fun b u e z=>by rw[(hf b z).1] at e;cases e
 refine I.rh (s':={ s with heap:=h',toks:=t' }) (ch:=fp) rfl ⟨fun b u e n _ c=>k b u c e,fun b u e n _ c=>⟨u.slots,k b u c e⟩,fun b u e n c=>by rw[aA (nT b u e)];exact n,fun b u e c=>⟨u,k b u c e⟩,fun b xs e=>by rw[aA (nH b _ e)];exact e,fun b ob u e=>by rw[aA (nH b _ e)];exact e,fun b ps e=>⟨#[],by rw[aA (nH b _ e),e];simp⟩⟩ (fun b u e=>?_) I.bare (fun b hb=>?_)
 ·by_cases hb:b=T
  ·subst hb
   rw[aQ] at e
   cases e
   exact new
  ·rw[aA hb] at e
   refine(I.hok b u e).iS (fun c v hc q=>k c v ?_ q) (fun c q=>by rw[aA (nH c _ q)];exact q) fun c xs q=>by rw[aA (nH c _ q)];exact q
   rcases hc with z | z
   ·rw[z];exact nf b u e
   ·exact nf c _ z
 ·obtain⟨_,g1,_,g3,g4,g5⟩:=hf b hb
  exact⟨g3,g1,g4,g5⟩
theorem Inv.ua {X:Cx} {pins:List (Addr × Obj)} {σ:St} {H:Hp} {s:Shared} {fp:List Addr} {h':Heap} {t':Nat} (I:Inv X pins σ H s) (hf:∀b∈fp,mR X pins H b) (k:∀b u,b∉fp->s.heap.get? b=some u->h'.get? b=some u):Inv X pins σ H { s with heap:=h',toks:=t' }:=by
 have nf:∀b u,H b=some u->b∉fp:=fun b u e z=>by rw[(hf b z).1] at e;cases e
 refine I.rh (s':={ s with heap:=h',toks:=t' }) (ch:=fp) rfl ⟨fun b u e n _ c=>k b u c e,fun b u e n _ c=>⟨u.slots,k b u c e⟩,fun b u e n c=>n,fun b u e c=>⟨u,k b u c e⟩,fun b xs e=>e,fun b ob u e=>e,fun b ps e=>⟨#[],by rw[e];simp⟩⟩ (fun b u e=>?_) I.bare (fun b hb=>?_)
 ·refine(I.hok b u e).iS (fun c v hc q=>k c v ?_ q) (fun c q=>q) fun c xs q=>q
  rcases hc with z | z
  ·rw[z];exact nf b u e
  ·exact nf c _ z
 ·obtain⟨_,g1,_,g3,g4,g5⟩:=hf b hb
  exact⟨g3,g1,g4,g5⟩
noncomputable def y_ (nt:Nat) (ix:List Nat) (σ:St):St:=List.replicate nt none++ix.map fun i=>(σ[i]?).join
noncomputable def qU (nt:Nat) (ix:List Nat) (σ σ':St):Prop:=∃ts:St,ts.length=nt/\σ'=ts++ix.map fun i=>(σ[i]?).join
noncomputable abbrev CV (J:It) (nt:Nat) (ix:List Nat) (σ:St) (tg:TG) (tt:TT) (te:TE) (acc:Addr) (H1:Hp) (Q:VK):Prop:=
 ∃W:Nat->Nat->List V->Hp->Prop,(∃m,W 0 m [] (upd H1 acc (.lst [])))/\∀i m ys H,W i m ys H →
  (J.stop i H/\Q (.ref acc) H)\/(J.go i H/\∀σ0 x H',qU nt ix σ σ0->J.yld i H x H'->tg x σ0 H' fun σ2 Hn=>qU nt ix σ σ2/\tt σ2 Hn fun b H2=>if b=true then te σ2 H2 fun y H3=>
    H3 acc=some (.lst ys)/\ys.length<sizeLine/\∃m',m'<m/\W (i+1) m' (ys++[y]) (upd H3 acc (.lst (ys++[y])))
   else ∃m',m'<m/\W (i+1) m' ys H2)
noncomputable def lq (wi:TI) (nt:Nat) (ix:List Nat) (tg:TG) (tt:TT) (te:TE):TE:=fun σ H Q=>wi σ H fun J H1=>∀acc,H1 acc=none->CV J nt ix σ tg tt te acc H1 Q
theorem nU {X:Cx} {use:Option (Value->Sem Unit)} {Q2:Value->Shared->Prop} {pins:List (Addr × Obj)} {s:Shared} {σ:St} {H:Hp} {Q:VK} {elt iter tg:Expr} {tn':List Str} {tgr:TG} {ifs:List Expr} {scope osc:Scope} {pos:Pos} {wi:TI} {tt:TT} {te:TE} (ix:List Nat) (N':List Str)
  (hxe:X.xe=fun _ _=>False) (hc:X.calm=true) (ho:X.env.scope=osc) (hN:N'=tn'++ix.map fun i=>(X.N[i]?).getD ("" : Str)) (hnd:N'.Nodup)
  (hall:(∀y∈scope.names,y.2=.free->osc.names.lookup y.1=some .cell)/\(∀y∈scope.names,y.2≠.cell)/\scope.kind=.function/\(∀y∈scope.names,y.2=.local->scope.names.lookup y.1=some .local)/\(∀y∈N'.drop tn'.length,scope.names.lookup y=some .free))
  (hi:PI X tg iter wi) (hg:∀cl C aJ aO fp,PG (bF X scope cl C aJ aO fp N') tg tgr)
  (ht:∀cl C aJ aO fp,PTs (bF X scope cl C aJ aO fp N') ifs tt)
  (he:∀cl C aJ aO fp,PE (bF X scope cl C aJ aO fp N') elt te)
  (hs:∀x,foldedSetIterable iter X.env x=pure x) (I:Inv X pins σ H s) (h:lq wi tn'.length ix tgr tt te σ H Q)
  (hfin:∀(acc C:Addr) (H5:Hp) (s5:Shared) (o:Obj),Inv X (pins++[(C,o)]) σ H5 s5->(∀x c,X.env.cells.lookup x=some c->c≠C)->X.aJ.heap.objs.size<=C->(∀p∈X.pn++pins,p.1≠C)->(∃m,∀h':Heap,h'.get? C=some o->h'.Ns C m)->Q (.ref acc) H5->compPost (model X.prog X.w) X.A X.xe use Q2 (.ref acc) C (.ok .next) s5) :
  wpAny (model X.prog X.w) X.A (comprehension (.ListComp elt [⟨tg,iter,ifs,0⟩] scope pos) scope X.env (firstIterPos [⟨tg,iter,ifs,0⟩] pos) (newList []) false (eval iter X.env) use) Q2 X.xe s:=by
 obtain⟨hfr,hcell,hkind,hnames,hcap⟩:=hall
 subst ho
 have outc:∀y∈scope.names,y.2=.free->X.env.kindOf y.1=some .cell:=fun y hy q=>hfr y hy q
 obtain⟨cl,hclos,hcl1,hcl2⟩:=nv (env:=X.env) (scope:=scope) fun y hy q=>I.ok.has y.1 (.inl (outc y hy q))
 refine wpAny_comprehension_free (use:=use) rfl hs hclos hkind hnames (thn (hi pins s σ H _ I h) fun v s1 h1=>thn h1 fun itv s2 h2=>?_)
 obtain⟨it,fp,tn,J,H2,e,I2,T,st2,f2,rest⟩:=h2
 subst e
 have hf2:H2 s2.heap.objs.size=none:=I2.hok.fresh (Nat.le_refl _)
 obtain⟨W,⟨m0,w0⟩,turn⟩:=rest s2.heap.objs.size hf2
 -- the list
 refine wpAny_newObj_type ?_
 have I3:Inv X pins σ (upd H2 s2.heap.objs.size (.lst [])) { s2 with heap:=s2.heap.push { cls:=.type "list", dict:=none,data:=.seq ([]:List Value).toArray } }:=I2.B4 (its:=[]) (t':=s2.toks) .nil (Nat.zero_le _)
 have keep3:∀b o,s2.heap.get? b=some o->(s2.heap.push { cls:=.type "list", dict:=none,data:=.seq ([]:List Value).toArray }).get? b=some o:=fun b o q=>Heap.get?_push_of_some _ q
 have fp3:∀b∈fp,∃o,s2.heap.get? b=some o/\∀v,o.data≠.cell v:=T.obj _ _ st2
 have st3:tn 0 (s2.heap.push { cls:=.type "list", dict:=none,data:=.seq ([]:List Value).toArray }):=T.keep _ _ _ st2 fun b _ o q=>keep3 b o q
 have fpn:∀b∈fp,(upd H2 s2.heap.objs.size (HO.lst [])) b=none:=fun b hb=>by
  obtain⟨o,q,_⟩:=fp3 b hb
  rw[aA (Nat.ne_of_lt (Heap.lt_size q))]
  exact(f2 b hb).1
 revert I3 keep3 st3 fpn w0
 generalize hS3:({ s2 with heap:=s2.heap.push { cls:=.type "list", dict:=none,data:=.seq ([]:List Value).toArray } }:Shared)=s3
 generalize hH3:upd H2 s2.heap.objs.size (HO.lst [])=H3
 intro w0 I3 keep3 st3 fpn
 have acc3:H3 s2.heap.objs.size=some (.lst []):=by rw[<- hH3];exact aQ
 generalize s2.heap.objs.size=acc at *
 have e3:s2.heap.push { cls:=.type "list", dict:=none,data:=.seq ([]:List Value).toArray }=s3.heap:=by rw[<- hS3]
 have keep3':∀b o,s2.heap.get? b=some o->s3.heap.get? b=some o:=fun b o q=>by rw[<- e3];exact keep3 b o q
 have st3':tn 0 s3.heap:=by rw[<- e3];exact st3
 refine wpAny_newFunctionEnv hcell (by intro y hy;simp at hy) (fun h₁ hns₁ hsb₁=>?_) hkind
 have hC:s3.heap.objs.size=s3.heap.objs.size:=rfl
 have keep4:∀b o,s3.heap.get? b=some o->h₁.get? b=some o:=fun b o q=>hsb₁.extBut b o (Nat.ne_of_lt (Heap.lt_size q)) (Heap.get?_push_of_some _ q)
 have fpC:∀b∈fp,b≠s3.heap.objs.size:=fun b hb=>by
  obtain⟨o,q,_⟩:=fp3 b hb
  exact Nat.ne_of_lt (Heap.lt_size (keep3' b o q))
 -- the block's context
 generalize hX':bF X scope cl s3.heap.objs.size s3 H3 fp N'=X'
 have hXp:X'.prog=X.prog:=by rw[<- hX'];rfl
 have hXw:X'.w=X.w:=by rw[<- hX'];rfl
 have hXK:X'.K=X.K:=by rw[<- hX'];rfl
 have hXA:X'.A=X.A:=by rw[<- hX'];rfl
 have hXe:X'.env=compEnvC scope cl s3.heap.objs.size X.env:=by rw[<- hX'];rfl
 have hXc:X'.calm=true:=by rw[<- hX'];exact hc
 have hXx:X'.xe=fun _ _=>False:=by rw[<- hX'];exact hxe
 have hXf:X'.fs=frs X.stack:=by rw[<- hX'];rfl
 have hXex:X'.ex=fp:=by rw[<- hX'];rfl
 have hXN:X'.N=N':=by rw[<- hX'];rfl
 have hXs:X'.aJ=s3:=by rw[<- hX'];rfl
 have hXH:X'.aO=H3:=by rw[<- hX'];rfl
 have hXpn:X'.pn=[]:=by rw[<- hX'];rfl
 have okX:X'.Ok:=by
  rw[<- hX']
  refine⟨I3.ok.mod,hkind,I3.ok.glob,I3.ok.blt,Nat.le_refl _,fun a b c p q=>I3.ok.inj a b c (hcl1 a c p) (hcl1 b c q),fun y hy=>?_,fun _ _ z=>(by cases z),I3.ok.hd,I3.ok.frames,.inl rfl,fun b hb=>⟨fpC b hb,fun y c p=>(f2 b hb).2.2.2.2.1 y c (hcl1 y c p)⟩,
   I3.bs,Nat.le_trans I3.ok.bsz I3.sz,fun b o p hb=>?_,fun b hb z=>?_,I3.stack,I3.pe⟩
  ·have hy':(relabel scope X.env).names.lookup y=some .cell\/(relabel scope X.env).names.lookup y=some .free:=hy
   have free:scope.names.lookup y=some .free->∃c,cl.lookup y=some c:=fun q=>hcl2 y (lookup_mem q)
   rcases hy' with q | q
   ·rcases f6 q with z | ⟨z,_⟩
    ·exact absurd rfl (hcell _ (lookup_mem z))
    ·exact free z
   ·rcases f6 q with z | ⟨_,z⟩
    ·exact free z
    ·cases z
  ·rcases(f2 b hb).2.2.2.1 with z | z
   ·exact I3.ok.qr b o p z
   ·exact absurd (Nat.lt_of_lt_of_le (Heap.lt_size p) (Nat.le_trans I3.ok.bsz z)) (Nat.lt_irrefl _)
  ·rcases List.mem_cons.mp (I3.gM b z) with q | q
   ·exact(f2 b hb).2.1 q
   ·exact(f2 b hb).2.2.1 q
 have I4:∀tk,Inv X' [] (y_ tn'.length ix σ) H3 { s3 with heap:=h₁,toks:=tk }:=fun tk=>by
  have hloc:=I3.loc
  refine⟨okX,by rw[hXs],I3.bare,?_,⟨fun y=>([]:List (Str × Value)).reverse.lookup y,by rw[hXe];exact hns₁,fun i y v e1 e2 e3=>?_⟩,fun y c p=>?_,?_,fun y c p=>?_,fun p hp=>?_,?_,?_⟩
  ·rw[hXf,hXex,hXH,hXs];exact Un.kept keep4
  ·rw[hXN,hN] at e1
   by_cases hit':i<tn'.length
   ·exfalso
    unfold y_ at e2
    rw[List.getElem?_append_left (by simpa using hit'),List.getElem?_replicate,if_pos hit'] at e2
    cases e2
   ·have e10:N'[i]?=some y:=by rw[hN];exact e1
    obtain⟨j,rfl⟩:∃j,i=tn'.length+j:=⟨i - tn'.length,by omega⟩
    have e1':(ix.map fun i=>(X.N[i]?).getD ("" : Str))[j]?=some y:=by
     rw[List.getElem?_append_right (by omega)] at e1
     rw[show tn'.length+j - tn'.length=j by omega] at e1
     exact e1
    have e2':(ix.map fun i=>(σ[i]?).join)[j]?=some (some v):=by
     unfold y_ at e2
     rw[List.getElem?_append_right (by simp)] at e2
     simpa using e2
    rw[List.getElem?_map] at e1' e2'
    cases hj:ix[j]? with
    | none=>rw[hj] at e1';cases e1'
    | some i0=>
     rw[hj] at e1' e2'
     have e1'':(X.N[i0]?).getD ("" : Str)=y:=by simpa using e1'
     have e2'':(σ[i0]?).join=some v:=by simpa using e2'
     have hsv:σ[i0]?=some (some v):=by
      cases q:σ[i0]? with
      | none=>rw[q] at e2'';cases e2''
      | some z=>rw[q] at e2'';have:z=some v:=by simpa using e2''
                rw[this]
     have hlt:i0<X.N.length:=by
      have:=(List.getElem?_eq_some_iff.mp hsv).1
      rw[I3.len] at this;exact this
     have hNy:X.N[i0]?=some y:=by
      rw[List.getElem?_eq_getElem hlt] at e1'' ⊢
      simpa using e1''
     have hyt:y∈N'.drop tn'.length:=by
      refine List.mem_of_getElem? (i:=j) ?_
      rw[List.getElem?_drop];exact e10
     have hyf:=hcap y hyt
     have hyc:=outc (y,.free) (lookup_mem hyf) rfl
     obtain⟨m,hn,hl⟩:=hloc
     obtain⟨u,r,l⟩:=hl i0 y v hNy hsv (.inr (.inl hyc))
     refine⟨u,r,?_⟩
     rcases l with⟨k1,_⟩ | ⟨_,c,p,z⟩
     ·have hyc':X.env.kindOf y=some .cell:=hyc
      rw[k1] at hyc';cases hyc'
     ·obtain⟨c',p'⟩:=hcl2 y (lookup_mem hyf)
      have pc:c'=c:=by
       have:=hcl1 y c' p'
       rw[p] at this;cases this;rfl
      subst pc
      refine .inr ⟨.inl ?_,c',by rw[hXe];exact p',?_⟩
      ·rw[hXe];exact dZ I3.ok.kind hyf hyc
      ·obtain⟨o,q1,q2⟩:=z
       exact⟨o,keep4 c' o q1,q2⟩
  ·rw[hXe] at p
   obtain⟨v,o,q1,q2⟩:=I3.cell y c (hcl1 y c p)
   exact⟨v,o,keep4 c o q1,q2⟩
  ·rw[hXe];exact I3.hok.fresh (Nat.le_refl _)
  ·rw[hXe] at p;exact I3.dm y c (hcl1 y c p)
  ·rw[hXpn] at hp;cases hp
  ·rw[hXp,hXw];exact I3.hok.kept keep4
  ·rw[hXN,hN];simp[y_]
 -- the loop
 have stat:∀{H':Hp},(∀b∈fp,H' b=none)->∀b∈fp,mR X' [] H' b:=fun hn b hb=>by
  refine⟨hn b hb,by rw[hXe];exact fpC b hb,?_,.inl (by rw[hXex];exact hb),fun y c p=>?_,fun p hp=>by rw[hXpn] at hp;cases hp⟩
  ·rw[hXf];intro z
   rcases List.mem_cons.mp (I3.gM b z) with q | q
   ·exact(f2 b hb).2.1 q
   ·exact(f2 b hb).2.2.1 q
  ·rw[hXe] at p;exact(f2 b hb).2.2.2.2.1 y c (hcl1 y c p)
 have fin:∀{H5:Hp} {s5:Shared} {σ5:St},Inv X' [] σ5 H5 s5->Q (.ref acc) H5->compPost (model X.prog X.w) X.A X.xe use Q2 (.ref acc) s3.heap.objs.size (.ok .next) s5:=fun{H5 s5 σ5} I5 q=>by
  obtain⟨m,hn,_⟩:=I5.loc
  rw[hXe] at hn
  have hn':s5.heap.Ns s3.heap.objs.size m:=hn
  obtain⟨oC,esC,epC,hC1,hC2,hC3⟩:=hn'
  have u5:=I5.base
  rw[hXf,hXex,hXH,hXs] at u5
  have fr:H5 s3.heap.objs.size=none:=by have:=I5.free;rw[hXe] at this;exact this
  have hok5:=I5.hok
  rw[hXp,hXw] at hok5
  have hos:s5.os=s3.os:=by have:=I5.os;rw[hXs] at this;exact this
  have IX:Inv X pins σ H5 s5:=I3.rh (s':=s5) (ch:=fp) hos u5 hok5 I5.bare (fun b hb=>by
   obtain⟨g0,g1,g2,g3,g4,g5⟩:=f2 b hb
   exact⟨g3,g1,g4,g5⟩)
  have cC:∀x c,X.env.cells.lookup x=some c->c≠s3.heap.objs.size:=fun x c z e=>by
   obtain⟨v,q⟩:=I3.cell x c z
   exact absurd q.lt (by rw[e];exact Nat.lt_irrefl _)
  have pC:∀p∈X.pn++pins,p.1≠s3.heap.objs.size:=fun p hp e=>by
   have:=Heap.lt_size (I3.pin p hp).1
   rw[e] at this
   exact Nat.lt_irrefl _ this
  refine hfin acc s3.heap.objs.size H5 s5 oC (IX.kP fun p hp=>?_) cC I3.sz pC ⟨m,fun h' z=>⟨oC,esC,epC,z,hC2,hC3⟩⟩ q
  rcases List.mem_append.mp hp with z | z
  ·exact IX.pin p (List.mem_append_right _ z)
  ·have e:=List.mem_singleton.mp z
   subst e
   refine⟨hC1,fr,Nat.ne_of_gt I3.lt,I3.D1 (Nat.le_refl _),fun v e=>?_⟩
   have e':oC.data=.cell v:=e
   rw[hC2] at e';cases e'
 have loop:∀tk,codeAny (model X.prog X.w) X.A (.compLoop (.ListComp elt [⟨tg,iter,ifs,0⟩] scope pos) 0 (.ref it) (.ref acc) (compEnvC scope cl s3.heap.objs.size X.env))
   (compPost (model X.prog X.w) X.A X.xe use Q2 (.ref acc) s3.heap.objs.size) { s3 with heap:=h₁,toks:=tk }:=fun tk=>by
  refine rH (fun n s'=>∃i ys σ' H',Inv X' [] σ' H' s'/\qU tn'.length ix σ σ'/\tn i s'.heap/\(∀b∈fp,H' b=none)/\W i n ys H') (fun n s5 h5=>?_) m0
   ⟨0,[],y_ tn'.length ix σ,H3,I4 tk,⟨_,List.length_replicate,rfl⟩,T.keep _ _ _ st3' fun b _ o q=>keep4 b o q,fpn,w0⟩
  obtain⟨i,ys,σ5,H5,I5,hσ,st5,fr5,w5⟩:=h5
  rcases turn i n ys H5 w5 with⟨stop,q⟩ | ⟨go,step⟩
  ·have d:=T.done X' hXp hXw hXK hXc i [] s5 σ5 H5 (fun _ _=>False) I5 (stat fr5) st5 stop
   rw[hXA] at d
   refine thn d fun r s6 ⟨hr,I6⟩=>?_
   subst hr
   exact fin I6 q
  ·have d:=T.item X' hXp hXw hXK hXc i [] s5 σ5 H5 (fun _ _=>False) I5 (stat fr5) st5 go
   rw[hXA] at d
   refine thn d fun r s6 ⟨u,hr,h6⟩=>?_
   subst hr
   refine thn h6 fun _ s7 ⟨z,H7,I7,r7,y7,st7,fr7⟩=>?_
   have I7':=I7.pinned (stat fr7) (T.obj _ _ st7)
   have again:∀{H9:Hp} {s9:Shared} {ys9:List V} {σ9:St},Inv X' ([]++l7 fp s7.heap) σ9 H9 s9->qU tn'.length ix σ σ9->(∃m',m'<n/\W (i+1) m' ys9 H9)->∃m',m'<n/\∃i ys σ' H',Inv X' [] σ' H' s9/\qU tn'.length ix σ σ'/\tn i s9.heap/\(∀b∈fp,H' b=none)/\W i m' ys H':=fun{H9 s9 ys9 σ9} I9 c9 ⟨m',hm,w9⟩=>by
    refine⟨m',hm,i+1,ys9,_,H9,I9.jv,c9,T.keep _ _ _ st7 fun b hb o e=>(I9.pin (b,o) (List.mem_append_right _ (List.mem_append_right _ (fO hb e)))).1,fun b hb=>?_,w9⟩
    obtain⟨o,e,_⟩:=T.obj _ _ st7 b hb
    exact(I9.pin (b,o) (List.mem_append_right _ (List.mem_append_right _ (fO hb e)))).2.1
   have ht':=ht cl s3.heap.objs.size s3 H3 fp
   have he':=he cl s3.heap.objs.size s3 H3 fp
   have hg':=hg cl s3.heap.objs.size s3 H3 fp
   rw[hX'] at ht' he' hg'
   rw[<- hXe]
   have a0:=hg' _ s7 σ5 H7 z u _ I7' r7 (step σ5 z H7 hσ y7)
   rw[hXp,hXw,hXA,hXx] at a0
   refine thn a0 fun _ s8 ⟨σ8,H8,I8,c8,q8⟩=>?_
   have a1:=ht' _ s8 _ H8 _ I8 q8
   rw[hXp,hXw,hXA,hXx] at a1
   refine thn a1 fun b s9 ⟨H9,I9,q9⟩=>?_
   cases b with
   | false=>exact again I9 c8 q9
   | true=>
    have a2:=he' _ s9 _ H9 _ I9 q9
    rw[hXp,hXw,hXA,hXx] at a2
    refine thn a2 fun yv s10 ⟨y,H10,I10,r10,q1,q2,q3⟩=>?_
    have a3:=g_ (X:=X') _ s10 _ H10 (.ref acc) [y] (.ref acc) [yv] (fun _ Hq=>∃m',m'<n/\W (i+1) m' (ys++[y]) Hq) I10 rfl (.cons r10 .nil) ⟨acc,ys,y,rfl,rfl,q1,q2,q3⟩
    rw[hXp,hXw,hXA,hXx] at a3
    exact thn a3 fun _ s11 ⟨_,H11,I11,_,q11⟩=>again I11 c8 q11
 refine codeAny_compStart_list (loop _) ?_
 exact T.self _ 0 _ _ _ (T.keep _ _ _ st3' fun b _ o q=>keep4 b o q) (loop _)
section
variable {X:Cx} {elt iter tg:Expr} {tn':List Str} {tgr:TG} {ifs:List Expr} {scope osc:Scope} {pos:Pos} {wi:TI} {tt:TT} {te:TE}
theorem rZ (ix:List Nat) (tn' N':List Str)
  (hxe:X.xe=fun _ _=>False) (hc:X.calm=true) (ho:X.env.scope=osc) (hN:N'=tn'++ix.map fun i=>(X.N[i]?).getD ("" : Str)) (hnd:N'.Nodup)
  (hall:(∀y∈scope.names,y.2=.free->osc.names.lookup y.1=some .cell)/\(∀y∈scope.names,y.2≠.cell)/\scope.kind=.function/\(∀y∈scope.names,y.2=.local->scope.names.lookup y.1=some .local)/\(∀y∈N'.drop tn'.length,scope.names.lookup y=some .free))
  (hi:PI X tg iter wi) (hg:∀cl C aJ aO fp,PG (bF X scope cl C aJ aO fp N') tg tgr)
  (ht:∀cl C aJ aO fp,PTs (bF X scope cl C aJ aO fp N') ifs tt)
  (he:∀cl C aJ aO fp,PE (bF X scope cl C aJ aO fp N') elt te)
  (hs:∀x,foldedSetIterable iter X.env x=pure x:=by intro _;rfl) :
  PE X (.ListComp elt [⟨tg,iter,ifs,0⟩] scope pos) (lq wi tn'.length ix tgr tt te):=by
 intro pins s σ H Q I h
 have e:eval (.ListComp elt [⟨tg,iter,ifs,0⟩] scope pos) X.env=comprehension (.ListComp elt [⟨tg,iter,ifs,0⟩] scope pos) scope X.env (firstIterPos [⟨tg,iter,ifs,0⟩] pos) (newList []) false (eval iter X.env) none:=by
  rw[eval_ListComp];rfl
 rw[e]
 refine nU (use:=none) (Q2:=EP X pins σ Q) ix N' hxe hc ho hN hnd hall hi hg ht he hs I h fun acc C H5 s5 o I5 cC hC pC hm q=>?_
 obtain⟨m,hm⟩:=hm
 exact⟨m,hm _ (I5.pin (C,o) (List.mem_append_right _ (List.mem_append_right _ (List.mem_singleton.mpr rfl)))).1,fun h' hs'=>⟨.ref acc,H5,I5.E6 cC hC pC hs',rfl,q⟩⟩
theorem sv {y:Str} {py spos:Pos} {i:Nat} (ix:List Nat) (tn' N':List Str)
  (hxe:X.xe=fun _ _=>False) (hc:X.calm=true) (ho:X.env.scope=osc) (hN:N'=tn'++ix.map fun i=>(X.N[i]?).getD ("" : Str)) (hnd:N'.Nodup)
  (hall:(∀y∈scope.names,y.2=.free->osc.names.lookup y.1=some .cell)/\(∀y∈scope.names,y.2≠.cell)/\scope.kind=.function/\(∀y∈scope.names,y.2=.local->scope.names.lookup y.1=some .local)/\(∀y∈N'.drop tn'.length,scope.names.lookup y=some .free))
  (hi:PI X tg iter wi) (hg:∀cl C aJ aO fp,PG (bF X scope cl C aJ aO fp N') tg tgr)
  (ht:∀cl C aJ aO fp,PTs (bF X scope cl C aJ aO fp N') ifs tt)
  (he:∀cl C aJ aO fp,PE (bF X scope cl C aJ aO fp N') elt te)
  (hNN:X.N.Nodup) (hy:X.N[i]?=some y) (hl:X.env.scope.names.lookup y=some .local)
  (hsw:swapsWith (.ListComp elt [⟨tg,iter,ifs,0⟩] scope pos) (some (.Name y py)) spos.line X.env=pure true:=by rfl)
  (hs:∀x,foldedSetIterable iter X.env x=pure x:=by intro _;rfl) :
  PS X (.Assign [.Name y py] (.ListComp elt [⟨tg,iter,ifs,0⟩] scope pos) spos) (BX (lq wi tn'.length ix tgr tt te) (fH i)):=by
 intro pins s σ H D I h
 rw[exec_Assign_Name_used _ _ _ _ hsw]
 refine wpAny_bind (wpAny_standAt ?_)
 show wpAny _ _ (evalThenUse (.ListComp elt [⟨tg,iter,ifs,0⟩] scope pos) X.env (assign (.Name y py) X.env) >>= fun _=>pure Flow.next) _ _ _
 refine wpAny_bind ?_
 show wpAny _ _ (comprehension (.ListComp elt [⟨tg,iter,ifs,0⟩] scope pos) scope X.env (firstIterPos [⟨tg,iter,ifs,0⟩] pos) (newList []) false (eval iter X.env) (some (assign (.Name y py) X.env)) >>= fun _=>pure ()) _ _ _
 refine wpAny_bind (nU (use:=some (assign (.Name y py) X.env)) ix N' hxe hc ho hN hnd hall hi hg ht he hs I h fun acc C H5 s5 o I5 cC hC pC hm q=>?_)
 obtain⟨m,hm⟩:=hm
 refine wpAny_assign_Name (eK (i:=i) (v:=.ref acc) I5 hNN hy (.inl hl) rfl (fun s6 I6=>?_) (.inr hl))
 refine⟨m,hm _ (I6.pin (C,o) (List.mem_append_right _ (List.mem_append_right _ (List.mem_singleton.mpr rfl)))).1,fun h' hs'=>?_⟩
 exact wpAny_pure (wpAny_pure ⟨_,H5,I6.E6 cC hC pC hs',q⟩)
end
section
variable {X:Cx} {pins:List (Addr × Obj)} {σ:St} {H:Hp} {s:Shared} {a:Addr} {y v:V} {u r:Value} {o:Option V} {A:Around} {E:Value->Shared->Prop}
theorem Inv.big (I:Inv X pins σ H s):sysModules<s.heap.objs.size:=by
 have h:mainGlobals<s.heap.objs.size:=(I.mod.glob.keeps I.bk).lt
 exact Nat.lt_trans (by decide) h
end
theorem zf {P:Program} {w:World} {H:Hp} (h:Heap) (hb:sysModules<h.objs.size):bZ P w H (h.push { cls:=.type "dict", data:=.dict #[] }) h.objs.size (.dK []):=
 ⟨Nat.zero_le _,beq_eq_false_iff_ne.mpr (Ne.symm (Nat.ne_of_lt hb)),[],.nil,Heap.DictOf.new h⟩
noncomputable def Cj:TE:=fun _ H Q=>∀p,H p=none->Q (.ref p) (upd H p (.dK []))
section
variable {X:Cx} {pos:Pos}
theorem yG:PE X (.Dict [] [] pos) Cj:=fun pins s σ H Q I h=>
 wpAny_Dict_empty ⟨.ref s.heap.objs.size,_,I.laid (a:=s.heap.objs.size) (o:=.dK []) (t':=s.toks) (fun _ _ q=>Heap.get?_push_of_some _ q) (Nat.le_refl _) (zf s.heap I.big),rfl,h _ (I.hok.fresh (Nat.le_refl _))⟩
end
end L2
namespace L2.FE
open PySem PySem.Spec PyProof.Rows
inductive D where
 | non | bl (b:Bool) | int (i:Int) | str (x:Str) | tup (ds:List D) | frl (ds:List D) | ref (n:Nat) | fn (x:Str) | edic | scr (ds:List D) | exc (c:Str) (fs:List (Str × Int))
inductive O where
 | lst (ds:List D) | set (ns:List Int) | dic (kvs:List (Key × D)) | dit (kvs:List (List Key × D))
noncomputable abbrev Hh:=List O
noncomputable abbrev En:=List (Option D)
structure Xc where
 cls:Str
 fs:List (Str × Int)
inductive R (β:Type) where
 | ok (b:β) (h:Hh)
 | err (x:Xc) (h:Hh)
 | bad
noncomputable def R.bind {β γ:Type} (r:R β) (f:β->Hh->R γ):R γ:=match r with
 | .ok b h=>f b h
 | .err x h=>.err x h
 | .bad=>.bad
inductive Fl where
 | nx (e:En) | bk (e:En) | ct (e:En) | rt (d:D)
noncomputable abbrev ME:=En->Hh->R D
noncomputable abbrev MT:=En->Hh->R Bool
noncomputable abbrev MA:=En->Hh->R (List D)
noncomputable abbrev MS:=En->Hh->R Fl
noncomputable def Fro (K:PySem.W.Frag) (H:Hp) (p:Addr) (vs:List V):Prop:=
 (∃o,H p=some (.frz o (.lst vs)))\/∃(o:Obj) (its:Array Value) (n:Nat),K.lookup p=some o/\o.cls=.type "list" /\ o.dict=none/\o.data=.seq its n/\its.size<=sizeLine/\Vals vs its.toList
theorem Fro.sq {K:PySem.W.Frag} {H:Hp} {p:Addr} {vs:List V} (h:Fro K H p vs):SqL K H p vs:=by
 rcases h with⟨o,h⟩ | h
 ·exact .inl (.inr ⟨o,h⟩)
 ·exact .inr h
noncomputable def Fr1 (H:Hp) (p:Addr) (vs:List V):Prop:=∃o,H p=some (.frz o (.lst vs))
theorem Fr1.fro {K:PySem.W.Frag} {H:Hp} {p:Addr} {vs:List V} (h:Fr1 H p vs):Fro K H p vs:=.inl h
theorem Fr1.sq {K:PySem.W.Frag} {H:Hp} {p:Addr} {vs:List V} (h:Fr1 H p vs):SqL K H p vs:=let ⟨o,h⟩:=h;.inl (.inr ⟨o,h⟩)
theorem Fr1.rd {H:Hp} {p:Addr} {vs:List V} (h:Fr1 H p vs):Rd H p (.lst vs):=.inr h
noncomputable def AtO (p:Addr) (o:Obj):HO:=.frz o (.ext fun h=>h.get? p=some o)
noncomputable def XFs (H:Hp) (dc:Option Addr) (fs:List (Str × Int)):Prop:=(dc=none/\fs=[])\/∃dx od,dc=some dx/\H dx=some (.frz od (.xd (fs.map fun x=>(x.1,V.int x.2))))
mutual
inductive aD (K:PySem.W.Frag) (g:Str->Option Addr) (α:List Addr) (H:Hp):D->V->Prop where
 | non:aD K g α H .non .non
 | bl (b):aD K g α H (.bl b) (.bl b)
 | int (i):aD K g α H (.int i) (.int i)
 | str (x):aD K g α H (.str x) (.str x)
 | ref {n p}:α[n]?=some p->aD K g α H (.ref n) (.ref p)
 | tup {ds p vs}:H p=some (.tup vs)->av K g α H ds vs->aD K g α H (.tup ds) (.ref p)
 | frl {ds p vs}:Fr1 H p vs->av K g α H ds vs->aD K g α H (.frl ds) (.ref p)
 | scr {ds p vs}:Fro K H p vs->av K g α H ds vs->aD K g α H (.scr ds) (.ref p)
 | fn {x f}:g x=some f->aD K g α H (.fn x) (.ref f)
 | edic {p o}:H p=some (.frz o (.dK []))->aD K g α H .edic (.ref p)
 | exc {c C p o fs}:g c=some C->H p=some (AtO p o)->o.cls=.ref C->(∃vs,o.data=.fields vs)->XFs H o.dict fs->aD K g α H (.exc c fs) (.ref p)
inductive av (K:PySem.W.Frag) (g:Str->Option Addr) (α:List Addr) (H:Hp):List D->List V->Prop where
 | nil:av K g α H [] []
 | cons {d v ds vs}:aD K g α H d v->av K g α H ds vs->av K g α H (d::ds) (v::vs)
end
structure Ex0 (K:PySem.W.Frag) (α:List Addr) (H:Hp) (α':List Addr) (H':Hp):Prop where
 pre:α <+: α'
 tup:∀(p:Addr) (xs:List V),H p=some (.tup xs)->H' p=some (.tup xs)
 frz:∀(p:Addr) (o:Obj) (u:HO),H p=some (.frz o u)->H' p=some (.frz o u)
theorem Ex0.fro {K:PySem.W.Frag} {α α':List Addr} {H H':Hp} (e:Ex0 K α H α' H') (p:Addr) (xs:List V) (h:Fro K H p xs):Fro K H' p xs:=by
 rcases h with⟨o,h⟩ | h
 ·exact .inl ⟨o,e.frz _ _ _ h⟩
 ·exact .inr h
theorem Ex0.fr1 {K:PySem.W.Frag} {α α':List Addr} {H H':Hp} (e:Ex0 K α H α' H') (p:Addr) (xs:List V) (h:Fr1 H p xs):Fr1 H' p xs:=let ⟨o,h⟩:=h;⟨o,e.frz _ _ _ h⟩
structure Ext (K:PySem.W.Frag) (α:List Addr) (H:Hp) (α':List Addr) (H':Hp):Prop extends Ex0 K α H α' H' where
 keep:∀p o,H p=some o->p∉α->H' p=some o
 new:∀p,p∈α'->p∉α->H p=none
section
variable {K:PySem.W.Frag} {g:Str->Option Addr} {α α' α'':List Addr} {H H' H'':Hp}
theorem Ex0.refl:Ex0 K α H α H:=⟨List.prefix_refl _,fun _ _ h=>h,fun _ _ _ h=>h⟩
theorem Ex0.trans (a:Ex0 K α H α' H') (b:Ex0 K α' H' α'' H''):Ex0 K α H α'' H'':=⟨a.pre.trans b.pre,fun p xs h=>b.tup p xs (a.tup p xs h),fun p o u h=>b.frz p o u (a.frz p o u h)⟩
theorem Ext.refl:Ext K α H α H:=⟨.refl,fun _ _ h _=>h,fun _ h n=>absurd h n⟩
theorem Ext.trans (a:Ext K α H α' H') (b:Ext K α' H' α'' H''):Ext K α H α'' H'':=⟨a.toEx0.trans b.toEx0,fun p o h n=>b.keep p o (a.keep p o h n) (fun z=>by rw[a.new p z n] at h;cases h),fun p z n=>by
  by_cases q:p∈α'
  ·exact a.new p q n
  ·have:=b.new p z q
   cases e:H p with
   | none=>rfl
   | some o=>rw[a.keep p o e n] at this;cases this⟩
theorem Ex0.get (e:Ex0 K α H α' H') {n:Nat} {p:Addr} (h:α[n]?=some p):α'[n]?=some p:=by
 obtain⟨t,rfl⟩:=e.pre
 have hl:n<α.length:=by
  by_cases hl:n<α.length
  ·exact hl
  ·rw[List.getElem?_eq_none (by omega)] at h;cases h
 rw[List.getElem?_append_left hl];exact h
mutual
theorem aD.ex0 (e:Ex0 K α H α' H'):∀{d:D} {v:V},aD K g α H d v->aD K g α' H' d v
 | _,_,.non=>.non
 | _,_,.bl b=>.bl b
 | _,_,.int i=>.int i
 | _,_,.str x=>.str x
 | _,_,.ref h=>.ref (e.get h)
 | _,_,.tup h r=>.tup (e.tup _ _ h) (av.ex0 e r)
 | _,_,.frl h r=>.frl (e.fr1 _ _ h) (av.ex0 e r)
 | _,_,.scr h r=>.scr (e.fro _ _ h) (av.ex0 e r)
 | _,_,.fn h=>.fn h
 | _,_,.edic h=>.edic (e.frz _ _ _ h)
 | _,_,.exc hg h hc hd hf=>.exc hg (e.frz _ _ _ h) hc hd (hf.elim .inl fun⟨dx,od,a,b⟩=>.inr ⟨dx,od,a,e.frz _ _ _ b⟩)
theorem av.ex0 (e:Ex0 K α H α' H'):∀{ds:List D} {vs:List V},av K g α H ds vs->av K g α' H' ds vs
 | _,_,.nil=>.nil
 | _,_,.cons r t=>.cons (aD.ex0 e r) (av.ex0 e t)
end
theorem aD.ext (e:Ext K α H α' H') {d:D} {v:V} (r:aD K g α H d v):aD K g α' H' d v:=r.ex0 e.toEx0
theorem av.ext (e:Ext K α H α' H') {d:List D} {v:List V} (r:av K g α H d v):av K g α' H' d v:=r.ex0 e.toEx0
theorem av.length:∀{ds:List D} {vs:List V},av K g α H ds vs->ds.length=vs.length
 | _,_,.nil=>rfl
 | _,_,.cons _ t=>by simp[av.length t]
theorem av.append:∀{ds es:List D} {vs us:List V},av K g α H ds vs->av K g α H es us->av K g α H (ds++es) (vs++us)
 | _,_,_,_,.nil,s=>s
 | _,_,_,_,.cons r t,s=>.cons r (av.append t s)
theorem av.get:∀{ds:List D} {vs:List V} {i:Nat} {d:D},av K g α H ds vs->ds[i]?=some d->∃v,vs[i]?=some v/\aD K g α H d v
 | _,_,_,_,.nil,e=>by simp at e
 | _,_,0,_,.cons r _,e=>by simp at e;subst e;exact⟨_,rfl,r⟩
 | _,_,i+1,d,.cons _ t,e=>by
  obtain⟨u,h1,h2⟩:=av.get (i:=i) (d:=d) t (by simpa using e)
  exact⟨u,by simpa using h1,h2⟩
theorem av.set {d:D} {v:V} (r:aD K g α H d v):∀{ds:List D} {vs:List V} (i:Nat),av K g α H ds vs->av K g α H (ds.set i d) (vs.set i v)
 | _,_,_,.nil=>.nil
 | _,_,0,.cons _ t=>.cons r t
 | _,_,i+1,.cons q t=>.cons q (av.set r i t)
theorem av.take:∀{ds:List D} {vs:List V} (n:Nat),av K g α H ds vs->av K g α H (ds.take n) (vs.take n)
 | _,_,0,_=>.nil
 | _,_,_+1,.nil=>.nil
 | _,_,n+1,.cons r t=>.cons r (av.take n t)
theorem av.drop:∀{ds:List D} {vs:List V} (n:Nat),av K g α H ds vs->av K g α H (ds.drop n) (vs.drop n)
 | _,_,0,r=>r
 | _,_,_+1,.nil=>.nil
 | _,_,n+1,.cons _ t=>av.drop n t
theorem av.rev:∀{ds:List D} {vs:List V},av K g α H ds vs->av K g α H ds.reverse vs.reverse
 | _,_,.nil=>.nil
 | _,_,.cons r t=>by simp only[List.reverse_cons];exact(av.rev t).append (.cons r .nil)
theorem av.ints (ns:List Int):av K g α H (ns.map D.int) (ns.map V.int):=by
 induction ns with
 | nil=>exact .nil
 | cons n r ih=>exact .cons (.int n) ih
theorem av.BB:∀{ns:List Int} {vs:List V},av K g α H (ns.map D.int) vs->vs=ns.map V.int
 | [],_,.nil=>rfl
 | n::r,_,.cons (.int _) t=>by rw[av.BB t];rfl
theorem av.flat {ds:List D} {vs:List V} (r:av K g α H ds vs):∀k,av K g α H (List.replicate k ds).flatten (List.replicate k vs).flatten
 | 0=>.nil
 | k+1=>by rw[List.replicate_succ,List.replicate_succ,List.flatten_cons,List.flatten_cons];exact r.append (av.flat r k)
end
noncomputable def OAt (K:PySem.W.Frag) (g:Str->Option Addr) (α:List Addr) (H:Hp) (p:Addr):O->Prop
 | .lst ds=>∃vs,H p=some (.lst vs)/\av K g α H ds vs
 | .set ns=>H p=some (.set (fun k=>ns.any (· == k)) ns.length)
 | .dic kvs=>∃kws,H p=some (.dK kws)/\Paired (fun(a:Key × D) (b:Key × V)=>a.1=b.1/\aD K g α H a.2 b.2) kvs kws
 | .dit kvs=>∃kws,H p=some (.dT kws)/\Paired (fun(a:List Key × D) (b:List Key × V)=>a.1=b.1/\aD K g α H a.2 b.2) kvs kws
structure aW (K:PySem.W.Frag) (g:Str->Option Addr) (α:List Addr) (H:Hp) (h:Hh):Prop where
 len:α.length=h.length
 inj:∀(n m:Nat) (p:Addr),α[n]?=some p->α[m]?=some p->n=m
 here:∀(n:Nat) (p:Addr) (o:O),α[n]?=some p->h[n]?=some o->OAt K g α H p o
section
variable {K:PySem.W.Frag} {g:Str->Option Addr} {α α':List Addr} {H H':Hp} {h:Hh}
theorem Paired.Fs {kvs:List (Key × D)} {kws:List (Key × V)} (e:Ex0 K α H α' H') (r:Paired (fun(a:Key × D) (b:Key × V)=>a.1=b.1/\aD K g α H a.2 b.2) kvs kws) :
  Paired (fun(a:Key × D) (b:Key × V)=>a.1=b.1/\aD K g α' H' a.2 b.2) kvs kws:=L2.Paired.A1 r fun _ _ q=>⟨q.1,q.2.ex0 e⟩
theorem Paired.FA {kvs:List (List Key × D)} {kws:List (List Key × V)} (e:Ex0 K α H α' H') (r:Paired (fun(a:List Key × D) (b:List Key × V)=>a.1=b.1/\aD K g α H a.2 b.2) kvs kws) :
  Paired (fun(a:List Key × D) (b:List Key × V)=>a.1=b.1/\aD K g α' H' a.2 b.2) kvs kws:=L2.Paired.A1 r fun _ _ q=>⟨q.1,q.2.ex0 e⟩
theorem OAt.isS {p:Addr} {o:O} (h:OAt K g α H p o):∃u,H p=some u/\(∀ys,u≠.tup ys)/\∀w ys,u≠.frz w ys:=by
 cases o with
 | lst ds=>obtain⟨vs,e,_⟩:=h;exact⟨_,e,fun _ z=>(nomatch z),fun _ _ z=>nomatch z⟩
 | set n=>exact⟨_,h,fun _ z=>(nomatch z),fun _ _ z=>nomatch z⟩
 | dic kvs=>obtain⟨vs,e,_⟩:=h;exact⟨_,e,fun _ z=>(nomatch z),fun _ _ z=>nomatch z⟩
 | dit kvs=>obtain⟨vs,e,_⟩:=h;exact⟨_,e,fun _ z=>(nomatch z),fun _ _ z=>nomatch z⟩
theorem aW.mem (r:aW K g α H h) {p:Addr} (hp:p∈α):∃u,H p=some u/\(∀ys,u≠.tup ys)/\∀w ys,u≠.frz w ys:=by
 obtain⟨n,hn,e⟩:=List.getElem_of_mem hp
 have hn':n<h.length:=by rw[<- r.len];exact hn
 exact(r.here n p _ (by rw[List.getElem?_eq_getElem hn,e]) (List.getElem?_eq_getElem hn')).isS
theorem OAt.ex0 {p:Addr} {o:O} (e:Ex0 K α H α' H') (h:OAt K g α H p o) (k:∀u,H p=some u->H' p=some u):OAt K g α' H' p o:=by
 cases o with
 | lst ds=>obtain⟨vs,a,r⟩:=h;exact⟨vs,k _ a,r.ex0 e⟩
 | set n=>exact k _ h
 | dic kvs=>obtain⟨kws,a,r⟩:=h;exact⟨kws,k _ a,Paired.Fs e r⟩
 | dit kvs=>obtain⟨kws,a,r⟩:=h;exact⟨kws,k _ a,Paired.FA e r⟩
noncomputable def yw (H:Hp) (p:Addr):Prop:=H p=none\/∃u,H p=some u/\(∀ys,u≠.tup ys)/\∀w ys,u≠.frz w ys
theorem Ex0.upd {p:Addr} {o:HO} (n:yw H p):Ex0 K α H α (upd H p o):=by
 have ne:∀q u,H q=some u->((∃ys,u=.tup ys)\/∃w ys,u=.frz w ys)->q≠p:=by
  rintro q u e z rfl
  rcases n with n | ⟨u',e',n1,n2⟩
  ·rw[e] at n;cases n
  ·rw[e] at e';cases e'
   rcases z with⟨ys,z⟩ | ⟨w,ys,z⟩
   ·exact n1 _ z
   ·exact n2 _ _ z
 refine⟨List.prefix_refl _,fun q xs h=>?_,fun q o u h=>?_⟩
 ·rw[aA (ne q _ h (.inl ⟨_,rfl⟩))];exact h
 ·rw[aA (ne q _ h (.inr ⟨_,_,rfl⟩))];exact h
theorem Ex0.more (e:Ex0 K α H α H') (l:List Addr):Ex0 K α H (α++l) H':=⟨List.prefix_append _ _,e.tup,e.frz⟩
theorem Ext.fresh {p:Addr} {o:HO} (n:H p=none):Ext K α H α (upd H p o):=⟨Ex0.upd (.inl n),fun q u h _=>by rw[aA (aP h n)];exact h,fun _ z m=>absurd z m⟩
theorem Ext.push {p:Addr} {o:HO} (n:H p=none):Ext K α H (α++[p]) (upd H p o):=⟨(Ex0.upd (.inl n)).more _,fun q u h _=>by rw[aA (aP h n)];exact h,fun q z m=>by
 rcases List.mem_append.mp z with z | z
 ·exact absurd z m
 ·rw[List.mem_singleton.mp z];exact n⟩
theorem aW.off {p:Addr} {o:HO} (r:aW K g α H h) (n:yw H p) (m:p∉α):aW K g α (upd H p o) h:=by
 refine⟨r.len,r.inj,fun k q u a b=>(r.here k q u a b).ex0 (Ex0.upd n) fun w e=>?_⟩
 rw[aA];exact e
 rintro rfl;exact m (List.mem_of_getElem? a)
theorem aW.free (r:aW K g α H h) {p:Addr} (n:H p=none):p∉α:=fun z=>by
 obtain⟨u,e,_⟩:=r.mem z
 rw[n] at e;cases e
theorem aW.grow {p:Addr} {o:HO} (r:aW K g α H h) (n:H p=none):aW K g α (upd H p o) h:=r.off (.inl n) (r.free n)
theorem aW.adopt {p:Addr} {u:O} (r:aW K g α H h) (n:p∉α) (a:OAt K g (α++[p]) H p u):aW K g (α++[p]) H (h++[u]):=by
 have old:∀{m:Nat} {q:Addr},(α++[p])[m]?=some q->(α[m]?=some q)\/(m=α.length/\q=p):=by
  intro m q h1
  by_cases hm:m<α.length
  ·rw[List.getElem?_append_left hm] at h1
   exact .inl h1
  ·have hl:m<(α++[p]).length:=by
    by_cases hl:m<(α++[p]).length
    ·exact hl
    ·rw[List.getElem?_eq_none (by omega)] at h1;cases h1
   have e:m=α.length:=by simp at hl;omega
   subst e
   rw[List.getElem?_append_right (Nat.le_refl _)] at h1
   simp at h1
   exact .inr ⟨rfl,h1.symm⟩
 refine⟨by simp[r.len],fun m k q h1 h2=>?_,fun m q w h1 h2=>?_⟩
 ·rcases old h1 with a1 | ⟨e1,e2⟩
  ·rcases old h2 with a2 | ⟨e3,e4⟩
   ·exact r.inj m k q a1 a2
   ·rw[e4] at a1;exact absurd (List.mem_of_getElem? a1) n
  ·rcases old h2 with a2 | ⟨e3,e4⟩
   ·rw[e2] at a2;exact absurd (List.mem_of_getElem? a2) n
   ·rw[e1,e3]
 ·rcases old h1 with a1 | ⟨e1,e2⟩
  ·have hm:m<α.length:=by
    by_cases hl:m<α.length
    ·exact hl
    ·rw[List.getElem?_eq_none (by omega)] at a1;cases a1
   rw[List.getElem?_append_left (by rw[<- r.len];exact hm)] at h2
   exact(r.here m q w a1 h2).ex0 (Ex0.refl.more _) fun _ z=>z
  ·subst e1 e2
   rw[r.len,List.getElem?_append_right (Nat.le_refl _)] at h2
   simp at h2
   subst h2
   exact a
theorem aW.push {p:Addr} {o:HO} {u:O} (r:aW K g α H h) (n:H p=none) (a:OAt K g (α++[p]) (upd H p o) p u):aW K g (α++[p]) (upd H p o) (h++[u]):=(r.grow n).adopt (r.free n) a
theorem Ext.write {p:Addr} {o:HO} {k:Nat} (r:aW K g α H h) (hk:α[k]?=some p):Ext K α H α (upd H p o):=
 ⟨Ex0.upd (.inr (r.mem (List.mem_of_getElem? hk))),fun q u h m=>by
  rw[aA];exact h
  rintro rfl;exact m (List.mem_of_getElem? hk),fun _ z m=>absurd z m⟩
theorem aW.write {p:Addr} {o:HO} {u':O} {k:Nat} (r:aW K g α H h) (hk:α[k]?=some p) (a:OAt K g α (upd H p o) p u'):aW K g α (upd H p o) (h.set k u'):=by
 have x:Ext K α H α (upd H p o):=Ext.write r hk
 refine⟨by simp[r.len],r.inj,fun m q w h1 h2=>?_⟩
 rw[List.getElem?_set] at h2
 by_cases hm:k=m
 ·subst hm
  rw[if_pos rfl] at h2
  split at h2
  ·cases h2;rw[h1] at hk;cases hk;exact a
  ·cases h2
 ·rw[if_neg hm] at h2
  refine(r.here m q w h1 h2).ex0 x.toEx0 fun z e=>?_
  rw[aA];exact e
  rintro rfl;exact hm (r.inj _ _ _ hk h1)
end
noncomputable abbrev GG:=Str->Option Addr
noncomputable abbrev EE:=List Addr->Hp->Xc->Prop
structure iB (K:PySem.W.Frag) (g:GG) (α:List Addr) (H:Hp) (env:En) (σ:St):Prop where
 len:env.length=σ.length
 vars:∀(i:Nat) (d:D),env[i]?=some (some d)->∃v,σ[i]?=some (some v)/\aD K g α H d v
structure cY (K:PySem.W.Frag) (g:GG) (α:List Addr) (H:Hp) (env:En) (σ:St) (h:Hh):Prop where
 heap:aW K g α H h
 vs:iB K g α H env σ
noncomputable def WQ (K:PySem.W.Frag) (g:GG) (ε:EE) (α:List Addr) (H:Hp) {β:Type} (r:R β) (k:β->Hh->Prop):Prop:=match r with
 | .ok b h=>k b h
 | .err x h=>∀α' H',Ext K α H α' H'->aW K g α' H' h->ε α' H' x
 | .bad=>False
section
variable {K:PySem.W.Frag} {g:GG} {ε:EE} {α α':List Addr} {H H':Hp} {β γ:Type}
theorem WQ.bind {r:R β} {f:β->Hh->R γ} {k:γ->Hh->Prop} (w:WQ K g ε α H (r.bind f) k):WQ K g ε α H r fun b h=>WQ K g ε α H (f b h) k:=by
 cases r<;>exact w
theorem WQ.ext {r:R β} {k:β->Hh->Prop} (e:Ext K α H α' H') (w:WQ K g ε α H r k):WQ K g ε α' H' r k:=by
 cases r with
 | ok b h=>exact w
 | err x h=>exact fun a b c d=>w a b (e.trans c) d
 | bad=>exact w
theorem WQ.mono {r:R β} {k k':β->Hh->Prop} (w:WQ K g ε α H r k) (m:∀b h,r=.ok b h->k b h->k' b h):WQ K g ε α H r k':=by
 cases r with
 | ok b h=>exact m b h rfl w
 | err x h=>exact w
 | bad=>exact w
theorem iB.ext {env:En} {σ:St} (v:iB K g α H env σ) (e:Ext K α H α' H'):iB K g α' H' env σ:=
 ⟨v.len,fun i d h=>let ⟨x,a,b⟩:=v.vars i d h;⟨x,a,b.ext e⟩⟩
theorem cY.ext {env:En} {σ:St} {h h':Hh} (v:cY K g α H env σ h) (e:Ext K α H α' H') (r:aW K g α' H' h'):cY K g α' H' env σ h':=⟨r,v.vs.ext e⟩
theorem iB.set {env:En} {σ:St} {i:Nat} {d:D} {x:V} (v:iB K g α H env σ) (r:aD K g α H d x):iB K g α H (env.set i (some d)) (σ.set i (some x)):=by
 refine⟨by simp[v.len],fun j e h=>?_⟩
 rw[List.getElem?_set] at h ⊢
 by_cases hj:i=j
 ·subst hj
  rw[if_pos rfl] at h ⊢
  have hl:=v.len
  split at h
  ·rw[if_pos (by omega)]
   cases h
   exact⟨x,rfl,r⟩
  ·cases h
 ·rw[if_neg hj] at h ⊢
  exact v.vars j e h
end
noncomputable def aF (K:PySem.W.Frag) (g:GG) (α:List Addr) (H:Hp) (Q:VK):D->Hh->Prop:=fun d h=>∀v H' α',Ext K α H α' H'->aW K g α' H' h->aD K g α' H' d v->Q v H'
noncomputable def ku (K:PySem.W.Frag) (g:GG) (α:List Addr) (H:Hp) (Q:Bool->Hp->Prop):Bool->Hh->Prop:=fun b h=>∀H' α',Ext K α H α' H'->aW K g α' H' h->Q b H'
noncomputable def Ek (K:PySem.W.Frag) (g:GG) (α:List Addr) (H:Hp) (Q:List V->Hp->Prop):List D->Hh->Prop:=fun ds h=>∀vs H' α',Ext K α H α' H'->aW K g α' H' h->av K g α' H' ds vs->Q vs H'
noncomputable def cy (K:PySem.W.Frag) (g:GG) (α:List Addr) (H:Hp) (E:Ends):Fl->Hh->Prop:=fun fl h=>∀H' α',Ext K α H α' H'->aW K g α' H' h->match fl with
 | .nx e=>∀σ,iB K g α' H' e σ->E.nx σ H'
 | .bk e=>∀σ,iB K g α' H' e σ->E.bk σ H'
 | .ct e=>∀σ,iB K g α' H' e σ->E.ct σ H'
 | .rt d=>∀v,aD K g α' H' d v->E.rt v H'
noncomputable def tM (K:PySem.W.Frag) (g:GG) (ε:EE) (m:ME):TE:=fun σ H Q=>∃α env h,cY K g α H env σ h/\WQ K g ε α H (m env h) (aF K g α H Q)
noncomputable def tMT (K:PySem.W.Frag) (g:GG) (ε:EE) (m:MT):TT:=fun σ H Q=>∃α env h,cY K g α H env σ h/\WQ K g ε α H (m env h) (ku K g α H Q)
noncomputable def tMA (K:PySem.W.Frag) (g:GG) (ε:EE) (m:MA):TA:=fun σ H Q=>∃α env h,cY K g α H env σ h/\WQ K g ε α H (m env h) (Ek K g α H Q)
noncomputable def tMS (K:PySem.W.Frag) (g:GG) (ε:EE) (m:MS):TS:=fun E σ H=>∃α env h,cY K g α H env σ h/\WQ K g ε α H (m env h) (cy K g α H E)
section
variable {K:PySem.W.Frag} {g:GG} {ε:EE} {α α':List Addr} {H H':Hp} {env:En} {σ:St} {h:Hh}
theorem aF.ext {Q:VK} {d:D} (e:Ext K α H α' H') (p:aF K g α H Q d h):aF K g α' H' Q d h:=fun v H2 α2 e2 r rd=>p v H2 α2 (e.trans e2) r rd
theorem ku.ext {Q:Bool->Hp->Prop} {d:Bool} (e:Ext K α H α' H') (p:ku K g α H Q d h):ku K g α' H' Q d h:=fun H2 α2 e2 r=>p H2 α2 (e.trans e2) r
theorem cy.ext {E:Ends} {d:Fl} (e:Ext K α H α' H') (p:cy K g α H E d h):cy K g α' H' E d h:=fun H2 α2 e2 r=>p H2 α2 (e.trans e2) r
theorem WQ.post {Q:VK} {r:R D} (e:Ext K α H α' H') (w:WQ K g ε α H r (aF K g α H Q)):WQ K g ε α' H' r (aF K g α' H' Q):=(w.ext e).mono fun _ _ _ p=>p.ext e
theorem WQ.Ec {Q:Bool->Hp->Prop} {r:R Bool} (e:Ext K α H α' H') (w:WQ K g ε α H r (ku K g α H Q)):WQ K g ε α' H' r (ku K g α' H' Q):=(w.ext e).mono fun _ _ _ p=>p.ext e
theorem WQ.uZ {E:Ends} {r:R Fl} (e:Ext K α H α' H') (w:WQ K g ε α H r (cy K g α H E)):WQ K g ε α' H' r (cy K g α' H' E):=(w.ext e).mono fun _ _ _ p=>p.ext e
theorem tM.use {m:ME} {Q:VK} {k:D->Hh->Prop} (s:cY K g α H env σ h) (w:WQ K g ε α H (m env h) k)
  (q:∀d h' v H' α',Ext K α H α' H'->cY K g α' H' env σ h'->aD K g α' H' d v->k d h'->Q v H'):tM K g ε m σ H Q:=
 ⟨α,env,h,s,w.mono fun d h' _ kk v H' α' e r rd=>q d h' v H' α' e (s.ext e r) rd kk⟩
theorem tMT.use {m:MT} {Q:Bool->Hp->Prop} {k:Bool->Hh->Prop} (s:cY K g α H env σ h) (w:WQ K g ε α H (m env h) k)
  (q:∀d h' H' α',Ext K α H α' H'->cY K g α' H' env σ h'->k d h'->Q d H'):tMT K g ε m σ H Q:=
 ⟨α,env,h,s,w.mono fun d h' _ kk H' α' e r=>q d h' H' α' e (s.ext e r) kk⟩
theorem tMA.use {m:MA} {Q:List V->Hp->Prop} {k:List D->Hh->Prop} (s:cY K g α H env σ h) (w:WQ K g ε α H (m env h) k)
  (q:∀d h' v H' α',Ext K α H α' H'->cY K g α' H' env σ h'->av K g α' H' d v->k d h'->Q v H'):tMA K g ε m σ H Q:=
 ⟨α,env,h,s,w.mono fun d h' _ kk v H' α' e r rd=>q d h' v H' α' e (s.ext e r) rd kk⟩
theorem aF.now {Q:VK} {d:D} {v:V} (p:aF K g α H Q d h) (r:aW K g α H h) (rd:aD K g α H d v):Q v H:=p v H α Ext.refl r rd
end
theorem PE.imp {X:Cx} {e:Expr} {t t':TE} (h:PE X e t) (i:∀σ H Q,t' σ H Q->t σ H Q):PE X e t':=fun pins s σ H Q I w=>h pins s σ H Q I (i σ H Q w)
theorem PT.imp {X:Cx} {e:Expr} {t t':TT} (h:PT X e t) (i:∀σ H Q,t' σ H Q->t σ H Q):PT X e t':=fun pins s σ H Q I w=>h pins s σ H Q I (i σ H Q w)
theorem PW.imp {X:Cx} {e:Expr} {t t':TT} (h:PW X e t) (i:∀σ H Q,t' σ H Q->t σ H Q):PW X e t':=fun wh pins s σ H Q I w=>h wh pins s σ H Q I (i σ H Q w)
theorem PA.imp {X:Cx} {e:List Expr} {t t':TA} (h:PA X e t) (i:∀σ H Q,t' σ H Q->t σ H Q):PA X e t':=fun p pins s σ H Q I w=>h p pins s σ H Q I (i σ H Q w)
theorem PS.imp {X:Cx} {e:Stmt} {t t':TS} (h:PS X e t) (i:∀σ H Q,t' σ H Q->t σ H Q):PS X e t':=fun pins s σ H Q I w=>h pins s σ H Q I (i Q σ H w)
theorem PSs.imp {X:Cx} {e:List Stmt} {t t':TS} (h:PSs X e t) (i:∀σ H Q,t' σ H Q->t σ H Q):PSs X e t':=fun pins s σ H Q I w=>h pins s σ H Q I (i Q σ H w)
noncomputable def ah (i:Nat):ME:=fun env h=>match env[i]? with
 | some (some d)=>.ok d h
 | _=>.bad
noncomputable def cC (d:D):ME:=fun _ h=>.ok d h
noncomputable def aw (f:D->D->Hh->R D) (a b:ME):ME:=fun env h=>(a env h).bind fun x h1=>(b env h1).bind fun y h2=>f x y h2
noncomputable def cUn (f:D->Hh->R D) (a:ME):ME:=fun env h=>(a env h).bind fun x h1=>f x h1
noncomputable def ak:MA:=fun _ h=>.ok [] h
noncomputable def aa (a:ME) (r:MA):MA:=fun env h=>(a env h).bind fun x h1=>(r env h1).bind fun xs h2=>.ok (x::xs) h2
noncomputable def ag (f:List D->Hh->R D) (a:MA):ME:=fun env h=>(a env h).bind fun xs h1=>f xs h1
noncomputable def aE (f:D->Hh->R Bool) (a:ME):MT:=fun env h=>(a env h).bind fun x h1=>f x h1
noncomputable def bL (a:MT):MT:=fun env h=>(a env h).bind fun b h1=>.ok (!b) h1
noncomputable def oz (a b:MT):MT:=fun env h=>(a env h).bind fun x h1=>if x=true then b env h1 else .ok false h1
noncomputable def ir (a b:MT):MT:=fun env h=>(a env h).bind fun x h1=>if x=true then .ok true h1 else b env h1
noncomputable def cIf (c:MT) (a b:ME):ME:=fun env h=>(c env h).bind fun x h1=>if x=true then a env h1 else b env h1
noncomputable def asB:D->Hh->R Bool
 | .bl b,h=>.ok b h
 | _,_=>.bad
noncomputable def nQ (a b:ME):ME:=fun env h=>(a env h).bind fun x h1=>(asB x h1).bind fun k h2=>if k=true then b env h2 else .ok (.bl false) h2
noncomputable def uT (a:ME):ME:=fun env h=>(a env h).bind fun x h1=>(asB x h1).bind fun k h2=>.ok (.bl (!k)) h2
noncomputable def iy (f f':D->D->Hh->R D) (a b c:ME):ME:=fun env h=>(a env h).bind fun x h1=>(b env h1).bind fun y h2=>(f x y h2).bind fun z h3=>(asB z h3).bind fun k h4=>
 if k=true then (c env h4).bind fun w h5=>f' y w h5 else .ok (.bl false) h4
noncomputable def dq (K:PySem.W.Frag) (g:GG) (ε:EE) (f:D->D->Hh->R D) (r:R2):Prop:=
 ∀(α:List Addr) (H:Hp) (h:Hh) (a b:D) (x y:V) (Q:VK),aW K g α H h->aD K g α H a x->aD K g α H b y->WQ K g ε α H (f a b h) (aF K g α H Q)->r x y H Q
noncomputable def Ea (K:PySem.W.Frag) (g:GG) (ε:EE) (f:D->Hh->R D) (r:V->Hp->VK->Prop):Prop:=
 ∀(α:List Addr) (H:Hp) (h:Hh) (a:D) (x:V) (Q:VK),aW K g α H h->aD K g α H a x->WQ K g ε α H (f a h) (aF K g α H Q)->r x H Q
noncomputable def FD (K:PySem.W.Frag) (g:GG) (ε:EE) (f:D->Hh->R Bool) (r:V->Hp->(Bool->Hp->Prop)->Prop):Prop:=
 ∀(α:List Addr) (H:Hp) (h:Hh) (a:D) (x:V) (Q:Bool->Hp->Prop),aW K g α H h->aD K g α H a x->WQ K g ε α H (f a h) (ku K g α H Q)->r x H Q
noncomputable def jq (K:PySem.W.Frag) (g:GG) (ε:EE) (f:List D->Hh->R D) (r:List V->Hp->VK->Prop):Prop:=
 ∀(α:List Addr) (H:Hp) (h:Hh) (a:List D) (x:List V) (Q:VK),aW K g α H h->av K g α H a x->WQ K g ε α H (f a h) (aF K g α H Q)->r x H Q
noncomputable def AU (K:PySem.W.Frag) (g:GG) (ε:EE) (f:D->List D->Hh->R D) (r:V->List V->Hp->VK->Prop):Prop:=
 ∀(α:List Addr) (H:Hp) (h:Hh) (o:D) (a:List D) (y:V) (x:List V) (Q:VK),aW K g α H h->aD K g α H o y->av K g α H a x->WQ K g ε α H (f o a h) (aF K g α H Q)->r y x H Q
section
variable {X:Cx} {g:GG} {ε:EE} {a b c:Expr} {ma mb mc:ME} {pos:Pos}
theorem af (i:Nat) {x:Str} {pos:Pos} (hN:X.N[i]?=some x:=by rfl) (hv:Vis X.env.scope x:=by first | exact Or.inl rfl | exact Or.inr (Or.inl rfl) | exact Or.inr (Or.inr rfl)) (hd:(x == ("__debug__" : Str))=false:=by decide)
  (hcd:(x == ("__classdict__" : Str))=false:=by decide):PE X (.Name x pos) (tM X.K g ε (ah i)):=by
 refine PE.imp (ze hN hv hd hcd) fun σ H Q ⟨α,env,h,s,w⟩=>?_
 unfold ah at w
 cases e:env[i]? with
 | none=>rw[e] at w;exact w.elim
 | some d=>
  cases d with
  | none=>rw[e] at w;exact w.elim
  | some d=>
   rw[e] at w
   obtain⟨v,hv,rd⟩:=s.vs.vars i d e
   exact⟨v,hv,aF.now w s.heap rd⟩
theorem rJ {v:V} {d:D} {Q:VK} {σ:St} {H:Hp} (rd:∀α,aD X.K g α H d v) (t:tM X.K g ε (cC d) σ H Q):tC v σ H Q:=by
 obtain⟨α,env,h,s,w⟩:=t
 exact aF.now w s.heap (rd α)
theorem aq {i j pos}:PE X (.Constant (.int i) j pos) (tM X.K g ε (cC (.int i))):=PE.imp yf fun _ _ _ t=>rJ (fun _=>.int i) t
theorem cT {i j pos}:PE X (.Constant (.bool i) j pos) (tM X.K g ε (cC (.bl i))):=PE.imp D8 fun _ _ _ t=>rJ (fun _=>.bl i) t
theorem cV {i j pos}:PE X (.Constant (.str i) j pos) (tM X.K g ε (cC (.str i))):=PE.imp DB fun _ _ _ t=>rJ (fun _=>.str i) t
theorem pF {j pos}:PE X (.Constant .none j pos) (tM X.K g ε (cC .non)):=PE.imp CH fun _ _ _ t=>rJ (fun _=>.non) t
theorem mO {x:Str} {i:Int} {t:Tok} {pos:Pos} (hg:Gl X x) (hm:X.mg x=some (.int i t)) (hd:(x == ("__debug__" : Str))=false:=by decide):PE X (.Name x pos) (tM X.K g ε (cC (.int i))):=
 PE.imp (AS (v:=.int i) hg hm ⟨t,rfl⟩ hd) fun _ _ _ t=>rJ (fun _=>.int i) t
theorem qq {f:D->D->Hh->R D} {r:R2} {K:PySem.W.Frag} (im:dq K g ε f r) {σ:St} {H:Hp} {Q:VK} (t:tM K g ε (aw f ma mb) σ H Q):tOp r (tM K g ε ma) (tM K g ε mb) σ H Q:=by
 obtain⟨α,env,h,s,w⟩:=t
 refine tM.use s w.bind fun d1 h1 v1 H1 α1 e1 s1 r1 w1=>?_
 refine tM.use s1 (w1.ext e1).bind fun d2 h2 v2 H2 α2 e2 s2 r2 w2=>?_
 exact im α2 H2 h2 d1 d2 v1 v2 Q s2.heap (r1.ext e2) r2 ((w2.ext e2).mono fun _ _ _ p=>p.ext (e1.trans e2))
theorem aB {op:Operator} {r:R2} {f:D->D->Hh->R D} (ho:OpR X (binaryOp op) r) (im:dq X.K g ε f r) (ha:PE X a (tM X.K g ε ma)) (hb:PE X b (tM X.K g ε mb)):PE X (.BinOp a op b pos) (tM X.K g ε (aw f ma mb)):=
 PE.imp (E9 ho ha hb) fun _ _ _ t=>qq im t
theorem l9 {op:CmpOp} {r:R2} {f:D->D->Hh->R D} (ho:OpR X (compareOp op) r) (im:dq X.K g ε f r) (ha:PE X a (tM X.K g ε ma)) (hb:PE X b (tM X.K g ε mb)) (hm:behindInMarks op b=false):PE X (.Compare a [op] [b] pos) (tM X.K g ε (aw f ma mb)):=
 PE.imp (Ag ho ha hb hm) fun _ _ _ t=>qq im t
theorem rn {K:PySem.W.Frag} {m:ME} {t:TE} (ht:∀σ H Q,tM K g ε m σ H Q->t σ H Q) {σ:St} {H:Hp} {Q:Bool->Hp->Prop} (w:tMT K g ε (aE asB m) σ H Q):zd t σ H Q:=by
 obtain⟨α,env,h,s,w⟩:=w
 refine ht _ _ _ (tM.use s w.bind fun d1 h1 v1 H1 α1 e1 s1 r1 w1=>?_)
 unfold asB at w1
 cases r1 with
 | bl k=>exact⟨k,rfl,w1 H1 α1 e1 s1.heap⟩
 | _=>exact w1.elim
theorem cp {op:CmpOp} {r:R2} {f:D->D->Hh->R D} (ho:OpR X (compareOp op) r) (im:dq X.K g ε f r) (ha:PE X a (tM X.K g ε ma)) (hb:PE X b (tM X.K g ε mb)) (hm:behindInMarks op b=false):PT X (.Compare a [op] [b] pos) (tMT X.K g ε (aE asB (aw f ma mb))):=
 PT.imp (Be ho ha hb hm) fun _ _ _ t=>rn (fun _ _ _ u=>qq im u) t
theorem oF {f f':D->D->Hh->R D} {r r':R2} {K:PySem.W.Frag} (im:dq K g ε f r) (im':dq K g ε f' r') {σ:St} {H:Hp} {Q:VK} (t:tM K g ε (iy f f' ma mb mc) σ H Q):t6 r r' (tM K g ε ma) (tM K g ε mb) (tM K g ε mc) σ H Q:=by
 obtain⟨α,env,h,s,w⟩:=t
 refine tM.use s w.bind fun d1 h1 v1 H1 α1 e1 s1 r1 w1=>?_
 refine tM.use s1 (w1.ext e1).bind fun d2 h2 v2 H2 α2 e2 s2 r2 w2=>?_
 refine im α2 H2 h2 d1 d2 v1 v2 _ s2.heap (r1.ext e2) r2 ((w2.ext e2).bind.mono fun z h3 _ w3 v3 H3 α3 e3 hr3 r3=>?_)
 have w4:=w3.bind
 unfold asB at w4
 cases r3 with
 | bl k=>
  refine⟨k,rfl,?_⟩
  have s3:=s2.ext e3 hr3
  cases k with
  | true=>
   have w5:WQ K g ε α2 H2 ((mc env h3).bind fun w h5=>f' d2 w h5) _:=w4
   rw[if_pos rfl]
   refine tM.use s3 (w5.ext e3).bind fun d4 h4 v4 H4 α4 e4 s4 r4 w6=>?_
   exact im' α4 H4 h4 d2 d4 v2 v4 Q s4.heap (r2.ext (e3.trans e4)) r4 ((w6.ext e4).mono fun _ _ _ p=>p.ext (e1.trans (e2.trans (e3.trans e4))))
  | false=>
   rw[if_neg Bool.false_ne_true]
   have w5:aF K g α H Q (.bl false) h3:=w4
   exact w5 _ H3 α3 (e1.trans (e2.trans e3)) s3.heap (.bl false)
 | _=>exact w4.elim
theorem xQ {op op':CmpOp} {r r':R2} {f f':D->D->Hh->R D} (ho:OpR X (compareOp op) r) (ho':OpR X (compareOp op') r') (im:dq X.K g ε f r) (im':dq X.K g ε f' r') (ha:PE X a (tM X.K g ε ma)) (hb:PE X b (tM X.K g ε mb)) (hc:PE X c (tM X.K g ε mc))
  (hm:lastMarks [op,op'] [b,c]=false:=by with_unfolding_all rfl):PE X (.Compare a [op,op'] [b,c] pos) (tM X.K g ε (iy f f' ma mb mc)):=PE.imp (yR ho ho' ha hb hc hm) fun _ _ _ t=>oF im im' t
theorem xw {op op':CmpOp} {r r':R2} {f f':D->D->Hh->R D} (ho:OpR X (compareOp op) r) (ho':OpR X (compareOp op') r') (im:dq X.K g ε f r) (im':dq X.K g ε f' r') (ha:PE X a (tM X.K g ε ma)) (hb:PE X b (tM X.K g ε mb)) (hc:PE X c (tM X.K g ε mc))
  (hm:lastMarks [op,op'] [b,c]=false:=by with_unfolding_all rfl):PT X (.Compare a [op,op'] [b,c] pos) (tMT X.K g ε (aE asB (iy f f' ma mb mc))):=PT.imp (yJ ho ho' ha hb hc hm) fun _ _ _ t=>rn (fun _ _ _ u=>oF im im' u) t
theorem nY {op:UnaryOp} {r:V->Hp->VK->Prop} {f:D->Hh->R D} (ho:UnR X (unaryOp op) r) (im:Ea X.K g ε f r) (ha:PE X a (tM X.K g ε ma)):PE X (.UnaryOp op a pos) (tM X.K g ε (cUn f ma)):=
 PE.imp (BG ho ha) fun σ H Q ⟨α,env,h,s,w⟩=>tM.use s w.bind fun d1 h1 v1 H1 α1 e1 s1 r1 w1=>im α1 H1 h1 d1 v1 Q s1.heap r1 (w1.post e1)
theorem eR {r:R2} {f:D->D->Hh->R D} (hr:IxR X r) (im:dq X.K g ε f r) (ha:PE X a (tM X.K g ε ma)) (hb:PE X b (tM X.K g ε mb)) (hs:uK b):PE X (.Subscript a b pos) (tM X.K g ε (aw f ma mb)):=
 PE.imp (Eg hr ha hb hs) fun _ _ _ t=>qq im t
theorem bw {f:D->Hh->R Bool} (im:FD X.K g ε f (fun x H Q=>∃k,Bo X.K x H k/\Q k H)) (ha:PE X a (tM X.K g ε ma)) (he:∀whole,isTrue a X.env whole=(do let v ← whole;standAt a.pos;holding [v] (truthy v))):PT X a (tMT X.K g ε (aE f ma)):=
 PT.imp (xR ha he) fun σ H Q ⟨α,env,h,s,w⟩=>tM.use s w.bind fun d1 h1 v1 H1 α1 e1 s1 r1 w1=>im α1 H1 h1 d1 v1 Q s1.heap r1 (w1.Ec e1)
theorem cS {mt:MT} (ha:PT X a (tMT X.K g ε mt)):PT X (.UnaryOp .Not a pos) (tMT X.K g ε (bL mt)):=
 PT.imp (Cq ha) fun σ H Q ⟨α,env,h,s,w⟩=>tMT.use s w.bind fun d1 h1 H1 α1 e1 s1 w1=>w1 H1 α1 e1 s1.heap
end
section
variable {X:Cx} {g:GG} {ε:EE} {a b c e:Expr} {es:List Expr} {rest:List Expr} {ma mb mc me:ME} {mt mu:MT} {pos:Pos}
theorem uX (ha:PT X a (tMT X.K g ε mt)):PW X (.BoolOp .And [a] pos) (tMT X.K g ε mt):=pw_and1 ha
theorem iC (ha:PT X a (tMT X.K g ε mt)):PW X (.BoolOp .Or [a] pos) (tMT X.K g ε mt):=pw_or1 ha
theorem yL (ha:PT X a (tMT X.K g ε mt)) (hb:PW X (.BoolOp .And (b::rest) pos) (tMT X.K g ε mu)):PW X (.BoolOp .And (a::b::rest) pos) (tMT X.K g ε (oz mt mu)):=
 PW.imp (pw_and ha hb) fun σ H Q ⟨α,env,h,s,w⟩=>tMT.use s w.bind fun d1 h1 H1 α1 e1 s1 w1=>by
  cases d1 with
  | true=>rw[if_pos rfl] at w1 ⊢;exact tMT.use s1 (w1.ext e1) fun d2 h2 H2 α2 e2 s2 w2=>w2 H2 α2 (e1.trans e2) s2.heap
  | false=>rw[if_neg Bool.false_ne_true] at w1 ⊢;exact w1 H1 α1 e1 s1.heap
theorem lS (ha:PT X a (tMT X.K g ε mt)) (hb:PW X (.BoolOp .Or (b::rest) pos) (tMT X.K g ε mu)):PW X (.BoolOp .Or (a::b::rest) pos) (tMT X.K g ε (ir mt mu)):=
 PW.imp (pw_or ha hb) fun σ H Q ⟨α,env,h,s,w⟩=>tMT.use s w.bind fun d1 h1 H1 α1 e1 s1 w1=>by
  cases d1 with
  | true=>rw[if_pos rfl] at w1 ⊢;exact w1 H1 α1 e1 s1.heap
  | false=>rw[if_neg Bool.false_ne_true] at w1 ⊢;exact tMT.use s1 (w1.ext e1) fun d2 h2 H2 α2 e2 s2 w2=>w2 H2 α2 (e1.trans e2) s2.heap
theorem k7 (hc:PT X c (tMT X.K g ε mt)) (ha:PE X a (tM X.K g ε ma)) (hb:PE X b (tM X.K g ε mb)):PE X (.IfExp c a b pos) (tM X.K g ε (cIf mt ma mb)):=
 PE.imp (yS hc ha hb) fun σ H Q ⟨α,env,h,s,w⟩=>tMT.use s w.bind fun d1 h1 H1 α1 e1 s1 w1=>by
  cases d1 with
  | true=>rw[if_pos rfl] at w1 ⊢;exact tM.use s1 (w1.ext e1) fun d2 h2 v2 H2 α2 e2 s2 r2 w2=>w2 v2 H2 α2 (e1.trans e2) s2.heap r2
  | false=>rw[if_neg Bool.false_ne_true] at w1 ⊢;exact tM.use s1 (w1.ext e1) fun d2 h2 v2 H2 α2 e2 s2 r2 w2=>w2 v2 H2 α2 (e1.trans e2) s2.heap r2
theorem oO {op} (h:PE X a (tM X.K g ε ma)):PE X (.BoolOp op [a] pos) (tM X.K g ε ma):=Ci h
theorem x8 {K:PySem.W.Frag} {α:List Addr} {H H1:Hp} {α1:List Addr} {d:D} {v:V} {h:Hh} {β:Type} {f:Bool->Hh->R β} {k:β->Hh->Prop} (r:aD K g α1 H1 d v) (w:WQ K g ε α H ((asB d h).bind f) k):∃b,v=.bl b/\d=.bl b/\WQ K g ε α H (f b h) k:=by
 cases r with
 | bl b=>exact⟨b,rfl,rfl,w⟩
 | _=>exact w.elim
theorem pL (ha:PE X a (tM X.K g ε ma)) (hb:PE X (.BoolOp .And (b::rest) pos) (tM X.K g ε mb)):PE X (.BoolOp .And (a::b::rest) pos) (tM X.K g ε (nQ ma mb)):=
 PE.imp (B9 ha hb) fun σ H Q ⟨α,env,h,s,w⟩=>tM.use s w.bind fun d1 h1 v1 H1 α1 e1 s1 r1 w1=>by
  obtain⟨k,rfl,rfl,w2⟩:=x8 r1 w1
  refine⟨k,rfl,?_⟩
  cases k with
  | true=>rw[if_pos rfl] at w2 ⊢;exact tM.use s1 (w2.ext e1) fun d2 h2 v2 H2 α2 e2 s2 r2 w2=>w2 v2 H2 α2 (e1.trans e2) s2.heap r2
  | false=>rw[if_neg Bool.false_ne_true] at w2 ⊢;exact w2 _ H1 α1 e1 s1.heap (.bl false)
theorem yX (ha:PE X a (tM X.K g ε ma)):PE X (.UnaryOp .Not a pos) (tM X.K g ε (uT ma)):=
 PE.imp (CY ha) fun σ H Q ⟨α,env,h,s,w⟩=>tM.use s w.bind fun d1 h1 v1 H1 α1 e1 s1 r1 w1=>by
  obtain⟨k,rfl,rfl,w2⟩:=x8 r1 w1
  exact⟨k,rfl,w2 _ H1 α1 e1 s1.heap (.bl _)⟩
variable {mr:MA}
theorem aj:PA X [] (tMA X.K g ε ak):=PA.imp iF fun σ H Q ⟨α,env,h,s,w⟩=>w [] H α Ext.refl s.heap .nil
theorem ae (ha:PE X e (tM X.K g ε ma)) (hr:PA X es (tMA X.K g ε mr)) (hs:starEach (e::es) X.env=(false,eval e X.env)::starEach es X.env:=by rfl):PA X (e::es) (tMA X.K g ε (aa ma mr)):=
 PA.imp (dN ha hr hs) fun σ H Q ⟨α,env,h,s,w⟩=>tM.use s w.bind fun d1 h1 v1 H1 α1 e1 s1 r1 w1=>tMA.use s1 (w1.ext e1).bind fun d2 h2 v2 H2 α2 e2 s2 r2 w2=>w2 _ H2 α2 (e1.trans e2) s2.heap (.cons (r1.ext e2) r2)
noncomputable def bB:List D->Hh->R D:=fun ds h=>if ds.length<=1000000 then .ok (.tup ds) h else .bad
theorem aF.tup {K:PySem.W.Frag} {α:List Addr} {H:Hp} {h:Hh} {ds:List D} {vs:List V} {Q:VK} {p:Addr} (w:aF K g α H Q (.tup ds) h) (r:aW K g α H h) (rd:av K g α H ds vs) (n:H p=none):Q (.ref p) (upd H p (.tup vs)):=
 w _ _ α (Ext.fresh n) (r.grow n) (.tup aQ (rd.ext (Ext.fresh n)))
theorem WQ.dy {K:PySem.W.Frag} {α:List Addr} {H:Hp} {β:Type} {c:Prop} [Decidable c] {r:R β} {k:β->Hh->Prop} (w:WQ K g ε α H (if c then r else .bad) k):c/\WQ K g ε α H r k:=by
 by_cases h:c
 ·rw[if_pos h] at w;exact⟨h,w⟩
 ·rw[if_neg h] at w;exact w.elim
theorem eh {n:Nat} (h:n<=1000000):n<=sizeLine:=by rw[sizeLine_eq];omega
theorem bz {x1} (ha:PA X es (tMA X.K g ε mr)):PE X (.Tuple es x1 pos) (tM X.K g ε (ag bB mr)):=
 PE.imp (Dc ha) fun σ H Q ⟨α,env,h,s,w⟩=>tMA.use s w.bind fun d1 h1 v1 H1 α1 e1 s1 r1 w1=>by
  obtain⟨hl,w2⟩:=WQ.dy w1
  exact⟨eh (by rw[<- r1.length];exact hl),fun p hp=>aF.tup (aF.ext e1 w2) s1.heap r1 hp⟩
theorem sS {f:List D->Hh->R D} {r:List V->Hp->VK->Prop} {K:PySem.W.Frag} (im:jq K g ε f r) {σ:St} {H:Hp} {Q:VK} (t:tM K g ε (ag f mr) σ H Q):tCB r (tMA K g ε mr) σ H Q:=by
 obtain⟨α,env,h,s,w⟩:=t
 exact tMA.use s w.bind fun d1 h1 v1 H1 α1 e1 s1 r1 w1=>im α1 H1 h1 d1 v1 Q s1.heap r1 (w1.post e1)
theorem ba {id:String} {x:Str} {p:Pos} {f:List D->Hh->R D} {r:List V->Hp->VK->Prop} (hc:aR X (.builtin id) r) (im:jq X.K g ε f r) (hg:Gl X x) (hm:X.mg x=none) (hv:bootBuiltins x=some (.builtin id)) (ha:PA X (e::es) (tMA X.K g ε mr)) (hn:x≠"__name__" := by decide) (hdb:(x == ("__debug__" : Str))=false:=by decide)
  (he:starEach (e::es) X.env=(false,eval e X.env)::starEach es X.env:=by rfl) (hpl:(backTo pos (starEach es X.env)).any (·.1)=false:=by rfl):PE X (.Call (.Name x p) (e::es) [] pos) (tM X.K g ε (ag f mr)):=
 PE.imp (gT hc hg hm hv ha hn hdb he hpl) fun _ _ _ t=>sS im t
theorem b9 {id:String} {x:Str} {p:Pos} {f:List D->Hh->R D} {r:List V->Hp->VK->Prop} (hc:aR X (.type id) r) (im:jq X.K g ε f r) (hg:Gl X x) (hm:X.mg x=none) (hv:bootBuiltins x=some (.type id)) (ha:PA X (e::es) (tMA X.K g ε mr)) (hn:x≠"__name__" := by decide) (hdb:(x == ("__debug__" : Str))=false:=by decide)
  (he:starEach (e::es) X.env=(false,eval e X.env)::starEach es X.env:=by rfl) (hpl:(backTo pos (starEach es X.env)).any (·.1)=false:=by rfl):PE X (.Call (.Name x p) (e::es) [] pos) (tM X.K g ε (ag f mr)):=
 PE.imp (g9 hc hg hm hv ha hn hdb he hpl) fun _ _ _ t=>sS im t
end
noncomputable def br:MS:=fun env h=>.ok (.nx env) h
noncomputable def aG (a b:MS):MS:=fun env h=>(a env h).bind fun fl h1=>match fl with
 | .nx e=>b e h1
 | fl=>.ok fl h1
noncomputable def eY (a:ME):MS:=fun env h=>(a env h).bind fun _ h1=>.ok (.nx env) h1
noncomputable def bg (a:ME):MS:=fun env h=>(a env h).bind fun d h1=>.ok (.rt d) h1
noncomputable def cM (c:MT) (a b:MS):MS:=fun env h=>(c env h).bind fun x h1=>if x=true then a env h1 else b env h1
noncomputable def bh (i:Nat) (a:ME):MS:=fun env h=>(a env h).bind fun d h1=>.ok (.nx (env.set i (some d))) h1
noncomputable def wM (i j:Nat) (a:MA):MS:=fun env h=>(a env h).bind fun ds h1=>match ds with
 | [x,y]=>.ok (.nx ((env.set i (some x)).set j (some y))) h1
 | _=>.bad
noncomputable def Ah (i:Nat) (f:D->D->Hh->R D) (a:ME):MS:=fun env h=>(ah i env h).bind fun x h0=>(a env h0).bind fun y h1=>(f x y h1).bind fun z h2=>.ok (.nx (env.set i (some z))) h2
noncomputable def jG (f:D->D->D->Hh->R Unit) (o i v:ME):MS:=fun env h=>(v env h).bind fun x h1=>(o env h1).bind fun y h2=>(i env h2).bind fun z h3=>(f y z x h3).bind fun _ h4=>.ok (.nx env) h4
noncomputable def Hv:MS:=fun _ _=>.bad
section
variable {X:Cx} {g:GG} {ε:EE} {e:Expr} {me:ME} {ms mu:MS} {mt:MT} {st:Stmt} {rest:List Stmt} {pos:Pos}
theorem cY.nx {K:PySem.W.Frag} {α α':List Addr} {H H':Hp} {env:En} {σ:St} {h':Hh} {E:Ends} (s:cY K g α' H' env σ h') (e:Ext K α H α' H') (w:cy K g α H E (.nx env) h'):E.nx σ H':=w H' α' e s.heap σ s.vs
theorem bu:PSs X [] (tMS X.K g ε br):=PSs.imp AG fun E σ H ⟨α,env,h,s,w⟩=>s.nx Ext.refl w
theorem tMS.use {K:PySem.W.Frag} {α:List Addr} {H:Hp} {env:En} {σ:St} {h:Hh} {m:MS} {E:Ends} {k:Fl->Hh->Prop} (s:cY K g α H env σ h) (w:WQ K g ε α H (m env h) k)
  (q:∀fl h' H' α',Ext K α H α' H'->aW K g α' H' h'->k fl h'->match fl with
   | .nx e=>∀σ',cY K g α' H' e σ' h'->E.nx σ' H'
   | .bk e=>∀σ',cY K g α' H' e σ' h'->E.bk σ' H'
   | .ct e=>∀σ',cY K g α' H' e σ' h'->E.ct σ' H'
   | .rt d=>∀v,aD K g α' H' d v->E.rt v H'):tMS K g ε m E σ H:=
 ⟨α,env,h,s,w.mono fun fl h' _ kk H' α' e r=>by
  have:=q fl h' H' α' e r kk
  cases fl with
  | nx e=>exact fun σ' v=>this σ' ⟨r,v⟩
  | bk e=>exact fun σ' v=>this σ' ⟨r,v⟩
  | ct e=>exact fun σ' v=>this σ' ⟨r,v⟩
  | rt d=>exact this⟩
theorem ax (h1:PS X st (tMS X.K g ε ms)) (h2:PSs X rest (tMS X.K g ε mu)):PSs X (st::rest) (tMS X.K g ε (aG ms mu)):=
 PSs.imp (yM h1 h2) fun E σ H ⟨α,env,h,s,w⟩=>tMS.use s w.bind fun fl h' H' α' e r kk=>by
  cases fl with
  | nx env'=>exact fun σ' s'=>⟨α',env',h',s',WQ.uZ e kk⟩
  | bk env'=>exact fun σ' s'=>(show cy X.K g α H E (.bk env') h' from kk) H' α' e r σ' s'.vs
  | ct env'=>exact fun σ' s'=>(show cy X.K g α H E (.ct env') h' from kk) H' α' e r σ' s'.vs
  | rt d=>exact fun v rv=>(show cy X.K g α H E (.rt d) h' from kk) H' α' e r v rv
theorem aC (h1:PS X st (tMS X.K g ε ms)):PSs X [st] (tMS X.K g ε ms):=uM h1
theorem jN (he:PE X e (tM X.K g ε me)) (hs:swapsWith e none pos.line X.env=pure false:=by rfl):PS X (.Expr e pos) (tMS X.K g ε (eY me)):=
 PS.imp (Bd he hs) fun E σ H ⟨α,env,h,s,w⟩=>tM.use s w.bind fun d1 h1 v1 H1 α1 e1 s1 r1 w1=>s1.nx e1 w1
theorem bp (he:PE X e (tM X.K g ε me)):PS X (.Return (some e) pos) (tMS X.K g ε (bg me)):=
 PS.imp (xl he) fun E σ H ⟨α,env,h,s,w⟩=>tM.use s w.bind fun d1 h1 v1 H1 α1 e1 s1 r1 w1=>(show cy X.K g α H E (.rt d1) h1 from w1) H1 α1 e1 s1.heap v1 r1
theorem fB {c:Expr} {A B:List Stmt} (hc:PT X c (tMT X.K g ε mt)) (ha:PSs X A (tMS X.K g ε ms)) (hb:PSs X B (tMS X.K g ε mu)):PS X (.If c A B pos) (tMS X.K g ε (cM mt ms mu)):=
 PS.imp (EM hc ha hb) fun E σ H ⟨α,env,h,s,w⟩=>tMT.use s w.bind fun d1 h1 H1 α1 e1 s1 w1=>by
  cases d1 with
  | true=>rw[if_pos rfl] at w1 ⊢;exact⟨α1,env,h1,s1,WQ.uZ e1 w1⟩
  | false=>rw[if_neg Bool.false_ne_true] at w1 ⊢;exact⟨α1,env,h1,s1,WQ.uZ e1 w1⟩
theorem bQ {i:Nat} {x:Str} {pos':Pos} (hN:X.N.Nodup) (hi:X.N[i]?=some x) (hx:Loc X.env.scope x) (he:PE X e (tM X.K g ε me)) (hs:swapsWith e (some (.Name x pos')) pos.line X.env=pure false:=by rfl) (hf:X.fn x=true\/X.env.scope.names.lookup x=some .local:=by first | exact .inl rfl | exact .inr rfl | assumption) :
  PS X (.Assign [.Name x pos'] e pos) (tMS X.K g ε (bh i me)):=
 PS.imp (Cf hN hi hx he hs hf) fun E σ H ⟨α,env,h,s,w⟩=>tM.use s w.bind fun d1 h1 v1 H1 α1 e1 s1 r1 w1=>(show cy X.K g α H E (.nx (env.set i (some d1))) h1 from w1) H1 α1 e1 s1.heap _ (s1.vs.set r1)
theorem Fm {i j:Nat} {x y:Str} {a b:Expr} {ma:MA} {px py pt:Pos} {kt k2 pt2} (hc:X.calm=true) (hN:X.N.Nodup) (hi:X.N[i]?=some x) (hj:X.N[j]?=some y) (hij:i≠j)
  (hx:X.env.scope.names.lookup x=some .local) (hy:X.env.scope.names.lookup y=some .local) (ha:PA X [a,b] (tMA X.K g ε ma))
  (hw:swappedStores [.Tuple [.Name x px,.Name y py] kt pt] (.Tuple [a,b] k2 pt2) X.env=pure (some [x,y]))
  (hs:swapsWithSole [.Tuple [.Name x px,.Name y py] kt pt] (.Tuple [a,b] k2 pt2) pos.line X.env=pure false:=by rfl) :
  PS X (.Assign [.Tuple [.Name x px,.Name y py] kt pt] (.Tuple [a,b] k2 pt2) pos) (tMS X.K g ε (wM i j ma)):=
 PS.imp (DN hc hN hi hj hij hx hy ha hw hs) fun E σ H ⟨α,env,h,s,w⟩=>tMA.use s w.bind fun d1 h1 v1 H1 α1 e1 s1 r1 w1=>by
  cases r1 with
  | nil=>exact w1.elim
  | cons ra rr=>
   cases rr with
   | nil=>exact w1.elim
   | cons rb rr=>
    cases rr with
    | nil=>exact⟨_,_,rfl,(show cy X.K g α H E (.nx _) h1 from w1) H1 α1 e1 s1.heap _ ((s1.vs.set ra).set rb)⟩
    | cons _ _=>exact w1.elim
theorem FF {i:Nat} {x:Str} {op:Operator} {ti:TIp} {f:D->D->Hh->R D} {pos':Pos} (hN:X.N.Nodup) (hi:X.N[i]?=some x) (hx:Loc X.env.scope x) (he:PE X e (tM X.K g ε me)) (ho:PIp X op ti) (im:dq X.K g ε f ti) (hf:X.fn x=true\/X.env.scope.names.lookup x=some .local:=by first | exact .inl rfl | exact .inr rfl | assumption) :
  PS X (.AugAssign (.Name x pos') op e pos) (tMS X.K g ε (Ah i f me)):=
 PS.imp (B6 hN hi hx he ho hf) fun E σ H ⟨α,env,h,s,w⟩=>by
  have w0:=w.bind
  unfold ah at w0
  cases ei:env[i]? with
  | none=>rw[ei] at w0;exact w0.elim
  | some d=>
   cases d with
   | none=>rw[ei] at w0;exact w0.elim
   | some d=>
    rw[ei] at w0
    have w1:WQ X.K g ε α H ((me env h).bind _) _:=w0
    obtain⟨v,hv,rd⟩:=s.vs.vars i d ei
    refine⟨v,hv,tM.use s w1.bind fun d1 h1 v1 H1 α1 e1 s1 r1 w2=>?_⟩
    refine im α1 H1 h1 d d1 v v1 _ s1.heap (rd.ext e1) r1 ((w2.ext e1).bind.mono fun z h2 _ w3 v3 H3 α3 e3 hr3 r3=>?_)
    exact(show cy X.K g α H E (.nx _) h2 from w3) H3 α3 (e1.trans e3) hr3 _ ((s1.vs.ext e3).set r3)
noncomputable def Fd (K:PySem.W.Frag) (g:GG) (ε:EE) (f:D->D->D->Hh->R Unit) (t:xm):Prop:=
 ∀(α:List Addr) (H:Hp) (h:Hh) (o i v:D) (x y z:V) (Q:Hp->Prop),aW K g α H h->aD K g α H o x->aD K g α H i y->aD K g α H v z->WQ K g ε α H (f o i v h) (fun _ h'=>∀H' α',Ext K α H α' H'->aW K g α' H' h'->Q H')->t x y z H Q
theorem p_ {o i:Expr} {mo mi:ME} {t:xm} {f:D->D->D->Hh->R Unit} {p:Pos} (he:PE X e (tM X.K g ε me)) (ho:PE X o (tM X.K g ε mo)) (hi:PE X i (tM X.K g ε mi)) (hp:CU X t) (im:Fd X.K g ε f t)
  (ha:∀v,assign (.Subscript o i p) X.env v=(do
   let ov ← holding [v] (eval o X.env)
   let iv ← holding [v,ov] (eval i X.env)
   standAt p
   holding [v,ov,iv] (setItem ov iv v)
   release [v,ov,iv] []):=by intro _;rfl)
  (hs:swapsWithSole [.Subscript o i p] e pos.line X.env=pure false:=by rfl) (hw:swappedStores [.Subscript o i p] e X.env=pure none:=by rfl)
  (h1:(assignEach [.Subscript o i p] X.env).map (·.2)=[assign (.Subscript o i p) X.env]:=by rfl):PS X (.Assign [.Subscript o i p] e pos) (tMS X.K g ε (jG f mo mi me)):=
 PS.imp (DL he (Cs ho hi hp ha) hs hw h1) fun E σ H ⟨α,env,h,s,w⟩=>tM.use s w.bind fun d1 h1 v1 H1 α1 e1 s1 r1 w1=>tM.use s1 (w1.ext e1).bind fun d2 h2 v2 H2 α2 e2 s2 r2 w2=>tM.use s2 (w2.ext e2).bind fun d3 h3 v3 H3 α3 e3 s3 r3 w3=>by
  refine im α3 H3 h3 d2 d3 d1 v2 v3 v1 _ s3.heap (r2.ext e3) r3 ((r1.ext e2).ext e3) ((w3.ext e3).bind.mono fun _ h4 _ w4 H4 α4 e4 hr4=>?_)
  exact(show cy X.K g α H E (.nx env) h4 from w4) H4 α4 (e1.trans (e2.trans (e3.trans e4))) hr4 _ (s3.vs.ext e4)
end
theorem uA {X:Cx} {pins:List (Addr × Obj)} {σ:St} {H:Hp} {s:Shared} {p:Addr} {u:HO} (I:Inv X pins σ H s) (h:H p=some u) (mu:Mut (some u)):∃o,Inv X pins σ (upd H p (.frz o u)) s:=by
 obtain⟨o,ho⟩:∃o,s.heap.get? p=some o:=by
  have hl:=(I.hok p _ h).lt
  cases e:s.heap.get? p with
  | some o=>exact⟨o,rfl⟩
  | none=> 
   have q:=I.hok p _ h
   cases u with
   | lst xs=>obtain⟨_,_,_,_,e'⟩:=q;rw[e] at e';cases e'
   | dK kvs=>obtain⟨_,_,_,_,o,_,_,e',_⟩:=q;rw[e] at e';cases e'
   | dT kvs=>obtain⟨_,_,_,_,o,_,_,e',_⟩:=q;rw[e] at e';cases e'
   | set S n=>obtain⟨o,_,_,_,e',_⟩:=q;rw[e] at e';cases e'
   | ins C dx fs=>obtain⟨_,_,_,e',_⟩:=q;rw[e] at e';cases e'
   | ext φ=>obtain⟨_,⟨_,e'⟩,_⟩:=q;rw[e] at e';cases e'
   | _=>exact absurd mu (fun z=>z)
 have nt:∀b xs,H b=some (.tup xs)->b≠p:=fun b xs e z=>by subst z;rw[h] at e;cases e;exact mu
 have nf:∀b o u,H b=some (.frz o u)->b≠p:=fun b o u e z=>by subst z;rw[h] at e;cases e;exact mu
 have nb:∀b ps,H b=some (.tbl ps)->b≠p:=fun b ps e z=>by subst z;rw[h] at e;cases e;exact mu
 have no:∀b y,H b=some (.own y)->b≠p:=fun b ps e z=>by subst z;rw[h] at e;cases e;exact mu
 have hok:HOk X.prog X.w (upd H p (.frz o u)) s.heap:=fun b v q=>by
  by_cases hb:b=p
  ·subst hb
   rw[aQ] at q;cases q
   exact⟨ho,(I.hok b _ h).iS (fun _ _ _ z=>z) (fun c z=>by rw[aA (no c _ z)];exact z) fun c xs z=>by rw[aA (nt c xs z)];exact z⟩
  ·rw[aA hb] at q
   exact(I.hok b v q).iS (fun _ _ _ z=>z) (fun c z=>by rw[aA (no c _ z)];exact z) fun c xs z=>by rw[aA (nt c xs z)];exact z
 refine⟨o,?_⟩
 have np:∀b,H b=none->b≠p:=fun b e z=>by subst z;rw[h] at e;cases e
 have:=I.un (H':=upd H p (.frz o u)) (h':=s.heap) (t':=s.toks) ⟨fun b o q _ _ _=>q,fun b o q _ _ _=>⟨o.slots,q⟩,fun b v q n _=>(by rw[aA (np b n)];exact n),fun b o q _=>⟨o,q⟩,fun b xs q=>(by rw[aA (nt b xs q)];exact q),fun b o v q=>(by rw[aA (nf b o v q)];exact q),fun b ps q=>⟨#[],by rw[aA (nb b ps q),q];simp⟩⟩ hok
 exact this
noncomputable def f7 (Q:VK):VK:=fun v H=>Q v H\/∃p u,v=.ref p/\H p=some u/\Mut (some u)/\∀o,Q v (upd H p (.frz o u))
theorem EP.frz {X:Cx} {pins:List (Addr × Obj)} {σ:St} {Q:VK} {u:Value} {s':Shared} (h:EP X pins σ (f7 Q) u s'):EP X pins σ Q u s':=by
 obtain⟨v,H',I,r,q | ⟨p,u,rfl,e,m,q⟩⟩:=h
 ·exact⟨v,H',I,r,q⟩
 ·obtain⟨o,I'⟩:=uA I e m
  exact⟨_,_,I',r,q o⟩
theorem PE.frz {X:Cx} {e:Expr} {t:TE} (h:PE X e t):PE X e fun σ H Q=>t σ H (f7 Q):=fun pins s σ H Q I w=>thn (h pins s σ H _ I w) fun _ _ z=>EP.frz z
theorem OpR.frz {X:Cx} {f:Value->Value->Sem Value} {r:R2} (h:OpR X f r):OpR X f fun x y H Q=>r x y H (f7 Q):=fun pins s σ H x y v u Q I rx ry q=>thn (h pins s σ H x y v u _ I rx ry q) fun _ _ z=>EP.frz z
theorem aR.frz {X:Cx} {f:Value} {r:List V->Hp->VK->Prop} (h:aR X f r):aR X f fun xs H Q=>r xs H (f7 Q):=fun pins s σ H xs us Q I rx q=>thn (h pins s σ H xs us _ I rx q) fun _ _ z=>EP.frz z
noncomputable def Ei (D:Ends):Ends:={ D with nx:=fun σ H=>D.nx σ H\/∃p u,H p=some u/\Mut (some u)/\∀o,D.nx σ (upd H p (.frz o u)) }
theorem PS.frz {X:Cx} {st:Stmt} {t:TS} (h:PS X st t):PS X st fun E σ H=>t (Ei E) σ H:=fun pins s σ H E I w=>thn (h pins s σ H _ I w) fun fl s' z=>by
 cases fl with
 | next=>
  obtain⟨σ',H',I,q | ⟨p,u,e,m,q⟩⟩:=z
  ·exact⟨σ',H',I,q⟩
  ·obtain⟨o,I'⟩:=uA I e m
   exact⟨σ',_,I',q o⟩
 | brk=>exact z
 | cont=>exact z
 | ret u=>exact z
theorem zR {E:Ends} {σ:St} {i:Nat} {v:V} {H1:Hp} (z:f7 (fun v H1=>E.nx (σ.set i (some v)) H1) v H1):(Ei E).nx (σ.set i (some v)) H1:=by
 rcases z with z | ⟨p,u,_,e,m,q⟩
 ·exact .inl z
 ·exact .inr ⟨p,u,e,m,q⟩
noncomputable abbrev NL:=List D->Hh->R D
noncomputable def qx:NL:=fun ys h2=>.ok (.ref h2.length) (h2++[O.lst ys])
noncomputable def az:NL:=fun ys h2=>.ok (.frl ys) h2
class fQ (nl:NL):Prop where
 at':∀{K:PySem.W.Frag} {g:GG} {ε:EE} {α1 α2:List Addr} {H1 H2:Hp} {h:Hh} {as:List D} {ys:List V} {acc:Addr} {Q:D->Hh->Prop} {R:VK},WQ K g ε α1 H1 (nl as h) Q->(∀d h',Q d h'->aF K g α1 H1 R d h')->Ext K α1 H1 α2 H2->aW K g α2 H2 h->av K g α2 H2 as ys->H2 acc=some (.lst ys)->acc∉α2->H1 acc=none->f7 R (.ref acc) H2
instance:fQ qx where
 at':=fun{K g ε α1 α2 H1 H2 h as ys acc Q R} w hq x2 hr2 ra ha hna hacc=>by
  have x3:Ext K α1 H1 (α2++[acc]) H2:=⟨x2.toEx0.trans (Ex0.refl.more _),x2.keep,fun p z n=>by
   rcases List.mem_append.mp z with z | z
   ·exact x2.new p z n
   ·rw[List.mem_singleton.mp z];exact hacc⟩
  refine .inl (hq _ _ w _ H2 (α2++[acc]) x3 (hr2.adopt hna ⟨ys,ha,ra.ex0 (Ex0.refl.more _)⟩) (.ref ?_))
  rw[<- hr2.len,List.getElem?_append_right (Nat.le_refl _)];simp
instance:fQ az where
 at':=fun{K g ε α1 α2 H1 H2 h as ys acc Q R} w hq x2 hr2 ra ha hna hacc=>by
  refine .inr ⟨acc,_,rfl,ha,trivial,fun o=>?_⟩
  have soft:yw H2 acc:=.inr ⟨_,ha,fun _ z=>(nomatch z),fun _ _ z=>nomatch z⟩
  have x6:Ex0 K α2 H2 α2 (upd H2 acc (.frz o (.lst ys))):=Ex0.upd soft
  refine hq _ _ w _ _ α2 ⟨x2.toEx0.trans x6,fun p u z n=>?_,x2.new⟩ (hr2.off soft hna) (.frl ⟨o,aQ⟩ (ra.ex0 x6))
  rw[aA (aP z hacc)];exact x2.keep p u z n
theorem NL.post {nl:NL} [fQ nl] {K:PySem.W.Frag} {g:GG} {ε:EE} {α:List Addr} {H:Hp} {h:Hh} {ds:List D} {vs:List V} {Q:VK} {p:Addr} (w:WQ K g ε α H (nl ds h) (aF K g α H Q)) (r:aW K g α H h) (rd:av K g α H ds vs) (n:H p=none):f7 Q (.ref p) (upd H p (.lst vs)):=
 fQ.at' w (fun _ _ z=>z) (Ext.fresh n) (r.grow n) (rd.ext (Ext.fresh n)) aQ (r.free n) n
noncomputable def bK (nl:NL):List D->Hh->R D:=fun ds h=>if ds.length<=1000000 then nl ds h else .bad
theorem bq {X:Cx} {g:GG} {ε:EE} {es:List Expr} {mr:MA} {pos:Pos} {nl:NL} [fQ nl] (ha:PA X es (tMA X.K g ε mr)):PE X (.List es pos) (tM X.K g ε (ag (bK nl) mr)):=
 PE.imp (PE.frz (B2 ha)) fun σ H Q ⟨α,env,h,s,w⟩=>tMA.use s w.bind fun d1 h1 v1 H1 α1 e1 s1 r1 w1=>by
  obtain⟨hl,w2⟩:=WQ.dy w1
  exact⟨eh (by rw[<- r1.length];exact hl),fun p hp=>NL.post (w2.post e1) s1.heap r1 hp⟩
noncomputable def aI (h:Hh) (n:Nat):Option (List D):=match h[n]? with
 | some (.lst ds)=>some ds
 | _=>none
inductive Src where
 | snap (ds:List D)
 | live (n:Nat)
 | liveE (n:Nat)
noncomputable abbrev MI:=En->Hh->R Src
noncomputable abbrev Rdr:=Hh->Nat->Option (Option D)
noncomputable def Src.rdr:Src->Rdr
 | .snap ds=>fun _ i=>some ds[i]?
 | .live n=>fun h i=>(aI h n).map fun ds=>ds[i]?
 | .liveE n=>fun h i=>(aI h n).map fun ds=>(ds[i]?).map fun d=>D.tup [.int i,d]
noncomputable def Src.fuel (s:Src) (h:Hh):Nat:=match s with
 | .snap ds=>ds.length
 | .live n=>((aI h n).getD []).length
 | .liveE n=>((aI h n).getD []).length
noncomputable def Reads (K:PySem.W.Frag) (g:GG) (J:It) (rd:Rdr) (α₀:List Addr) (aO:Hp):Prop:=
 ∀(α:List Addr) (H:Hp) (h:Hh),Ext K α₀ aO α H->aW K g α H h->∀i,match rd h i with
  | none=>True
  | some none=>J.stop i H
  | some (some d)=>J.go i H/\∀x H',J.yld i H x H'->∃α',Ext K α H α' H'/\aW K g α' H' h/\aD K g α' H' d x
noncomputable def tMI (K:PySem.W.Frag) (g:GG) (ε:EE) (m:MI):TI:=fun σ H T=>∃α env h,cY K g α H env σ h/\WQ K g ε α H (m env h) fun sr h'=>∀J H' α',Ext K α H α' H'->aW K g α' H' h'->Reads K g J sr.rdr α' H'->T J H'
theorem PI.imp {X:Cx} {tg e:Expr} {t t':TI} (h:PI X tg e t) (i:∀σ H Q,t' σ H Q->t σ H Q):PI X tg e t':=fun pins s σ H Q I w=>h pins s σ H Q I (i σ H Q w)
noncomputable def j6 (rd:Rdr) (tg:D->En->Hh->R En) (body:MS):Nat->Nat->En->Hh->R Fl
 | k,i,env,h=>match rd h i with
  | none=>.bad
  | some none=>.ok (.nx env) h
  | some (some d)=>match k with
   | 0=>.bad
   | k+1=>(tg d env h).bind fun e1 h1=>(body e1 h1).bind fun fl h2=>match fl with
    | .nx e=>j6 rd tg body k (i+1) e h2
    | .ct e=>j6 rd tg body k (i+1) e h2
    | .bk e=>.ok (.nx e) h2
    | .rt d=>.ok (.rt d) h2
noncomputable def dI (tg:D->En->Hh->R En) (body:MS):List D->En->Hh->R Fl
 | [],env,h=>.ok (.nx env) h
 | d::ds,env,h=>(tg d env h).bind fun e1 h1=>(body e1 h1).bind fun fl h2=>match fl with
  | .nx e=>dI tg body ds e h2
  | .ct e=>dI tg body ds e h2
  | .bk e=>.ok (.nx e) h2
  | .rt d=>.ok (.rt d) h2
theorem Bi (tg:D->En->Hh->R En) (body:MS) (all:List D):∀(ds:List D) (i:Nat) (env:En) (h:Hh),all.drop i=ds->j6 (Src.snap all).rdr tg body ds.length i env h=dI tg body ds env h:=by
 intro ds
 induction ds with
 | nil=>
  intro i env h e
  have:all[i]?=none:=by
   have:=congrArg List.length e
   simp at this
   exact List.getElem?_eq_none (by omega)
  unfold j6 dI Src.rdr
  simp[this]
 | cons d ds ih=>
  intro i env h e
  have h0:all[i]?=some d:=by
   have:=congrArg (fun l=>l[0]?) e
   simpa using this
  have h1:all.drop (i+1)=ds:=by
   have:=congrArg List.tail e
   simpa using this
  unfold j6 dI
  have:(Src.snap all).rdr h i=some (some d):=by unfold Src.rdr;simp[h0]
  rw[this]
  show((tg d env h).bind _)=_
  congr 1
  funext e1 h2
  congr 1
  funext fl h3
  cases fl with
  | nx e=>exact ih (i+1) e h3 h1
  | ct e=>exact ih (i+1) e h3 h1
  | bk e=>rfl
  | rt d=>rfl
noncomputable def fC (mi:MI) (tg:D->En->Hh->R En) (body:MS):MS:=fun env h=>(mi env h).bind fun sr h1=>match sr with
 | .snap ds=>dI tg body ds env h1
 | .live n=>j6 (Src.live n).rdr tg body ((aI h1 n).getD []).length 0 env h1
 | .liveE n=>j6 (Src.liveE n).rdr tg body ((aI h1 n).getD []).length 0 env h1
theorem AQ {mi:MI} {tg:D->En->Hh->R En} {body:MS} {env:En} {h:Hh}:fC mi tg body env h=(mi env h).bind fun sr h1=>j6 sr.rdr tg body (sr.fuel h1) 0 env h1:=by
 unfold fC
 congr 1
 funext sr h1
 cases sr with
 | snap ds=>exact(Bi tg body ds ds 0 env h1 rfl).symm
 | live n=>rfl
 | liveE n=>rfl
noncomputable def gN (i:Nat):D->En->Hh->R En:=fun d env h=>.ok (env.set i (some d)) h
noncomputable def E5 (K:PySem.W.Frag) (g:GG) (ε:EE) (tg:D->En->Hh->R En) (t:TG):Prop:=
 ∀(α:List Addr) (H:Hp) (h:Hh) (env:En) (σ:St) (d:D) (x:V) (Q:St->Hp->Prop),cY K g α H env σ h->aD K g α H d x →
  WQ K g ε α H (tg d env h) (fun e1 h1=>∀σ' H' α',Ext K α H α' H'->cY K g α' H' e1 σ' h1->Q σ' H')->t x σ H Q
theorem fN {K:PySem.W.Frag} {g:GG} {ε:EE} {i:Nat}:E5 K g ε (gN i) (fH i):=fun α H h env σ d x Q s r w=>w _ H α Ext.refl ⟨s.heap,s.vs.set r⟩
section
variable {X:Cx} {g:GG} {ε:EE}
theorem mH {tg iter:Expr} {body:List Stmt} {mi:MI} {t:TG} {fg:D->En->Hh->R En} {mb:MS} {pos:Pos} (hp:PassesOwn (model X.prog X.w) X.A X.env X.xe) (hc:X.calm=true) (hi:PI X tg iter (tMI X.K g ε mi)) (hg:PG X tg t) (ig:E5 X.K g ε fg t) (hb:PSs X body (tMS X.K g ε mb))
  (hs:∀x,foldedSetIterable iter X.env x=pure x:=by intro _;rfl):PS X (.For tg iter body [] pos) (tMS X.K g ε (fC mi fg mb)):=by
 refine PS.imp (De hp hc hi hg hb hs) fun E σ H ⟨α,env,h,s,w⟩=>?_
 rw[AQ] at w
 refine⟨α,env,h,s,w.bind.mono fun sr h1 _ w1 J H1 α1 e1 hr1 rd=>?_⟩
 refine⟨fun i m σ H=>∃α env h,Ext X.K α1 H1 α H/\cY X.K g α H env σ h/\WQ X.K g ε α H (j6 sr.rdr fg mb m i env h) (cy X.K g α H E),⟨sr.fuel h1,α1,env,h1,Ext.refl,s.ext e1 hr1,w1.uZ e1⟩,?_⟩
 rintro i m σ2 H2 ⟨α2,env2,h2,x2,s2,w2⟩
 have q:=rd α2 H2 h2 x2 s2.heap i
 unfold j6 at w2
 cases e:sr.rdr h2 i with
 | none=>rw[e] at w2;exact w2.elim
 | some od=>
  rw[e] at w2 q
  cases od with
  | none=>exact .inl ⟨q,s2.nx Ext.refl w2⟩
  | some d=>
   cases m with
   | zero=>exact w2.elim
   | succ m=>
    have w3:=WQ.bind (show WQ X.K g ε α2 H2 ((fg d env2 h2).bind _) _ from w2)
    refine .inr ⟨q.1,fun σ' H'=>∃α env h,Ext X.K α1 H1 α H'/\cY X.K g α H' env σ' h/\WQ X.K g ε α H' (j6 sr.rdr fg mb m (i+1) env h) (cy X.K g α H' E),fun σ' H' z=>⟨m,Nat.lt_succ_self _,z⟩,fun x H3 y=>?_⟩
    obtain⟨α3,x3,hr3,rx⟩:=q.2 x H3 y
    refine ig α3 H3 h2 env2 σ2 d x _ (s2.ext x3 hr3) rx ((w3.ext x3).mono fun e4 h4 _ w4 σ4 H4 α4 x4 s4=>?_)
    refine tMS.use s4 ((w4.ext x3).ext x4).bind fun fl h5 H5 α5 x5 hr5 w5=>?_
    have tr:Ext X.K α2 H2 α5 H5:=x3.trans (x4.trans x5)
    cases fl with
    | nx e=>exact fun σ' s'=>⟨α5,e,h5,x2.trans tr,s',((w5.ext x5)).mono fun _ _ _ p=>p.ext tr⟩
    | ct e=>exact fun σ' s'=>⟨α5,e,h5,x2.trans tr,s',((w5.ext x5)).mono fun _ _ _ p=>p.ext tr⟩
    | bk e=>exact fun σ' s'=>(show cy X.K g α2 H2 E (.nx e) h5 from w5) H5 α5 tr hr5 σ' s'.vs
    | rt d=>exact fun v rv=>(show cy X.K g α2 H2 E (.rt d) h5 from w5) H5 α5 tr hr5 v rv
theorem aW.lst {K:PySem.W.Frag} {α:List Addr} {H:Hp} {h:Hh} {n:Nat} {ds:List D} (r:aW K g α H h) (e:aI h n=some ds) {p:Addr} (hp:α[n]?=some p):∃vs,H p=some (.lst vs)/\av K g α H ds vs:=by
 unfold aI at e
 cases o:h[n]? with
 | none=>rw[o] at e;cases e
 | some o'=>
  rw[o] at e
  have q:=r.here n p o' hp o
  cases o' with
  | lst ds'=>cases e;obtain⟨vs,a,b⟩:=q;exact⟨vs,a,b⟩
  | set n=>cases e
  | dic k=>cases e
  | dit k=>cases e
noncomputable def zA:D->Hh->R Src
 | .tup ds,h=>.ok (.snap ds) h
 | .frl ds,h=>.ok (.snap ds) h
 | .scr ds,h=>.ok (.snap ds) h
 | .ref n,h=>match aI h n with
  | some _=>.ok (.live n) h
  | none=>.bad
 | _,_=>.bad
noncomputable def di (a:ME):MI:=fun env h=>(a env h).bind zA
noncomputable def GI (K:PySem.W.Frag) (tl:TE):TI:=fun σ H R=>tl σ H fun x H1=>∃a,x=.ref a/\(((∃xs,SqL K H1 a xs)/\R (Itl K a) H1)\/((∃xs,SqT K H1 a xs)/\R (Itt K a) H1))
theorem DK {tg l:Expr} {tl:TE} (hl:PE X l tl):PI X tg l (GI X.K tl):=by
 intro pins s σ H R I h
 refine thn (hl pins s σ H _ I h) fun v s1 ⟨x,H1,I1,r1,q1⟩=>?_
 obtain⟨a,e,q⟩:=q1
 subst e
 cases r1
 rcases q with⟨⟨xs,hq⟩,q⟩ | ⟨⟨xs,hq⟩,q⟩
 ·obtain⟨its,rv,p,hz⟩:=I1.list hq
  refine wpAny_pyIter_list p.isList ?_
  refine⟨s1.heap.objs.size,[s1.heap.objs.size],_,_,H1,rfl,I1.kept (t':=s1.toks) fun b o e=>Heap.get?_push_of_some _ e,vn a _,⟨_,Heap.get?_push_size _ rfl,rfl,rfl⟩,fun b hb=>?_,q⟩
  have e:b=s1.heap.objs.size:=by simpa using hb
  subst e
  exact I1.Ae (Nat.le_refl _) (I1.hok.fresh (Nat.le_refl _))
 ·obtain⟨its,rv,p,hz⟩:=I1.tuple hq
  refine wpAny_pyIter_tuple (show s1.heap.IsTuple a its.toArray from p) ?_
  refine⟨s1.heap.objs.size,[s1.heap.objs.size],_,_,H1,rfl,I1.kept (t':=s1.toks) fun b o e=>Heap.get?_push_of_some _ e,sI a _,⟨_,Heap.get?_push_size _ rfl,rfl,rfl⟩,fun b hb=>?_,q⟩
  have e:b=s1.heap.objs.size:=by simpa using hb
  subst e
  exact I1.Ae (Nat.le_refl _) (I1.hok.fresh (Nat.le_refl _))
theorem wj {K:PySem.W.Frag} {α:List Addr} {H:Hp} {a:Addr} {ds:List D} {vs:List V} (hq':H a=some (.tup vs)) (rs:av K g α H ds vs):Reads K g (Itt K a) (Src.snap ds).rdr α H:=by
 intro α2 H2 h2 x2 hr i
 have hq2:SqT K H2 a vs:=SqT.of (x2.tup _ _ hq')
 have rs2:=rs.ext x2
 show match some ds[i]? with | none=>True | some none=>_ | some (some d)=>_
 cases e:ds[i]? with
 | none=>
  have:ds.length<=i:=List.getElem?_eq_none_iff.mp e
  exact⟨vs,hq2,by rw[<- rs.length];exact this⟩
 | some d=>
  obtain⟨v,ev,rv⟩:=rs2.get e
  refine⟨⟨vs,v,hq2,ev⟩,fun x H' y=>?_⟩
  obtain⟨e1,e2⟩:=y
  subst e1
  have:=e2 vs hq2
  rw[ev] at this
  cases this
  exact⟨α2,Ext.refl,hr,rv⟩
theorem nV {K:PySem.W.Frag} {α:List Addr} {H:Hp} {a:Addr} {ds:List D} {vs:List V} (hq:Fro K H a vs) (rs:av K g α H ds vs):Reads K g (Itl K a) (Src.snap ds).rdr α H:=by
 intro α2 H2 h2 x2 hr i
 have hq2:=x2.fro _ _ hq
 have rs2:=rs.ext x2
 show match some ds[i]? with | none=>True | some none=>_ | some (some d)=>_
 cases e:ds[i]? with
 | none=>
  have:ds.length<=i:=List.getElem?_eq_none_iff.mp e
  exact⟨vs,hq2.sq,by rw[<- rs.length];exact this⟩
 | some d=>
  obtain⟨v,ev,rv⟩:=rs2.get e
  refine⟨⟨vs,v,hq2.sq,ev⟩,fun x H' y=>?_⟩
  obtain⟨e1,e2⟩:=y
  subst e1
  have:=e2 vs hq2.sq
  rw[ev] at this
  cases this
  exact⟨α2,Ext.refl,hr,rv⟩
theorem vS {K:PySem.W.Frag} {α:List Addr} {H:Hp} {a:Addr} {n:Nat} (ha:α[n]?=some a):Reads K g (Itl K a) (Src.live n).rdr α H:=by
 intro α2 H2 h2 x2 hr i
 show match (aI h2 n).map fun ds=>ds[i]? with | none=>True | some none=>_ | some (some d)=>_
 cases e:aI h2 n with
 | none=>trivial
 | some ds=>
  obtain⟨vs,hq',rs⟩:=hr.lst e (x2.get ha)
  have hq:SqL K H2 a vs:=SqL.of hq'
  show match some ds[i]? with | none=>True | some none=>_ | some (some d)=>_
  cases ei:ds[i]? with
  | none=>
   have:ds.length<=i:=List.getElem?_eq_none_iff.mp ei
   exact⟨vs,hq,by rw[<- rs.length];exact this⟩
  | some d=>
   obtain⟨v,ev,rv⟩:=rs.get ei
   refine⟨⟨vs,v,hq,ev⟩,fun x H' y=>?_⟩
   obtain⟨e1,e2⟩:=y
   subst e1
   have:=e2 vs hq
   rw[ev] at this
   cases this
   exact⟨α2,Ext.refl,hr,rv⟩
theorem e_ {tg e:Expr} {me:ME} (he:PE X e (tM X.K g ε me)):PI X tg e (tMI X.K g ε (di me)):=
 PI.imp (DK he) fun σ H T ⟨α,env,h,s,w⟩=>tM.use s w.bind fun d1 h1 v1 H1 α1 e1 s1 r1 w1=>by
  unfold zA at w1
  cases r1 with
  | tup hq rs=>exact⟨_,rfl,.inr ⟨⟨_,SqT.of hq⟩,w1 _ H1 α1 e1 s1.heap (wj hq rs)⟩⟩
  | frl hq rs=>exact⟨_,rfl,.inl ⟨⟨_,hq.sq⟩,w1 _ H1 α1 e1 s1.heap (nV hq.fro rs)⟩⟩
  | scr hq rs=>exact⟨_,rfl,.inl ⟨⟨_,hq.sq⟩,w1 _ H1 α1 e1 s1.heap (nV hq rs)⟩⟩
  | @ref n p hp=>
   cases el:aI h1 n with
   | none=>simp only[el] at w1;exact w1.elim
   | some ds=>
    simp only[el] at w1
    obtain⟨vs,hq,_⟩:=s1.heap.lst el hp
    exact⟨p,rfl,.inl ⟨⟨_,SqL.of hq⟩,w1 _ H1 α1 e1 s1.heap (vS hp)⟩⟩
  | _=>exact w1.elim
noncomputable def b0 (lo:Int) (n:Nat):List D:=(List.range n).map fun(i:Nat)=>D.int (lo+i)
noncomputable def k9:List D->Hh->R Src
 | [.int j],h=>if j.natAbs<=1000000 then .ok (.snap (b0 0 j.toNat)) h else .bad
 | _,_=>.bad
noncomputable def tQ:List D->Hh->R Src
 | [.int i,.int j],h=>if i.natAbs<=1000000/\j.natAbs<=1000000 then .ok (.snap (b0 i (j - i).toNat)) h else .bad
 | _,_=>.bad
noncomputable def kI (f:List D->Hh->R Src) (a:MA):MI:=fun env h=>(a env h).bind f
theorem oy {K:PySem.W.Frag} {α:List Addr} {H:Hp} {lo:Int} {n:Nat}:Reads K g (Itr lo n) (Src.snap (b0 lo n)).rdr α H:=by
 intro α2 H2 h2 x2 hr i
 show match some (b0 lo n)[i]? with | none=>True | some none=>_ | some (some d)=>_
 unfold b0
 rw[List.getElem?_map]
 by_cases hi:i<n
 ·rw[List.getElem?_range hi]
  refine⟨hi,fun x H' y=>?_⟩
  obtain⟨e1,e2⟩:=y
  subst e1 e2
  exact⟨α2,Ext.refl,hr,.int _⟩
 ·rw[List.getElem?_eq_none (by simpa using hi)]
  exact Nat.le_of_not_lt hi
theorem qj {tg a:Expr} {ma:MA} {p pos:Pos} (hg:Gl X "range") (hm:X.mg "range" = none) (ha:PA X [a] (tMA X.K g ε ma)) (hs:starEach [a] X.env=[(false,eval a X.env)]:=by rfl):PI X tg (.Call (.Name "range" p) [a] [] pos) (tMI X.K g ε (kI k9 ma)):=
 PI.imp (vK hg hm ha hs) fun σ H T ⟨α,env,h,s,w⟩=>tMA.use s w.bind fun d1 h1 v1 H1 α1 e1 s1 r1 w1=>by
  unfold k9 at w1
  cases r1 with
  | nil=>exact w1.elim
  | cons ra rr=>
   cases rr with
   | cons _ _=>cases ra<;>exact w1.elim
   | nil=>
    cases ra with
    | int j=>
     obtain⟨hj,w2⟩:=WQ.dy w1
     exact⟨j,rfl,by omega,by omega,w2 _ H1 α1 e1 s1.heap oy⟩
    | _=>exact w1.elim
theorem A8 {tg a b:Expr} {ma:MA} {p pos:Pos} (hg:Gl X "range") (hm:X.mg "range" = none) (ha:PA X [a,b] (tMA X.K g ε ma)) (hs:starEach [a,b] X.env=[(false,eval a X.env),(false,eval b X.env)]:=by rfl) (hs2:starEach [b] X.env=[(false,eval b X.env)]:=by rfl):PI X tg (.Call (.Name "range" p) [a,b] [] pos) (tMI X.K g ε (kI tQ ma)):=
 PI.imp (wO hg hm ha hs hs2) fun σ H T ⟨α,env,h,s,w⟩=>tMA.use s w.bind fun d1 h1 v1 H1 α1 e1 s1 r1 w1=>by
  unfold tQ at w1
  split at w1
  ·cases r1 with
   | cons ra rr=>
    cases ra
    cases rr with
    | cons rb rr=>
     cases rb
     cases rr
     obtain⟨hj,w2⟩:=WQ.dy w1
     exact⟨_,_,rfl,⟨by omega,by omega,by omega,by omega⟩,w2 _ H1 α1 e1 s1.heap oy⟩
  ·exact w1.elim
noncomputable def iI (c:MT) (b:MS):Nat->En->Hh->R Fl
 | 0,_,_=>.bad
 | k+1,env,h=>(c env h).bind fun x h1=>if x=true then (b env h1).bind fun fl h2=>match fl with
   | .nx e=>iI c b k e h2
   | .ct e=>iI c b k e h2
   | .bk e=>.ok (.nx e) h2
   | .rt d=>.ok (.rt d) h2
  else .ok (.nx env) h1
noncomputable def o9 (fuel:Nat) (c:MT) (b:MS):MS:=fun env h=>iI c b fuel env h
theorem z_ {c:Expr} {body:List Stmt} {mc:MT} {mb:MS} {pos:Pos} (fuel:Nat) (hp:PassesOwn (model X.prog X.w) X.A X.env X.xe) (hc:PT X c (tMT X.K g ε mc)) (hb:PSs X body (tMS X.K g ε mb)):PS X (.While c body [] pos) (tMS X.K g ε (o9 fuel mc mb)):=by
 refine PS.imp (yV hp hc hb) fun E σ H ⟨α,env,h,s,w⟩=>?_
 refine⟨fun m σ H=>∃α env h,cY X.K g α H env σ h/\WQ X.K g ε α H (iI mc mb m env h) (cy X.K g α H E),⟨fuel,α,env,h,s,w⟩,?_⟩
 rintro m σ2 H2 ⟨α2,env2,h2,s2,w2⟩
 cases m with
 | zero=>exact w2.elim
 | succ m=>
  refine tMT.use s2 (WQ.bind (show WQ X.K g ε α2 H2 ((mc env2 h2).bind _) _ from w2)) fun b h3 H3 α3 x3 s3 w3=>?_
  cases b with
  | false=>rw[if_neg Bool.false_ne_true] at w3 ⊢;exact s3.nx x3 w3
  | true=>
   rw[if_pos rfl] at w3 ⊢
   refine⟨fun σ' H'=>∃α env h,cY X.K g α H' env σ' h/\WQ X.K g ε α H' (iI mc mb m env h) (cy X.K g α H' E),fun σ' H' z=>⟨m,Nat.lt_succ_self _,z⟩,?_⟩
   refine tMS.use s3 (w3.ext x3).bind fun fl h5 H5 α5 x5 hr5 w5=>?_
   have tr:Ext X.K α2 H2 α5 H5:=x3.trans x5
   cases fl with
   | nx e=>exact fun σ' s'=>⟨α5,e,h5,s',(w5.ext x5).mono fun _ _ _ p=>p.ext tr⟩
   | ct e=>exact fun σ' s'=>⟨α5,e,h5,s',(w5.ext x5).mono fun _ _ _ p=>p.ext tr⟩
   | bk e=>exact fun σ' s'=>(show cy X.K g α2 H2 E (.nx e) h5 from w5) H5 α5 tr hr5 σ' s'.vs
   | rt d=>exact fun v rv=>(show cy X.K g α2 H2 E (.rt d) h5 from w5) H5 α5 tr hr5 v rv
end
noncomputable abbrev E00:EE:=fun _ _ _=>False
noncomputable abbrev MF:=List D->Hh->R D
noncomputable def cA (n:Nat) (m:MS):MF:=fun ds h=>(m (ds.map some++List.replicate (n - ds.length) none) h).bind fun fl h1=>match fl with
 | .rt d=>.ok d h1
 | .nx _=>.ok .non h1
 | _=>.bad
noncomputable def spG (K:PySem.W.Frag) (g:GG) (ε:XK->EE) (np:Nat) (m:MF):Sp:=fun vs H Q E=>vs.length=np/\∃α ds h,av K g α H ds vs/\aW K g α H h/\WQ K g (ε E) α H (m ds h) (aF K g α H Q)
noncomputable abbrev spM (K:PySem.W.Frag) (g:GG) (np:Nat) (m:MF):Sp:=spG K g (fun _=>E00) np m
theorem j8 {K:PySem.W.Frag} {g:GG} {α:List Addr} {H:Hp} {N:List Str} {ds:List D} {vs:List V} (r:av K g α H ds vs):iB K g α H (ds.map some++List.replicate (N.length - ds.length) none) (start N vs):=by
 have hl:=r.length
 refine⟨by simp[start,hl],fun i d h=>?_⟩
 by_cases hi:i<ds.length
 ·rw[List.getElem?_append_left (by simpa using hi),List.getElem?_map] at h
  cases e:ds[i]? with
  | none=>rw[e] at h;cases h
  | some d'=>
   rw[e] at h
   cases h
   obtain⟨v,ev,rv⟩:=r.get e
   refine⟨v,?_,rv⟩
   unfold start
   rw[List.getElem?_append_left (by simp;omega),List.getElem?_map,ev]
   rfl
 ·rw[List.getElem?_append_right (by simpa using hi),List.getElem?_replicate] at h
  split at h<;>cases h
section
variable {P:Program} {w:World} {K:PySem.W.Frag} {mg:Str->Option Value} {base:Heap} {g:GG}
theorem gA {x qual:Str} {st:Stmt} {f:Addr} {fd:FuncData} {N ps:List Str} {k:Nat} {mb:MS} (F:Fun K x qual st f fd) (S:aM N ps (au st))
  (hb:∀(cdv:Value) (A:Around) (outer:List Env) (s:Shared) (H:Hp) (E:XK),cX k (A.deeper (envOfC qual (au st) s.heap.objs.size f cdv)) →
   PSs (iu CX0 P w K mg base N qual (au st) f cdv A outer s H E).nox (bJ st) (tMS K g E00 mb)):ed P w K mg base CX0 (k+1) f fd ps (spM K g ps.length (cA N.length mb)):=by
 refine F.ok S (fun vs H Q E h=>h.1) fun cdv A outer s H vs Q E hr h=>⟨_,hb cdv A outer s H E hr,?_⟩
 obtain⟨hl,α,ds,h,rs,hh,w⟩:=h
 refine tMS.use ⟨hh,j8 rs⟩ w.bind fun fl h' H' α' e r kk=>?_
 cases fl with
 | nx e'=>exact fun σ' s'=>(show aF K g α H Q .non h' from kk) _ H' α' e r .non
 | bk e'=>exact kk.elim
 | ct e'=>exact kk.elim
 | rt d=>exact fun v rv=>(show aF K g α H Q d h' from kk) _ H' α' e r rv
end
section
variable {X:Cx} {g:GG}
theorem aN {k:Nat} {f:Addr} {fd:FuncData} {ps:List Str} {m:MF} {np:Nat} {x:Str} {p pos:Pos} {e:Expr} {es:List Expr} {mr:MA} (F:ed X.prog X.w X.K X.mg X.base CX0 k f fd ps (spM X.K g np m)) (hr:cX k X.A) (hg:Gl X x) (hm:X.mg x=some (.ref f)) (hk:PySem.W.keepIn X.K (.ref f)=true) (hb:Binds X.K fd ps [])
  (ha:PA X (e::es) (tMA X.K g E00 mr)) (hlen:∀env h ds h',mr env h=.ok ds h'->ds.length=np) (hdb:(x == ("__debug__" : Str))=false:=by decide) (he:starEach (e::es) X.env=(false,eval e X.env)::starEach es X.env:=by rfl) (hpl:(backTo pos (starEach es X.env)).any (·.1)=false:=by rfl) :
  PE X (.Call (.Name x p) (e::es) [] pos) (tM X.K g E00 (ag m mr)):=
 PE.imp (uk F hr hg hm hk hb .nil Fn ha hdb he hpl) fun σ H Q ⟨α,env,h,s,w⟩=>⟨α,env,h,s,w.bind.mono fun d1 h1 eq w1 v1 H1 α1 e1 hr1 r1=>by
  show spM X.K g np m (v1++[]) H1 Q E0
  rw[List.append_nil]
  refine⟨?_,α1,d1,h1,r1,hr1,w1.post e1⟩
  rw[<- r1.length]
  exact hlen env h d1 h1 eq⟩
theorem aH:∀env h ds h',ak env h=.ok ds h'->ds.length=0:=fun env h ds h' e=>by cases e;rfl
theorem ao {a:ME} {r:MA} {n:Nat} (q:∀env h ds h',r env h=.ok ds h'->ds.length=n):∀env h ds h',aa a r env h=.ok ds h'->ds.length=n+1:=fun env h ds h' e=>by
 unfold aa at e
 cases e1:a env h with
 | ok d h1=>
  rw[e1] at e
  cases e2:r env h1 with
  | ok ds2 h2=>
   have e3:(R.ok (d::ds2) h2:R (List D))=.ok ds h':=by simpa [R.bind,e2] using e
   cases e3
   simp[q env h1 ds2 h' e2]
  | err x h2=>simp[R.bind,e2] at e
  | bad=>simp[R.bind,e2] at e
 | err x h2=>rw[e1] at e;cases e
 | bad=>rw[e1] at e;cases e
end
noncomputable def gO (ix:List Nat) (env:En) (d:D):En:=some d::ix.map fun i=>(env[i]?).join
noncomputable def tt1:MT:=fun _ h=>.ok true h
noncomputable def eX (rd:Rdr) (tt:MT) (te:ME) (ee:D->En):Nat->Nat->List D->Hh->R (List D)
 | k,i,acc,h=>match rd h i with
  | none=>.bad
  | some none=>.ok acc h
  | some (some d)=>match k with
   | 0=>.bad
   | k+1=>(tt (ee d) h).bind fun b h1=>if b=true then (te (ee d) h1).bind fun y h2=>eX rd tt te ee k (i+1) (acc++[y]) h2 else eX rd tt te ee k (i+1) acc h1
noncomputable def cQ (tt:MT) (te:ME) (ee:D->En):List D->Hh->R (List D)
 | [],h=>.ok [] h
 | d::ds,h=>(tt (ee d) h).bind fun b h1=>if b=true then (te (ee d) h1).bind fun y h2=>(cQ tt te ee ds h2).bind fun ys h3=>.ok (y::ys) h3 else cQ tt te ee ds h1
theorem cc {β γ δ:Type} (r:R β) (f:β->Hh->R γ) (k:γ->Hh->R δ):(r.bind f).bind k=r.bind fun b h=>(f b h).bind k:=by cases r<;>rfl
theorem yZ (tt:MT) (te:ME) (ee:D->En) (all:List D):∀(ds:List D) (i:Nat) (acc:List D) (h:Hh),all.drop i=ds->eX (Src.snap all).rdr tt te ee ds.length i acc h=(cQ tt te ee ds h).bind fun ys h'=>.ok (acc++ys) h':=by
 intro ds
 induction ds with
 | nil=>
  intro i acc h e
  have:all[i]?=none:=by
   have:=congrArg List.length e
   simp at this
   exact List.getElem?_eq_none (by omega)
  unfold eX cQ Src.rdr
  simp[this,R.bind]
 | cons d ds ih=>
  intro i acc h e
  have h0:all[i]?=some d:=by
   have:=congrArg (fun l=>l[0]?) e
   simpa using this
  have h1:all.drop (i+1)=ds:=by
   have:=congrArg List.tail e
   simpa using this
  unfold eX cQ
  have:(Src.snap all).rdr h i=some (some d):=by unfold Src.rdr;simp[h0]
  rw[this]
  show((tt (ee d) h).bind _)=_
  rw[cc]
  congr 1
  funext b h2
  cases b with
  | false=>rw[if_neg Bool.false_ne_true,if_neg Bool.false_ne_true];exact ih (i+1) acc h2 h1
  | true=>
   rw[if_pos rfl,if_pos rfl,cc]
   congr 1
   funext y h3
   rw[cc]
   have:=ih (i+1) (acc++[y]) h3 h1
   rw[this]
   congr 1
   funext ys h4
   show R.ok (acc++[y]++ys) h4=R.ok (acc++(y::ys)) h4
   simp
noncomputable def dh (nl:NL) (mi:MI) (ix:List Nat) (tt:MT) (te:ME):ME:=fun env h=>(mi env h).bind fun sr h1=>if sr.fuel h1<=1000000 then
 (match sr with
  | .snap ds=>cQ tt te (gO ix env) ds h1
  | .live n=>eX (Src.live n).rdr tt te (gO ix env) ((aI h1 n).getD []).length 0 [] h1
  | .liveE n=>eX (Src.liveE n).rdr tt te (gO ix env) ((aI h1 n).getD []).length 0 [] h1).bind nl else .bad
theorem rP {nl:NL} {mi:MI} {ix:List Nat} {tt:MT} {te:ME} {env:En} {h:Hh}:dh nl mi ix tt te env h=(mi env h).bind fun sr h1=>if sr.fuel h1<=1000000 then (eX sr.rdr tt te (gO ix env) (sr.fuel h1) 0 [] h1).bind nl else .bad:=by
 unfold dh
 congr 1
 funext sr h1
 cases sr with
 | snap ds=>
  have:=yZ tt te (gO ix env) ds ds 0 [] h1 rfl
  simp only[List.nil_append] at this
  have e:(Src.snap ds).fuel h1=ds.length:=rfl
  rw[e,this,cc]
  rfl
 | live n=>rfl
 | liveE n=>rfl
theorem u_ {K:PySem.W.Frag} {g:GG} {α:List Addr} {H:Hp} {env:En} {σ:St} {ix:List Nat} {d:D} {v:V} (s:iB K g α H env σ) (r:aD K g α H d v):iB K g α H (gO ix env d) ((k8 ix σ).set 0 (some v)):=by
 refine⟨by simp[gO,k8],fun i e h=>?_⟩
 cases i with
 | zero=>
  have:d=e:=by simpa [gO] using h
  subst this
  exact⟨v,by simp[k8],r⟩
 | succ i=>
  have h':(ix.map fun i=>(env[i]?).join)[i]?=some (some e):=by simpa [gO] using h
  rw[List.getElem?_map] at h'
  cases ei:ix[i]? with
  | none=>rw[ei] at h';cases h'
  | some j=>
   rw[ei] at h'
   have h2:(env[j]?).join=some e:=by simpa using h'
   cases ej:env[j]? with
   | none=>rw[ej] at h2;cases h2
   | some oe=>
    rw[ej] at h2
    have h3:oe=some e:=by simpa using h2
    subst h3
    obtain⟨u,eu,ru⟩:=s.vars j e ej
    refine⟨u,?_,ru⟩
    simp only[k8,List.set_cons_zero,List.getElem?_cons_succ,List.getElem?_map,ei,Option.map_some,eu]
    rfl
section
variable {X:Cx} {g:GG}
theorem lj:PTs X [] (tMT X.K g E00 tt1):=fun pins s σ H Q I ⟨α,env,h,s',w⟩=>A3 pins s σ H Q I (w H α Ext.refl s'.heap)
theorem tV {c:Expr} {mt:MT} (h:PT X c (tMT X.K g E00 mt)):PTs X [c] (tMT X.K g E00 mt):=zY h
theorem rC {K:PySem.W.Frag} {nl:NL} [fQ nl] {mi:MI} {tt:MT} {te:ME} {ix:List Nat} {σ:St} {H:Hp} {Q R:VK} (hR:∀v H,f7 Q v H->R v H) (t:tM K g E00 (dh nl mi ix tt te) σ H Q):BP (tMI K g E00 mi) ix (tMT K g E00 tt) (tM K g E00 te) σ H R:=by
 obtain⟨α,env,h,s,w⟩:=t
 rw[rP] at w
 refine⟨α,env,h,s,w.bind.mono fun sr h1 _ w1 J H1 α1 e1 hr1 rd=>fun acc hacc=>?_⟩
 obtain⟨hf,w1⟩:=WQ.dy w1
 have s1:=s.ext e1 hr1
 refine⟨fun i m ys H=>∃α h as,Ext K α1 H1 α H/\aW K g α H h/\av K g α H as ys/\H acc=some (.lst ys)/\acc∉α/\as.length+m<=1000000 ∧
  WQ K g E00 α1 H1 ((eX sr.rdr tt te (gO ix env) m i as h).bind nl) (aF K g α1 H1 Q),
  ⟨sr.fuel h1,α1,h1,[],Ext.fresh hacc,hr1.grow hacc,.nil,aQ,hr1.free hacc,by simpa using hf,w1.post e1⟩,?_⟩
 rintro i m ys H2 ⟨α2,h2,as,x2,hr2,ra,ha,hna,hm,w2⟩
 have q:=rd α2 H2 h2 x2 hr2 i
 unfold eX at w2
 cases e:sr.rdr h2 i with
 | none=>rw[e] at w2;exact w2.elim
 | some od=>
  rw[e] at w2 q
  cases od with
  | none=>
   refine .inl ⟨q,?_⟩
   exact hR _ _ <| fQ.at' (show WQ K g E00 α1 H1 (nl as h2) _ from w2) (fun _ _ z=>z) x2 hr2 ra ha hna hacc
  | some d=>
   cases m with
   | zero=>exact w2.elim
   | succ m=>
    rw[cc] at w2
    have w3:=WQ.bind (show WQ K g E00 α1 H1 ((tt (gO ix env d) h2).bind _) _ from w2)
    refine .inr ⟨q.1,fun x H3 y=>?_⟩
    obtain⟨α3,x3,hr3,rx⟩:=q.2 x H3 y
    have ha3:=x3.keep _ _ ha hna
    have hna3:acc∉α3:=fun z=>by have:=x3.new _ z hna;rw[ha] at this;cases this
    have s3:cY K g α3 H3 (gO ix env d) ((k8 ix σ).set 0 (some x)) h2:=⟨hr3,u_ (s1.vs.ext (x2.trans x3)) rx⟩
    refine tMT.use s3 ((w3.ext x2).ext x3) fun b h4 H4 α4 x4 s4 w4=>?_
    have ha4:=x4.keep _ _ ha3 hna3
    have hna4:acc∉α4:=fun z=>by have:=x4.new _ z hna3;rw[ha3] at this;cases this
    cases b with
    | false=>
     rw[if_neg Bool.false_ne_true] at w4 ⊢
     exact⟨m,Nat.lt_succ_self _,α4,h4,as,x2.trans (x3.trans x4),s4.heap,ra.ext (x3.trans x4),ha4,hna4,by omega,w4⟩
    | true=>
     rw[if_pos rfl] at w4 ⊢
     rw[cc] at w4
     refine tM.use s4 (((WQ.bind w4).ext x2).ext (x3.trans x4)) fun y h5 v5 H5 α5 x5 s5 r5 w5=>?_
     have ha5:=x5.keep _ _ ha4 hna4
     have hna5:acc∉α5:=fun z=>by have:=x5.new _ z hna4;rw[ha4] at this;cases this
     have soft:yw H5 acc:=.inr ⟨_,ha5,fun _ z=>(nomatch z),fun _ _ z=>nomatch z⟩
     have x6:Ex0 K α5 H5 α5 (upd H5 acc (.lst (ys++[v5]))):=Ex0.upd soft
     have tr:=x2.trans (x3.trans (x4.trans x5))
     refine⟨ha5,?_,m,Nat.lt_succ_self _,α5,h5,as++[y],⟨tr.toEx0.trans x6,fun p o z n=>?_,tr.new⟩,s5.heap.off soft hna5,((ra.ext (x3.trans (x4.trans x5))).append (.cons r5 .nil)).ex0 x6,aQ,hna5,by rw[List.length_append];simp;omega,w5⟩
     ·rw[<- ra.length,sizeLine_eq];omega
     ·rw[aA (aP z hacc)];exact tr.keep p o z n
noncomputable def unp {β:Type} (m:En->Hh->R β):En->Hh->R β:=fun env h=>match env with
 | some (.tup [x,y])::r=>m (some x::some y::r) h
 | _=>.bad
theorem C_ {K:PySem.W.Frag} {g:GG} {ε:EE} {α α':List Addr} {H H':Hp} {β:Type} {m:En->Hh->R β} {d:D} {x:V} {r:En} {h:Hh} {k:β->Hh->Prop} (rx:aD K g α H d x) (w:WQ K g ε α' H' (unp m (some d::r) h) k) :
  ∃a b p va vb,d=.tup [a,b]/\x=.ref p/\H p=some (.tup [va,vb])/\aD K g α H a va/\aD K g α H b vb/\WQ K g ε α' H' (m (some a::some b::r) h) k:=by
 cases rx with
 | tup hp rs=>
  cases rs with
  | nil=>exact w.elim
  | cons ra rr=>
   cases rr with
   | nil=>exact w.elim
   | cons rb rr=>
    cases rr with
    | nil=>exact⟨_,_,_,_,_,rfl,rfl,hp,ra,rb,w⟩
    | cons _ _=>exact w.elim
 | _=>exact w.elim
theorem zk {K:PySem.W.Frag} {g:GG} {α:List Addr} {H:Hp} {env:En} {σ:St} {ix:List Nat} {d e:D} {v u:V} (s:iB K g α H env σ) (r:aD K g α H d v) (q:aD K g α H e u):iB K g α H (some d::some e::ix.map fun i=>(env[i]?).join) (some v::some u::ix.map fun i=>(σ[i]?).join):=by
 have z:=u_ (ix:=ix) s q
 have e1:(k8 ix σ).set 0 (some u)=some u::ix.map fun i=>(σ[i]?).join:=rfl
 rw[e1] at z
 refine⟨by simp,fun i x h=>?_⟩
 cases i with
 | zero=>have:d=x:=by simpa using h
         subst this;exact⟨v,rfl,r⟩
 | succ i=>
  obtain⟨y,ey,ry⟩:=z.vars i x (by simpa [gO] using h)
  exact⟨y,by simpa using ey,ry⟩
theorem vz {K:PySem.W.Frag} {nl:NL} [fQ nl] {mi:MI} {tt:MT} {te:ME} {ix:List Nat} {σ:St} {H:Hp} {Q R:VK} (hR:∀v H,f7 Q v H->R v H) (t:tM K g E00 (dh nl mi ix (unp tt) (unp te)) σ H Q):lq (tMI K g E00 mi) 2 ix (Au K 2 (lK (fH 0) (lK (fH 1) zP))) (tMT K g E00 tt) (tM K g E00 te) σ H R:=by
 obtain⟨α,env,h,s,w⟩:=t
 rw[rP] at w
 refine⟨α,env,h,s,w.bind.mono fun sr h1 _ w1 J H1 α1 e1 hr1 rd=>fun acc hacc=>?_⟩
 obtain⟨hf,w1⟩:=WQ.dy w1
 have s1:=s.ext e1 hr1
 refine⟨fun i m ys H=>∃α h as,Ext K α1 H1 α H/\aW K g α H h/\av K g α H as ys/\H acc=some (.lst ys)/\acc∉α/\as.length+m<=1000000 ∧
  WQ K g E00 α1 H1 ((eX sr.rdr (unp tt) (unp te) (gO ix env) m i as h).bind nl) (aF K g α1 H1 Q),
  ⟨sr.fuel h1,α1,h1,[],Ext.fresh hacc,hr1.grow hacc,.nil,aQ,hr1.free hacc,by simpa using hf,w1.post e1⟩,?_⟩
 rintro i m ys H2 ⟨α2,h2,as,x2,hr2,ra,ha,hna,hm,w2⟩
 have q:=rd α2 H2 h2 x2 hr2 i
 unfold eX at w2
 cases e:sr.rdr h2 i with
 | none=>rw[e] at w2;exact w2.elim
 | some od=>
  rw[e] at w2 q
  cases od with
  | none=>
   refine .inl ⟨q,?_⟩
   exact hR _ _ <| fQ.at' (show WQ K g E00 α1 H1 (nl as h2) _ from w2) (fun _ _ z=>z) x2 hr2 ra ha hna hacc
  | some d=>
   cases m with
   | zero=>exact w2.elim
   | succ m=>
    rw[cc] at w2
    have w3:=WQ.bind (show WQ K g E00 α1 H1 ((unp tt (gO ix env d) h2).bind _) _ from w2)
    refine .inr ⟨q.1,fun σ0 x H3 ⟨ts,tl,e0⟩ y=>?_⟩
    obtain⟨α3,x3,hr3,rx⟩:=q.2 x H3 y
    have ha3:=x3.keep _ _ ha hna
    have hna3:acc∉α3:=fun z=>by have:=x3.new _ z hna;rw[ha] at this;cases this
    obtain⟨da,db,pp,va,vb,rfl,rfl,hq,rda,rdb,w3'⟩:=C_ rx ((w3.ext x2).ext x3)
    obtain⟨t0,t1,rfl⟩:∃t0 t1,ts=[t0,t1]:=by
     match ts,tl with
     | [t0,t1],_=>exact⟨t0,t1,rfl⟩
    subst e0
    refine⟨_,_,rfl,SqT.of hq,rfl,_,_,rfl,_,_,rfl,rfl,⟨[some va,some vb],rfl,rfl⟩,?_⟩
    have s3:cY K g α3 H3 (some da::some db::ix.map fun i=>(env[i]?).join) (some va::some vb::ix.map fun i=>(σ[i]?).join) h2:=⟨hr3,zk (s1.vs.ext (x2.trans x3)) rda rdb⟩
    refine tMT.use s3 w3' fun b h4 H4 α4 x4 s4 w4=>?_
    have ha4:=x4.keep _ _ ha3 hna3
    have hna4:acc∉α4:=fun z=>by have:=x4.new _ z hna3;rw[ha3] at this;cases this
    cases b with
    | false=>
     rw[if_neg Bool.false_ne_true] at w4 ⊢
     exact⟨m,Nat.lt_succ_self _,α4,h4,as,x2.trans (x3.trans x4),s4.heap,ra.ext (x3.trans x4),ha4,hna4,by omega,w4⟩
    | true=>
     rw[if_pos rfl] at w4 ⊢
     rw[cc] at w4
     refine tM.use s4 (((WQ.bind w4).ext x2).ext (x3.trans x4)) fun y h5 v5 H5 α5 x5 s5 r5 w5=>?_
     have ha5:=x5.keep _ _ ha4 hna4
     have hna5:acc∉α5:=fun z=>by have:=x5.new _ z hna4;rw[ha4] at this;cases this
     have soft:yw H5 acc:=.inr ⟨_,ha5,fun _ z=>(nomatch z),fun _ _ z=>nomatch z⟩
     have x6:Ex0 K α5 H5 α5 (upd H5 acc (.lst (ys++[v5]))):=Ex0.upd soft
     have tr:=x2.trans (x3.trans (x4.trans x5))
     refine⟨ha5,?_,m,Nat.lt_succ_self _,α5,h5,as++[y],⟨tr.toEx0.trans x6,fun p o z n=>?_,tr.new⟩,s5.heap.off soft hna5,((ra.ext (x3.trans (x4.trans x5))).append (.cons r5 .nil)).ex0 x6,aQ,hna5,by rw[List.length_append];simp;omega,w5⟩
     ·rw[<- ra.length,sizeLine_eq];omega
     ·rw[aA (aP z hacc)];exact tr.keep p o z n
theorem pg2 {X:Cx} {x y:Str} {px py pt:Pos} {kt:Nat} (hc:X.calm=true) (hn:X.N.Nodup) (h0:X.N[0]?=some x) (h1:X.N[1]?=some y) (hx:Loc X.env.scope x/\X.env.scope.names.lookup x=some .local) (hy:Loc X.env.scope y/\X.env.scope.names.lookup y=some .local) :
  PG X (.Tuple [.Name x px,.Name y py] kt pt) (Au X.K 2 (lK (fH 0) (lK (fH 1) zP))):=Cz hc (r6 (dA hn h0 hx.1 (.inr hx.2)) (r6 (dA hn h1 hy.1 (.inr hy.2)) Bg))
theorem yH {nl:NL} [fQ nl] {elt iter:Expr} {x y:Str} {px py pt:Pos} {kt:Nat} {ifs:List Expr} {scope osc:Scope} {pos:Pos} {mi:MI} {tt:MT} {te:ME} (ix:List Nat) (N':List Str)
  (hxe:X.xe=fun _ _=>False) (hc:X.calm=true) (ho:X.env.scope=osc) (hN:N'=[x,y]++ix.map fun i=>(X.N[i]?).getD ("" : Str)) (hnd:N'.Nodup)
  (hall:(∀y∈scope.names,y.2=.free->osc.names.lookup y.1=some .cell)/\(∀y∈scope.names,y.2≠.cell)/\scope.kind=.function/\(∀y∈scope.names,y.2=.local->scope.names.lookup y.1=some .local)/\(∀z∈N'.drop [x,y].length,scope.names.lookup z=some .free))
  (hi:PI X (.Tuple [.Name x px,.Name y py] kt pt) iter (tMI X.K g E00 mi))
  (hx:∀cl C aJ aO fp,Loc (bF X scope cl C aJ aO fp N').env.scope x/\(bF X scope cl C aJ aO fp N').env.scope.names.lookup x=some .local) (hy:∀cl C aJ aO fp,Loc (bF X scope cl C aJ aO fp N').env.scope y/\(bF X scope cl C aJ aO fp N').env.scope.names.lookup y=some .local)
  (ht:∀cl C aJ aO fp,PTs (bF X scope cl C aJ aO fp N') ifs (tMT X.K g E00 tt))
  (he:∀cl C aJ aO fp,PE (bF X scope cl C aJ aO fp N') elt (tM X.K g E00 te))
  (hs:∀x,foldedSetIterable iter X.env x=pure x:=by intro _;rfl) :
  PE X (.ListComp elt [⟨.Tuple [.Name x px,.Name y py] kt pt,iter,ifs,0⟩] scope pos) (tM X.K g E00 (dh nl mi ix (unp tt) (unp te))):=by
 refine PE.imp (PE.frz (rZ (tgr:=Au X.K 2 (lK (fH 0) (lK (fH 1) zP))) ix [x,y] N' hxe hc ho hN hnd hall hi (fun cl C aJ aO fp=>pg2 (X:=bF X scope cl C aJ aO fp N') hc hnd (show N'[0]?=some x by rw[hN];rfl) (show N'[1]?=some y by rw[hN];rfl) (hx cl C aJ aO fp) (hy cl C aJ aO fp)) ht he hs)) fun σ H Q t=>?_
 exact vz (fun _ _ z=>z) t
end
noncomputable def sml (i:Int):Bool:=decide (i.natAbs<2 ^ 1900)
theorem md {i:Int} (h:sml i=true):Builtin.Int.intBits i<=1900:=by
 have h':i.natAbs<2 ^ 1900:=of_decide_eq_true h
 unfold Builtin.Int.intBits
 split
 ·omega
 ·rename_i z
  have z':i.natAbs≠0:=by
   intro q
   apply z
   have:i=0:=Int.natAbs_eq_zero.mp q
   rw[this];rfl
  have:=(Nat.log2_lt z').mpr h'
  omega
theorem kQ {i:Int} (h:sml i=true):i.natAbs.log2<1900:=by
 have h':i.natAbs<2 ^ 1900:=of_decide_eq_true h
 by_cases z:i.natAbs=0
 ·rw[z];decide
 ·exact(Nat.log2_lt z).mpr h'
theorem B7 {i:Int} (h:i.natAbs<=10 ^ 560):sml i=true:=by
 refine decide_eq_true (Nat.lt_of_le_of_lt h (by decide +kernel))
section
variable {X:Cx} {K:PySem.W.Frag} {g:GG} {ε:EE}
theorem OpR.or {f:Value->Value->Sem Value} {r r':R2} (h:OpR X f r) (h':OpR X f r'):OpR X f (fun x y H Q=>r x y H Q\/r' x y H Q):=fun pins s σ H x y v u Q I rx ry q=>q.elim (h pins s σ H x y v u Q I rx ry) (h' pins s σ H x y v u Q I rx ry)
noncomputable def mx (d:D) (h:Hh):Option (List D):=match d with
 | .frl ds=>some ds
 | .ref n=>aI h n
 | _=>none
theorem sV {α:List Addr} {H:Hp} {h:Hh} {d:D} {x:V} {ds:List D} (r:aW K g α H h) (rd:aD K g α H d x) (e:mx d h=some ds):∃p vs,x=.ref p/\Rd H p (.lst vs)/\av K g α H ds vs:=by
 unfold mx at e
 cases rd with
 | frl hq rs=>cases e;exact⟨_,_,rfl,hq.rd,rs⟩
 | ref hp=>obtain⟨vs,hv,rs⟩:=r.lst e hp;exact⟨_,vs,rfl,.inl hv,rs⟩
 | _=>cases e
noncomputable def BR:R2:=fun x y H Q=>∃l b xs zs,x=.ref l/\y=.ref b/\Rd H l (.lst xs)/\Rd H b (.lst zs)/\xs.length+zs.length<=sizeLine/\∀p,H p=none->Q (.ref p) (upd H p (.lst (xs++zs)))
theorem CN {X:Cx} {pins:List (Addr × Obj)} {σ:St} {H:Hp} {s:Shared} {l:Addr} {xs:List V} (I:Inv X pins σ H s) (h:Rd H l (.lst xs)):∃(its:List Value) (n:Nat),xs.length<=sizeLine/\Vals xs its/\xs.length=its.length/\s.heap.get? l=some { cls:=.type "list", data:=.seq its.toArray n }:=by
 obtain⟨z,its,n,r,e⟩:=h.ok I.hok
 exact⟨its,n,z,r,r.length,e⟩
theorem Ba:OpR X (binaryOp .Add) BR:=by
 intro pins s σ H x y v u Q I rx ry h
 obtain⟨l,b,xs,zs,rfl,rfl,hH,hB,hz,q⟩:=h
 cases rx
 cases ry
 obtain⟨its,n,z,r,hl,e⟩:=CN I hH
 obtain⟨its2,n2,z2,r2,hl2,e2⟩:=CN I hB
 refine PySem.P.add_list e e2 ?_ (by rw[List.size_toArray,List.size_toArray];omega)
 have ea:its.toArray++its2.toArray=(its++its2).toArray:=by simp
 rw[ea]
 exact⟨.ref _,_,I.B4 (t':=s.toks) (r.append r2) (by rw[List.length_append];omega),rfl,q _ I.fresh⟩
noncomputable def bE (nl:NL):D->D->Hh->R D:=fun x y h=>match x,y with
 | .int i,.int j=>.ok (.int (i+j)) h
 | .tup a,.tup b=>if a.length+b.length<=1000000 then .ok (.tup (a++b)) h else .bad
 | .str a,.str b=>if a.length+b.length<=1000000 then .ok (.str (a++b)) h else .bad
 | x,y=>match mx x h,mx y h with
  | some a,some b=>if a.length+b.length<=1000000 then nl (a++b) h else .bad
  | _,_=>.bad
noncomputable abbrev yu (K:PySem.W.Frag):R2:=fun x y H Q=>(rI0 fun i j=>.int (i+j)) x y H Q\/(BD K x y H Q\/xW K x y H Q)\/BR x y H Q\/∃i j,x=.str i/\y=.str j/\i.length+j.length<=sizeLine/\Q (.str (i++j)) H
theorem bo:OpR X (binaryOp .Add) (fun x y H Q=>yu X.K x y H (f7 Q)):=OpR.frz (OpR.or C6 (OpR.or (OpR.or Ao yt) (OpR.or Ba sE)))
theorem aF.vC {α:List Addr} {H:Hp} {h:Hh} {Q:VK} {d:D} {v:V} (p:aF K g α H Q d h) (r:aW K g α H h) (rd:aD K g α H d v):f7 Q v H:=.inl (p.now r rd)
theorem bj {nl:NL} [fQ nl]:dq K g ε (bE nl) (fun x y H Q=>yu K x y H (f7 Q)):=by
 intro α H h a b x y Q r ra rb w
 have gen:∀{a b:D} {x y:V},aD K g α H a x->aD K g α H b y->WQ K g ε α H (match mx a h,mx b h with
  | some a,some b=>if a.length+b.length<=1000000 then nl (a++b) h else .bad
  | _,_=>.bad) (aF K g α H Q)->yu K x y H (f7 Q):=by
  intro a b x y ra rb w
  cases e1:mx a h with
  | none=>simp only[e1] at w;exact w.elim
  | some da=>
   cases e2:mx b h with
   | none=>simp only[e1,e2] at w;exact w.elim
   | some db=>
    simp only[e1,e2] at w
    obtain⟨p,va,rfl,hva,rsa⟩:=sV r ra e1
    obtain⟨q,vb,rfl,hvb,rsb⟩:=sV r rb e2
    obtain⟨hl,w⟩:=WQ.dy w
    refine .inr (.inr (.inl ⟨p,q,va,vb,rfl,rfl,hva,hvb,eh (by rw[<- rsa.length,<- rsb.length];exact hl),fun l hl'=>?_⟩))
    exact NL.post w r (rsa.append rsb) hl'
 unfold bE at w
 split at w
 ·cases ra
  cases rb
  exact .inl ⟨_,_,rfl,rfl,aF.vC w r (.int _)⟩
 ·cases ra with
  | @tup da pa va ha rsa=>
   cases rb with
   | @tup db pb vb hb rsb=>
    obtain⟨hl,w⟩:=WQ.dy w
    refine .inr (.inl ?_)
    cases va with
    | nil=>
     cases rsa
     exact .inr ⟨_,_,_,rfl,rfl,SqT.of ha,SqT.of hb,aF.vC w r (.tup hb rsb)⟩
    | cons z zs=>
     refine .inl ⟨_,_,_,_,rfl,rfl,SqT.of ha,SqT.of hb,by simp,eh (by rw[<- rsa.length,<- rsb.length];exact hl),fun e=>?_,fun _ p hp=>.inl (aF.tup w r (rsa.append rsb) hp)⟩
     subst e
     cases rsb
     refine aF.vC w r (.tup ha ?_)
     rw[List.append_nil];exact rsa
 ·cases ra
  cases rb
  obtain⟨hl,w⟩:=WQ.dy w
  exact .inr (.inr (.inr ⟨_,_,rfl,rfl,eh hl,aF.vC w r (.str _)⟩))
 ·exact gen ra rb w
noncomputable def dn:D->D->Hh->R D
 | .int i,.int j,h=>.ok (.int (i - j)) h
 | _,_,_=>.bad
theorem dG:dq K g ε dn (rI0 fun i j=>.int (i - j)):=by
 intro α H h a b x y Q r ra rb w
 unfold dn at w
 cases ra with
 | int i=>
  cases rb with
  | int j=>exact⟨i,j,rfl,rfl,aF.now w r (.int _)⟩
  | _=>exact w.elim
 | _=>exact w.elim
noncomputable def Bw:R2:=fun x y H Q=>∃l k xs,x=.ref l/\y=.int k/\Rd H l (.lst xs)/\-(2 ^ 63)<=k/\k<2 ^ 63/\xs.length*k.toNat<=sizeLine ∧
 ∀p,H p=none->Q (.ref p) (upd H p (.lst (List.replicate k.toNat xs).flatten))
theorem Aq:OpR X (binaryOp .Mult) Bw:=by
 intro pins s σ H x y v u Q I rx ry h
 obtain⟨l,k,xs,rfl,rfl,hH,h1,h2,hz,q⟩:=h
 cases rx
 obtain⟨t,rfl⟩:=ry
 obtain⟨its,n,z,r,hl,e⟩:=CN I hH
 have hlen:its.toArray.size*k.toNat<=sizeLine:=by rw[List.size_toArray,<- hl];exact hz
 have hcap:¬ its.toArray.size*k.toNat > (2 ^ 63 - 1) / 8:=by
  have:(sizeLine:Nat)<=(2 ^ 63 - 1) / 8:=by decide
  omega
 have hfit:¬ (!Builtin.List.listFitsIndex k)=true:=by
  rw[fitsIndex_both h1 h2]
  exact Bool.false_ne_true
 have hlong:¬ Builtin.List.listTooLong (its.toArray.size*k.toNat)=true:=by
  rw[xy hlen]
  exact Bool.false_ne_true
 have hnew:List.foldl (fun x1 x2=>x1++x2) #[] (List.replicate (if its.toArray.isEmpty=true then 0 else k.toNat) its.toArray)=(List.replicate k.toNat its).flatten.toArray:=by
  have f0:∀m:Nat,List.foldl (fun x1 x2=>x1++x2) #[] (List.replicate m its.toArray)=(List.replicate m its).flatten.toArray:=fun m=>by
   have:=foldl_rep its m []
   rw[List.nil_append] at this
   exact this
  rw[f0]
  cases its with
  | nil=>simp
  | cons a r'=>rw[if_neg (by simp)]
 refine wpAny_binaryOp_repeat_ref (T:="list") (U:="int") (by decide) ⟨_,e,rfl⟩ (fun s'=>typeIs_int s' k t) noFill_list_mul F.fills_int_mul F.slot_int_rmul repeat_list F.slot_int_index.lookup
  (call_meets F.slot_int_rmul (typeIs_int s k t) F.entry_int_rmul (F.args_int_rmul_2 _ _) (int___rmul___int_list k t l its.toArray n)
   ⟨e,rfl,⟨_,e,rfl⟩,call_meets F.slot_list_mul ⟨_,e,rfl⟩ F.entry_list_mul (F.args_list_mul_2 _ _) (AutoListH.list___mul___list_int_3 l its.toArray n k t hfit hcap hlong) ⟨e,?_⟩⟩)
 rw[hnew]
 exact⟨.ref _,_,I.B4 (t':=s.toks) (r.rep k.toNat) (by rw[len_rep,Nat.mul_comm];exact hz),rfl,q _ I.fresh⟩
noncomputable def nr (nl:NL):D->D->Hh->R D:=fun x y h=>match x,y with
 | .int i,.int j=>if sml i=true/\sml j=true then .ok (.int (i*j)) h else .bad
 | x,.int k=>match mx x h with
  | some ds=>if k.natAbs<=1000000/\ds.length*k.toNat<=1000000 then nl (List.replicate k.toNat ds).flatten h else .bad
  | none=>.bad
 | _,_=>.bad
theorem Bl:OpR X (binaryOp .Mult) (rI (fun i j=>sml i=true/\sml j=true) fun i j=>.int (i*j)):=opI fun _ _ _ _ _ _ _ hc q=>mul_int q (IntMulOk.of_bits (Nat.le_trans (md hc.1) (by decide)) (Nat.le_trans (md hc.2) (by decide)))
noncomputable abbrev ve:R2:=fun x y H Q=>(rI (fun i j=>sml i=true/\sml j=true) fun i j=>.int (i*j)) x y H Q\/Bw x y H Q
theorem qf:OpR X (binaryOp .Mult) (fun x y H Q=>ve x y H (f7 Q)):=OpR.frz (OpR.or Bl Aq)
theorem pD {nl:NL} [fQ nl]:dq K g ε (nr nl) (fun x y H Q=>ve x y H (f7 Q)):=by
 intro α H h a b x y Q r ra rb w
 have gen:∀{a:D} {k:Int} {x:V},aD K g α H a x->WQ K g ε α H (match mx a h with
  | some ds=>if k.natAbs<=1000000/\ds.length*k.toNat<=1000000 then nl (List.replicate k.toNat ds).flatten h else .bad
  | none=>.bad) (aF K g α H Q)->ve x (.int k) H (f7 Q):=by
  intro a k x ra w
  cases e1:mx a h with
  | none=>simp only[e1] at w;exact w.elim
  | some ds=>
   simp only[e1] at w
   obtain⟨hl,w⟩:=WQ.dy w
   obtain⟨p,vs,rfl,hv,rs⟩:=sV r ra e1
   refine .inr ⟨p,k,vs,rfl,rfl,hv,by omega,by omega,eh (by rw[<- rs.length];exact hl.2),fun l hl'=>?_⟩
   exact NL.post w r (rs.flat k.toNat) hl'
 unfold nr at w
 split at w
 ·cases ra
  cases rb
  obtain⟨hc,w⟩:=WQ.dy w
  exact .inl ⟨_,_,rfl,rfl,hc,aF.vC w r (.int _)⟩
 ·cases rb
  exact gen ra w
 ·exact w.elim
noncomputable def zq:D->D->Hh->R D
 | .int i,.int j,h=>if 0<j/\sml j=true then .ok (.int (i / j)) h else .bad
 | _,_,_=>.bad
theorem sf:OpR X (binaryOp .FloorDiv) (rI (fun i j=>0<j/\sml j=true) fun i j=>.int (i / j)):=opI fun i j _ _ _ _ _ hc q=>by
 have e:i.fdiv j=i / j:=Int.fdiv_eq_ediv_of_nonneg _ (by omega)
 refine floordiv_int (by omega) ?_ (.inl (PyProof.noPylong_of_log2 (Nat.lt_trans (kQ hc.2) (by decide))))
 rw[e];exact q
theorem yy:dq K g ε zq (rI (fun i j=>0<j/\sml j=true) fun i j=>.int (i / j)):=by
 intro α H h a b x y Q r ra rb w
 unfold zq at w
 cases ra with
 | int i=>
  cases rb with
  | int j=>
   obtain⟨hc,w⟩:=WQ.dy w
   exact⟨i,j,rfl,rfl,hc,aF.now w r (.int _)⟩
  | _=>exact w.elim
 | _=>exact w.elim
noncomputable def sd:D->D->Hh->R D
 | .int i,.int j,h=>if 0<j then .ok (.int (i % j)) h else .bad
 | _,_,_=>.bad
theorem lL:dq K g ε sd (rI (fun _ j=>0<j) fun i j=>.int (i % j)):=by
 intro α H h a b x y Q r ra rb w
 unfold sd at w
 cases ra with
 | int i=>
  cases rb with
  | int j=>
   obtain⟨hc,w⟩:=WQ.dy w
   exact⟨i,j,rfl,rfl,hc,aF.now w r (.int _)⟩
  | _=>exact w.elim
 | _=>exact w.elim
noncomputable def tq:D->D->Hh->R D
 | .int i,.int j,h=>if 0<=j/\j.natAbs<=1000/\sml i=true then .ok (.int (i ^ j.toNat)) h else .bad
 | _,_,_=>.bad
theorem oZ:OpR X (binaryOp .Pow) (rI (fun i j=>0<=j/\j.natAbs<=1000/\sml i=true) fun i j=>.int (i ^ j.toNat)):=opI fun i j _ _ _ _ _ hc q=>pow_int hc.1 (by
 have:=md hc.2.2
 have h1:((Builtin.Int.intBits i:Nat):Int)<=1900:=by exact_mod_cast this
 calc ((Builtin.Int.intBits i:Nat):Int)*j<=1900*j:=Int.mul_le_mul_of_nonneg_right h1 hc.1
  _<=1900*1000:=Int.mul_le_mul_of_nonneg_left (show j<=1000 by have:=hc.2.1;omega) (by decide)
  _<=2 ^ 27:=by decide) q
theorem sP:dq K g ε tq (rI (fun i j=>0<=j/\j.natAbs<=1000/\sml i=true) fun i j=>.int (i ^ j.toNat)):=by
 intro α H h a b x y Q r ra rb w
 unfold tq at w
 cases ra with
 | int i=>
  cases rb with
  | int j=>
   obtain⟨hc,w⟩:=WQ.dy w
   exact⟨i,j,rfl,rfl,hc,aF.now w r (.int _)⟩
  | _=>exact w.elim
 | _=>exact w.elim
noncomputable def kh:D->Hh->R D
 | .int i,h=>.ok (.int (-i)) h
 | _,_=>.bad
theorem jF:Ea K g ε kh (rU fun i=>.int (-i)):=by
 intro α H h a x Q r ra w
 unfold kh at w
 cases ra with
 | int i=>exact⟨i,rfl,aF.now w r (.int _)⟩
 | _=>exact w.elim
noncomputable def vT (p:Int->Int->Bool):D->D->Hh->R D
 | .int i,.int j,h=>.ok (.bl (p i j)) h
 | _,_,_=>.bad
noncomputable def ltI:Int->Int->Bool
 | .ofNat a,.ofNat b=>Nat.blt a b
 | .ofNat _,.negSucc _=>false
 | .negSucc _,.ofNat _=>true
 | .negSucc a,.negSucc b=>Nat.blt b a
theorem mG:ltI=fun i j=>decide (i<j):=by
 funext i j
 cases i with
 | ofNat a=>
  cases j with
  | ofNat b=>
   show Nat.blt a b=_
   rw[Bool.eq_iff_iff,Nat.blt_eq,decide_eq_true_iff]
   exact Int.ofNat_lt.symm
  | negSucc b=>exact(decide_eq_false (by have:Int.ofNat a=(a:Int):=rfl;omega)).symm
 | negSucc a=>
  cases j with
  | ofNat b=>exact(decide_eq_true (by have:Int.ofNat b=(b:Int):=rfl;omega)).symm
  | negSucc b=>
   show Nat.blt b a=_
   rw[Bool.eq_iff_iff,Nat.blt_eq,decide_eq_true_iff]
   omega
noncomputable def leI (i j:Int):Bool:=!ltI j i
theorem pj:leI=fun i j=>decide (i<=j):=by
 funext i j
 unfold leI
 rw[mG,Bool.eq_iff_iff]
 simp
noncomputable def dLt:D->D->Hh->R D:=vT ltI
noncomputable def dLe:D->D->Hh->R D:=vT leI
noncomputable def dGt:D->D->Hh->R D:=vT fun i j=>ltI j i
noncomputable def dGe:D->D->Hh->R D:=vT fun i j=>leI j i
theorem qe {p:Int->Int->Bool}:dq K g ε (vT p) (rI0 fun i j=>.bl (p i j)):=by
 intro α H h a b x y Q r ra rb w
 unfold vT at w
 cases ra with
 | int i=>
  cases rb with
  | int j=>exact⟨i,j,rfl,rfl,aF.now w r (.bl _)⟩
  | _=>exact w.elim
 | _=>exact w.elim
theorem sx:dq K g ε dLt (rI0 fun i j=>.bl (decide (i<j))):=by
 unfold dLt;rw[mG];exact qe
theorem uy:dq K g ε dLe (rI0 fun i j=>.bl (decide (i<=j))):=by
 unfold dLe;rw[pj];exact qe
theorem BS:dq K g ε dGt (rI0 fun i j=>.bl (decide (j<i))):=by
 unfold dGt;rw[mG];exact qe
theorem DY:dq K g ε dGe (rI0 fun i j=>.bl (decide (j<=i))):=by
 unfold dGe;rw[pj];exact qe
noncomputable def eW (d:D) (h:Hh):Option (List D):=match d with
 | .tup ds=>some ds
 | .frl ds=>some ds
 | .scr ds=>some ds
 | .ref n=>aI h n
 | _=>none
theorem kL {α:List Addr} {H:Hp} {h:Hh} {d:D} {x:V} {ds:List D} (r:aW K g α H h) (rd:aD K g α H d x) (e:eW d h=some ds):∃p vs,x=.ref p/\(SqL K H p vs\/SqT K H p vs)/\av K g α H ds vs:=by
 unfold eW at e
 cases rd with
 | tup hq rs=>cases e;exact⟨_,_,rfl,.inr (SqT.of hq),rs⟩
 | frl hq rs=>cases e;exact⟨_,_,rfl,.inl hq.sq,rs⟩
 | scr hq rs=>cases e;exact⟨_,_,rfl,.inl hq.sq,rs⟩
 | ref hp=>obtain⟨vs,hv,rs⟩:=r.lst e hp;exact⟨_,vs,rfl,.inl (SqL.of hv),rs⟩
 | _=>cases e
noncomputable def dIx:D->D->Hh->R D:=fun a b h=>match eW a h,b with
 | some ds,.int i=>match atI ds i with
  | some d=>.ok d h
  | none=>.bad
 | _,_=>.bad
theorem zS {α:List Addr} {H:Hp} {ds:List D} {vs:List V} {i:Int} {d:D} (rs:av K g α H ds vs) (e:atI ds i=some d):∃v,atI vs i=some v/\aD K g α H d v:=by
 unfold atI at e ⊢
 rw[<- rs.length]
 cases e1:ixN ds.length i with
 | none=>rw[e1] at e;cases e
 | some j=>
  rw[e1] at e
  exact rs.get e
theorem eQ:dq K g ε dIx (rIx K):=by
 intro α H h a b x y Q r ra rb w
 unfold dIx at w
 cases e1:eW a h with
 | none=>simp only[e1] at w;exact w.elim
 | some ds=>
  simp only[e1] at w
  obtain⟨p,vs,rfl,hq,rs⟩:=kL r ra e1
  cases rb with
  | int i=>
   cases e2:atI ds i with
   | none=>simp only[e2] at w;exact w.elim
   | some d=>
    simp only[e2] at w
    obtain⟨v,ev,rv⟩:=zS rs e2
    rcases hq with hq | hq
    ·exact .inl ⟨p,vs,i,v,rfl,rfl,hq,ev,aF.now w r rv⟩
    ·exact .inr (.inl ⟨p,vs,i,v,rfl,rfl,hq,ev,aF.now w r rv⟩)
  | _=>exact w.elim
noncomputable def f_:D->D->D->Hh->R Unit:=fun o i v h=>match o,i with
 | .ref n,.int k=>match aI h n with
  | some ds=>match ixN ds.length k with
   | some j=>.ok () (h.set n (.lst (ds.set j v)))
   | none=>.bad
  | none=>.bad
 | _,_=>.bad
theorem lR:Fd K g ε f_ BA:=by
 intro α H h o i v x y z Q r ro ri rv w
 unfold f_ at w
 cases ro with
 | @ref n p hp=>
  cases ri with
  | int k=>
   cases e1:aI h n with
   | none=>simp only[e1] at w;exact w.elim
   | some ds=>
    simp only[e1] at w
    cases e2:ixN ds.length k with
    | none=>simp only[e2] at w;exact w.elim
    | some j=>
     simp only[e2] at w
     obtain⟨vs,hv,rs⟩:=r.lst e1 hp
     refine⟨p,vs,k,j,rfl,rfl,hv,by rw[<- rs.length];exact e2,?_⟩
     have x:=Ext.write (o:=.lst (vs.set j z)) r hp
     exact w _ α x (r.write hp ⟨_,aQ,(rs.set rv j).ext x⟩)
  | _=>exact w.elim
 | _=>exact w.elim
noncomputable def cutD (xs:List D) (lo hi:Option Int):List D:=(xs.drop (HT.sIx xs.length 0 lo)).take (HT.sIx xs.length xs.length hi - HT.sIx xs.length 0 lo)
theorem iV {α:List Addr} {H:Hp} {ds:List D} {vs:List V} (rs:av K g α H ds vs) (lo hi:Option Int):av K g α H (cutD ds lo hi) (nE vs lo hi):=by
 unfold cutD nE
 rw[<- rs.length]
 exact(rs.drop _).take _
noncomputable abbrev MO:=En->Hh->R (Option Int)
noncomputable def bA:MO:=fun _ h=>.ok none h
noncomputable def cH (a:ME):MO:=fun env h=>(a env h).bind fun d h1=>match d with
 | .int i=>.ok (some i) h1
 | _=>.bad
noncomputable def tMO (K:PySem.W.Frag) (g:GG) (ε:EE) (m:MO):TO:=fun σ H Q=>∃α env h,cY K g α H env σ h/\WQ K g ε α H (m env h) fun o h'=>∀H' α',Ext K α H α' H'->aW K g α' H' h'->Q o H'
theorem PO.imp {e:Option Expr} {t t':TO} (h:PO X e t) (i:∀σ H Q,t' σ H Q->t σ H Q):PO X e t':=fun pins s σ H Q I w=>h pins s σ H Q I (i σ H Q w)
theorem dz:PO X none (tMO X.K g ε bA):=PO.imp Ad fun σ H Q ⟨α,env,h,s,w⟩=>w H α Ext.refl s.heap
theorem cN {e:Expr} {me:ME} (he:PE X e (tM X.K g ε me)):PO X (some e) (tMO X.K g ε (cH me)):=PO.imp (Bf he) fun σ H Q ⟨α,env,h,s,w⟩=>tM.use s w.bind fun d1 h1 v1 H1 α1 e1 s1 r1 w1=>by
 cases r1 with
 | int i=>exact⟨i,rfl,w1 H1 α1 e1 s1.heap⟩
 | _=>exact w1.elim
noncomputable def tP (nl:NL):D->Option Int->Option Int->Hh->R D:=fun d lo hi h=>match d with
 | .tup ds=>.ok (.tup (cutD ds lo hi)) h
 | .frl ds=>nl (cutD ds lo hi) h
 | .scr ds=>nl (cutD ds lo hi) h
 | .ref n=>match aI h n with
  | some ds=>nl (cutD ds lo hi) h
  | none=>.bad
 | _=>.bad
noncomputable def bU (nl:NL) (a:ME) (l u:MO):ME:=fun env h=>(a env h).bind fun x h1=>(l env h1).bind fun lo h2=>(u env h2).bind fun hi h3=>tP nl x lo hi h3
theorem tMO.use {α:List Addr} {H:Hp} {env:En} {σ:St} {h:Hh} {m:MO} {Q:Option Int->Hp->Prop} {k:Option Int->Hh->Prop} (s:cY K g α H env σ h) (w:WQ K g ε α H (m env h) k)
  (q:∀d h' H' α',Ext K α H α' H'->cY K g α' H' env σ h'->k d h'->Q d H'):tMO K g ε m σ H Q:=
 ⟨α,env,h,s,w.mono fun d h' _ kk H' α' e r=>q d h' H' α' e (s.ext e r) kk⟩
theorem cx {nl:NL} [fQ nl] {e:Expr} {me:ME} {lo hi:Option Expr} {ml mh:MO} {p2 pos:Pos} (he:PE X e (tM X.K g ε me)) (hl:PO X lo (tMO X.K g ε ml)) (hu:PO X hi (tMO X.K g ε mh)):PE X (.Subscript e (.Slice lo hi none p2) pos) (tM X.K g ε (bU nl me ml mh)):=
 PE.imp (PE.frz (xu (SlR.or Ac (SlR.or CI zQ)) he hl hu)) fun σ H Q ⟨α,env,h,s,w⟩=>tM.use s w.bind fun d1 h1 v1 H1 α1 e1 s1 r1 w1=>tMO.use s1 (w1.ext e1).bind fun o2 h2 H2 α2 e2 s2 w2=>tMO.use s2 (w2.ext e2).bind fun o3 h3 H3 α3 e3 s3 w3=>by
  have tr:=e1.trans (e2.trans e3)
  have r3:=r1.ext (e2.trans e3)
  have w4:=(w3.ext e3).mono fun _ _ _ p=>aF.ext tr p
  unfold tP at w4
  cases r3 with
  | @frl ds p vs hq rs=>exact .inl ⟨_,_,rfl,hq.sq,fun l hl=>NL.post w4 s3.heap (iV rs _ _) hl⟩
  | @scr ds p vs hq rs=>exact .inl ⟨_,_,rfl,hq.sq,fun l hl=>NL.post w4 s3.heap (iV rs _ _) hl⟩
  | @ref n p hp=>
   cases e1:aI h3 n with
   | none=>simp only[e1] at w4;exact w4.elim
   | some ds=>
    simp only[e1] at w4
    obtain⟨vs,hv,rs⟩:=s3.heap.lst e1 hp
    exact .inl ⟨_,_,rfl,SqL.of hv,fun l hl=>NL.post w4 s3.heap (iV rs _ _) hl⟩
  | @tup ds p vs hq rs=>
   refine .inr ?_
   by_cases hw:HT.sIx vs.length 0 o2=0/\HT.sIx vs.length vs.length o3=vs.length
   ·refine .inr ⟨_,_,rfl,SqT.of hq,hw.1,hw.2,?_⟩
    refine aF.vC w4 s3.heap (.tup hq ?_)
    have:nE vs o2 o3=vs:=by unfold nE;rw[hw.1,hw.2];simp
    have q:=iV rs o2 o3
    rw[this] at q
    exact q
   ·exact .inl ⟨_,_,rfl,SqT.of hq,hw,fun l hl=>.inl (aF.tup w4 s3.heap (iV rs _ _) hl)⟩
  | _=>exact w4.elim
end
noncomputable def d8:D->Bool
 | .non=>true | .bl _=>true | .int _=>true | .str _=>true
 | _=>false
noncomputable def eqF:D->D->Bool
 | .non,.non=>true
 | .bl a,.bl b=>a == b
 | .bl a,.int b=>(if a then 1 else 0) == b
 | .int a,.bl b=>a == (if b then 1 else 0)
 | .int a,.int b=>a == b
 | .str a,.str b=>a == b
 | _,_=>false
noncomputable def eqL (f:D->D->Option Bool):List D->List D->Option Bool
 | x::xs,y::ys=>match f x y,eqL f xs ys with
  | some b,some c=>some (b&&c)
  | _,_=>none
 | [],[]=>some true
 | _,_=>some false
inductive Vw where
 | fl | tp (ds:List D) | ls (ds:List D) | no
noncomputable def vw (d:D) (h:Hh):Vw:=match d with
 | .non=>.fl | .bl _=>.fl | .int _=>.fl | .str _=>.fl
 | .tup ds=>.tp ds
 | .frl ds=>.ls ds
 | .scr ds=>.ls ds
 | .ref n=>match aI h n with
  | some ds=>.ls ds
  | none=>.no
 | _=>.no
noncomputable def eqD:Nat->Hh->D->D->Option Bool
 | 0,_,_,_=>none
 | k+1,h,a,b=>match vw a h,vw b h with
  | .fl,.fl=>some (eqF a b)
  | .tp xs,.tp ys=>eqL (eqD k h) xs ys
  | .ls xs,.ls ys=>if xs.length=ys.length then eqL (eqD k h) xs ys else some false
  | .fl,.tp _=>some false
  | .fl,.ls _=>some false
  | .tp _,.fl=>some false
  | .tp _,.ls _=>some false
  | .ls _,.fl=>some false
  | .ls _,.tp _=>some false
  | _,_=>none
section
variable {K:PySem.W.Frag} {g:GG} {α:List Addr} {H:Hp} {h:Hh}
theorem lN {f:D->D->Option Bool} (hf:∀a b x c,aD K g α H a x->aD K g α H b x->f a b=some c->c=true):∀{xs ys:List D} {vs:List V} {c:Bool},av K g α H xs vs->av K g α H ys vs->eqL f xs ys=some c->c=true
 | _,_,_,_,.nil,.nil,e=>by simp[eqL] at e;exact e
 | _,_,_,c,.cons r t,.cons r' t',e=>by
  unfold eqL at e
  split at e
  ·rename_i b c' h1 h2
   have e1:=hf _ _ _ _ r r' h1
   have e2:=lN hf t t' h2
   subst e1 e2
   exact(Option.some.inj e).symm
  ·cases e
theorem kj {d:D} {x:V} (rd:aD K g α H d x) (e:vw d h=.fl):d8 d=true:=by
 cases rd with
 | ref hp=>unfold vw at e;simp only at e;split at e<;>cases e
 | _=>first | rfl | cases e
theorem km {d:D} {x:V} {ds:List D} (rd:aD K g α H d x) (e:vw d h=.tp ds):∃p vs,x=.ref p/\SqT K H p vs/\av K g α H ds vs:=by
 cases rd with
 | tup hp rs=>cases e;exact⟨_,_,rfl,SqT.of hp,rs⟩
 | ref hp=>unfold vw at e;simp only at e;split at e<;>cases e
 | _=>cases e
theorem ki {d:D} {x:V} {ds:List D} (r:aW K g α H h) (rd:aD K g α H d x) (e:vw d h=.ls ds):∃p vs,x=.ref p/\SqL K H p vs/\av K g α H ds vs:=by
 cases rd with
 | frl hp rs=>cases e;exact⟨_,_,rfl,hp.sq,rs⟩
 | scr hp rs=>cases e;exact⟨_,_,rfl,hp.sq,rs⟩
 | @ref n p hp=>
  unfold vw at e
  simp only at e
  cases el:aI h n with
  | none=>rw[el] at e;cases e
  | some ds'=>
   rw[el] at e;cases e
   obtain⟨vs,hv,rs⟩:=r.lst el hp
   exact⟨_,_,rfl,SqL.of hv,rs⟩
 | _=>cases e
theorem uv {f:D->D->Option Bool}:∀{xs ys:List D} {c:Bool},eqL f xs ys=some c →
  (∀(j:Nat) (x y:D),xs[j]?=some x->ys[j]?=some y->∃b,f x y=some b)/\c=((List.range (min xs.length ys.length)).all (fun j=>((f (xs.getD j .non) (ys.getD j .non)).getD false))&&xs.length == ys.length)
 | [],[],c,e=>by
  simp[eqL] at e
  refine⟨fun j x y h=>by simp at h,?_⟩
  simp[<- e]
 | [],_::_,c,e=>by
  simp[eqL] at e
  exact⟨fun j x y h=>by simp at h,by simp[<- e]⟩
 | _::_,[],c,e=>by
  simp[eqL] at e
  exact⟨fun j x y _ h=>by simp at h,by simp[<- e]⟩
 | x::xs,y::ys,c,e=>by
  unfold eqL at e
  split at e
  ·rename_i b c' h1 h2
   obtain⟨q1,q2⟩:=uv h2
   refine⟨fun j x' y' hx hy=>?_,?_⟩
   ·cases j with
    | zero=>simp at hx hy;subst hx hy;exact⟨b,h1⟩
    | succ j=>exact q1 j x' y' (by simpa using hx) (by simpa using hy)
   ·have e':=(Option.some.inj e).symm
    rw[e',q2]
    have hm:min (x::xs).length (y::ys).length=min xs.length ys.length+1:=by simp[Nat.succ_min_succ]
    rw[hm,List.range_succ_eq_map,List.all_cons,List.all_map]
    have h0:(f ((x::xs).getD 0 .non) ((y::ys).getD 0 .non)).getD false=b:=by
     show(f x y).getD false=b
     rw[h1];rfl
    rw[h0]
    have hlen:((x::xs).length == (y::ys).length)=(xs.length == ys.length):=by simp
    rw[hlen,Bool.and_assoc]
    rfl
  ·cases e
end
section
variable {X:Cx} {g:GG} {pins:List (Addr × Obj)} {σ:St} {H:Hp} {s:Shared} {α:List Addr} {h:Hh}
open PySem.SeqAt
theorem zO {A:Around} {a b:D} {x y:V} {u v:Value} {K:PySem.W.Frag} (ra:aD K g α H a x) (rb:aD K g α H b y) (ru:RelV x u) (rv:RelV y v) (fa:d8 a=true) (fb:d8 b=true) :
  EqAt A s u v (eqF a b)/\RcAt A s u v (eqF a b)/\RcNeAt A s u v (!eqF a b):=by
 cases ra with
 | non=>
  cases ru
  cases rb with
  | non=>cases rv;exact⟨.same _,.none_none,.none_none⟩
  | bl z=>cases rv;exact⟨.none_bool z,.none_bool z,.none_bool z⟩
  | int z=>obtain⟨t,rfl⟩:=rv;exact⟨.none_int z t,.none_int z t,.none_int z t⟩
  | str z=>obtain⟨t,rfl⟩:=rv;exact⟨.none_str z t,.none_str z t,.none_str z t⟩
  | _=>cases fb
 | bl q=>
  cases ru
  cases rb with
  | non=>cases rv;exact⟨.bool_none q,.bool_none q,.bool_none q⟩
  | bl z=>cases rv;exact⟨.bool_bool q z,.bool_bool q z,.bool_bool q z⟩
  | int z=>obtain⟨t,rfl⟩:=rv;exact⟨.bool_int q z t,.bool_int q z t,.bool_int q z t⟩
  | str z=>obtain⟨t,rfl⟩:=rv;exact⟨.bool_str q z t,.bool_str q z t,.bool_str q z t⟩
  | _=>cases fb
 | int q=>
  obtain⟨t',rfl⟩:=ru
  cases rb with
  | non=>cases rv;exact⟨.int_none q t',.int_none q t',.int_none q t'⟩
  | bl z=>cases rv;exact⟨.int_bool q t' z,.int_bool q t' z,.int_bool q t' z⟩
  | int z=>obtain⟨t,rfl⟩:=rv;exact⟨.int_int q t' z t,.int_int q t' z t,.int_int q t' z t⟩
  | str z=>obtain⟨t,rfl⟩:=rv;exact⟨.int_str q t' z t,.int_str q t' z t,.int_str q t' z t⟩
  | _=>cases fb
 | str q=>
  obtain⟨t',rfl⟩:=ru
  cases rb with
  | non=>cases rv;exact⟨.str_none q t',.str_none q t',.str_none q t'⟩
  | bl z=>cases rv;exact⟨.str_bool q t' z,.str_bool q t' z,.str_bool q t' z⟩
  | int z=>obtain⟨t,rfl⟩:=rv;exact⟨.str_int q t' z t,.str_int q t' z t,.str_int q t' z t⟩
  | str z=>obtain⟨t,rfl⟩:=rv;exact⟨.str_str q t' z t,.str_str q t' z t,.str_str q t' z t⟩
  | _=>cases fb
 | _=>cases fa
theorem rT {A:Around} {b:D} {y:V} {v:Value} {p:Addr} {its:Array Value} {K:PySem.W.Frag} (ht:s.heap.IsTuple p its) (hu:A.units<cLine) (rb:aD K g α H b y) (rv:RelV y v) (fb:d8 b=true) :
  (EqAt A s (.ref p) v false/\RcAt A s (.ref p) v false/\RcNeAt A s (.ref p) v true)/\(EqAt A s v (.ref p) false/\RcAt A s v (.ref p) false/\RcNeAt A s v (.ref p) true):=by
 cases rb with
 | non=>cases rv;exact⟨⟨.tuple_none ht hu,.tuple_none ht hu,.tuple_none ht hu⟩,.none_tuple ht hu,.none_tuple ht hu,.none_tuple ht hu⟩
 | bl z=>cases rv;exact⟨⟨.tuple_bool z ht hu,.tuple_bool z ht hu,.tuple_bool z ht hu⟩,.bool_tuple z ht hu,.bool_tuple z ht hu,.bool_tuple z ht hu⟩
 | int z=>obtain⟨t,rfl⟩:=rv;exact⟨⟨.tuple_int z t ht hu,.tuple_int z t ht hu,.tuple_int z t ht hu⟩,.int_tuple z t ht hu,.int_tuple z t ht hu,.int_tuple z t ht hu⟩
 | str z=>obtain⟨t,rfl⟩:=rv;exact⟨⟨.tuple_str z t ht hu,.tuple_str z t ht hu,.tuple_str z t ht hu⟩,.str_tuple z t ht hu,.str_tuple z t ht hu,.str_tuple z t ht hu⟩
 | _=>cases fb
theorem r_ {A:Around} {b:D} {y:V} {v:Value} {p:Addr} {its:Array Value} {K:PySem.W.Frag} (ht:s.heap.IsList p its) (hu:A.units<cLine) (rb:aD K g α H b y) (rv:RelV y v) (fb:d8 b=true) :
  (EqAt A s (.ref p) v false/\RcAt A s (.ref p) v false/\RcNeAt A s (.ref p) v true)/\(EqAt A s v (.ref p) false/\RcAt A s v (.ref p) false/\RcNeAt A s v (.ref p) true):=by
 cases rb with
 | non=>cases rv;exact⟨⟨.list_none ht hu,.list_none ht hu,.list_none ht hu⟩,.none_list ht hu,.none_list ht hu,.none_list ht hu⟩
 | bl z=>cases rv;exact⟨⟨.list_bool z ht hu,.list_bool z ht hu,.list_bool z ht hu⟩,.bool_list z ht hu,.bool_list z ht hu,.bool_list z ht hu⟩
 | int z=>obtain⟨t,rfl⟩:=rv;exact⟨⟨.list_int z t ht hu,.list_int z t ht hu,.list_int z t ht hu⟩,.int_list z t ht hu,.int_list z t ht hu,.int_list z t ht hu⟩
 | str z=>obtain⟨t,rfl⟩:=rv;exact⟨⟨.list_str z t ht hu,.list_str z t ht hu,.list_str z t ht hu⟩,.str_list z t ht hu,.str_list z t ht hu,.str_list z t ht hu⟩
 | _=>cases fb
theorem qF {A:Around} {k:Nat} {ds es:List D} {vs us:List V} {its jts:List Value} {c:Bool} (r:aW X.K g α H h)
  (ih:∀(a b:D) (x y:V) (u v:Value) (c:Bool),aD X.K g α H a x->aD X.K g α H b y->RelV x u->RelV y v->eqD k h a b=some c->EqAt A.in1 s u v c)
  (rs:av X.K g α H ds vs) (rt:av X.K g α H es us) (rv:Vals vs its) (ru:Vals us jts) (e:eqL (eqD k h) ds es=some c) :
  (∀j (h1:j<its.toArray.size) (h2:j<jts.toArray.size),EqAt A.in1 s its.toArray[j] jts.toArray[j] ((fun(j:Nat)=>(eqD k h (ds.getD j .non) (es.getD j .non)).getD false) j)) ∧
  c=((List.range (min its.toArray.size jts.toArray.size)).all (fun(j:Nat)=>(eqD k h (ds.getD j .non) (es.getD j .non)).getD false)&&its.toArray.size == jts.toArray.size):=by
 obtain⟨q1,q2⟩:=uv e
 have l1:its.toArray.size=ds.length:=by rw[List.size_toArray,<- rv.length,rs.length]
 have l2:jts.toArray.size=es.length:=by rw[List.size_toArray,<- ru.length,rt.length]
 refine⟨fun j h1 h2=>?_,by rw[l1,l2];exact q2⟩
 have hd:ds[j]?=some (ds.getD j .non):=by rw[List.getD_eq_getElem?_getD,List.getElem?_eq_getElem (by omega)];rfl
 have he:es[j]?=some (es.getD j .non):=by rw[List.getD_eq_getElem?_getD,List.getElem?_eq_getElem (by omega)];rfl
 obtain⟨b,hb⟩:=q1 j _ _ hd he
 obtain⟨x,hx,rx⟩:=rs.get hd
 obtain⟨y,hy,ry⟩:=rt.get he
 obtain⟨u,hu,rxu⟩:=rv.get hx
 obtain⟨v,hv,ryv⟩:=ru.get hy
 have eu:its.toArray[j]=u:=by
  have:=List.getElem?_eq_getElem (l:=its) (i:=j) (by simpa using h1)
  rw[hu] at this
  simpa using(Option.some.inj this).symm
 have ev:jts.toArray[j]=v:=by
  have:=List.getElem?_eq_getElem (l:=jts) (i:=j) (by simpa using h2)
  rw[hv] at this
  simpa using(Option.some.inj this).symm
 rw[eu,ev]
 show EqAt A.in1 s u v ((eqD k h (ds.getD j .non) (es.getD j .non)).getD false)
 rw[hb]
 exact ih _ _ _ _ _ _ _ rx ry rxu ryv hb
theorem t_ (I:Inv X pins σ H s) {p:Addr} {vs us:List V} (a:SqT X.K H p vs) (b:SqL X.K H p us):False:=by
 obtain⟨its,r1,⟨o,e,c,_⟩,_⟩:=I.tuple a
 obtain⟨jts,r2,⟨o',n',e',c',_⟩,_⟩:=I.list b
 rw[e] at e';cases e';rw[c] at c';injection c' with z;exact absurd z (by decide)
theorem mw (I:Inv X pins σ H s) (r:aW X.K g α H h):∀(k:Nat) (a b:D) (x:V) (c:Bool),aD X.K g α H a x->aD X.K g α H b x->eqD k h a b=some c->c=true
 | 0,_,_,_,_,_,_,e=>by cases e
 | k+1,a,b,x,c,ra,rb,e=>by
  unfold eqD at e
  cases ea:vw a h with
  | no=>simp[ea] at e
  | fl=>
   have fa:=kj ra ea
   cases eb:vw b h with
   | no=>simp[ea,eb] at e
   | fl=>
    simp only[ea,eb] at e
    cases e
    have fb:=kj rb eb
    cases ra with
    | non=>cases rb with
     | non=>rfl
    | bl z=>cases rb with
     | bl _=>simp[eqF]
    | int z=>cases rb with
     | int _=>simp[eqF]
    | str z=>cases rb with
     | str _=>simp[eqF]
    | _=>cases fa
   | tp ds=>obtain⟨p,vs,rfl,_⟩:=km rb eb;cases ra<;>cases fa
   | ls ds=>obtain⟨p,vs,rfl,_⟩:=ki r rb eb;cases ra<;>cases fa
  | tp da=>
   obtain⟨p,va,rfl,hp,rs⟩:=km ra ea
   cases eb:vw b h with
   | no=>simp[ea,eb] at e
   | fl=>have fb:=kj rb eb;cases rb<;>cases fb
   | tp db=>
    simp only[ea,eb] at e
    obtain⟨q,vb,hpq,hq,rt⟩:=km rb eb
    cases hpq
    have:=I.gY hp hq
    subst this
    exact lN (fun a b x c=>mw I r k a b x c) rs rt e
   | ls db=>
    obtain⟨q,vb,hpq,hq,rt⟩:=ki r rb eb
    cases hpq
    exact(t_ I hp hq).elim
  | ls da=>
   obtain⟨p,va,rfl,hp,rs⟩:=ki r ra ea
   cases eb:vw b h with
   | no=>simp[ea,eb] at e
   | fl=>have fb:=kj rb eb;cases rb<;>cases fb
   | tp db=>
    obtain⟨q,vb,hpq,hq,rt⟩:=km rb eb
    cases hpq
    exact(t_ I hq hp).elim
   | ls db=>
    simp only[ea,eb] at e
    obtain⟨q,vb,hpq,hq,rt⟩:=ki r rb eb
    cases hpq
    have:=I.i_ hp hq
    subst this
    rw[if_pos (by rw[rs.length,rt.length])] at e
    exact lN (fun a b x c=>mw I r k a b x c) rs rt e
theorem tE (I:Inv X pins σ H s) (r:aW X.K g α H h):∀(k:Nat) (A:Around) (a b:D) (x y:V) (u v:Value) (c:Bool),A.units+k<cLine->aD X.K g α H a x->aD X.K g α H b y->RelV x u->RelV y v->eqD k h a b=some c →
  EqAt A s u v c/\RcAt A s u v c/\RcNeAt A s u v (!c)
 | 0,_,_,_,_,_,_,_,_,_,_,_,_,_,e=>by cases e
 | k+1,A,a,b,x,y,u,v,c,hu,ra,rb,ru,rv,e=>by
  have hu0:A.units<cLine:=by omega
  have ih:∀(a b:D) (x y:V) (u v:Value) (c:Bool),aD X.K g α H a x->aD X.K g α H b y->RelV x u->RelV y v->eqD k h a b=some c->EqAt A.in1 s u v c:=
   fun a b x y u v c h1 h2 h3 h4 h5=>(tE I r k A.in1 a b x y u v c (by show A.units+1+k<_;omega) h1 h2 h3 h4 h5).1
  have whole:=fun x ra rb=>mw I r (k+1) a b x c ra rb e
  unfold eqD at e
  cases ea:vw a h with
  | no=>simp[ea] at e
  | fl=>
   have fa:=kj ra ea
   cases eb:vw b h with
   | no=>simp[ea,eb] at e
   | fl=>simp only[ea,eb] at e;cases e;exact zO ra rb ru rv fa (kj rb eb)
   | tp db=>
    simp only[ea,eb] at e;cases e
    obtain⟨q,vb,rfl,hq,rt⟩:=km rb eb
    cases rv
    obtain⟨its,r1,ht,_⟩:=I.tuple hq
    exact(rT ht hu0 ra ru fa).2
   | ls db=>
    simp only[ea,eb] at e;cases e
    obtain⟨q,vb,rfl,hq,rt⟩:=ki r rb eb
    cases rv
    obtain⟨its,r1,ht,_⟩:=I.list hq
    exact(r_ ht.isList hu0 ra ru fa).2
  | tp da=>
   obtain⟨p,va,rfl,hp,rs⟩:=km ra ea
   cases ru
   obtain⟨its,r1,ht,_⟩:=I.tuple hp
   cases eb:vw b h with
   | no=>simp[ea,eb] at e
   | fl=>simp only[ea,eb] at e;cases e;exact(rT ht hu0 rb rv (kj rb eb)).1
   | tp db=>
    simp only[ea,eb] at e
    obtain⟨q,vb,rfl,hq,rt⟩:=km rb eb
    cases rv
    obtain⟨jts,r2,ht2,_⟩:=I.tuple hq
    obtain⟨h1,h2⟩:=qF r ih rs rt r1 r2 e
    have rc:RcAt A s (.ref p) (.ref q) c:=by rw[h2];exact RcAt.tuples ht ht2 hu0 h1
    refine⟨?_,rc,by rw[h2];exact RcNeAt.tuples ht ht2 hu0 h1⟩
    by_cases hpq:p=q
    ·subst hpq
     rw[whole _ ra rb]
     exact .same _
    ·exact .of_refs hpq rc
   | ls db=>
    simp only[ea,eb] at e;cases e
    obtain⟨q,vb,rfl,hq,rt⟩:=ki r rb eb
    cases rv
    obtain⟨jts,r2,ht2,_⟩:=I.list hq
    exact⟨.tuple_list ht ht2.isList hu0,.tuple_list ht ht2.isList hu0,.tuple_list ht ht2.isList hu0⟩
  | ls da=>
   obtain⟨p,va,rfl,hp,rs⟩:=ki r ra ea
   cases ru
   obtain⟨its,r1,ht',_⟩:=I.list hp
   have ht:=ht'.isList
   cases eb:vw b h with
   | no=>simp[ea,eb] at e
   | fl=>simp only[ea,eb] at e;cases e;exact(r_ ht hu0 rb rv (kj rb eb)).1
   | tp db=>
    simp only[ea,eb] at e;cases e
    obtain⟨q,vb,rfl,hq,rt⟩:=km rb eb
    cases rv
    obtain⟨jts,r2,ht2,_⟩:=I.tuple hq
    exact⟨.list_tuple ht ht2 hu0,.list_tuple ht ht2 hu0,.list_tuple ht ht2 hu0⟩
   | ls db=>
    simp only[ea,eb] at e
    obtain⟨q,vb,rfl,hq,rt⟩:=ki r rb eb
    cases rv
    obtain⟨jts,r2,ht2',_⟩:=I.list hq
    have ht2:=ht2'.isList
    have l1:its.toArray.size=da.length:=by rw[List.size_toArray,<- r1.length,rs.length]
    have l2:jts.toArray.size=db.length:=by rw[List.size_toArray,<- r2.length,rt.length]
    have fin:RcAt A s (.ref p) (.ref q) c/\RcNeAt A s (.ref p) (.ref q) (!c):=by
     by_cases hl:da.length=db.length
     ·rw[if_pos hl] at e
      obtain⟨h1,h2⟩:=qF r ih rs rt r1 r2 e
      have hsz:its.toArray.size=jts.toArray.size:=by omega
      have h2':c=(List.range its.toArray.size).all (fun(j:Nat)=>(eqD k h (da.getD j .non) (db.getD j .non)).getD false):=by
       rw[h2,<- hsz,Nat.min_self];simp
      exact⟨by rw[h2'];exact RcAt.lists ht ht2 hsz hu0 h1,by rw[h2'];exact RcNeAt.lists ht ht2 hsz hu0 h1⟩
     ·rw[if_neg hl] at e
      have e2:c=false:=(Option.some.inj e).symm
      have hsz:(its.toArray.size != jts.toArray.size)=true:=by
       rw[l1,l2];simpa using hl
      rw[e2]
      exact⟨RcAt.lists_lengths ht ht2 hsz hu0,RcNeAt.lists_lengths ht ht2 hsz hu0⟩
    refine⟨?_,fin⟩
    by_cases hpq:p=q
    ·subst hpq
     rw[whole _ ra rb]
     exact .same _
    ·exact .of_refs hpq fin.1
noncomputable abbrev eqN:Nat:=12
noncomputable def dEq:D->D->Hh->R D:=fun a b h=>match eqD eqN h a b with
 | some c=>.ok (.bl c) h
 | none=>.bad
noncomputable def dNe:D->D->Hh->R D:=fun a b h=>match eqD eqN h a b with
 | some c=>.ok (.bl (!c)) h
 | none=>.bad
noncomputable def Bc (K:PySem.W.Frag) (g:GG) (neg:Bool):R2:=fun x y H Q=>∃α h a b c,aW K g α H h/\aD K g α H a x/\aD K g α H b y/\eqD eqN h a b=some c/\Q (.bl (if neg then !c else c)) H
theorem fP (hu:X.A.units+64<cLine):OpR X (compareOp .Eq) (Bc X.K g false):=by
 intro pins s σ H x y v u Q I rx ry ⟨α,h,a,b,c,r,ra,rb,e,q⟩
 exact(tE I r eqN X.A a b x y v u c (by show X.A.units+12<_;omega) ra rb rx ry e).2.1 _ _ _ _ ⟨.bl c,H,I,rfl,q⟩
theorem jO (hu:X.A.units+64<cLine):OpR X (compareOp .NotEq) (Bc X.K g true):=by
 intro pins s σ H x y v u Q I rx ry ⟨α,h,a,b,c,r,ra,rb,e,q⟩
 exact(tE I r eqN X.A a b x y v u c (by show X.A.units+12<_;omega) ra rb rx ry e).2.2 _ _ _ _ ⟨.bl (!c),H,I,rfl,q⟩
theorem iZ {ε:EE} {K:PySem.W.Frag}:dq K g ε dEq (Bc K g false):=by
 intro α H h a b x y Q r ra rb w
 unfold dEq at w
 cases e:eqD eqN h a b with
 | none=>simp only[e] at w;exact w.elim
 | some c=>simp only[e] at w;exact⟨α,h,a,b,c,r,ra,rb,e,aF.now w r (.bl _)⟩
theorem oq {ε:EE} {K:PySem.W.Frag}:dq K g ε dNe (Bc K g true):=by
 intro α H h a b x y Q r ra rb w
 unfold dNe at w
 cases e:eqD eqN h a b with
 | none=>simp only[e] at w;exact w.elim
 | some c=>simp only[e] at w;exact⟨α,h,a,b,c,r,ra,rb,e,aF.now w r (.bl _)⟩
end
noncomputable def cF (f:D->Option PyData):List D->Option (List PyData)
 | []=>some []
 | d::ds=>match f d,cF f ds with
  | some p,some ps=>some (p::ps)
  | _,_=>none
noncomputable def toPy:Nat->Hh->D->Option PyData
 | 0,_,_=>none
 | k+1,h,d=>match d with
  | .non=>some .none
  | .bl b=>some (.bool b)
  | .int i=>if sml i=true then some (.int i) else none
  | .str x=>if x.cps.toList.all (fun c=>decide (c<16 ^ 8))=true then some (.str x) else none
  | .tup ds=>(cF (toPy k h) ds).map .tuple
  | .frl ds=>(cF (toPy k h) ds).map .list
  | .ref n=>match aI h n with
   | some ds=>(cF (toPy k h) ds).map .list
   | none=>none
  | _=>none
structure E4 (k:Nat) (d:PyData):Prop where
 sh:d.showable=true
 nd:d.hasDict=false
 dp:d.depth<=k
 lv:d.leavesShort 1921=true
structure ER (k:Nat) (ds:List PyData):Prop where
 sh:PyData.showableAll ds=true
 nd:PyData.hasDictAll ds=false
 dp:PyData.depthAll ds<=k
 lv:PyData.leavesShortAll 1921 ds=true
section
variable {K:PySem.W.Frag} {g:GG} {α:List Addr} {H:Hp} {h:Hh}
theorem js {f:D->Option PyData} {k:Nat} (hf:∀d x p,aD K g α H d x->f d=some p->RdD K H x p/\E4 k p):∀{ds:List D} {vs:List V} {ps:List PyData},av K g α H ds vs->cF f ds=some ps →
  ER k ps/\vs.length=ps.length/\∀(i:Nat) x d,vs[i]?=some x->ps[i]?=some d->RdD K H x d
 | _,_,_,.nil,e=>by
  cases e
  exact⟨⟨by simp[PyData.showableAll],by simp[PyData.hasDictAll],by simp[PyData.depthAll],by simp[PyData.leavesShortAll]⟩,rfl,fun i x d h=>by simp at h⟩
 | _,_,_,.cons r t,e=>by
  unfold cF at e
  split at e
  ·rename_i p ps h1 h2
   cases e
   obtain⟨a1,a2⟩:=hf _ _ _ r h1
   obtain⟨b1,b2,b3⟩:=js hf t h2
   refine⟨⟨by rw[PyData.showableAll,a2.sh,b1.sh];rfl,by rw[PyData.hasDictAll,a2.nd,b1.nd];rfl,by rw[PyData.depthAll];exact Nat.max_le.mpr ⟨a2.dp,b1.dp⟩,by rw[PyData.leavesShortAll,a2.lv,b1.lv];rfl⟩,by simp[b2],fun i x d hx hd=>?_⟩
   cases i with
   | zero=>simp at hx hd;subst hx hd;exact a1
   | succ i=>exact b3 i x d (by simpa using hx) (by simpa using hd)
  ·cases e
theorem kR (r:aW K g α H h):∀(k:Nat) (d:D) (x:V) (p:PyData),aD K g α H d x->toPy k h d=some p->RdD K H x p/\E4 k p
 | 0,_,_,_,_,e=>by cases e
 | k+1,d,x,p,rd,e=>by
  unfold toPy at e
  cases rd with
  | non=>cases e;exact⟨.non,by simp[PyData.showable],by simp[PyData.hasDict],by simp[PyData.depth],by simp[PyData.leavesShort]⟩
  | bl b=>cases e;exact⟨.bl b,by simp[PyData.showable],by simp[PyData.hasDict],by simp[PyData.depth],by simp[PyData.leavesShort]⟩
  | int i=>
   simp only at e
   split at e
   ·rename_i hs
    cases e
    have hl:i.natAbs.log2<1920:=Nat.lt_trans (kQ hs) (by decide)
    exact⟨.int i,by simp[PyData.showable,hl],by simp[PyData.hasDict],by simp[PyData.depth],by simp only[PyData.leavesShort,decide_eq_true_eq];exact int_text_len_1921 hl⟩
   ·cases e
  | str z=>
   simp only at e
   split at e
   ·rename_i hs
    cases e
    exact⟨.str z,by simp[PyData.showable],by simp[PyData.hasDict],by simp[PyData.depth],by simpa only[PyData.leavesShort] using hs⟩
   ·cases e
  | tup hp rs=>
   simp only at e
   cases e1:cF (toPy k h) _ with
   | none=>rw[e1] at e;cases e
   | some ps=>
    rw[e1] at e
    cases e
    obtain⟨b1,b2,b3⟩:=js (fun d x p=>kR r k d x p) rs e1
    exact⟨.tup (SqT.of hp) b2 b3,by rw[PyData.showable];exact b1.sh,by rw[PyData.hasDict];exact b1.nd,by rw[PyData.depth];exact Nat.succ_le_succ b1.dp,by rw[PyData.leavesShort];exact b1.lv⟩
  | @ref n p hp=>
   simp only at e
   cases el:aI h n with
   | none=>rw[el] at e;cases e
   | some ds=>
    rw[el] at e
    simp only at e
    obtain⟨vs,hv,rs⟩:=r.lst el hp
    cases e1:cF (toPy k h) ds with
    | none=>rw[e1] at e;cases e
    | some ps=>
     rw[e1] at e
     cases e
     obtain⟨b1,b2,b3⟩:=js (fun d x p=>kR r k d x p) rs e1
     exact⟨.lst (SqL.of hv) b2 b3,by rw[PyData.showable];exact b1.sh,by rw[PyData.hasDict];exact b1.nd,by rw[PyData.depth];exact Nat.succ_le_succ b1.dp,by rw[PyData.leavesShort];exact b1.lv⟩
  | frl hp rs=>
   simp only at e
   cases e1:cF (toPy k h) _ with
   | none=>rw[e1] at e;cases e
   | some ps=>
    rw[e1] at e
    cases e
    obtain⟨b1,b2,b3⟩:=js (fun d x p=>kR r k d x p) rs e1
    exact⟨.lst hp.sq b2 b3,by rw[PyData.showable];exact b1.sh,by rw[PyData.hasDict];exact b1.nd,by rw[PyData.depth];exact Nat.succ_le_succ b1.dp,by rw[PyData.leavesShort];exact b1.lv⟩
  | fn _=>cases e
  | edic _=>cases e
  | exc _ _ _ _ _=>cases e
  | scr _ _=>cases e
end
noncomputable def hZ (d:D) (h:Hh):R D:=match toPy 12 h d with
 | some p=>if p.bulk<=8000 then .ok (.str p.shown) h else .bad
 | none=>.bad
noncomputable def mE:List D->Hh->R D:=fun ds h=>match ds with
 | [.int i]=>if sml i=true then .ok (.str (toString i)) h else .bad
 | [.tup ds]=>hZ (.tup ds) h
 | [.ref n]=>hZ (.ref n) h
 | [.frl ds]=>hZ (.frl ds) h
 | _=>.bad
section
variable {X:Cx} {K:PySem.W.Frag} {g:GG} {ε:EE}
noncomputable abbrev pB (K:PySem.W.Frag):List V->Hp->VK->Prop:=fun vs H Q=>(∃p d,vs=[.ref p]/\RdD K H (.ref p) d/\d.showable=true/\d.hasDict=false/\d.depth<=60/\d.shown.length<=sizeLine/\Q (.str d.shown) H)\/∃i,vs=[.int i]/\i.natAbs.log2<1920/\Q (.str (toString i)) H
theorem AA (hg:X.A.guards=some []) (hu:X.A.units+64<cLine):aR X (.builtin "repr") (pB X.K):=aR.or (vx hg hu) sZ
theorem AY:jq K g ε mE (pB K):=by
 intro α H h a x Q r ra w
 unfold mE at w
 cases ra with
 | nil=>exact w.elim
 | cons rd rr=>
  cases rr with
  | cons _ _=>cases rd<;>exact w.elim
  | nil=>
   have gen:∀{d:D} {v:V},aD K g α H d v->(∃p,v=.ref p)->WQ K g ε α H (hZ d h) (aF K g α H Q)->pB K [v] H Q:=by
    intro d v rd ⟨p,hp⟩ w
    subst hp
    unfold hZ at w
    cases e:toPy 12 h d with
    | none=>simp only[e] at w;exact w.elim
    | some pd=>
     simp only[e] at w
     obtain⟨hb,w⟩:=WQ.dy w
     obtain⟨q1,q2⟩:=kR r 12 d _ pd rd e
     have:=PyData.shown_le_bulk 1921 (by decide) pd q2.lv
     exact .inl ⟨p,pd,rfl,q1,q2.sh,q2.nd,Nat.le_trans q2.dp (by decide),by rw[sizeLine_eq];omega,aF.now w r (.str _)⟩
   cases rd with
   | int i=>
    obtain⟨hs,w⟩:=WQ.dy w
    exact .inr ⟨i,rfl,Nat.lt_trans (kQ hs) (by decide),aF.now w r (.str _)⟩
   | tup hp rs=>exact gen (.tup hp rs) ⟨_,rfl⟩ w
   | ref hp=>exact gen (.ref hp) ⟨_,rfl⟩ w
   | frl hp rs=>exact gen (.frl hp rs) ⟨_,rfl⟩ w
   | _=>exact w.elim
noncomputable def jT:List D->Hh->R D:=fun ds h=>match ds with
 | [.tup ds]=>.ok (.int ds.length) h
 | [.frl ds]=>.ok (.int ds.length) h
 | [.scr ds]=>.ok (.int ds.length) h
 | [.str x]=>if x.length<=1000000 then .ok (.int x.length) h else .bad
 | [.ref n]=>match h[n]? with
  | some (.lst ds)=>.ok (.int ds.length) h
  | some (.set k)=>.ok (.int k.length) h
  | _=>.bad
 | _=>.bad
noncomputable abbrev BI (K:PySem.W.Frag):List V->Hp->VK->Prop:=fun xs H Q=>(∃p ys,xs=[.ref p]/\(SqL K H p ys\/SqT K H p ys)/\Q (.int ys.length) H)\/(∃p S n,xs=[.ref p]/\H p=some (.set S n)/\Q (.int n) H)\/∃z,xs=[.str z]/\z.length<=sizeLine/\Q (.int z.length) H
theorem kZ:aR X (.builtin "len") (BI X.K):=aR.or qk (aR.or nD qB)
theorem lx {α:List Addr} {H:Hp} {h:Hh} {ds:List D} {vs:List V} {f:List D->Hh->R D} {Q:VK} (hf:∀d e r h,f (d::e::r) h=.bad) (hf0:∀h,f [] h=.bad) (rs:av K g α H ds vs) (w:WQ K g ε α H (f ds h) (aF K g α H Q)):∃d v,ds=[d]/\vs=[v]/\aD K g α H d v:=by
 cases rs with
 | nil=>rw[hf0] at w;exact w.elim
 | cons r t=>
  cases t with
  | nil=>exact⟨_,_,rfl,rfl,r⟩
  | cons _ _=>rw[hf] at w;exact w.elim
theorem lF:jq K g ε jT (BI K):=by
 intro α H h a x Q r ra w
 obtain⟨d,v,rfl,rfl,rd⟩:=lx (f:=jT) (fun d _ _ _=>by cases d<;>rfl) (fun _=>rfl) ra w
 unfold jT at w
 cases rd with
 | tup hp rs=>exact .inl ⟨_,_,rfl,.inr (SqT.of hp),aF.now w r (by rw[<- rs.length];exact .int _)⟩
 | frl hp rs=>exact .inl ⟨_,_,rfl,.inl hp.sq,aF.now w r (by rw[<- rs.length];exact .int _)⟩
 | scr hp rs=>exact .inl ⟨_,_,rfl,.inl hp.sq,aF.now w r (by rw[<- rs.length];exact .int _)⟩
 | str z=>
  obtain⟨hl,w⟩:=WQ.dy w
  exact .inr (.inr ⟨z,rfl,eh hl,aF.now w r (.int _)⟩)
 | @ref n p hp=>
  simp only at w
  cases e:h[n]? with
  | none=>rw[e] at w;exact w.elim
  | some o=>
   rw[e] at w
   have q:=r.here n p o hp e
   cases o with
   | lst ds=>obtain⟨vs,hv,rs⟩:=q;exact .inl ⟨p,vs,rfl,.inl (SqL.of hv),aF.now w r (by rw[<- rs.length];exact .int _)⟩
   | set k=>exact .inr (.inl ⟨p,_,_,rfl,q,aF.now w r (.int _)⟩)
   | dic k=>exact w.elim
   | dit k=>exact w.elim
 | _=>exact w.elim
noncomputable def dList (nl:NL):List D->Hh->R D:=fun ds h=>match ds with
 | [d]=>match eW d h with
  | some xs=>nl xs h
  | none=>.bad
 | _=>.bad
theorem pY {nl:NL} [fQ nl]:jq K g ε (dList nl) (fun xs H Q=>∃p ys,xs=[.ref p]/\(SqL K H p ys\/SqT K H p ys)/\∀l,H l=none->f7 Q (.ref l) (upd H l (.lst ys))):=by
 intro α H h a x Q r ra w
 obtain⟨d,v,rfl,rfl,rd⟩:=lx (f:=dList nl) (fun _ _ _ _=>rfl) (fun _=>rfl) ra w
 unfold dList at w
 simp only at w
 cases e:eW d h with
 | none=>rw[e] at w;exact w.elim
 | some ds=>
  rw[e] at w
  obtain⟨p,vs,rfl,hq,rs⟩:=kL r rd e
  exact⟨p,vs,rfl,hq,fun l hl=>NL.post w r rs hl⟩
noncomputable def cq:List D->Hh->R D:=fun ds h=>match ds with
 | [.tup ds]=>.ok (.tup ds) h
 | [.frl ds]=>.ok (.tup ds) h
 | [.ref n]=>match aI h n with
  | some ds=>.ok (.tup ds) h
  | none=>.bad
 | _=>.bad
theorem eE:jq K g ε cq (fun xs H Q=>∃p ys,xs=[.ref p]/\((SqL K H p ys/\∀l,H l=none->Q (.ref l) (upd H l (.tup ys)))\/(SqT K H p ys/\Q (.ref p) H))):=by
 intro α H h a x Q r ra w
 obtain⟨d,v,rfl,rfl,rd⟩:=lx (f:=cq) (fun d _ _ _=>by cases d<;>rfl) (fun _=>rfl) ra w
 unfold cq at w
 cases rd with
 | tup hp rs=>exact⟨_,_,rfl,.inr ⟨SqT.of hp,aF.now w r (.tup hp rs)⟩⟩
 | frl hp rs=>exact⟨_,_,rfl,.inl ⟨hp.sq,fun l hl=>aF.tup w r rs hl⟩⟩
 | @ref n p hp=>
  simp only at w
  cases e:aI h n with
  | none=>rw[e] at w;exact w.elim
  | some ds=>
   rw[e] at w
   obtain⟨vs,hv,rs⟩:=r.lst e hp
   exact⟨p,vs,rfl,.inl ⟨SqL.of hv,fun l hl=>aF.tup w r rs hl⟩⟩
 | _=>exact w.elim
noncomputable def intsOf:List D->Option (List Int)
 | []=>some []
 | .int i::ds=>(intsOf ds).map (i::·)
 | _::_=>none
theorem gH:∀{ds:List D} {ns:List Int},intsOf ds=some ns->ds=ns.map D.int
 | [],ns,e=>by cases e;rfl
 | .int i::ds,ns,e=>by
  unfold intsOf at e
  cases e1:intsOf ds with
  | none=>rw[e1] at e;cases e
  | some ms=>rw[e1] at e;cases e;rw[gH e1];rfl
 | .non::_,_,e=>by cases e
 | .bl _::_,_,e=>by cases e
 | .str _::_,_,e=>by cases e
 | .tup _::_,_,e=>by cases e
 | .frl _::_,_,e=>by cases e
 | .ref _::_,_,e=>by cases e
 | .fn _::_,_,e=>by cases e
 | .edic::_,_,e=>by cases e
 | .exc _ _::_,_,e=>by cases e
 | .scr _::_,_,e=>by cases e
theorem gm:∀(ns:List Int),intsOf (ns.map D.int)=some ns
 | []=>rfl
 | n::r=>by rw[List.map_cons,intsOf,gm r];rfl
noncomputable def zx:List D->Hh->R D:=fun ds h=>match ds with
 | [.int i,.int j]=>.ok (.int (if j > i then j else i)) h
 | _=>.bad
noncomputable def nM:List D->Hh->R D:=fun ds h=>match ds with
 | [.int i,.int j]=>.ok (.int (if j<i then j else i)) h
 | _=>.bad
theorem rM {α:List Addr} {H:Hp} {h:Hh} {ds:List D} {vs:List V} {t:Int->Int->Int} {Q:VK} (r:aW K g α H h) (rs:av K g α H ds vs) (w:WQ K g ε α H (match ds with | [.int i,.int j]=>.ok (.int (t i j)) h | _=>.bad) (aF K g α H Q)):∃i j,vs=[.int i,.int j]/\Q (.int (t i j)) H:=by
 split at w
 ·cases rs with
  | cons r1 t1=>
   cases r1
   cases t1 with
   | cons r2 t2=>
    cases r2
    cases t2
    exact⟨_,_,rfl,aF.now w r (.int _)⟩
 ·exact w.elim
theorem Bj:jq K g ε zx (fun xs H Q=>∃i j,xs=[.int i,.int j]/\Q (.int (if j > i then j else i)) H):=fun α H h a x Q r ra w=>rM (t:=fun i j=>if j > i then j else i) r ra w
theorem z0:jq K g ε nM (fun xs H Q=>∃i j,xs=[.int i,.int j]/\Q (.int (if j<i then j else i)) H):=fun α H h a x Q r ra w=>rM (t:=fun i j=>if j<i then j else i) r ra w
noncomputable def yI:List D->Hh->R D:=fun ds h=>match ds with
 | [.int i]=>.ok (.int i) h
 | [.bl b]=>.ok (.int (if b then 1 else 0)) h
 | _=>.bad
theorem DI:jq K g ε yI (fun xs H Q=>(∃i,xs=[.int i]/\Q (.int i) H)\/∃k,xs=[.bl k]/\Q (.int (if k then 1 else 0)) H):=by
 intro α H h a x Q r ra w
 obtain⟨d,v,rfl,rfl,rd⟩:=lx (f:=yI) (fun d _ _ _=>by cases d<;>rfl) (fun _=>rfl) ra w
 unfold yI at w
 cases rd with
 | int i=>exact .inl ⟨i,rfl,aF.now w r (.int _)⟩
 | bl b=>exact .inr ⟨b,rfl,aF.now w r (.int _)⟩
 | _=>exact w.elim
noncomputable def tyD (d:D) (h:Hh):Option String:=match d with
 | .non=>some "NoneType"
 | .bl _=>some "bool"
 | .int _=>some "int"
 | .str _=>some "str"
 | .tup _=>some "tuple"
 | .frl _=>some "list"
 | .edic=>some "dict"
 | .ref n=>match h[n]? with
  | some (.lst _)=>some "list"
  | some (.dic _)=>some "dict"
  | some (.dit _)=>some "dict"
  | _=>none
 | _=>none
noncomputable def ue (t n:String):Option Bool:=
 if n="int" then (if t="int" then some true else if t="bool" then some true else if t="NoneType" \/ t="str" \/ t="tuple" \/ t="list" \/ t="dict" then some false else none)
 else if n="bool" \/ n="tuple" \/ n="list" \/ n="str" then (if t=n then some true else if t="int" \/ t="bool" \/ t="NoneType" \/ t="str" \/ t="tuple" \/ t="list" \/ t="dict" then some false else none)
 else none
noncomputable def fA (n:String):D->Hh->R D:=fun d h=>match tyD d h with
 | some t=>match ue t n with
  | some b=>.ok (.bl b) h
  | none=>.bad
 | none=>.bad
theorem EH {α:List Addr} {H:Hp} {h:Hh} {d:D} {v:V} {t:String} (r:aW K g α H h) (rd:aD K g α H d v) (e:tyD d h=some t):iG K H v (.type t):=by
 unfold tyD at e
 cases rd with
 | non=>cases e;exact .non
 | bl b=>cases e;exact .bl b
 | int i=>cases e;exact .int i
 | str i=>cases e;exact .str i
 | tup hp rs=>cases e;exact .tup hp
 | frl hp rs=>cases e;obtain⟨o,hp⟩:=hp;exact .frz hp
 | edic hp=>cases e;exact .fM hp
 | @ref n p hp=>
  simp only at e
  cases eo:h[n]? with
  | none=>rw[eo] at e;cases e
  | some o=>
   rw[eo] at e
   have q:=r.here n p o hp eo
   cases o with
   | lst ds=>cases e;obtain⟨vs,hv,_⟩:=q;exact .lst hv
   | set k=>cases e
   | dic k=>cases e;obtain⟨vs,hv,_⟩:=q;exact .dK hv
   | dit k=>cases e;obtain⟨vs,hv,_⟩:=q;exact .dT hv
 | _=>cases e
theorem zU (K:PySem.W.Frag):PySem.W.kitOne K (.type "int") (.type "int")=some true/\PySem.W.kitOne K (.type "bool") (.type "int")=some true/\PySem.W.kitOne K (.type "NoneType") (.type "int")=some false/\PySem.W.kitOne K (.type "str") (.type "int")=some false
  /\ PySem.W.kitOne K (.type "tuple") (.type "int")=some false/\PySem.W.kitOne K (.type "list") (.type "int")=some false/\PySem.W.kitOne K (.type "dict") (.type "int")=some false:=⟨rfl,rfl,rfl,rfl,rfl,rfl,rfl⟩
theorem xX (K:PySem.W.Frag):PySem.W.kitOne K (.type "int") (.type "bool")=some false/\PySem.W.kitOne K (.type "bool") (.type "bool")=some true/\PySem.W.kitOne K (.type "NoneType") (.type "bool")=some false/\PySem.W.kitOne K (.type "str") (.type "bool")=some false
  /\ PySem.W.kitOne K (.type "tuple") (.type "bool")=some false/\PySem.W.kitOne K (.type "list") (.type "bool")=some false/\PySem.W.kitOne K (.type "dict") (.type "bool")=some false:=⟨rfl,rfl,rfl,rfl,rfl,rfl,rfl⟩
theorem kit_tuple (K:PySem.W.Frag):PySem.W.kitOne K (.type "int") (.type "tuple")=some false/\PySem.W.kitOne K (.type "bool") (.type "tuple")=some false/\PySem.W.kitOne K (.type "NoneType") (.type "tuple")=some false/\PySem.W.kitOne K (.type "str") (.type "tuple")=some false
  /\ PySem.W.kitOne K (.type "tuple") (.type "tuple")=some true/\PySem.W.kitOne K (.type "list") (.type "tuple")=some false/\PySem.W.kitOne K (.type "dict") (.type "tuple")=some false:=⟨rfl,rfl,rfl,rfl,rfl,rfl,rfl⟩
theorem xp (K:PySem.W.Frag):PySem.W.kitOne K (.type "int") (.type "list")=some false/\PySem.W.kitOne K (.type "bool") (.type "list")=some false/\PySem.W.kitOne K (.type "NoneType") (.type "list")=some false/\PySem.W.kitOne K (.type "str") (.type "list")=some false
  /\ PySem.W.kitOne K (.type "tuple") (.type "list")=some false/\PySem.W.kitOne K (.type "list") (.type "list")=some true/\PySem.W.kitOne K (.type "dict") (.type "list")=some false:=⟨rfl,rfl,rfl,rfl,rfl,rfl,rfl⟩
theorem zK (K:PySem.W.Frag):PySem.W.kitOne K (.type "int") (.type "str")=some false/\PySem.W.kitOne K (.type "bool") (.type "str")=some false/\PySem.W.kitOne K (.type "NoneType") (.type "str")=some false/\PySem.W.kitOne K (.type "str") (.type "str")=some true
  /\ PySem.W.kitOne K (.type "tuple") (.type "str")=some false/\PySem.W.kitOne K (.type "list") (.type "str")=some false/\PySem.W.kitOne K (.type "dict") (.type "str")=some false:=⟨rfl,rfl,rfl,rfl,rfl,rfl,rfl⟩
theorem Ds {t n:String} {b:Bool} (e:ue t n=some b):PySem.W.kitOne K (.type t) (.type n)=some b:=by
 unfold ue at e
 obtain⟨a1,a2,a3,a4,a5,a6,a7⟩:=zU K
 obtain⟨b1,b2,b3,b4,b5,b6,b7⟩:=xX K
 obtain⟨c1,c2,c3,c4,c5,c6,c7⟩:=kit_tuple K
 obtain⟨d1,d2,d3,d4,d5,d6,d7⟩:=xp K
 obtain⟨e1,e2,e3,e4,e5,e6,e7⟩:=zK K
 split at e
 ·rename_i hn;subst hn
  split at e
  ·rename_i h;subst h;cases e;exact a1
  ·split at e
   ·rename_i h;subst h;cases e;exact a2
   ·split at e
    ·rename_i h;cases e;rcases h with rfl | rfl | rfl | rfl | rfl<;>assumption
    ·cases e
 ·split at e
  ·rename_i hn
   split at e
   ·rename_i h;subst h;cases e;rcases hn with rfl | rfl | rfl | rfl<;>assumption
   ·rename_i hne
    split at e
    ·rename_i h;cases e;rcases hn with rfl | rfl | rfl | rfl<;>rcases h with rfl | rfl | rfl | rfl | rfl | rfl | rfl<;>first | assumption | exact absurd rfl hne
    ·cases e
  ·cases e
theorem fR {e:Expr} {me:ME} {n:String} {x:Str} {p1 p2 pos:Pos} (he:PE X e (tM X.K g ε me)) (hg:Gl X "isinstance") (hm:X.mg "isinstance" = none) (hg2:Gl X x) (hm2:X.mg x=none) (hb:bootBuiltins x=some (.type n)) (hn:x≠"__name__" := by decide) (hd:(x == ("__debug__" : Str))=false:=by decide)
  (hs1:starEach [e,.Name x p2] X.env=(false,eval e X.env)::starEach [.Name x p2] X.env:=by rfl) (hs2:starEach [.Name x p2] X.env=[(false,eval (.Name x p2) X.env)]:=by rfl) (hpl:(backTo pos (starEach [.Name x p2] X.env)).any (·.1)=false:=by rfl) :
  PE X (.Call (.Name "isinstance" p1) [e,.Name x p2] [] pos) (tM X.K g ε (cUn (fA n) me)):=
 PE.imp (gT rK hg hm PyProof.Rows.boot_isinstance (dN he (dN (uB (v:=.ty n) hg2 hm2 hb rfl hn hd) iF hs2) hs1) (by decide) (by decide) hs1 hpl) fun σ H Q ⟨α,env,h,s,w⟩=>tM.use s w.bind fun d1 h1 v1 H1 α1 e1 s1 r1 w1=>by
  unfold fA at w1
  cases et:tyD d1 h1 with
  | none=>simp only[et] at w1;exact w1.elim
  | some t=>
   simp only[et] at w1
   cases es:ue t n with
   | none=>simp only[es] at w1;exact w1.elim
   | some b=>
    simp only[es] at w1
    exact⟨v1,.type t,n,b,rfl,EH s1.heap r1 et,Ds es,aF.now (aF.ext e1 w1) s1.heap (.bl b)⟩
end
section
variable {X:Cx} {K:PySem.W.Frag} {g:GG} {ε:EE}
noncomputable def df:D->Hh->R Bool:=fun d h=>match d with
 | .non=>.ok false h
 | .bl b=>.ok b h
 | .int i=>.ok (i != 0) h
 | .tup ds=>.ok (!ds.isEmpty) h
 | .frl ds=>.ok (!ds.isEmpty) h
 | .ref n=>match aI h n with
  | some ds=>.ok (!ds.isEmpty) h
  | none=>.bad
 | _=>.bad
theorem av.isEmpty {α:List Addr} {H:Hp} {ds:List D} {vs:List V} (r:av K g α H ds vs):ds.isEmpty=vs.isEmpty:=by cases r<;>rfl
theorem cR:FD K g ε df (fun x H Q=>∃k,Bo K x H k/\Q k H):=by
 intro α H h a x Q r ra w
 unfold df at w
 have now:∀{b:Bool},ku K g α H Q b h->Q b H:=fun p=>p H α Ext.refl r
 cases ra with
 | non=>exact⟨false,rfl,now w⟩
 | bl b=>exact⟨b,rfl,now w⟩
 | int i=>exact⟨_,rfl,now w⟩
 | tup hp rs=>exact⟨_,.inr (.inl ⟨_,SqT.of hp,rfl⟩),now (by rw[<- rs.isEmpty];exact w)⟩
 | frl hp rs=>exact⟨_,.inl ⟨_,hp.sq,rfl⟩,now (by rw[<- rs.isEmpty];exact w)⟩
 | @ref n p hp=>
  simp only at w
  cases e:aI h n with
  | none=>rw[e] at w;exact w.elim
  | some ds=>
   rw[e] at w
   obtain⟨vs,hv,rs⟩:=r.lst e hp
   exact⟨_,.inl ⟨vs,SqL.of hv,rfl⟩,now (by rw[<- rs.isEmpty];exact w)⟩
 | _=>exact w.elim
theorem yx {α:List Addr} {H:Hp} {d:D} {v:V} (r:aD K g α H d v) (f:d8 d=true):ip v=true:=by
 cases r<;>first | rfl | cases f
theorem Em {α:List Addr} {H:Hp} {d e:D} {v u:V} (r:aD K g α H d v) (q:aD K g α H e u) (f:d8 d=true) (f':d8 e=true):eqF d e=eqV v u:=by
 cases r<;>first | (cases f;done) | (cases q<;>first | rfl | cases f')
theorem BK {α:List Addr} {H:Hp}:∀{ds:List D} {vs:List V},av K g α H ds vs->ds.all d8=true->vs.all ip=true
 | _,_,.nil,_=>rfl
 | _,_,.cons r t,f=>by
  rw[List.all_cons,Bool.and_eq_true] at f ⊢
  exact⟨yx r f.1,BK t f.2⟩
theorem BC {α:List Addr} {H:Hp} {e:D} {u:V} (q:aD K g α H e u) (f':d8 e=true):∀{ds:List D} {vs:List V},av K g α H ds vs->ds.all d8=true->(ds.any fun d=>eqF d e)=vs.any fun y=>eqV y u
 | _,_,.nil,_=>rfl
 | _,_,.cons r t,f=>by
  rw[List.all_cons,Bool.and_eq_true] at f
  rw[List.any_cons,List.any_cons,Em r q f.1 f',BC q f' t f.2]
noncomputable def dIn (neg:Bool):D->D->Hh->R D:=fun a b h=>match eW b h with
 | some ds=>if d8 a=true/\ds.all d8=true then .ok (.bl (if neg then !(ds.any fun d=>eqF d a) else ds.any fun d=>eqF d a)) h else .bad
 | none=>.bad
theorem DX {neg:Bool}:dq K g ε (dIn neg) (rIn K neg):=by
 intro α H h a b x y Q r ra rb w
 unfold dIn at w
 cases e:eW b h with
 | none=>rw[e] at w;exact w.elim
 | some ds=>
  rw[e] at w
  obtain⟨p,vs,rfl,hq,rs⟩:=kL r rb e
  obtain⟨⟨f1,f2⟩,w⟩:=WQ.dy w
  refine⟨p,vs,rfl,hq,yx ra f1,BK rs f2,?_⟩
  have e2:(ds.any fun d=>eqF d a)=inV x vs:=BC ra f1 rs f2
  rw[<- e2]
  exact aF.now w r (.bl _)
noncomputable def wd:List D->Option (List D)
 | [.int j]=>if j.natAbs<=1000000 then some (b0 0 j.toNat) else none
 | [.int i,.int j]=>if (i.natAbs<=1000000/\j.natAbs<=1000000)/\(j - i).toNat<=1000000 then some (b0 i (j - i).toNat) else none
 | _=>none
noncomputable def gw:List D->Hh->R D:=fun ds h=>match wd ds with
 | some xs=>.ok (.tup xs) h
 | none=>.bad
theorem zu (lo:Int) (n:Nat) {α:List Addr} {H:Hp}:av K g α H (b0 lo n) ((qM lo 1 n).map V.int):=by
 have e:b0 lo n=(qM lo 1 n).map D.int:=by
  unfold b0 qM
  rw[List.map_map]
  apply List.map_congr_left
  intro i _
  simp
 rw[e]
 exact av.ints _
theorem Bb {α:List Addr} {H:Hp} {ds:List D} {vs:List V} {xs:List D} (r:av K g α H ds vs) (e:wd ds=some xs) :
  (∃j,vs=[.int j]/\nZ 0 j 1 j.toNat/\xs=b0 0 j.toNat)\/∃i j,vs=[.int i,.int j]/\nZ i j 1 (j - i).toNat/\xs=b0 i (j - i).toNat:=by
 unfold wd at e
 split at e
 ·rename_i j
  split at e
  ·rename_i hj
   cases e
   cases r with
   | cons r1 t=>
    cases r1
    cases t
    refine .inl ⟨j,rfl,?_,rfl⟩
    have:=xi (a:=0) (b:=j) (by omega) (by omega) (by omega) (by omega) (by omega)
    rw[Int.sub_zero] at this
    exact this
  ·cases e
 ·rename_i i j
  split at e
  ·rename_i hj
   cases e
   cases r with
   | cons r1 t=>
    cases r1
    cases t with
    | cons r2 t=>
     cases r2
     cases t
     exact .inr ⟨i,j,rfl,xi (by omega) (by omega) (by omega) (by omega) (by omega),rfl⟩
  ·cases e
 ·cases e
theorem CO:aR X (.type "range") (fun vs H Q=>(∃j,vs=[.int j]/\∀p,H p=none->Q (.ref p) (upd H p (qA p 0 j 1)))\/∃i j,vs=[.int i,.int j]/\∀p,H p=none->Q (.ref p) (upd H p (qA p i j 1))):=aR.or vX vG
section
variable {e:Expr} {es:List Expr} {mr:MA} {p1 p2 q1 q2:Pos}
theorem uh (hc:X.calm=true) (hg:Gl X "tuple") (hm:X.mg "tuple" = none) (hg2:Gl X "range") (hm2:X.mg "range" = none) (ha:PA X (e::es) (tMA X.K g ε mr))
  (he:starEach (e::es) X.env=(false,eval e X.env)::starEach es X.env:=by rfl) (hpl:(backTo q2 (starEach es X.env)).any (·.1)=false:=by rfl)
  (he1:starEach [.Call (.Name "range" p2) (e::es) [] q2] X.env=[(false,eval (.Call (.Name "range" p2) (e::es) [] q2) X.env)]:=by rfl) (hpl1:(backTo q1 (starEach [] X.env)).any (·.1)=false:=by rfl) :
  PE X (.Call (.Name "tuple" p1) [.Call (.Name "range" p2) (e::es) [] q2] [] q1) (tM X.K g ε (ag gw mr)):=
 PE.imp (g9 (l_ hc) hg hm PyProof.Rows.boot_tuple (dN (g9 CO hg2 hm2 PyProof.Rows.boot_range ha (by decide) (by decide) he hpl) iF he1) (by decide) (by decide) he1 hpl1) fun σ H Q ⟨α,env,h,s,w⟩=>tMA.use s w.bind fun d1 h1 v1 H1 α1 e1 s1 r1 w1=>by
  unfold gw at w1
  cases er:wd d1 with
  | none=>rw[er] at w1;exact w1.elim
  | some xs=>
   rw[er] at w1
   rcases Bb r1 er with⟨j,rfl,ok,rfl⟩ | ⟨i,j,rfl,ok,rfl⟩
   ·refine .inl ⟨j,rfl,fun p hp=>⟨p,0,j,1,j.toNat,rfl,aQ,ok,fun l hl=>?_⟩⟩
    have x:=Ext.fresh (K:=X.K) (α:=α1) (o:=qA p 0 j 1) hp
    exact aF.tup (aF.ext (e1.trans x) w1) (s1.heap.grow hp) (zu 0 j.toNat) hl
   ·refine .inr ⟨i,j,rfl,fun p hp=>⟨p,i,j,1,(j - i).toNat,rfl,aQ,ok,fun l hl=>?_⟩⟩
    have x:=Ext.fresh (K:=X.K) (α:=α1) (o:=qA p i j 1) hp
    exact aF.tup (aF.ext (e1.trans x) w1) (s1.heap.grow hp) (zu i (j - i).toNat) hl
end
noncomputable def isL (d:D) (h:Hh):Bool:=match d with
 | .ref n=>(aI h n).isSome
 | .frl _=>true
 | _=>false
noncomputable def eG (f:D->List D->Hh->R D) (o:ME) (a:MA):ME:=fun env h=>(o env h).bind fun x h1=>if isL x h1=true then (a env h1).bind fun xs h2=>f x xs h2 else .bad
theorem An {α:List Addr} {H:Hp} {h:Hh} {d:D} {x:V} (r:aW K g α H h) (rd:aD K g α H d x) (e:isL d h=true):tyV K "list" x H:=by
 unfold isL at e
 cases rd with
 | @ref n p hp=>
  simp only at e
  obtain⟨ds,e⟩:=Option.isSome_iff_exists.mp e
  obtain⟨vs,hv,_⟩:=r.lst e hp
  exact .inl ⟨rfl,vs,SqL.of hv⟩
 | frl hq rs=>exact .inl ⟨rfl,_,hq.sq⟩
 | _=>cases e
theorem l6 {o e:Expr} {es:List Expr} {mo:ME} {mr:MA} {name:Str} {apos cpos:Pos} {id:String} {r:V->List V->Hp->VK->Prop} {f:D->List D->Hh->R D} (slot:Slot "list" name id) (hty:typeOf (.builtin id)=pure (.type "method_descriptor")) (hm:MtM X id r) (im:AU X.K g ε f r) (ho:PE X o (tM X.K g ε mo)) (ha:PA X (e::es) (tMA X.K g ε mr))
  (hbase:attributeBase o name X.env (eval o X.env)=eval o X.env:=by rfl)
  (hfew:((backTo cpos (starEach (e::es) X.env)).all (fun x=>!x.1)&&(backToKw cpos (keywordEach [] X.env)).all (fun x=>x.1.isSome)
   && decide ((e::es).length+([]:List Keyword).length+(if ([]:List Keyword).isEmpty then 0 else 1)<30))=true:=by rfl)
  (hline:(apos.endLine == cpos.line)=true:=by rfl) (hs:starEach (e::es) X.env=(false,eval e X.env)::starEach es X.env:=by rfl) (hplain:(backTo cpos (starEach es X.env)).any (·.1)=false:=by rfl) :
  PE X (.Call (.Attribute o name apos) (e::es) [] cpos) (tM X.K g ε (eG f mo mr)):=
 PE.imp (E7 PySem.F.plainAttrs_list slot hty hm ho ha hbase hfew hline hs hplain) fun σ H Q ⟨α,env,h,s,w⟩=>tM.use s w.bind fun d1 h1 v1 H1 α1 e1 s1 r1 w1=>by
  obtain⟨hl,w1⟩:=WQ.dy w1
  refine⟨An s1.heap r1 hl,tMA.use s1 (w1.ext e1).bind fun d2 h2 v2 H2 α2 e2 s2 r2 w2=>?_⟩
  exact im α2 H2 h2 d1 d2 v1 v2 Q s2.heap (r1.ext e2) r2 ((w2.ext e2).mono fun _ _ _ p=>aF.ext (e1.trans e2) p)
noncomputable def cE:D->List D->Hh->R D:=fun o ds h=>match o,ds with
 | .ref n,[d]=>match aI h n with
  | some xs=>if xs.length<1000000 then .ok .non (h.set n (.lst (xs++[d]))) else .bad
  | none=>.bad
 | _,_=>.bad
theorem j7:AU K g ε cE uN:=by
 intro α H h o a y x Q r ro ra w
 unfold cE at w
 cases ro with
 | @ref n p hp=>
  cases ra with
  | nil=>exact w.elim
  | @cons d v _ _ rd rr=>
   cases rr with
   | cons _ _=>exact w.elim
   | nil=>
    simp only at w
    cases e:aI h n with
    | none=>rw[e] at w;exact w.elim
    | some xs=>
     rw[e] at w
     obtain⟨hl,w⟩:=WQ.dy w
     obtain⟨vs,hv,rs⟩:=r.lst e hp
     refine⟨p,vs,_,rfl,rfl,hv,by rw[<- rs.length,sizeLine_eq];omega,?_⟩
     have x:=Ext.write (o:=.lst (vs++[v])) r hp
     exact(show aF K g α H Q _ _ from w) _ _ α x (r.write hp ⟨_,aQ,(rs.append (.cons rd .nil)).ext x⟩) .non
 | _=>exact w.elim
theorem kx (ns:List Int):∀k,k<=ns.length->preSum (fun i=>ns.getD i 0) k=(ns.take k).sum
 | 0,_=>by simp[preSum]
 | k+1,h=>by
  rw[preSum,kx ns k (by omega),List.take_succ,List.sum_append]
  rw[List.getD_eq_getElem?_getD,List.getElem?_eq_getElem (by omega)]
  simp
theorem eB (hc:X.calm=true):aR X (.builtin "sum") (fun vs H Q=>∃(p:Addr) (ns:List Int),vs=[.ref p]/\(SqL X.K H p (ns.map V.int)\/SqT X.K H p (ns.map V.int))/\Q (.int ns.sum) H):=by
 intro pins s σ H xs us Q I r h
 obtain⟨p,ns,rfl,hq,q⟩:=h
 obtain⟨u,rfl,rx⟩:=vals1 r
 cases rx
 have hh:X.A.in1.handled=none:=I.ok.hd hc
 have fin:∀{its:List Value} {o:Obj},Vals (ns.map V.int) its->∀s',Moved [s.heap.objs.size] (fun a b=>b=a) { s with heap:=s.heap.push o } s'->∀t',EP X pins σ Q (.int (preSum (fun i=>ns.getD i 0) its.toArray.size) t') s':=fun{its o} rv s' mv t'=>by
  have hl:its.toArray.size=ns.length:=by rw[List.size_toArray,<- rv.length,List.length_map]
  have keep:∀b u,s.heap.get? b=some u->s'.heap.get? b=some u:=fun b u e=>mv.heap b u (by simp;exact Nat.ne_of_lt (Heap.lt_size e)) (Heap.get?_push_of_some _ e)
  have I':Inv X pins σ H s':=by
   obtain⟨hp,gs,dr,tk,os⟩:=s'
   have e1:gs=s.gens:=mv.gens
   have e2:dr=s.drawn:=mv.drawn
   have e3:os=s.os:=mv.os
   subst e1 e2 e3
   exact I.kept (h':=hp) (t':=tk) keep
  refine⟨.int ns.sum,H,I',⟨t',?_⟩,q⟩
  rw[hl,kx ns _ (Nat.le_refl _),List.take_length]
 have val:∀{its:List Value},Vals (ns.map V.int) its->∀i v,its.toArray[i]?=some v->∃t:Tok,v=Value.int (ns.getD i 0) t:=fun{its} rv i v e=>by
  obtain⟨x,hx,rxv⟩:=rv.get' (show its[i]?=some v by simpa using e)
  rw[List.getElem?_map] at hx
  cases en:ns[i]? with
  | none=>rw[en] at hx;cases hx
  | some z=>
   rw[en] at hx
   cases hx
   obtain⟨t,e⟩:=rxv
   exact⟨t,by rw[List.getD_eq_getElem?_getD,en];exact e⟩
 rcases hq with hq | hq
 ·obtain⟨its,rv,pl,hz⟩:=I.list hq
  have plt:p<s.heap.objs.size:=by obtain⟨o,e,_⟩:=pl.isList;exact Heap.lt_size e
  have hne:p≠s.heap.objs.size:=Nat.ne_of_lt plt
  refine call_sum_walkAnyS (wpAny_pyIter_list pl.isList ?_)
  refine⟨s.heap.objs.size,_,_,_,its.toArray.size,_,_,fun i=>ns.getD i 0,rfl,(Walks.list (prog:=X.prog) (w:=X.w) hh s.heap.objs.size p hne its.toArray).toS,⟨⟨_,Heap.get?_push_size _ rfl,rfl,rfl⟩,?_⟩,fun b hb=>?_,val rv,fun s' t' mv=>fin rv s' mv t'⟩
  ·exact pl.isList.at fun o e=>Heap.get?_push_of_some _ e
  ·simp at hb
   rcases hb with rfl | rfl
   ·exact Heap.lt_size (Heap.get?_push_size _ rfl)
   ·exact Nat.lt_trans plt (Heap.lt_size (Heap.get?_push_size _ rfl))
 ·obtain⟨its,rv,pl,hz⟩:=I.tuple hq
  have pt:s.heap.IsTuple p its.toArray:=pl
  have hne:p≠s.heap.objs.size:=Nat.ne_of_lt pl.lt
  refine call_sum_walkAnyS (wpAny_pyIter_tuple pt ?_)
  refine⟨s.heap.objs.size,_,_,_,its.toArray.size,_,_,fun i=>ns.getD i 0,rfl,(Walks.tuple (prog:=X.prog) (w:=X.w) hh s.heap.objs.size p hne its.toArray).toS,⟨⟨_,Heap.get?_push_size _ rfl,rfl,rfl⟩,?_⟩,fun b hb=>?_,val rv,fun s' t' mv=>fin rv s' mv t'⟩
  ·exact pt.at fun o e=>Heap.get?_push_of_some _ e
  ·simp at hb
   rcases hb with rfl | rfl
   ·exact Heap.lt_size (Heap.get?_push_size _ rfl)
   ·exact Nat.lt_trans pl.lt (Heap.lt_size (Heap.get?_push_size _ rfl))
noncomputable def d_:List D->Hh->R D:=fun ds h=>match ds with
 | [d]=>match eW d h with
  | some xs=>match intsOf xs with
   | some ns=>.ok (.int ns.sum) h
   | none=>.bad
  | none=>.bad
 | _=>.bad
theorem jE:jq K g ε d_ (fun vs H Q=>∃(p:Addr) (ns:List Int),vs=[.ref p]/\(SqL K H p (ns.map V.int)\/SqT K H p (ns.map V.int))/\Q (.int ns.sum) H):=by
 intro α H h a x Q r ra w
 obtain⟨d,v,rfl,rfl,rd⟩:=lx (f:=d_) (fun _ _ _ _=>rfl) (fun _=>rfl) ra w
 unfold d_ at w
 simp only at w
 cases e:eW d h with
 | none=>rw[e] at w;exact w.elim
 | some ds=>
  rw[e] at w
  simp only at w
  cases e2:intsOf ds with
  | none=>rw[e2] at w;exact w.elim
  | some ns=>
   rw[e2] at w
   obtain⟨p,vs,rfl,hq,rs⟩:=kL r rd e
   have e3:=gH e2
   subst e3
   have e4:=rs.BB
   subst e4
   exact⟨p,ns,rfl,hq,aF.now w r (.int _)⟩
noncomputable def rG:D->D->Hh->R D
 | .int i,.int j,h=>.ok (.int (i+j)) h
 | _,_,_=>.bad
theorem CM:dq K g ε rG (ipI fun i j=>i+j):=by
 intro α H h a b x y Q r ra rb w
 unfold rG at w
 cases ra with
 | int i=>
  cases rb with
  | int j=>exact⟨i,j,rfl,rfl,aF.now w r (.int _)⟩
  | _=>exact w.elim
 | _=>exact w.elim
end
section
variable {P:Program} {w:World} {K:PySem.W.Frag} {mg:Str->Option Value} {base:Heap} {g:GG}
noncomputable def aX (K:PySem.W.Frag) (mg:Str->Option Value) (x:Str) (st:Stmt):Prop:=∃f fd,mg x=some (.ref f)/\Fun K x x st f fd
noncomputable def cB (K:PySem.W.Frag) (x:Str) (st:Stmt):Prop:=∃f fd,PySem.W.nsIn K mainGlobals x=some (some (.ref f))/\Fun K x x st f fd
theorem bM {x:Str} {st:Stmt} {f:Addr} {oc:Value} {od an:Option Addr} {osl:Array (Option Value)} {kV doc pm cdv ct:Value} (a:PySem.W.nsIn K mainGlobals x=some (some (.ref f)))
  (l:K.lookup f=some ⟨oc,od,.func (PySem.W.fnOf x x (d9 st) (bJ st) (au st) .none kV doc pm an cdv ct),osl⟩) (c:PySem.W.codeIn K cdv x=true) (k:PySem.W.keepIn K (.ref f)=true):cB K x st:=⟨f,_,a,xJ l c k⟩
theorem aX.of {h:Heap} {x:Str} {st:Stmt} (X:K.In h) (G:h.Ns mainGlobals mg) (d:cB K x st):aX K mg x st:=
 let ⟨f,fd,a,F⟩:=d;⟨f,fd,PySem.W.mg_of X G a,F⟩
noncomputable def Has (P:Program) (w:World) (K:PySem.W.Frag) (mg:Str->Option Value) (base:Heap) (g:GG) (x:Str) (k:Nat) (ps:List Str) (m:MF):Prop:=
 ∃f fd,ed P w K mg base CX0 k f fd ps (spM K g ps.length m)/\PySem.W.keepIn K (.ref f)=true/\Binds K fd ps []/\mg x=some (.ref f)/\∃(oc:Value) (od:Option Addr) (osl:Array (Option Value)),K.lookup f=some ⟨oc,od,.func fd,osl⟩
noncomputable def gOf (mg:Str->Option Value):GG:=fun x=>match mg x with
 | some (.ref f)=>some f
 | _=>none
theorem bI {x:Str} {st:Stmt} {f:Addr} {fd:FuncData} (F:Fun K x x st f fd):∃(oc:Value) (od:Option Addr) (osl:Array (Option Value)),K.lookup f=some ⟨oc,od,.func fd,osl⟩:=by
 obtain⟨oc,od,kV,doc,pm,an,cdv,ct,osl,rfl,lk,hcd⟩:=F.ex
 exact⟨oc,od,osl,lk⟩
theorem C3 {x:Str} {st:Stmt} {f:Addr} {fd:FuncData} {k:Nat} {ps:List Str} {m:MF} (F:Fun K x x st f fd) (hm:mg x=some (.ref f)) (h:Has P w K mg base g x k ps m):ed P w K mg base CX0 k f fd ps (spM K g ps.length m):=by
 obtain⟨f2,fd2,G,_,_,hm2,oc,od,osl,l2⟩:=h
 obtain⟨oc',od',osl',l1⟩:=bI F
 rw[hm] at hm2
 cases hm2
 rw[l1] at l2
 cases l2
 exact G
end
section
variable {X:Cx} {g:GG} {ε:EE}
theorem yE {i j:Nat} {x y:Str} {a b:Expr} {ma:MA} {px py pt pos:Pos} {kt k2 pt2} (hc:X.calm=true) (hN:X.N.Nodup) (hi:X.N[i]?=some x) (hj:X.N[j]?=some y) (hij:i≠j) (ha:PA X [a,b] (tMA X.K g ε ma))
  (hx:X.env.scope.names.lookup x=some .local:=by rfl) (hy:X.env.scope.names.lookup y=some .local:=by rfl)
  (hw:swappedStores [.Tuple [.Name x px,.Name y py] kt pt] (.Tuple [a,b] k2 pt2) X.env=pure (some [x,y]):=by rfl)
  (hs:swapsWithSole [.Tuple [.Name x px,.Name y py] kt pt] (.Tuple [a,b] k2 pt2) pos.line X.env=pure false:=by rfl) :
  PS X (.Assign [.Tuple [.Name x px,.Name y py] kt pt] (.Tuple [a,b] k2 pt2) pos) (tMS X.K g ε (wM i j ma)):=Fm hc hN hi hj hij hx hy ha hw hs
end
theorem CT {k:Nat} {m:MF} {l:PySem.W.OpenLaw} {q:Program} {loose:List Str} {XP:(Str->Option Value)->Heap->Prop} {YP:World->Heap->Prop} {d:DefRec} {K:Params->PySem.W.Frag} (hn:l.most=some 63) (hdf:d.params.defaults=[]) (hr:cX k callerA)
  (hY:∀(w:World) (h:Heap),YP w h->(K w.params).In h)
  (ok:∀ns:List Int,ns.length<=63->∃h,m [.scr (ns.map D.int)] []=.ok (.bl true) h)
  (F:∀(w:World) (mg:Str->Option Value) (fa:Addr) (h:Heap),(K w.params).In h->h.Ns mainGlobals mg->mg d.name=some (.ref fa) →
   ∃fd:FuncData,(∀(s:Shared) (u:Value),BindsTo s fd ⟨[u],[]⟩ [("_law_script", u)])/\∀base:Heap,(K w.params).In base->base.Ns mainGlobals mg->ed l.prog w (K w.params) mg base CX0 k fa fd ["_law_script"] (spM (K w.params) (gOf mg) 1 m)) :
  PySem.W.WalkO q loose XP YP l.row.toRowW d [] (fun f vs=>PySem.call f vs):=by
 refine L2.Ab (n:=63) (k:=k) (x:="_law_script") (CX:=fun _=>CX0) (sp:=fun w=>fun vs H Q _=>∃a ns,vs=[V.ref a]/\ns.length<=63/\AX H/\SqL (K w.params) H a (ns.map V.int)/\∀v H',v=V.bl true->Q v H') hn (by decide) hdf hr hY (fun w mg fa h KX G hmg=>?_) (fun w H a ns hl hO hS=>⟨a,ns,rfl,hl,hO,hS,fun _ _ z=>z⟩) fun _ _ _ _ _ z=>z
 obtain⟨fd,hb,hF⟩:=F w mg fa h KX G hmg
 refine⟨fd,hb,fun base kb nb=>(hF base kb nb).imp fun vs H Q E z=>?_⟩
 obtain⟨a,ns,rfl,hl,hO,hS,hQ⟩:=z
 obtain⟨hh,e⟩:=ok ns hl
 refine⟨rfl,[],[.scr (ns.map D.int)],[],.cons (.scr ?_ (av.ints ns)) .nil,⟨rfl,fun n m p z=>by simp at z,fun n p o z=>by simp at z⟩,?_⟩
 ·rcases hS with(hS | ⟨o,hS⟩) | hS
  ·rcases hO a with z | ⟨o,xs,z⟩
   ·rw[hS] at z;cases z
   ·rw[hS] at z;cases z
  ·exact .inl ⟨o,hS⟩
  ·exact .inr hS
 ·rw[e]
  intro v H' α' _ _ rd
  cases rd
  exact hQ _ _ rfl
section
variable {X:Cx} {K:PySem.W.Frag} {g:GG} {ε:EE}
theorem vR (its:List Value):slicePick its.toArray none none (some (-1))=its.reverse.toArray:=by
 have h:=sk its.toArray
 unfold slicePick
 have e1:sliceBounds none none (some (-1)) its.toArray.size=((its.toArray.size:Int) - 1,-1,-1):=rfl
 rw[e1]
 have e2:sliceRange ((its.toArray.size:Int) - 1) (-1) (-1)=(List.range its.toArray.size).map fun(k:Nat)=>((its.toArray.size:Int) - 1+(k:Int)*(-1)).toNat:=by
  unfold sliceRange
  have e3:(if (-1:Int) > 0 then (if ((its.toArray.size:Int) - 1) < -1 then (-1 - ((its.toArray.size:Int) - 1) + -1 - 1) / -1 else 0) else (if ((its.toArray.size:Int) - 1) > -1 then (((its.toArray.size:Int) - 1) - -1 - -1 - 1) / (- -1) else 0)).toNat=its.toArray.size:=by
   rw[if_neg (by decide),show(- -1:Int)=1 by decide,Int.ediv_one]
   split<;>omega
  simp only
  rw[e3]
  apply List.map_congr_left
  intro k _
  congr 1
  omega
 rw[e2,List.filterMap_map]
 exact h
noncomputable def Ef (K:PySem.W.Frag) (te:TE):TE:=fun σ H Q=>te σ H fun x H1=>∃a xs,x=.ref a/\((SqT K H1 a xs/\∀p,H1 p=none->Q (.ref p) (upd H1 p (.tup xs.reverse)))\/(SqL K H1 a xs/\∀p,H1 p=none->Q (.ref p) (upd H1 p (.lst xs.reverse))))
theorem AB {e:Expr} {te:TE} {j p1 p2 p3 pos} (he:PE X e te):PE X (.Subscript e (.Slice none none (some (.UnaryOp .USub (.Constant (.int 1) j p1) p3)) p2) pos) (Ef X.K te):=by
 intro pins s σ H Q I h
 refine Subscript_ (thn (he pins s σ H _ I h) fun v s1 ⟨x,H1,I1,r1,q1⟩=>?_)
 obtain⟨a,xs,rfl,q⟩:=q1
 cases r1
 refine wpAny_Slice (evalPart_none_step (evalPart_none_step (evalPart_some_step ?_)))
 refine thn (BG (X:=X) iA yf pins s1 σ H1 (fun v H'=>v=.int (-1)/\H'=H1) I1 ⟨1,rfl,rfl,rfl⟩) fun u s2 ⟨v2,H2,I2,r2,e1,e2⟩=>?_
 subst e1 e2
 obtain⟨tk,rfl⟩:=r2
 have I4:Inv X pins σ H2 { s2 with heap:=s2.heap.push { cls:=.type "slice", data:=.fields #[.none,.none,.int (-1) tk] } }:=I2.kept (t':=s2.toks) fun b ob q=>Heap.get?_push_of_some _ q
 rcases q with⟨hx,q⟩ | ⟨hx,q⟩
 ·obtain⟨its,r,ht,hz⟩:=I4.tuple hx
  have hlen:its.toArray.size=xs.length:=by rw[List.size_toArray];exact r.length.symm
  refine tail_any (ops:=[.ref a,.ref s2.heap.objs.size]) ht.typeIs PyProof.Rows.slot_tuple_getitem.lookup (jd ht (Heap.IsSliceOf.new ..) ?_ (by rw[hlen];exact hz)) (by with_unfolding_all rfl)
  refine⟨.ref _,_,I4.laid (t':=s2.toks) (o:=.tup xs.reverse) (fun b ob q=>Heap.get?_push_of_some _ q) (Nat.le_refl _) ?_,rfl,q _ (I4.hok.fresh (Nat.le_refl _))⟩
  exact⟨by rw[List.length_reverse];exact hz,its.reverse,r.reverse,jX.new _ _⟩
 ·obtain⟨its,r,pl,hz⟩:=I4.list hx
  have hlen:its.toArray.size=xs.length:=by rw[List.size_toArray];exact r.length.symm
  refine tail_any (ops:=[.ref a,.ref s2.heap.objs.size]) pl.isList.typeIs slot_list_getitem.lookup (wpAny_getItem_list_slice pl.isList (Heap.IsSliceOf.new ..) .none .none (.int (-1) tk) (by decide) ?_ (by rw[hlen];exact hz)) (by with_unfolding_all rfl)
  rw[vR]
  refine⟨.ref _,_,I4.laid (t':=s2.toks) (o:=.lst xs.reverse) (fun b ob q=>Heap.get?_push_of_some _ q) (Nat.le_refl _) ?_,rfl,q _ (I4.hok.fresh (Nat.le_refl _))⟩
  exact⟨by rw[List.length_reverse];exact hz,its.reverse,0,r.reverse,Heap.get?_push_size _ rfl⟩
noncomputable def u0 (nl:NL):D->Hh->R D:=fun d h=>match d with
 | .tup ds=>.ok (.tup ds.reverse) h
 | .frl ds=>nl ds.reverse h
 | .ref n=>match aI h n with
  | some ds=>nl ds.reverse h
  | none=>.bad
 | _=>.bad
theorem Aj {nl:NL} [fQ nl] {e:Expr} {me:ME} {j p1 p2 p3 pos} (he:PE X e (tM X.K g ε me)):PE X (.Subscript e (.Slice none none (some (.UnaryOp .USub (.Constant (.int 1) j p1) p3)) p2) pos) (tM X.K g ε (cUn (u0 nl) me)):=
 PE.imp (PE.frz (AB he)) fun σ H Q ⟨α,env,h,s,w⟩=>tM.use s w.bind fun d1 h1 v1 H1 α1 e1 s1 r1 w1=>by
  have w4:=w1.post e1
  unfold u0 at w4
  cases r1 with
  | tup hq rs=>exact⟨_,_,rfl,.inl ⟨SqT.of hq,fun l hl=>.inl (aF.tup w4 s1.heap rs.rev hl)⟩⟩
  | frl hq rs=>exact⟨_,_,rfl,.inr ⟨hq.sq,fun l hl=>NL.post w4 s1.heap rs.rev hl⟩⟩
  | @ref n p hp=>
   simp only at w4
   cases e:aI h1 n with
   | none=>rw[e] at w4;exact w4.elim
   | some ds=>
    rw[e] at w4
    obtain⟨vs,hv,rs⟩:=s1.heap.lst e hp
    exact⟨_,_,rfl,.inr ⟨SqL.of hv,fun l hl=>NL.post w4 s1.heap rs.rev hl⟩⟩
  | _=>exact w4.elim
end
mutual
noncomputable def jQ (k:Nat):D->Bool
 | .ref n=>decide (n<k)
 | .tup ds=>dk k ds
 | .frl ds=>dk k ds
 | .scr ds=>dk k ds
 | _=>true
noncomputable def dk (k:Nat):List D->Bool
 | []=>true
 | d::ds=>jQ k d&&dk k ds
end
noncomputable def mQ (k:Nat):O->Bool
 | .lst ds=>dk k ds
 | .set _=>true
 | .dic kvs=>dk k (kvs.map (·.2))
 | .dit kvs=>dk k (kvs.map (·.2))
noncomputable def jC (f:D->Option D):List D->Option (List D)
 | []=>some []
 | d::ds=>match f d,jC f ds with
  | some e,some es=>some (e::es)
  | _,_=>none
noncomputable def fM (k:Nat) (h:Hh):Nat->D->Option D
 | 0,_=>none
 | f+1,d=>match d with
  | .ref n=>if n<k then some (.ref n) else match aI h n with
   | some ds=>(jC (fM k h f) ds).map .frl
   | none=>none
  | .tup ds=>(jC (fM k h f) ds).map .tup
  | .frl ds=>(jC (fM k h f) ds).map .frl
  | .scr _=>none
  | d=>some d
noncomputable def dj (h:Hh):D->Hh->R D:=fun d h'=>if (h'.take h.length).all (mQ h.length)=true then match fM h.length h' 8 d with
 | some e=>.ok e (h'.take h.length)
 | none=>.bad else .bad
open Classical in
noncomputable def ju (S:Addr->Prop) (o:Addr->Obj) (H:Hp):Hp:=fun p=>if S p then (H p).map (.frz (o p)) else H p
theorem C8 {P:Program} {w:World} {H:Hp} {h:Heap} {p:Addr} {u:HO} (q:bZ P w H h p u) (mu:Mut (some u)):∃o,h.get? p=some o:=by
 cases u with
 | lst xs=>obtain⟨_,_,_,_,e'⟩:=q;exact⟨_,e'⟩
 | dK kvs=>obtain⟨_,_,_,_,o,_,_,e',_⟩:=q;exact⟨_,e'⟩
 | dT kvs=>obtain⟨_,_,_,_,o,_,_,e',_⟩:=q;exact⟨_,e'⟩
 | set S n=>obtain⟨o,_,_,_,e',_⟩:=q;exact⟨_,e'⟩
 | ins C dx fs=>obtain⟨_,_,_,e',_⟩:=q;exact⟨_,e'⟩
 | ext φ=>obtain⟨_,⟨_,e'⟩,_⟩:=q;exact⟨_,e'⟩
 | _=>exact absurd mu (fun z=>z)
theorem CP {outer:List Env} {P:Program} {w:World} {H:Hp} {s:Shared} {Q Q':VK} {u:Value} {s':Shared} (h:CE outer P w H s Q' u s')
  (hQ:∀v H',Q' v H'->∃S:Addr->Prop,(∀p,S p->∃u,H' p=some u/\Mut (some u))/\∀o:Addr->Obj,Q v (ju S o H')):CE outer P w H s Q u s':=by
 obtain⟨v,H',os,bare,un,hok,r,q⟩:=h
 obtain⟨S,hS,q⟩:=hQ v H' q
 have hS1:∀p,S p->∀u,H' p=some u->Mut (some u):=fun p z u e=>by obtain⟨u',e',m⟩:=hS p z;rw[e] at e';cases e';exact m
 have off:∀(o:Addr->Obj) b u,H' b=some u->¬ Mut (some u)->ju S o H' b=some u:=fun o b u e m=>by
  unfold ju
  rw[if_neg fun z=>m (hS1 b z u e)];exact e
 have offn:∀(o:Addr->Obj) b,H' b=none->ju S o H' b=none:=fun o b e=>by
  unfold ju
  split
  ·rw[e];rfl
  ·exact e
 let o:Addr->Obj:=fun b=>(s'.heap.get? b).getD { cls:=.none,data:=.fields #[] }
 refine⟨v,ju S o H',os,bare,⟨un.keep,un.slot,fun b ob e n hx=>offn o b (un.free b ob e n hx),un.there,fun b xs e=>off o b _ (un.nB b xs e) fun z=>z,fun b ob xs e=>off o b _ (un.k6 b ob xs e) fun z=>z,fun b ps e=>?_⟩,?_,r,q o⟩
 ·obtain⟨more,e1⟩:=un.m6 b ps e
  exact⟨more,off o b _ e1 fun z=>z⟩
 ·intro b u e
  have st:∀u,bZ P w H' s'.heap b u->bZ P w (ju S o H') s'.heap b u:=fun u x=>x.iS (fun _ _ _ z=>z) (fun c z=>off o c _ z fun z=>z) fun c xs z=>off o c _ z fun z=>z
  unfold ju at e
  split at e
  ·rename_i hb
   obtain⟨u',e',m⟩:=hS b hb
   rw[e'] at e
   cases e
   have x:=hok b u' e'
   obtain⟨ob,eo⟩:=C8 x m
   refine⟨?_,st _ x⟩
   show s'.heap.get? b=some ((s'.heap.get? b).getD _)
   rw[eo];rfl
  ·exact st u (hok b u e)
section
variable {K:PySem.W.Frag} {g:GG} {α α':List Addr} {H H' H2:Hp} {k:Nat}
structure ow (K:PySem.W.Frag) (α α':List Addr) (H' H2:Hp) (k:Nat):Prop where
 pre:∀n,n<k->α[n]?=α'[n]?
 tup:∀p xs,H' p=some (.tup xs)->H2 p=some (.tup xs)
 frz:∀p (o:Obj) (u:HO),H' p=some (.frz o u)->H2 p=some (.frz o u)
mutual
theorem qm (L:ow K α α' H' H2 k):∀{d:D} {v:V},jQ k d=true->aD K g α' H' d v->aD K g α H2 d v
 | _,_,_,.non=>.non
 | _,_,_,.bl b=>.bl b
 | _,_,_,.int i=>.int i
 | _,_,_,.str x=>.str x
 | _,_,hl,.ref h=>.ref (by rw[L.pre _ (by simpa [jQ] using hl)];exact h)
 | _,_,hl,.tup h r=>.tup (L.tup _ _ h) (gF L (by simpa [jQ] using hl) r)
 | _,_,hl,.frl h r=>.frl (let ⟨o,h⟩:=h;⟨o,L.frz _ _ _ h⟩) (gF L (by simpa [jQ] using hl) r)
 | _,_,hl,.scr h r=>.scr (h.elim (fun⟨o,h⟩=>.inl ⟨o,L.frz _ _ _ h⟩) .inr) (gF L (by simpa [jQ] using hl) r)
 | _,_,_,.fn h=>.fn h
 | _,_,_,.edic h=>.edic (L.frz _ _ _ h)
 | _,_,_,.exc hg h hc hd hf=>.exc hg (L.frz _ _ _ h) hc hd (hf.elim .inl fun⟨dx,od,a,b⟩=>.inr ⟨dx,od,a,L.frz _ _ _ b⟩)
theorem gF (L:ow K α α' H' H2 k):∀{ds:List D} {vs:List V},dk k ds=true->av K g α' H' ds vs->av K g α H2 ds vs
 | _,_,_,.nil=>.nil
 | _,_,hl,.cons r t=>by
  simp only[dk,Bool.and_eq_true] at hl
  exact .cons (qm L hl.1 r) (gF L hl.2 t)
end
theorem jm {f:D->Option D} (hf:∀d e v,f d=some e->aD K g α' H' d v->aD K g α H2 e v):∀{ds es:List D} {vs:List V},jC f ds=some es->av K g α' H' ds vs->av K g α H2 es vs
 | [],es,_,e,.nil=>by cases e;exact .nil
 | d::ds,es,_,e,.cons r t=>by
  unfold jC at e
  split at e
  ·rename_i e1 es1 h1 h2
   cases e
   exact .cons (hf _ _ _ h1 r) (jm hf h2 t)
  ·cases e
theorem kK {h' hx:Hh} (L:ow K α α' H' H2 k) (r:aW K g α' H' h') (hx':∀n ds,aI hx n=some ds->aI h' n=some ds) (fz:∀n p ds vs,k<=n->aI hx n=some ds->α'[n]?=some p->H' p=some (.lst vs)->Fr1 H2 p vs) :
  ∀(f:Nat) (d e:D) (v:V),fM k hx f d=some e->aD K g α' H' d v->aD K g α H2 e v
 | 0,_,_,_,e,_=>by cases e
 | f+1,d,e,v,he,rd=>by
  unfold fM at he
  cases rd with
  | non=>cases he;exact .non
  | bl b=>cases he;exact .bl b
  | int i=>cases he;exact .int i
  | str x=>cases he;exact .str x
  | fn h=>cases he;exact .fn h
  | edic h=>cases he;exact .edic (L.frz _ _ _ h)
  | exc hg h hc hd hf=>cases he;exact .exc hg (L.frz _ _ _ h) hc hd (hf.elim .inl fun⟨dx,od,a,b⟩=>.inr ⟨dx,od,a,L.frz _ _ _ b⟩)
  | scr _ _=>cases he
  | tup h rs=>
   simp only at he
   cases e1:jC (fM k hx f) _ with
   | none=>rw[e1] at he;cases he
   | some es=>rw[e1] at he;cases he;exact .tup (L.tup _ _ h) (jm (fun d e v=>kK L r hx' fz f d e v) e1 rs)
  | frl h rs=>
   simp only at he
   cases e1:jC (fM k hx f) _ with
   | none=>rw[e1] at he;cases he
   | some es=>rw[e1] at he;cases he;exact .frl (let ⟨o,h⟩:=h;⟨o,L.frz _ _ _ h⟩) (jm (fun d e v=>kK L r hx' fz f d e v) e1 rs)
  | @ref n p hp=>
   simp only at he
   split at he
   ·rename_i hn
    cases he
    exact .ref (by rw[L.pre n hn];exact hp)
   ·rename_i hn
    cases el:aI hx n with
    | none=>rw[el] at he;cases he
    | some ds=>
     rw[el] at he
     simp only at he
     cases e1:jC (fM k hx f) ds with
     | none=>rw[e1] at he;cases he
     | some es=>
      rw[e1] at he;cases he
      obtain⟨vs,hv,rs⟩:=r.lst (hx' n ds el) hp
      exact .frl (fz n p ds vs (by omega) el hp hv) (jm (fun d e v=>kK L r hx' fz f d e v) e1 rs)
end
theorem lW {β:Type} {l:List β} {k n:Nat} {x:β} (e:(l.take k)[n]?=some x):n<k/\l[n]?=some x:=by
 rw[List.getElem?_take] at e
 split at e
 ·exact⟨by assumption,e⟩
 ·cases e
theorem kU {α α':List Addr} (h:α <+: α') {n:Nat} (hn:n<α.length):α[n]?=α'[n]?:=by
 obtain⟨t,rfl⟩:=h
 rw[List.getElem?_append_left hn]
theorem Bq {β:Type} {l:List β} {f:β->Bool} (h:l.all f=true) {n:Nat} {x:β} (e:l[n]?=some x):f x=true:=List.all_eq_true.mp h x (List.mem_of_getElem? e)
theorem rQ {K:PySem.W.Frag} {g:GG} {α α' α2:List Addr} {H H' H2:Hp} {h h':Hh} (r0:α.length=h.length) (e:Ext K α H α' H') (r:aW K g α' H' h') (hl:(h'.take h.length).all (mQ h.length)=true)
  (L:ow K α2 α' H' H2 h.length) (kp:∀n p u,n<h.length->α'[n]?=some p->H' p=some u->H2 p=some u):∀(n:Nat) (p:Addr) (o:O),n<h.length->α'[n]?=some p->(h'.take h.length)[n]?=some o->OAt K g α2 H2 p o:=by
 intro n p o hn hp ho
 have lo:=Bq hl ho
 obtain⟨_,ho'⟩:=lW ho
 have q:=r.here n p o hp ho'
 cases o with
 | lst ds=>obtain⟨vs,a,b⟩:=q;exact⟨vs,kp n p _ hn hp a,gF L lo b⟩
 | set m=>exact kp n p _ hn hp q
 | dic kvs=>
  obtain⟨kws,a,b⟩:=q
  refine⟨kws,kp n p _ hn hp a,?_⟩
  replace lo:dk h.length (kvs.map (·.2))=true:=lo
  clear a ho ho'
  induction b with
  | nil=>exact .nil
  | cons x t ih=>
   simp only[List.map_cons,dk,Bool.and_eq_true] at lo
   exact .cons ⟨x.1,qm L lo.1 x.2⟩ (ih lo.2)
 | dit kvs=>
  obtain⟨kws,a,b⟩:=q
  refine⟨kws,kp n p _ hn hp a,?_⟩
  replace lo:dk h.length (kvs.map (·.2))=true:=lo
  clear a ho ho'
  induction b with
  | nil=>exact .nil
  | cons x t ih=>
   simp only[List.map_cons,dk,Bool.and_eq_true] at lo
   exact .cons ⟨x.1,qm L lo.1 x.2⟩ (ih lo.2)
section
variable {P:Program} {w:World} {K:PySem.W.Frag} {mg:Str->Option Value} {base:Heap} {g:GG} {k np:Nat} {f:Addr} {fd:FuncData} {ps:List Str} {m:MF}
theorem kO {CX:CXT} {ε:XK->EE} (F:ed P w K mg base CX k f fd ps (spG K g ε np m)):ed P w K mg base CX k f fd ps (spG K g ε np fun ds h=>(m ds h).bind (dj h)):=by
 refine⟨fun vs H Q E h=>?_,fun A outer s H args us vs Q E hr e0 hb hv hsp=>?_⟩
 ·obtain⟨hl,α,ds,h,rs,hh,w⟩:=h
  exact F.len vs H (fun _ _=>True) E ⟨hl,α,ds,h,rs,hh,w.bind.mono fun _ _ _ _ _ _ _ _ _ _=>trivial⟩
 ·obtain⟨hl,α,ds,h,rs,hh,w⟩:=hsp
  refine codeAny_mono (F.run A outer s H args us vs (fun v H'=>∃α' d h',Ext K α H α' H'/\aW K g α' H' h'/\aD K g α' H' d v/\WQ K g (ε E) α H (dj h d h') (aF K g α H Q)) E hr e0 hb hv ⟨hl,α,ds,h,rs,hh,w.bind.mono fun d h' _ w1 v H' α' e r rd=>⟨α',d,h',e,r,rd,w1⟩⟩) fun res s' q=>?_
  cases res with
  | error e=>exact q
  | ok fl=>
   cases fl with
   | ret u=>
    refine CP (show CE outer P _ H s _ u s' from q) fun v H' ⟨α',d,h',e,r,rd,w⟩=>?_
    refine⟨fun p=>∃n ds,h.length<=n/\α'[n]?=some p/\aI h' n=some ds,fun p ⟨n,ds,_,hp,hn⟩=>?_,fun o=>?_⟩
    ·obtain⟨vs,hv,_⟩:=r.lst hn hp
     exact⟨_,hv,trivial⟩
    ·unfold dj at w
     obtain⟨hl,w⟩:=WQ.dy w
     cases ez:fM h.length h' 8 d with
     | none=>rw[ez] at w;exact w.elim
     | some e'=>
      rw[ez] at w
      generalize hS:(fun p=>∃n ds,h.length<=n/\α'[n]?=some p/\aI h' n=some ds)=S
      have inS:∀p,S p↔∃n ds,h.length<=n/\α'[n]?=some p/\aI h' n=some ds:=fun p=>by rw[<- hS]
      have k0:α.length=h.length:=hh.len
      have notS:∀p u,H' p=some u->(∀vs,u≠.lst vs)->¬ S p:=fun p u e1 e2 z=>by
       obtain⟨n,ds,_,hp,hn⟩:=(inS p).mp z
       obtain⟨vs,hv,_⟩:=r.lst hn hp
       rw[e1] at hv;cases hv;exact e2 vs rfl
      have off:∀p,¬ S p->ju S o H' p=H' p:=fun p z=>by unfold ju;rw[if_neg z]
      have L:ow K α α' H' (ju S o H') h.length:=⟨fun n hn=>kU e.pre (by omega),fun p xs z=>by rw[off p (notS p _ z fun vs z=>nomatch z)];exact z,fun p o u z=>by rw[off p (notS p _ z fun vs z=>nomatch z)];exact z⟩
      have kp:∀n p u,n<h.length->α'[n]?=some p->H' p=some u->ju S o H' p=some u:=fun n p u hn hp e1=>by
       rw[off p fun z=>?_];exact e1
       obtain⟨m,ds,hm,hp',_⟩:=(inS p).mp z
       have:=r.inj n m p hp hp'
       omega
      have rd2:aD K g α (ju S o H') e' v:=kK L r (fun _ _ z=>z) (fun n p ds vs hn hl hp hv=>⟨o p,by unfold ju;rw[if_pos ((inS p).mpr ⟨n,ds,hn,hp,hl⟩),hv];rfl⟩) 8 d e' v ez rd
      refine(show aF K g α H Q e' (h'.take h.length) from w) v _ α ⟨⟨List.prefix_refl _,fun p xs z=>L.tup p xs (e.tup p xs z),fun p o u z=>L.frz p o u (e.frz p o u z)⟩,fun p u z n=>?_,fun _ z n=>absurd z n⟩ ⟨?_,fun n m p h1 h2=>hh.inj n m p h1 h2,fun n p ob h1 h2=>?_⟩ rd2
      ·rw[off p fun z'=>?_];exact e.keep p u z n
       obtain⟨m,ds,_,hp',_⟩:=(inS p).mp z'
       have:=e.new p (List.mem_of_getElem? hp') n
       rw[z] at this;cases this
      ·rw[List.length_take,<- r.len,k0]
       have:=e.pre.length_le
       omega
      ·have hn:n<h.length:=(lW h2).1
       rw[kU e.pre (by omega)] at h1
       exact rQ k0 e r hl L kp n p ob hn h1 h2
   | next=>exact q
   | brk=>exact q
   | cont=>exact q
end
end L2.FE
namespace L2
open PySem PySem.Spec PyProof.Rows
noncomputable def Izl (K:PySem.W.Frag) (a b:Addr):It:=
 ⟨fun i H=>∃xs ys x y,SqL K H a xs/\SqL K H b ys/\xs[i]?=some x/\ys[i]?=some y,
  fun i H x H'=>∃p v w,x=.ref p/\H p=none/\(∀xs,SqL K H a xs->xs[i]?=some v)/\(∀ys,SqL K H b ys->ys[i]?=some w)/\H'=upd H p (.tup [v,w]),
  fun i H=>∃xs ys,SqL K H a xs/\SqL K H b ys/\(xs.length<=i\/ys.length<=i)⟩
structure ZA (z TI TO i1 i2:Addr):Prop where
 TIz:TI≠z
 TOz:TO≠z
 i1z:i1≠z
 i2z:i2≠z
 TITO:TI≠TO
 TIi1:TI≠i1
 TIi2:TI≠i2
 TOi1:TO≠i1
 TOi2:TO≠i2
 i12:i1≠i2
noncomputable def BQ (z TI TO i1 i2 a b:Addr) (i:Nat) (h:Heap):Prop:=
 IsZip h z TI TO .none/\IsPair h TI (.ref i1) (.ref i2)/\(∃x y,IsPair h TO x y)/\h.IsListIter i1 a i/\h.IsListIter i2 b i
theorem nP {z TI TO i1 i2 a b:Addr} {i:Nat} {h:Heap} {xs ys:Array Value} (A:ZA z TI TO i1 i2) (st:BQ z TI TO i1 i2 a b i h) (ha:h.IsList a xs) (hb:h.IsList b ys):ZipApart z TI TO i1 i2 a b:=by
 obtain⟨hz,hTI,⟨x,y,hTO⟩,h1,h2⟩:=st
 have cl:∀{l:Addr} {vs:Array Value},h.IsList l vs->l≠z/\l≠TO/\l≠i1/\l≠i2:=fun{l vs} hl=>by
  obtain⟨oa,qa,ca,_⟩:=hl
  obtain⟨o1,q1,c1,_⟩:=h1
  obtain⟨o2,q2,c2,_⟩:=h2
  refine⟨fun q=>?_,fun q=>?_,fun q=>?_,fun q=>?_⟩
  ·rw[q,hz] at qa;cases qa;injection ca with w;exact absurd w (by decide)
  ·rw[q,hTO] at qa;cases qa;injection ca with w;exact absurd w (by decide)
  ·rw[q,q1] at qa;cases qa;rw[c1] at ca;injection ca with w;exact absurd w (by decide)
  ·rw[q,q2] at qa;cases qa;rw[c2] at ca;injection ca with w;exact absurd w (by decide)
 obtain⟨a1,a2,a3,a4⟩:=cl ha
 obtain⟨b1,b2,b3,b4⟩:=cl hb
 exact⟨A.TIz,A.TOz,A.i1z,A.i2z,A.TITO,A.TIi1,A.TIi2,A.TOi1,A.TOi2,A.i12,a1,a2,a3,a4,b1,b2,b3,b4⟩
theorem vE {P:Program} {w:World} {K:PySem.W.Frag} {elts:List Expr} {k:Nat} {pos:Pos} {a b z TI TO i1 i2:Addr} (A:ZA z TI TO i1 i2):Turn P w K (.Tuple elts k pos) (Izl K a b) [z,TI,TO,i1,i2] z (BQ z TI TO i1 i2 a b) where
 mem:=by simp
 obj:=fun i h st c hc=>by
  obtain⟨hz,hTI,⟨x,y,hTO⟩,⟨o1,q1,_,d1⟩,⟨o2,q2,_,d2⟩⟩:=st
  simp only[List.mem_cons,List.not_mem_nil,or_false] at hc
  rcases hc with e | e | e | e | e<;>rw[e]
  ·exact⟨_,hz,fun v q=>nomatch q⟩
  ·exact⟨_,hTI,fun v q=>nomatch q⟩
  ·exact⟨_,hTO,fun v q=>nomatch q⟩
  ·exact⟨o1,q1,fun v y=>by rw[d1] at y;cases y⟩
  ·exact⟨o2,q2,fun v y=>by rw[d2] at y;cases y⟩
 keep:=fun i h h' st kk=>by
  obtain⟨hz,hTI,⟨x,y,hTO⟩,h1,h2⟩:=st
  exact⟨kk z (by simp) _ hz,kk TI (by simp) _ hTI,⟨x,y,kk TO (by simp) _ hTO⟩,h1.at fun o q=>kk i1 (by simp) o q,h2.at fun o q=>kk i2 (by simp) o q⟩
 item:=by
  intro X hP hw hK hc i pins s σ H E I hf st hg
  subst hP hw hK
  obtain⟨xs,ys,x,y,hq,hr,hx,hy⟩:=hg
  obtain⟨its,rv,p,hz⟩:=I.list hq
  obtain⟨jts,rw',p',hz'⟩:=I.list hr
  obtain⟨u,hu,ru⟩:=rv.get hx
  obtain⟨u',hu',ru'⟩:=rw'.get hy
  have D:=nP A st p.isList p'.isList
  obtain⟨z1,z2,⟨t1,t2,z3⟩,z4,z5⟩:=st
  refine wpAny_pyNext_zip_item D z1 z2 z3 z4 z5 p.isList p'.isList (x:=u) (y:=u') (by simpa using hu) (by simpa using hu') fun h1 a1 a2 a3 a4 a5 a6 k1=>?_
  refine⟨_,rfl,wpAny_letOwnedTupleGo_zip a1 fun h2 b1 b2=>?_⟩
  have lt:∀{c o},s.heap.get? c=some o->s.heap.objs.size≠c:=fun e=>Nat.ne_of_gt (Heap.lt_size e)
  have kk:∀c o,c∉[z,TI,TO,i1,i2]->s.heap.get? c=some o->h2.get? c=some o:=fun c o hc q=>by
   simp only[List.mem_cons,List.not_mem_nil,or_false,not_or] at hc
   exact b2.extBut _ _ hc.1 (k1 c o hc.1 hc.2.2.1 hc.2.2.2.1 hc.2.2.2.2 q)
  have hn:H s.heap.objs.size=none:=I.hok.fresh (Nat.le_refl _)
  have hzT:s.heap.objs.size≠z:=lt z1
  have nTf:∀c∈[z,TI,TO,i1,i2],c≠s.heap.objs.size:=fun c hc=>by
   simp only[List.mem_cons,List.not_mem_nil,or_false] at hc
   rcases hc with e | e | e | e | e<;>rw[e]
   ·exact(lt z1).symm
   ·exact(lt z2).symm
   ·exact(lt z3).symm
   ·obtain⟨o,q,_⟩:=z4;exact(lt q).symm
   ·obtain⟨o,q,_⟩:=z5;exact(lt q).symm
  have hT2:jX h2 s.heap.objs.size #[u,u']:=⟨_,b2.extBut _ _ hzT a5,⟨rfl,_,rfl⟩,rfl⟩
  refine⟨.ref s.heap.objs.size,upd H s.heap.objs.size (.tup [x,y]),I.yielded (t':=s.toks) hf kk (Nat.le_refl _) ⟨by show 2<=sizeLine;decide,[u,u'],.cons ru (.cons ru' .nil),hT2⟩,rfl,⟨_,x,y,rfl,hn,fun l hl=>by rw[I.i_ hl hq];exact hx,fun l hl=>by rw[I.i_ hl hr];exact hy,rfl⟩,?_,fun c hc=>by rw[aA (nTf c hc)];exact(hf c hc).1⟩
  exact⟨b1,b2.extBut _ _ A.TIz (k1 _ _ A.TIz A.TITO A.TIi1 A.TIi2 z2),⟨_,_,b2.extBut _ _ A.TOz a2⟩,a3.extBut b2.extBut A.i1z,a4.extBut b2.extBut A.i2z⟩
 done:=by
  intro X hP hw hK hc i pins s σ H E I hf st hg
  subst hP hw hK
  obtain⟨xs,ys,hq,hr,hx⟩:=hg
  obtain⟨its,rv,p,hz⟩:=I.list hq
  obtain⟨jts,rw',p',hz'⟩:=I.list hr
  have D:=nP A st p.isList p'.isList
  obtain⟨z1,z2,⟨t1,t2,z3⟩,z4,z5⟩:=st
  have hl:=rv.length
  have hl':=rw'.length
  refine wpAny_pyNext_zip_end (I.ok.hd hc) D z1 z2 z3 z4 z5 p.isList p'.isList ?_ fun h' eb=>⟨rfl,I.ua (t':=s.toks) hf fun b u hb q=>eb b u (fun z=>hb (by simp[z])) (fun z=>hb (by simp[z])) (fun z=>hb (by simp[z])) (fun z=>hb (by simp[z])) q⟩
  rcases hx with hx | hx
  ·exact .inl (Array.getElem?_eq_none (by rw[List.size_toArray];omega))
  ·exact .inr (Array.getElem?_eq_none (by rw[List.size_toArray];omega))
 self:=fun A i s Q E st q=>wpAny_pyIter_zip st.1 q
end L2
namespace L2.FE
open PySem PySem.Spec PyProof.Rows
section
variable {X:Cx} {g:GG} {ε:EE} {K:PySem.W.Frag}
noncomputable def gf:List D->List D->List D
 | x::xs,y::ys=>D.tup [x,y]::gf xs ys
 | _,_=>[]
theorem mF:∀{ds es:List D} {i:Nat},(gf ds es)[i]?=match ds[i]?,es[i]? with | some d,some e=>some (D.tup [d,e]) | _,_=>none
 | [],_,_=>by simp[gf]
 | _::_,[],_=>by
  simp only[gf,List.getElem?_nil]
  split<;>simp_all
 | _::_,_::_,0=>by simp[gf]
 | _::xs,_::ys,i+1=>by
  simp only[gf,List.getElem?_cons_succ]
  exact mF
theorem vh {α:List Addr} {H:Hp} {h:Hh} {d e:D} {v w:V} {p:Addr} (hr:aW K g α H h) (rv:aD K g α H d v) (rw':aD K g α H e w) (hp:H p=none) :
  ∃α',Ext K α H α' (upd H p (.tup [v,w]))/\aW K g α' (upd H p (.tup [v,w])) h/\aD K g α' (upd H p (.tup [v,w])) (.tup [d,e]) (.ref p):=
 ⟨α,Ext.fresh hp,hr.grow hp,.tup aQ (.cons (rv.ext (Ext.fresh hp)) (.cons (rw'.ext (Ext.fresh hp)) .nil))⟩
theorem wc {α:List Addr} {H:Hp} {a b:Addr} {ds es:List D} {vs ws:List V} (hq:Fro K H a vs) (rs:av K g α H ds vs) (hq':Fro K H b ws) (rs':av K g α H es ws):Reads K g (Izl K a b) (Src.snap (gf ds es)).rdr α H:=by
 intro α2 H2 h2 x2 hr i
 have hq2:SqL K H2 a vs:=(x2.fro _ _ hq).sq
 have hq2':SqL K H2 b ws:=(x2.fro _ _ hq').sq
 have rs2:=rs.ext x2
 have rs2':=rs'.ext x2
 show match some (gf ds es)[i]? with | none=>True | some none=>_ | some (some d)=>_
 rw[mF]
 cases e:ds[i]? with
 | none=>
  have:ds.length<=i:=List.getElem?_eq_none_iff.mp e
  exact⟨vs,ws,hq2,hq2',.inl (by rw[<- rs.length];exact this)⟩
 | some d=>
  cases e':es[i]? with
  | none=>
   have:es.length<=i:=List.getElem?_eq_none_iff.mp e'
   exact⟨vs,ws,hq2,hq2',.inr (by rw[<- rs'.length];exact this)⟩
  | some d'=>
   obtain⟨v,ev,rv⟩:=rs2.get e
   obtain⟨v',ev',rv'⟩:=rs2'.get e'
   refine⟨⟨vs,ws,v,v',hq2,hq2',ev,ev'⟩,fun x H' y=>?_⟩
   obtain⟨p,u,u',e1,hp,e2,e2',e3⟩:=y
   subst e1 e3
   have:=e2 vs hq2
   rw[ev] at this
   cases this
   have:=e2' ws hq2'
   rw[ev'] at this
   cases this
   exact vh hr rv rv' hp
noncomputable def ky:List D->Option (List Bool)
 | []=>some []
 | .bl b::r=>(ky r).map (b::·)
 | _=>none
theorem iK:∀{ds:List D} {bs:List Bool},ky ds=some bs->ds=bs.map D.bl
 | [],_,e=>by cases e;rfl
 | d::ds,bs,e=>by
  cases d with
  | bl b=>
   simp only[ky] at e
   cases e2:ky ds with
   | none=>rw[e2] at e;cases e
   | some cs=>
    rw[e2] at e
    cases e
    rw[iK e2];rfl
  | _=>cases e
theorem av.Cm {α:List Addr} {H:Hp}:∀{bs:List Bool} {vs:List V},av K g α H (bs.map D.bl) vs->vs=bs.map V.bl
 | [],_,.nil=>rfl
 | b::bs,_,.cons r t=>by
  cases r
  rw[av.Cm t];rfl
end
end L2.FE
namespace L2
open PySem PySem.Spec PyProof.Rows
section
variable {prog:Program} {w:World} {A:Around} {E:Value->Shared->Prop} {s:Shared}
theorem vv {z U V a b p q:Addr} {i j:Nat} {xs ys:Array Value} {x y v1 v2:Value} {Q:Value->Shared->Prop} (D:ZipApart z U V a b p q) (hz:IsZip s.heap z U V .none) (hU:IsPair s.heap U (.ref a) (.ref b)) (hV:IsPair s.heap V v1 v2)
  (ha:s.heap.IsTupleIter a p i) (hb:s.heap.IsTupleIter b q j) (hp:s.heap.IsTuple p xs) (hq:s.heap.IsTuple q ys) (hx:xs[i]?=some x) (hy:ys[j]?=some y)
  (K:∀h',IsZip h' z U V (rawInt s.heap.objs.size)->IsPair h' V x y->h'.IsTupleIter a p (i+1)->h'.IsTupleIter b q (j+1)->IsPair h' s.heap.objs.size x y->h'.objs.size=s.heap.objs.size+1->(∀c o,c≠z->c≠V->c≠a->c≠b->s.heap.get? c=some o->h'.get? c=some o)->Q (.ref s.heap.objs.size) { s with heap:=h' }) :
  wpAny (model prog w) A (Builtin.«zip.__next__» ⟨[.ref z],[]⟩) (fun f s'=>∃v,f=.done (.ret v)/\Q v s') E s:=by
 show wpAny _ _ (field (.ref z) 2 >>= _) _ _ _;refine wpAny_bind (wpAny_field hz rfl (x:=.bool false) rfl ?_);show wpAny _ _ (field (.ref z) 3 >>= _) _ _ _
 refine wpAny_bind (wpAny_field hz rfl (x:=.ref U) rfl (wpAny_bind (wpAny_seqItems hU rfl ?_)))
 show wpAny _ _ (Builtin.SmallTypes.ownedTupleIsFree (.ref z) >>= _) _ _ _;refine wpAny_bind ?_;unfold Builtin.SmallTypes.ownedTupleIsFree
 refine wpAny_bind (wpAny_field hz rfl (x:=.none) rfl (wpAny_pure ?_));simp only[if_true]
 refine wpAny_bind (wpAny_rule (wpAny_bind (wpAny_field hz rfl (x:=.ref V) rfl (wpAny_bind (wpAny_setField_rec hz (by simp) fun g1 z1 m1=>?_)))))
 replace z1:IsZip g1 z U V .ellipsis:=z1
 refine wpAny_bind ?_;simp only[List.zipIdx_cons,List.zipIdx_nil,List.forIn_cons,List.forIn_nil]
 refine wpAny_bind (wpAny_bind (wpAny_onRaise ?_));show wpAny _ _ (Builtin.SmallTypes.nextOf (.ref a) >>= _) _ _ _
 refine wpAny_bind (iO (ha.extBut m1.extBut D.i1z) (hp.extBut m1.extBut D.l1z) hx fun g2 a2 m2=>wpAny_pure ?_)
 have V2:IsPair g2 V v1 v2:=m2.extBut _ _ D.TOi1 (m1.extBut _ _ D.TOz hV)
 refine wpAny_bind (wpAny_seqItems V2 rfl (wpAny_bind (wpAny_updateSeq_pair V2 fun g3 V3 m3=>?_)))
 replace V3:IsPair g3 V x v2:=V3
 refine wpAny_bind (wpAny_letGo (wpAny_pure (wpAny_bind (wpAny_bind (wpAny_onRaise ?_)))));show wpAny _ _ (Builtin.SmallTypes.nextOf (.ref b) >>= _) _ _ _
 refine wpAny_bind (iO (((hb.extBut m1.extBut D.i2z).extBut m2.extBut D.i12.symm).extBut m3.extBut D.TOi2.symm) (((hq.extBut m1.extBut D.l2z).extBut m2.extBut D.l2i1).extBut m3.extBut D.l2TO) hy fun g4 b4 m4=>wpAny_pure ?_)
 have V4:IsPair g4 V x v2:=m4.extBut _ _ D.TOi2 V3
 refine wpAny_bind (wpAny_seqItems V4 rfl (wpAny_bind (wpAny_updateSeq_pair V4 fun g5 V5 m5=>?_)))
 replace V5:IsPair g5 V x y:=V5
 refine wpAny_bind (wpAny_letGo (wpAny_pure (wpAny_pure (wpAny_bind (wpAny_seqItems V5 rfl (wpAny_bind (wpAny_newTuple ?_)))))))
 have n5:g5.objs.size=s.heap.objs.size:=by rw[m5.1,m4.1,m3.1,m2.1,m1.1]
 have z5:IsZip g5 z U V .ellipsis:=m5.extBut _ _ D.TOz.symm (m4.extBut _ _ D.i2z.symm (m3.extBut _ _ D.TOz.symm (m2.extBut _ _ D.i1z.symm z1)))
 have k5:∀c o,c≠z->c≠V->c≠a->c≠b->s.heap.get? c=some o->g5.get? c=some o:=fun c o c1 c2 c3 c4 e=>m5.extBut _ _ c2 (m4.extBut _ _ c4 (m3.extBut _ _ c2 (m2.extBut _ _ c3 (m1.extBut _ _ c1 e))))
 have a5:g5.IsTupleIter a p (i+1):=((a2.extBut m3.extBut D.TOi1.symm).extBut m4.extBut D.i12).extBut m5.extBut D.TOi1.symm
 have b5:g5.IsTupleIter b q (j+1):=b4.extBut m5.extBut D.TOi2.symm
 have lz:z<g5.objs.size:=Heap.lt_size z5
 show wpAny _ _ (Builtin.SmallTypes.ownedTupleHandOut (.ref z) (.ref g5.objs.size) >>= _) _ _ _;refine wpAny_bind ?_;unfold Builtin.SmallTypes.ownedTupleHandOut
 have z6:IsZip (g5.push { cls:=.type "tuple", data:=.seq #[x,y] }) z U V .ellipsis:=Heap.get?_push_of_some _ z5
 refine wpAny_bind (wpAny_setField_rec z6 (by simp) fun g7 z7 m7=>?_)
 replace z7:IsZip g7 z U V (rawInt g5.objs.size):=z7
 refine wpAny_setField_rec z7 (by simp) fun g8 z8 m8=>?_
 replace z8:IsZip g8 z U V (rawInt g5.objs.size):=z8
 have up:∀c o,c≠z->g5.get? c=some o->g8.get? c=some o:=fun c o c1 e=>m8.extBut _ _ c1 (m7.extBut _ _ c1 (Heap.get?_push_of_some _ e))
 have T8:IsPair g8 g5.objs.size x y:=m8.extBut _ _ (Nat.ne_of_gt lz) (m7.extBut _ _ (Nat.ne_of_gt lz) (Heap.get?_push_size _ rfl))
 have n8:g8.objs.size=g5.objs.size+1:=by rw[m8.1,m7.1,Heap.size_push]
 rw[n5] at z8 T8 n8
 refine wpAny_pure ⟨_,rfl,?_⟩;show Q (.ref g5.objs.size) _;rw[n5]
 exact K g8 z8 (up _ _ D.TOz V5) (a5.at fun o e=>up _ o D.i1z e) (b5.at fun o e=>up _ o D.i2z e) T8 n8 fun c o c1 c2 c3 c4 e=>up c o c1 (k5 c o c1 c2 c3 c4 e)
theorem zp {z U V a b p q:Addr} {i j:Nat} {xs ys:Array Value} {v1 v2:Value} {Q:Fin->Shared->Prop} (hh:A.handled=none) (D:ZipApart z U V a b p q) (hz:IsZip s.heap z U V .none) (hU:IsPair s.heap U (.ref a) (.ref b)) (hV:IsPair s.heap V v1 v2)
  (ha:s.heap.IsTupleIter a p i) (hb:s.heap.IsTupleIter b q j) (hp:s.heap.IsTuple p xs) (hq:s.heap.IsTuple q ys) (he:xs[i]?=none\/ys[j]?=none)
  (K:∀h' e,(∀c o,c≠z->c≠V->c≠a->c≠b->s.heap.get? c=some o->h'.get? c=some o)->(∃o,h'.get? e=some o/\o.cls=.type "StopIteration")->E (.ref e) { s with heap:=h' }):wpAny (model prog w) A (Builtin.«zip.__next__» ⟨[.ref z],[]⟩) Q E s:=by
 show wpAny _ _ (field (.ref z) 2 >>= _) _ _ _;refine wpAny_bind (wpAny_field hz rfl (x:=.bool false) rfl ?_);show wpAny _ _ (field (.ref z) 3 >>= _) _ _ _
 refine wpAny_bind (wpAny_field hz rfl (x:=.ref U) rfl (wpAny_bind (wpAny_seqItems hU rfl ?_)))
 show wpAny _ _ (Builtin.SmallTypes.ownedTupleIsFree (.ref z) >>= _) _ _ _;refine wpAny_bind ?_;unfold Builtin.SmallTypes.ownedTupleIsFree
 refine wpAny_bind (wpAny_field hz rfl (x:=.none) rfl (wpAny_pure ?_));simp only[if_true]
 refine wpAny_bind (wpAny_rule (wpAny_bind (wpAny_field hz rfl (x:=.ref V) rfl (wpAny_bind (wpAny_setField_rec hz (by simp) fun g1 z1 m1=>?_)))))
 replace z1:IsZip g1 z U V .ellipsis:=z1
 refine wpAny_bind ?_;simp only[List.zipIdx_cons,List.zipIdx_nil,List.forIn_cons,List.forIn_nil]
 refine wpAny_bind (wpAny_bind (wpAny_onRaise ?_));show wpAny _ _ (Builtin.SmallTypes.nextOf (.ref a) >>= _) _ _ _
 cases hx:xs[i]? with
 | none=>
  refine wpAny_bind (nO hh (ha.extBut m1.extBut D.i1z) (hp.extBut m1.extBut D.l1z) hx fun g2 e m2 ee=>?_)
  obtain⟨oe,e1,e2⟩:=ee
  have z2:IsZip g2 z U V .ellipsis:=m2 _ _ D.i1z.symm z1
  have ez:e≠z:=fun u=>by subst u;rw[z2] at e1;cases e1;simp at e2
  exact wpAny_setField_rec z2 (by simp) fun g3 _ m3=>K g3 e (fun c o c1 _ c3 _ u=>m3.extBut _ _ c1 (m2 _ _ c3 (m1.extBut _ _ c1 u))) ⟨oe,m3.extBut _ _ ez e1,e2⟩
 | some x=>
  have hy:ys[j]?=none:=he.resolve_left (by rw[hx];exact nofun)
  refine wpAny_bind (iO (ha.extBut m1.extBut D.i1z) (hp.extBut m1.extBut D.l1z) hx fun g2 a2 m2=>wpAny_pure ?_)
  have V2:IsPair g2 V v1 v2:=m2.extBut _ _ D.TOi1 (m1.extBut _ _ D.TOz hV)
  refine wpAny_bind (wpAny_seqItems V2 rfl (wpAny_bind (wpAny_updateSeq_pair V2 fun g3 V3 m3=>?_)))
  refine wpAny_bind (wpAny_letGo (wpAny_pure (wpAny_bind (wpAny_bind (wpAny_onRaise ?_)))));show wpAny _ _ (Builtin.SmallTypes.nextOf (.ref b) >>= _) _ _ _
  refine wpAny_bind (nO hh (((hb.extBut m1.extBut D.i2z).extBut m2.extBut D.i12.symm).extBut m3.extBut D.TOi2.symm) (((hq.extBut m1.extBut D.l2z).extBut m2.extBut D.l2i1).extBut m3.extBut D.l2TO) hy fun g4 e m4 ee=>?_)
  obtain⟨oe,e1,e2⟩:=ee
  have z4:IsZip g4 z U V .ellipsis:=m4 _ _ D.i2z.symm (m3.extBut _ _ D.TOz.symm (m2.extBut _ _ D.i1z.symm z1))
  have ez:e≠z:=fun u=>by subst u;rw[z4] at e1;cases e1;simp at e2
  exact wpAny_setField_rec z4 (by simp) fun g5 _ m5=>K g5 e (fun c o c1 c2 c3 c4 u=>m5.extBut _ _ c1 (m4 _ _ c4 (m3.extBut _ _ c2 (m2.extBut _ _ c3 (m1.extBut _ _ c1 u))))) ⟨oe,m5.extBut _ _ ez e1,e2⟩
theorem vo {z U V a b p q:Addr} {i j:Nat} {xs ys:Array Value} {x y v1 v2:Value} {Q:Option Value->Shared->Prop} (D:ZipApart z U V a b p q) (hz:IsZip s.heap z U V .none) (hU:IsPair s.heap U (.ref a) (.ref b)) (hV:IsPair s.heap V v1 v2)
  (ha:s.heap.IsTupleIter a p i) (hb:s.heap.IsTupleIter b q j) (hp:s.heap.IsTuple p xs) (hq:s.heap.IsTuple q ys) (hx:xs[i]?=some x) (hy:ys[j]?=some y)
  (K:∀h',IsZip h' z U V (rawInt s.heap.objs.size)->IsPair h' V x y->h'.IsTupleIter a p (i+1)->h'.IsTupleIter b q (j+1)->IsPair h' s.heap.objs.size x y->h'.objs.size=s.heap.objs.size+1->(∀c o,c≠z->c≠V->c≠a->c≠b->s.heap.get? c=some o->h'.get? c=some o)->Q (some (.ref s.heap.objs.size)) { s with heap:=h' }) :
  wpAny (model prog w) A (pyNext (.ref z)) Q E s:=by
 have ty:s.TypeIs (.ref z) "zip" := ⟨_,hz,rfl⟩
 unfold pyNext;refine wpAny_bind (wpAny_attempt (wpAny_callSpecial?_slot (name:=Str.ofString "__next__") ty F.slot_zip_next (wpAny_call_entry F.slot_zip_next ty F.entry_zip_next ?_ (F.args_zip_next_1 _))))
 exact vv D hz hU hV ha hb hp hq hx hy fun h' b1 b2 b3 b4 b5 b6 b7=>wpAny_pure (K h' b1 b2 b3 b4 b5 b6 b7)
theorem zr {z U V a b p q:Addr} {i j:Nat} {xs ys:Array Value} {v1 v2:Value} {Q:Option Value->Shared->Prop} (hh:A.handled=none) (D:ZipApart z U V a b p q) (hz:IsZip s.heap z U V .none) (hU:IsPair s.heap U (.ref a) (.ref b)) (hV:IsPair s.heap V v1 v2)
  (ha:s.heap.IsTupleIter a p i) (hb:s.heap.IsTupleIter b q j) (hp:s.heap.IsTuple p xs) (hq:s.heap.IsTuple q ys) (he:xs[i]?=none\/ys[j]?=none)
  (K:∀h',(∀c o,c≠z->c≠V->c≠a->c≠b->s.heap.get? c=some o->h'.get? c=some o)->Q none { s with heap:=h' }):wpAny (model prog w) A (pyNext (.ref z)) Q E s:=by
 have ty:s.TypeIs (.ref z) "zip" := ⟨_,hz,rfl⟩
 unfold pyNext;refine wpAny_bind (wpAny_attempt (wpAny_callSpecial?_slot (name:=Str.ofString "__next__") ty F.slot_zip_next (wpAny_call_entry F.slot_zip_next ty F.entry_zip_next ?_ (F.args_zip_next_1 _))))
 refine zp hh D hz hU hV ha hb hp hq he fun h' e kk ⟨o,ho,hc⟩=>?_
 exact wpAny_bind (wpAny_isInstance (T:="StopIteration") (b:=true) ⟨o,ho,hc⟩ isSubtype_stop (wpAny_pure (K _ kk)))
end
noncomputable def zh1 (h:Heap) (p:Addr):Heap:=h.push { cls:=.type "tuple_iterator", data:=.fields #[.ref p,.int 0 0] }
noncomputable def zh2 (h:Heap) (p q:Addr):Heap:=(zh1 h p).push { cls:=.type "tuple_iterator", data:=.fields #[.ref q,.int 0 0] }
noncomputable def zh3 (h:Heap) (p q:Addr):Heap:=(zh2 h p q).push { cls:=.type "tuple", data:=.seq #[.ref h.objs.size,.ref (zh1 h p).objs.size] }
noncomputable def zh4 (h:Heap) (p q:Addr):Heap:=(zh3 h p q).push { cls:=.type "tuple", data:=.seq #[.none,.none] }
noncomputable def zh5 (h:Heap) (p q:Addr):Heap:=(zh4 h p q).push { cls:=.type "zip", data:=.fields #[.none,.bool false,.bool false,.ref (zh2 h p q).objs.size,.ref (zh3 h p q).objs.size] }
theorem sT (p q:Addr) (xs ys:Array Value):Meets (Builtin.«zip.__new__» ⟨[.type "zip", .ref p,.ref q],[]⟩) (fun _ R s=>s.heap.IsTuple p xs/\s.heap.IsTuple q ys/\R (.ok (.ret (.ref (zh4 s.heap p q).objs.size))) { s with heap:=zh5 s.heap p q }):=
 .of_wp fun prog w A R s h=>by
  obtain⟨hp,g,d,tk,os⟩:=s;obtain⟨h1,h2,h⟩:=h
  have sub:=sub_zip
  have t1:Heap.IsTuple (Shared.heap ⟨hp,g,d,tk,os⟩) p xs:=h1
  have t2:Heap.IsTuple (Shared.heap ⟨hp.push { cls:=.type "tuple_iterator", data:=.fields #[.ref p,.int 0 0] },g,d,tk,os⟩) q ys:=Heap.IsTuple.at h2 fun o e=>Heap.get?_push_of_some _ e
  wp_walk using wpAny_pyIter_tuple t1,wpAny_pyIter_tuple t2
  exact⟨_,rfl,h⟩
section
variable {prog:Program} {w:World} {A:Around} {E:Value->Shared->Prop} {s:Shared}
theorem vD {p q:Addr} {xs ys:Array Value} {Q:Value->Shared->Prop} (h1:s.heap.IsTuple p xs) (h2:s.heap.IsTuple q ys)
  (K:∀h',IsZip h' (s.heap.objs.size+4) (s.heap.objs.size+2) (s.heap.objs.size+3) .none->IsPair h' (s.heap.objs.size+2) (.ref s.heap.objs.size) (.ref (s.heap.objs.size+1))->IsPair h' (s.heap.objs.size+3) .none .none->h'.IsTupleIter s.heap.objs.size p 0->h'.IsTupleIter (s.heap.objs.size+1) q 0->(∀c o,s.heap.get? c=some o->h'.get? c=some o)->Q (.ref (s.heap.objs.size+4)) { s with heap:=h' }) :
  wpAny (model prog w) A (call (.type "zip") [.ref p,.ref q]) Q E s:=by
 refine callType_new F.called_zip (by decide) (F.typeCall_zip_2 _ _) (F.newCall_zip_2 _ _) (fun obj=>F.args_object_init_3 obj _ _) F.entry_zip_new (sT p q xs ys) ⟨h1,h2,?_⟩
 have e1:(zh1 s.heap p).objs.size=s.heap.objs.size+1:=Heap.size_push ..
 have e2:(zh2 s.heap p q).objs.size=s.heap.objs.size+2:=(Heap.size_push ..).trans (by rw[e1])
 have e3:(zh3 s.heap p q).objs.size=s.heap.objs.size+3:=(Heap.size_push ..).trans (by rw[e2])
 have e4:(zh4 s.heap p q).objs.size=s.heap.objs.size+4:=(Heap.size_push ..).trans (by rw[e3])
 have o5:(zh5 s.heap p q).get? (zh4 s.heap p q).objs.size=some _:=Heap.get?_push_size _ rfl
 have o4:(zh5 s.heap p q).get? (zh3 s.heap p q).objs.size=some _:=Heap.get?_push_of_some _ (Heap.get?_push_size _ rfl)
 have o3:(zh5 s.heap p q).get? (zh2 s.heap p q).objs.size=some _:=Heap.get?_push_of_some _ (Heap.get?_push_of_some _ (Heap.get?_push_size _ rfl))
 have o2:(zh5 s.heap p q).get? (zh1 s.heap p).objs.size=some _:=Heap.get?_push_of_some _ (Heap.get?_push_of_some _ (Heap.get?_push_of_some _ (Heap.get?_push_size _ rfl)))
 have o1:(zh5 s.heap p q).get? s.heap.objs.size=some _:=Heap.get?_push_of_some _ (Heap.get?_push_of_some _ (Heap.get?_push_of_some _ (Heap.get?_push_of_some _ (Heap.get?_push_size _ rfl))))
 have kp:∀c o,s.heap.get? c=some o->(zh5 s.heap p q).get? c=some o:=fun c o x=>Heap.get?_push_of_some _ (Heap.get?_push_of_some _ (Heap.get?_push_of_some _ (Heap.get?_push_of_some _ (Heap.get?_push_of_some _ x))))
 show _/\_
 rw[e2,e3,e4] at o5
 rw[e1,e2] at o3
 rw[e3] at o4
 rw[e1] at o2
 rw[e4]
 exact⟨⟨_,o5,rfl⟩,K _ o5 o3 o4 ⟨_,o1,rfl,rfl⟩ ⟨_,o2,rfl,rfl⟩ kp⟩
end
noncomputable def Izt (K:PySem.W.Frag) (a b:Addr):It:=
 ⟨fun i H=>∃xs ys x y,SqT K H a xs/\SqT K H b ys/\xs[i]?=some x/\ys[i]?=some y,
  fun i H x H'=>∃p v w,x=.ref p/\H p=none/\(∀xs,SqT K H a xs->xs[i]?=some v)/\(∀ys,SqT K H b ys->ys[i]?=some w)/\H'=upd H p (.tup [v,w]),
  fun i H=>∃xs ys,SqT K H a xs/\SqT K H b ys/\(xs.length<=i\/ys.length<=i)⟩
noncomputable def BM (z TI TO i1 i2 a b:Addr) (i:Nat) (h:Heap):Prop:=
 IsZip h z TI TO .none/\IsPair h TI (.ref i1) (.ref i2)/\(∃x y,IsPair h TO x y)/\h.IsTupleIter i1 a i/\h.IsTupleIter i2 b i/\a≠TO/\b≠TO
theorem lP {z TI TO i1 i2 a b:Addr} {i:Nat} {h:Heap} {xs ys:Array Value} (A:ZA z TI TO i1 i2) (st:BM z TI TO i1 i2 a b i h) (ha:h.IsTuple a xs) (hb:h.IsTuple b ys):ZipApart z TI TO i1 i2 a b:=by
 obtain⟨hz,hTI,⟨x,y,hTO⟩,h1,h2,na,nb⟩:=st
 have cl:∀{l:Addr} {vs:Array Value},h.IsTuple l vs->l≠z/\l≠i1/\l≠i2:=fun{l vs} hl=>by
  obtain⟨oa,qa,ca,_⟩:=hl
  obtain⟨o1,q1,c1,_⟩:=h1
  obtain⟨o2,q2,c2,_⟩:=h2
  refine⟨fun q=>?_,fun q=>?_,fun q=>?_⟩
  ·rw[q,hz] at qa;cases qa;injection ca with w;exact absurd w (by decide)
  ·rw[q,q1] at qa;cases qa;rw[c1] at ca;injection ca with w;exact absurd w (by decide)
  ·rw[q,q2] at qa;cases qa;rw[c2] at ca;injection ca with w;exact absurd w (by decide)
 obtain⟨a1,a3,a4⟩:=cl ha
 obtain⟨b1,b3,b4⟩:=cl hb
 exact⟨A.TIz,A.TOz,A.i1z,A.i2z,A.TITO,A.TIi1,A.TIi2,A.TOi1,A.TOi2,A.i12,a1,na,a3,a4,b1,nb,b3,b4⟩
theorem wk {P:Program} {w:World} {K:PySem.W.Frag} {elts:List Expr} {k:Nat} {pos:Pos} {a b z TI TO i1 i2:Addr} (A:ZA z TI TO i1 i2):Turn P w K (.Tuple elts k pos) (Izt K a b) [z,TI,TO,i1,i2] z (BM z TI TO i1 i2 a b) where
 mem:=by simp
 obj:=fun i h st c hc=>by
  obtain⟨hz,hTI,⟨x,y,hTO⟩,⟨o1,q1,_,d1⟩,⟨o2,q2,_,d2⟩,_⟩:=st
  simp only[List.mem_cons,List.not_mem_nil,or_false] at hc
  rcases hc with e | e | e | e | e<;>rw[e]
  ·exact⟨_,hz,fun v q=>nomatch q⟩
  ·exact⟨_,hTI,fun v q=>nomatch q⟩
  ·exact⟨_,hTO,fun v q=>nomatch q⟩
  ·exact⟨o1,q1,fun v y=>by rw[d1] at y;cases y⟩
  ·exact⟨o2,q2,fun v y=>by rw[d2] at y;cases y⟩
 keep:=fun i h h' st kk=>by
  obtain⟨hz,hTI,⟨x,y,hTO⟩,h1,h2,na,nb⟩:=st
  exact⟨kk z (by simp) _ hz,kk TI (by simp) _ hTI,⟨x,y,kk TO (by simp) _ hTO⟩,h1.at fun o q=>kk i1 (by simp) o q,h2.at fun o q=>kk i2 (by simp) o q,na,nb⟩
 item:=by
  intro X hP hw hK hc i pins s σ H E I hf st hg
  subst hP hw hK
  obtain⟨xs,ys,x,y,hq,hr,hx,hy⟩:=hg
  obtain⟨its,rv,p,hz⟩:=I.tuple hq
  obtain⟨jts,rw',p',hz'⟩:=I.tuple hr
  have pt:s.heap.IsTuple a its.toArray:=p
  have pt':s.heap.IsTuple b jts.toArray:=p'
  obtain⟨u,hu,ru⟩:=rv.get hx
  obtain⟨u',hu',ru'⟩:=rw'.get hy
  have D:=lP A st pt pt'
  obtain⟨z1,z2,⟨t1,t2,z3⟩,z4,z5,na,nb⟩:=st
  refine vo D z1 z2 z3 z4 z5 pt pt' (x:=u) (y:=u') (by simpa using hu) (by simpa using hu') fun h1 a1 a2 a3 a4 a5 a6 k1=>?_
  refine⟨_,rfl,wpAny_letOwnedTupleGo_zip a1 fun h2 b1 b2=>?_⟩
  have lt:∀{c o},s.heap.get? c=some o->s.heap.objs.size≠c:=fun e=>Nat.ne_of_gt (Heap.lt_size e)
  have kk:∀c o,c∉[z,TI,TO,i1,i2]->s.heap.get? c=some o->h2.get? c=some o:=fun c o hc q=>by
   simp only[List.mem_cons,List.not_mem_nil,or_false,not_or] at hc
   exact b2.extBut _ _ hc.1 (k1 c o hc.1 hc.2.2.1 hc.2.2.2.1 hc.2.2.2.2 q)
  have hn:H s.heap.objs.size=none:=I.hok.fresh (Nat.le_refl _)
  have hzT:s.heap.objs.size≠z:=lt z1
  have nTf:∀c∈[z,TI,TO,i1,i2],c≠s.heap.objs.size:=fun c hc=>by
   simp only[List.mem_cons,List.not_mem_nil,or_false] at hc
   rcases hc with e | e | e | e | e<;>rw[e]
   ·exact(lt z1).symm
   ·exact(lt z2).symm
   ·exact(lt z3).symm
   ·obtain⟨o,q,_⟩:=z4;exact(lt q).symm
   ·obtain⟨o,q,_⟩:=z5;exact(lt q).symm
  have hT2:jX h2 s.heap.objs.size #[u,u']:=⟨_,b2.extBut _ _ hzT a5,⟨rfl,_,rfl⟩,rfl⟩
  refine⟨.ref s.heap.objs.size,upd H s.heap.objs.size (.tup [x,y]),I.yielded (t':=s.toks) hf kk (Nat.le_refl _) ⟨by show 2<=sizeLine;decide,[u,u'],.cons ru (.cons ru' .nil),hT2⟩,rfl,⟨_,x,y,rfl,hn,fun l hl=>by rw[I.gY hl hq];exact hx,fun l hl=>by rw[I.gY hl hr];exact hy,rfl⟩,?_,fun c hc=>by rw[aA (nTf c hc)];exact(hf c hc).1⟩
  exact⟨b1,b2.extBut _ _ A.TIz (k1 _ _ A.TIz A.TITO A.TIi1 A.TIi2 z2),⟨_,_,b2.extBut _ _ A.TOz a2⟩,a3.extBut b2.extBut A.i1z,a4.extBut b2.extBut A.i2z,na,nb⟩
 done:=by
  intro X hP hw hK hc i pins s σ H E I hf st hg
  subst hP hw hK
  obtain⟨xs,ys,hq,hr,hx⟩:=hg
  obtain⟨its,rv,p,hz⟩:=I.tuple hq
  obtain⟨jts,rw',p',hz'⟩:=I.tuple hr
  have pt:s.heap.IsTuple a its.toArray:=p
  have pt':s.heap.IsTuple b jts.toArray:=p'
  have D:=lP A st pt pt'
  obtain⟨z1,z2,⟨t1,t2,z3⟩,z4,z5,_⟩:=st
  have hl:=rv.length
  have hl':=rw'.length
  refine zr (I.ok.hd hc) D z1 z2 z3 z4 z5 pt pt' ?_ fun h' eb=>⟨rfl,I.ua (t':=s.toks) hf fun b u hb q=>eb b u (fun z=>hb (by simp[z])) (fun z=>hb (by simp[z])) (fun z=>hb (by simp[z])) (fun z=>hb (by simp[z])) q⟩
  rcases hx with hx | hx
  ·exact .inl (Array.getElem?_eq_none (by rw[List.size_toArray];omega))
  ·exact .inr (Array.getElem?_eq_none (by rw[List.size_toArray];omega))
 self:=fun A i s Q E st q=>wpAny_pyIter_zip st.1 q
noncomputable def EJ (K:PySem.W.Frag) (ta:TA):TI:=fun σ H R=>ta σ H fun vs H1=>∃a b,vs=[.ref a,.ref b]/\(((∃xs,SqL K H1 a xs)/\(∃ys,SqL K H1 b ys)/\R (Izl K a b) H1)\/((∃xs,SqT K H1 a xs)/\(∃ys,SqT K H1 b ys)/\R (Izt K a b) H1))
theorem Az {X:Cx} {elts:List Expr} {kt:Nat} {tp p pos:Pos} {l m:Expr} {ta:TA} (hg:Gl X "zip") (hm:X.mg "zip" = none) (hl:PA X [l,m] ta) (hs:starEach [l,m] X.env=(false,eval l X.env)::starEach [m] X.env:=by rfl) (hp:(backTo pos (starEach [m] X.env)).any (·.1)=false:=by rfl) :
  PI X (.Tuple elts kt tp) (.Call (.Name "zip" p) [l,m] [] pos) (EJ X.K ta):=by
 intro pins s σ H R I h
 refine Call_ (kf I hg hm PyProof.Rows.boot_zip (PyProof.Rows.callWith_type1 (thn (hl pos pins s σ H _ I h) fun us s1 ⟨vs,H1,I1,r1,q1⟩=>?_) hs hp))
 obtain⟨a,b,e1,q⟩:=q1
 subst e1
 obtain⟨u1,u2,rfl,rv,rw'⟩:∃u1 u2,us=[u1,u2]/\RelV (.ref a) u1/\RelV (.ref b) u2:=by
  cases r1 with
  | cons p q=>
   cases q with
   | cons p' q'=>
    cases q'
    exact⟨_,_,rfl,p,p'⟩
 cases rv
 cases rw'
 have ne:∀n i j:Nat,i≠j->n+i≠n+j:=by intro n i j h;omega
 have ap:ZA (s1.heap.objs.size+4) (s1.heap.objs.size+2) (s1.heap.objs.size+3) s1.heap.objs.size (s1.heap.objs.size+1):=⟨ne _ 2 4 (by decide),ne _ 3 4 (by decide),ne _ 0 4 (by decide),ne _ 1 4 (by decide),ne _ 2 3 (by decide),ne _ 2 0 (by decide),ne _ 2 1 (by decide),ne _ 3 0 (by decide),ne _ 3 1 (by decide),ne _ 0 1 (by decide)⟩
 have fp:∀c∈[s1.heap.objs.size+4,s1.heap.objs.size+2,s1.heap.objs.size+3,s1.heap.objs.size,s1.heap.objs.size+1],mR X pins H1 c:=by
  intro c hc
  have hb':s1.heap.objs.size<=c:=by
   simp only[List.mem_cons,List.not_mem_nil,or_false] at hc
   rcases hc with e | e | e | e | e<;>rw[e]
   ·exact Nat.le_add_right _ _
   ·exact Nat.le_add_right _ _
   ·exact Nat.le_add_right _ _
   ·exact Nat.le_refl _
   ·exact Nat.le_add_right _ _
  exact I1.Ae hb' (I1.hok.fresh hb')
 rcases q with⟨⟨xs,hq⟩,⟨ys,hr⟩,q⟩ | ⟨⟨xs,hq⟩,⟨ys,hr⟩,q⟩
 ·obtain⟨its,rv,pl,hz⟩:=I1.list hq
  obtain⟨jts,rw',pl',hz'⟩:=I1.list hr
  refine call_zip_2 pl.isList pl'.isList fun h2 y1 y2 y3 y4 y5 hsz kp=>wpAny_pyIter_zip (s:={ s1 with heap:=h2 }) y1 ?_
  exact⟨s1.heap.objs.size+4,_,_,_,H1,rfl,I1.kept (t':=s1.toks) kp,vE (a:=a) (b:=b) ap,⟨y1,y2,⟨_,_,y3⟩,y4,y5⟩,fp,q⟩
 ·obtain⟨its,rv,pl,hz⟩:=I1.tuple hq
  obtain⟨jts,rw',pl',hz'⟩:=I1.tuple hr
  have pt:s1.heap.IsTuple a its.toArray:=pl
  have pt':s1.heap.IsTuple b jts.toArray:=pl'
  have la:a<s1.heap.objs.size:=pl.lt
  have lb:b<s1.heap.objs.size:=pl'.lt
  refine vD pt pt' fun h2 y1 y2 y3 y4 y5 kp=>wpAny_pyIter_zip (s:={ s1 with heap:=h2 }) y1 ?_
  refine⟨s1.heap.objs.size+4,_,_,_,H1,rfl,I1.kept (t':=s1.toks) kp,wk (a:=a) (b:=b) ap,⟨y1,y2,⟨_,_,y3⟩,y4,y5,?_,?_⟩,fp,q⟩
  ·exact Nat.ne_of_lt (Nat.lt_of_lt_of_le la (Nat.le_add_right _ _))
  ·exact Nat.ne_of_lt (Nat.lt_of_lt_of_le lb (Nat.le_add_right _ _))
end L2
namespace L2.FE
open PySem PySem.Spec PyProof.Rows
section
variable {X:Cx} {g:GG} {ε:EE} {K:PySem.W.Frag}
noncomputable def AZ:List D->Hh->R Src
 | [.frl ds,.frl es],h=>.ok (.snap (gf ds es)) h
 | [.tup ds,.tup es],h=>.ok (.snap (gf ds es)) h
 | _,_=>.bad
noncomputable def zj (a:MA):MI:=fun env h=>(a env h).bind AZ
theorem sH {α:List Addr} {H:Hp} {a b:Addr} {ds es:List D} {vs ws:List V} (hq:H a=some (.tup vs)) (rs:av K g α H ds vs) (hq':H b=some (.tup ws)) (rs':av K g α H es ws):Reads K g (Izt K a b) (Src.snap (gf ds es)).rdr α H:=by
 intro α2 H2 h2 x2 hr i
 have hq2:SqT K H2 a vs:=SqT.of (x2.tup _ _ hq)
 have hq2':SqT K H2 b ws:=SqT.of (x2.tup _ _ hq')
 have rs2:=rs.ext x2
 have rs2':=rs'.ext x2
 show match some (gf ds es)[i]? with | none=>True | some none=>_ | some (some d)=>_
 rw[mF]
 cases e:ds[i]? with
 | none=>
  have:ds.length<=i:=List.getElem?_eq_none_iff.mp e
  exact⟨vs,ws,hq2,hq2',.inl (by rw[<- rs.length];exact this)⟩
 | some d=>
  cases e':es[i]? with
  | none=>
   have:es.length<=i:=List.getElem?_eq_none_iff.mp e'
   exact⟨vs,ws,hq2,hq2',.inr (by rw[<- rs'.length];exact this)⟩
  | some d'=>
   obtain⟨v,ev,rv⟩:=rs2.get e
   obtain⟨v',ev',rv'⟩:=rs2'.get e'
   refine⟨⟨vs,ws,v,v',hq2,hq2',ev,ev'⟩,fun x H' y=>?_⟩
   obtain⟨p,u,u',e1,hp,e2,e2',e3⟩:=y
   subst e1 e3
   have:=e2 vs hq2
   rw[ev] at this
   cases this
   have:=e2' ws hq2'
   rw[ev'] at this
   cases this
   exact vh hr rv rv' hp
theorem AI {elts:List Expr} {kt:Nat} {tp p pos:Pos} {e e':Expr} {ma:MA} (hg:Gl X "zip") (hm:X.mg "zip" = none) (he:PA X [e,e'] (tMA X.K g ε ma)) (hs:starEach [e,e'] X.env=(false,eval e X.env)::starEach [e'] X.env:=by rfl) (hp:(backTo pos (starEach [e'] X.env)).any (·.1)=false:=by rfl):PI X (.Tuple elts kt tp) (.Call (.Name "zip" p) [e,e'] [] pos) (tMI X.K g ε (zj ma)):=
 PI.imp (Az hg hm he hs hp) fun σ H T ⟨α,env,h,s,w⟩=>tMA.use s w.bind fun d1 h1 v1 H1 α1 e1 s1 r1 w1=>by
  unfold AZ at w1
  split at w1
  ·cases r1 with
   | cons ra rr=>
    cases rr with
    | cons rb rr=>
     cases rr
     cases ra with
     | frl hq rs=>
      cases rb with
      | frl hq' rs'=>exact⟨_,_,rfl,.inl ⟨⟨_,hq.sq⟩,⟨_,hq'.sq⟩,w1 _ H1 α1 e1 s1.heap (wc hq.fro rs hq'.fro rs')⟩⟩
  ·cases r1 with
   | cons ra rr=>
    cases rr with
    | cons rb rr=>
     cases rr
     cases ra with
     | tup hq rs=>
      cases rb with
      | tup hq' rs'=>exact⟨_,_,rfl,.inr ⟨⟨_,SqT.of hq⟩,⟨_,SqT.of hq'⟩,w1 _ H1 α1 e1 s1.heap (sH hq rs hq' rs')⟩⟩
  ·exact w1.elim
end
end L2.FE
namespace L2
open PySem PySem.Spec PyProof.Rows PySem.Builtin
theorem tw:fillsNumberSlot (.type "tuple") "mul" = pure false:=PySem.fillsNumberSlot_seq (id:="tuple.__mul__") (r:=some (.builtin "tuple.__rmul__")) F.slot_tuple_mul.lookup (by decide +kernel) F.slot_tuple_rmul.lookup (by decide +kernel)
theorem tL:seqRepeat? (.type "tuple")=pure (some (.builtin "tuple.__mul__")):=by
 unfold seqRepeat?;rw[PySem.seqSlot_of (T:="tuple") (name:="__mul__") (id:="tuple.__mul__") F.slot_tuple_mul.lookup (by decide +kernel),PySem.seqSlot_of (T:="tuple") (name:="__rmul__") (id:="tuple.__rmul__") F.slot_tuple_rmul.lookup (by decide +kernel)];rfl
theorem zl (a:Int) (t:Tok) (l:Addr) (its:Array Value) (n:Nat) (dct) (sl):Meets (Builtin.«int.__rmul__» ⟨[.int a t,.ref l],[]⟩) (fun _ R s=>s.heap.get? l=some { cls:=.type "tuple", dict:=dct,data:=.seq its n,slots:=sl }/\R (.ok (.ret Value.notImplemented)) s):=
 .of_wp fun prog w A R s h=>by obtain⟨hp,g,d,tk,os⟩:=s;obtain⟨e,h⟩:=h;wp_walk;exact⟨_,rfl,h⟩
theorem zh (l:Addr) (its:Array Value) (n:Nat) (dct) (sl) (u:Tok):Meets (Builtin.«tuple.__mul__» ⟨[.ref l,.int 1 u],[]⟩) (fun _ R s=>s.heap.get? l=some { cls:=.type "tuple", dict:=dct,data:=.seq its n,slots:=sl }/\R (.ok (.ret (.ref l))) s):=
 .of_wp fun prog w A R s h=>by
  obtain⟨hp,g,d,tk,os⟩:=s;obtain⟨hl,h⟩:=h
  have c1:(its.isEmpty || (1:Int) == 1)=true:=by simp
  wp_walk
  exact⟨_,rfl,h⟩
theorem xv (l:Addr) (its:Array Value) (n:Nat) (dct) (sl) (x:Int) (u:Tok) (hx:2<=x) (hx':x<2 ^ 63) (hn:its.isEmpty=false) (hz:its.size*x.toNat<=sizeLine):Meets (Builtin.«tuple.__mul__» ⟨[.ref l,.int x u],[]⟩) (fun _ R s=>s.heap.get? l=some { cls:=.type "tuple", dict:=dct,data:=.seq its n,slots:=sl }/\R (.ok (.ret (.ref s.heap.objs.size))) { s with heap:=s.heap.push { cls:=.type "tuple", data:=.seq ((List.replicate x.toNat its).foldl (·++·) #[]) } }):=
 .of_wp fun prog w A R s h=>by
  obtain⟨hp,g,d,tk,os⟩:=s;obtain⟨hl,h⟩:=h
  have c0:¬ (decide (x < -2 ^ 63) || decide (x ≥ 2 ^ 63))=true:=by simp;omega
  have c1:¬ (its.isEmpty || x == 1)=true:=by rw[hn];simp;omega
  have c2:¬ (decide (x<=0) || its.isEmpty)=true:=by rw[hn];simp;omega
  have c3:¬ ((its.size:Int)*x > (2 ^ 63 - 1) / 8):=by
   have:((its.size*x.toNat:Nat):Int)=(its.size:Int)*x:=by rw[Int.natCast_mul,Int.toNat_of_nonneg (by omega)]
   have z:(sizeLine:Int)<=(2 ^ 63 - 1) / 8:=by decide
   omega
  have c4:¬ Builtin.Tuple.tupleTooMany ((its.size:Int)*x)=true:=by
   have:((its.size*x.toNat:Nat):Int)=(its.size:Int)*x:=by rw[Int.natCast_mul,Int.toNat_of_nonneg (by omega)]
   unfold Builtin.Tuple.tupleTooMany
   simp;omega
  have c5:Array.size (List.foldl (fun x1 x2=>x1++x2) #[] (List.replicate x.toNat its))<=sizeLine:=by
   have f:∀(m:Nat) (a:Array Value),(List.foldl (fun x1 x2=>x1++x2) a (List.replicate m its)).size=a.size+its.size*m:=by
    intro m
    induction m with
    | zero=>intro a;simp
    | succ m ih=>intro a;rw[List.replicate_succ,List.foldl_cons,ih,Array.size_append,Nat.mul_succ];omega
   rw[f];simpa using hz
  wp_walk
  rw[if_neg c0]
  wp_walk
  rw[if_neg c1]
  wp_walk
  rw[if_neg c2]
  wp_walk
  rw[if_neg c3]
  wp_walk
  exact⟨_,rfl,h⟩
section
variable {X:Cx}
noncomputable abbrev BU (K:PySem.W.Frag):R2:=fun x y H Q=>∃(l:Addr) (k:Int) (xs:List V),x=.ref l/\y=.int k/\SqT K H l xs/\xs≠[]/\1<=k/\k<2 ^ 63/\xs.length*k.toNat<=sizeLine/\(k=1->Q (.ref l) H)/\(2<=k->∀p,H p=none->Q (.ref p) (upd H p (.tup (List.replicate k.toNat xs).flatten)))
theorem AD:OpR X (binaryOp .Mult) (BU X.K):=by
 intro pins s σ H x y v u Q I rx ry h
 obtain⟨l,k,xs,rfl,rfl,hH,hne,h1,h2,hz,q1,q2⟩:=h
 cases rx
 obtain⟨t,rfl⟩:=ry
 obtain⟨its,r,pt,hzl⟩:=I.tuple hH
 have hl:=r.length
 obtain⟨o,e,hc,n,hd⟩:=(show s.heap.IsTuple l its.toArray from pt)
 obtain⟨c,dct,dt,sl⟩:=o
 replace hc:c=.type "tuple" := hc
 replace hd:dt=.seq its.toArray n:=hd
 subst hc hd
 have ne:its.toArray.isEmpty=false:=by
  cases its with
  | nil=>cases xs with
   | nil=>exact absurd rfl hne
   | cons _ _=>simp at hl
  | cons a r'=>rfl
 have hn:its.toArray.size*k.toNat<=sizeLine:=by rw[List.size_toArray,<- hl];exact hz
 refine wpAny_binaryOp_repeat_ref (T:="tuple") (U:="int") (by decide) ⟨_,e,rfl⟩ (fun s'=>typeIs_int s' k t) tw F.fills_int_mul F.slot_int_rmul tL F.slot_int_index.lookup
  (call_meets F.slot_int_rmul (typeIs_int s k t) F.entry_int_rmul (F.args_int_rmul_2 _ _) (zl k t l its.toArray n dct sl) ⟨e,rfl,⟨_,e,rfl⟩,?_⟩)
 by_cases hk:k=1
 ·subst hk
  exact call_meets F.slot_tuple_mul ⟨_,e,rfl⟩ F.entry_tuple_mul (F.args_tuple_mul_2 _ _) (zh l its.toArray n dct sl t) ⟨e,⟨.ref l,H,I,rfl,q1 rfl⟩⟩
 ·refine call_meets F.slot_tuple_mul ⟨_,e,rfl⟩ F.entry_tuple_mul (F.args_tuple_mul_2 _ _) (xv l its.toArray n dct sl k t (by omega) h2 ne hn) ⟨e,?_⟩
  have hnew:List.foldl (fun x1 x2=>x1++x2) #[] (List.replicate k.toNat its.toArray)=(List.replicate k.toNat its).flatten.toArray:=by
   have:=foldl_rep its k.toNat []
   rw[List.nil_append] at this
   exact this
  rw[hnew]
  have len:(List.replicate k.toNat xs).flatten.length<=sizeLine:=by rw[len_rep,Nat.mul_comm];exact hz
  refine⟨.ref _,upd H s.heap.objs.size (.tup (List.replicate k.toNat xs).flatten),I.laid (t':=s.toks) (fun _ _ q=>Heap.get?_push_of_some _ q) (Nat.le_refl _) ⟨len,_,r.rep k.toNat,?_⟩,rfl,q2 (by omega) _ I.fresh⟩
  exact jX.new s.heap _
end
end L2
namespace L2.FE
open PySem PySem.Spec PyProof.Rows
section
variable {X:Cx} {g:GG} {ε:EE} {K:PySem.W.Frag}
noncomputable def oB (nl:NL):D->D->Hh->R D:=fun x y h=>match x,y with
 | .tup ds,.int k=>if ds.isEmpty=false/\1<=k/\k.natAbs<=1000000/\ds.length*k.toNat<=1000000 then .ok (.tup (List.replicate k.toNat ds).flatten) h else .bad
 | x,y=>nr nl x y h
noncomputable abbrev wZ (K:PySem.W.Frag):R2:=fun x y H Q=>BU K x y H Q\/ve x y H (f7 Q)
theorem Ak:OpR X (binaryOp .Mult) (wZ X.K):=OpR.or AD qf
theorem zN {nl:NL} [fQ nl]:dq K g ε (oB nl) (wZ K):=by
 intro α H h a b x y Q r ra rb w
 by_cases ht:∃ds k,a=.tup ds/\b=.int k
 ·obtain⟨ds,k,rfl,rfl⟩:=ht
  cases rb
  cases ra with
  | @tup _ p vs hp rs=>
   obtain⟨⟨c1,c2,c3,c4⟩,w⟩:=WQ.dy (show WQ K g ε α H (if ds.isEmpty=false/\1<=k/\k.natAbs<=1000000/\ds.length*k.toNat<=1000000 then R.ok (D.tup (List.replicate k.toNat ds).flatten) h else R.bad) (aF K g α H Q) from w)
   refine .inl ⟨p,k,vs,rfl,rfl,SqT.of hp,?_,c2,by omega,eh (by rw[<- rs.length];exact c4),fun e=>?_,fun _ q hq=>?_⟩
   ·intro z
    subst z
    cases rs
    simp at c1
   ·subst e
    refine(show aF K g α H Q _ h from w) (.ref p) H α Ext.refl r (.tup hp ?_)
    have:(List.replicate (1:Int).toNat ds).flatten=ds:=by simp
    rw[this];exact rs
   ·exact(show aF K g α H Q _ h from w) (.ref q) _ α (Ext.fresh hq) (r.grow hq) (.tup aQ ((rs.flat k.toNat).ext (Ext.fresh hq)))
 ·refine .inr (pD (ε:=ε) (nl:=nl) α H h a b x y Q r ra rb ?_)
  unfold oB at w
  split at w
  ·rename_i ds k
   exact absurd ⟨ds,k,rfl,rfl⟩ ht
  ·exact w
end
end L2.FE
namespace L2
open PySem PySem.Spec PyProof.Rows
noncomputable def insI (x:Int):List Int->List Int
 | []=>[x]
 | y::r=>if x<=y then x::y::r else y::insI x r
noncomputable def sortI:List Int->List Int
 | []=>[]
 | x::r=>insI x (sortI r)
theorem insI_perm (x:Int):∀l,(insI x l).Perm (x::l)
 | []=>.refl _
 | y::r=>by
  unfold insI
  split
  ·exact .refl _
  ·exact((insI_perm x r).cons y).trans (.swap _ _ _)
theorem sortI_perm:∀l,(sortI l).Perm l
 | []=>.refl _
 | x::r=>(insI_perm x (sortI r)).trans ((sortI_perm r).cons x)
theorem ko (x:Int):∀l:List Int,l.Pairwise (·<=·)->(insI x l).Pairwise (·<=·)
 | [],_=>by simp[insI]
 | y::r,h=>by
  unfold insI
  rw[List.pairwise_cons] at h
  split
  ·rename_i hx
   refine List.pairwise_cons.mpr ⟨fun z hz=>?_,List.pairwise_cons.mpr h⟩
   rcases List.mem_cons.mp hz with rfl | hz
   ·exact hx
   ·exact Int.le_trans hx (h.1 z hz)
  ·rename_i hx
   refine List.pairwise_cons.mpr ⟨fun z hz=>?_,ko x r h.2⟩
   rcases List.mem_cons.mp ((insI_perm x r).mem_iff.mp hz) with rfl | hz
   ·omega
   ·exact h.1 z hz
theorem eg:∀l,(sortI l).Pairwise (·<=·)
 | []=>.nil
 | x::r=>ko x _ (eg r)
theorem gI:∀{xs ys:List Int},xs.Perm ys->xs.Pairwise (·<=·)->ys.Pairwise (·<=·)->xs=ys
 | [],ys,p,_,_=>by rw[List.Perm.eq_nil p.symm]
 | x::xs,[],p,_,_=>absurd (List.Perm.eq_nil p) (by simp)
 | x::xs,y::ys,p,hx,hy=>by
  rw[List.pairwise_cons] at hx hy
  have e:x=y:=by
   have a:x∈y::ys:=p.mem_iff.mp List.mem_cons_self
   have b:y∈x::xs:=p.mem_iff.mpr List.mem_cons_self
   have a':y<=x:=by
    rcases List.mem_cons.mp a with rfl | a
    ·exact Int.le_refl _
    ·exact hy.1 x a
   have b':x<=y:=by
    rcases List.mem_cons.mp b with rfl | b
    ·exact Int.le_refl _
    ·exact hx.1 y b
   omega
  subst e
  rw[gI (List.perm_cons x |>.mp p) hx.2 hy.2]
theorem og:∀{us:List Value} {ns:List Int},IntsAre us ns->Vals (ns.map V.int) us
 | _,_,.nil=>.nil
 | _,_,.cons _ _ t=>.cons ⟨_,rfl⟩ (og t)
end L2
namespace L2.FE
open PySem PySem.Spec PyProof.Rows
section
variable {X:Cx} {g:GG} {ε:EE} {K:PySem.W.Frag}
theorem si {α:List Addr} {H:Hp}:∀(ns:List Int),av K g α H (ns.map D.int) (ns.map V.int)
 | []=>.nil
 | n::ns=>.cons (.int n) (si ns)
theorem sR {mg:Str->Option Value} {x:Str} {f:Addr} (e:g=gOf mg) (h:mg x=some (.ref f)):g x=some f:=by rw[e];simp[gOf,h]
end
end L2.FE
namespace L2.FE
open PySem
section
variable {β γ:Type} {h h1:Hh} {env:En}
@[simp] theorem bC {b:β} {f:β->Hh->R γ}:(R.ok b h).bind f=f b h:=Eq.trans rfl rfl
@[simp] theorem zw {x:Xc} {f:β->Hh->R γ}:(R.err x h).bind f=.err x h:=Eq.trans rfl rfl
@[simp] theorem Eo {f:β->Hh->R γ}:(R.bad).bind f=.bad:=Eq.trans rfl rfl
@[simp] theorem D6 {c:Prop} [Decidable c] {a b:R β} {f:β->Hh->R γ}:(if c then a else b).bind f=if c then a.bind f else b.bind f:=by split<;>rfl
@[simp] theorem e_C {d:D}:cC d env h=.ok d h:=Eq.trans rfl rfl
@[simp] theorem GR {d:D} {r:En}:ah 0 (some d::r) h=.ok d h:=Eq.trans rfl rfl
@[simp] theorem Gi {i:Nat} {x:Option D} {r:En}:ah (i+1) (x::r) h=ah i r h:=Eq.trans rfl rfl
@[simp] theorem HY {f:D->D->Hh->R D} {a b:ME}:aw f a b env h=(a env h).bind fun x h1=>(b env h1).bind fun y h2=>f x y h2:=Eq.trans rfl rfl
@[simp] theorem Il {f:D->Hh->R D} {a:ME}:cUn f a env h=(a env h).bind fun x h1=>f x h1:=Eq.trans rfl rfl
@[simp] theorem HD:ak env h=.ok [] h:=Eq.trans rfl rfl
@[simp] theorem GP {a:ME} {r:MA}:aa a r env h=(a env h).bind fun x h1=>(r env h1).bind fun xs h2=>.ok (x::xs) h2:=Eq.trans rfl rfl
@[simp] theorem Hf {f:List D->Hh->R D} {a:MA}:ag f a env h=(a env h).bind f:=Eq.trans rfl rfl
@[simp] theorem FT {f:D->List D->Hh->R D} {o:ME} {a:MA}:eG f o a env h=(o env h).bind fun x h1=>if isL x h1=true then (a env h1).bind fun xs h2=>f x xs h2 else .bad:=Eq.trans rfl rfl
@[simp] theorem Hd {f:D->Hh->R Bool} {a:ME}:aE f a env h=(a env h).bind f:=Eq.trans rfl rfl
@[simp] theorem GD {a:MT}:bL a env h=(a env h).bind fun b h1=>.ok (!b) h1:=Eq.trans rfl rfl
@[simp] theorem Gy {a b:MT}:oz a b env h=(a env h).bind fun x h1=>if x=true then b env h1 else .ok false h1:=Eq.trans rfl rfl
@[simp] theorem HZ {a b:MT}:ir a b env h=(a env h).bind fun x h1=>if x=true then .ok true h1 else b env h1:=Eq.trans rfl rfl
@[simp] theorem Ik {c:MT} {a b:ME}:cIf c a b env h=(c env h).bind fun x h1=>if x=true then a env h1 else b env h1:=Eq.trans rfl rfl
@[simp] theorem HS {b:Bool}:asB (.bl b) h=.ok b h:=Eq.trans rfl rfl
@[simp] theorem GQ {a b:ME}:nQ a b env h=(a env h).bind fun x h1=>(asB x h1).bind fun k h2=>if k=true then b env h2 else .ok (.bl false) h2:=Eq.trans rfl rfl
@[simp] theorem GK {a:ME}:uT a env h=(a env h).bind fun x h1=>(asB x h1).bind fun k h2=>.ok (.bl (!k)) h2:=Eq.trans rfl rfl
@[simp] theorem FJ {f f':D->D->Hh->R D} {a b c:ME}:iy f f' a b c env h=(a env h).bind fun x h1=>(b env h1).bind fun y h2=>(f x y h2).bind fun z h3=>(asB z h3).bind fun k h4=>if k=true then (c env h4).bind fun w h5=>f' y w h5 else .ok (.bl false) h4:=Eq.trans rfl rfl
@[simp] theorem EK:bA env h=.ok none h:=Eq.trans rfl rfl
noncomputable def Bx:D->Hh->R (Option Int):=fun d h1=>match d with
 | .int i=>.ok (some i) h1
 | _=>.bad
@[simp] theorem FL {i:Int}:Bx (.int i) h=.ok (some i) h:=Eq.trans rfl rfl
@[simp] theorem Hl {a:ME}:cH a env h=(a env h).bind Bx:=Eq.trans rfl rfl
@[simp] theorem FR {nl:NL} {a:ME} {l u:MO}:bU nl a l u env h=(a env h).bind fun x h1=>(l env h1).bind fun lo h2=>(u env h2).bind fun hi h3=>tP nl x lo hi h3:=Eq.trans rfl rfl
@[simp] theorem GV:br env h=.ok (.nx env) h:=Eq.trans rfl rfl
noncomputable def Di (b:MS):Fl->Hh->R Fl:=fun fl h1=>match fl with
 | .nx e=>b e h1
 | fl=>.ok fl h1
@[simp] theorem Ip {b:MS} {e:En}:Di b (.nx e) h=b e h:=Eq.trans rfl rfl
@[simp] theorem Io {b:MS} {d:D}:Di b (.rt d) h=.ok (.rt d) h:=Eq.trans rfl rfl
@[simp] theorem Ff {a b:MS}:aG a b env h=(a env h).bind (Di b):=by
 unfold aG
 first | rfl | (congr 1;funext fl h1;cases fl<;>rfl)
@[simp] theorem F_ {a:ME}:eY a env h=(a env h).bind fun _ h1=>.ok (.nx env) h1:=Eq.trans rfl rfl
@[simp] theorem HP {a:ME}:bg a env h=(a env h).bind fun d h1=>.ok (.rt d) h1:=Eq.trans rfl rfl
@[simp] theorem Ih {c:MT} {a b:MS}:cM c a b env h=(c env h).bind fun x h1=>if x=true then a env h1 else b env h1:=Eq.trans rfl rfl
@[simp] theorem HH {i:Nat} {a:ME}:bh i a env h=(a env h).bind fun d h1=>.ok (.nx (env.set i (some d))) h1:=Eq.trans rfl rfl
noncomputable def Fq (i j:Nat) (env:En):List D->Hh->R Fl:=fun ds h1=>match ds with
 | [x,y]=>.ok (.nx ((env.set i (some x)).set j (some y))) h1
 | _=>.bad
@[simp] theorem F7 {i j:Nat} {x y:D}:Fq i j env [x,y] h=.ok (.nx ((env.set i (some x)).set j (some y))) h:=Eq.trans rfl rfl
@[simp] theorem HI {i j:Nat} {a:MA}:wM i j a env h=(a env h).bind (Fq i j env):=by
 rfl
@[simp] theorem wu {i:Nat} {d:D}:gN i d env h=.ok (env.set i (some d)) h:=Eq.trans rfl rfl
@[simp] theorem H0 {i:Nat} {f:D->D->Hh->R D} {a:ME}:Ah i f a env h=(ah i env h).bind fun x h0=>(a env h0).bind fun y h1=>(f x y h1).bind fun z h2=>.ok (.nx (env.set i (some z))) h2:=Eq.trans rfl rfl
@[simp] theorem FQ {f:D->D->D->Hh->R Unit} {o i v:ME}:jG f o i v env h=(v env h).bind fun x h1=>(o env h1).bind fun y h2=>(i env h2).bind fun z h3=>(f y z x h3).bind fun _ h4=>.ok (.nx env) h4:=Eq.trans rfl rfl
noncomputable def CC:Fl->Hh->R D:=fun fl h1=>match fl with
 | .rt d=>.ok d h1
 | .nx _=>.ok .non h1
 | _=>.bad
@[simp] theorem Im {d:D}:CC (.rt d) h=.ok d h:=Eq.trans rfl rfl
@[simp] theorem Ii {e:En}:CC (.nx e) h=.ok .non h:=Eq.trans rfl rfl
theorem bf {n:Nat} {m:MS} {ds:List D}:cA n m ds h=(m (ds.map some++List.replicate (n - ds.length) none) h).bind CC:=by
 unfold cA
 first | rfl | (congr 1;funext fl h1;cases fl<;>rfl)
section
variable {nl:NL}
@[simp] theorem GC {i j:Int}:bE nl (.int i) (.int j) h=.ok (.int (i+j)) h:=Eq.trans rfl rfl
@[simp] theorem FO {i j:Int}:rG (.int i) (.int j) h=.ok (.int (i+j)) h:=Eq.trans rfl rfl
@[simp] theorem FZ {i j:Int}:dn (.int i) (.int j) h=.ok (.int (i - j)) h:=Eq.trans rfl rfl
@[simp] theorem Hx {i:Int}:kh (.int i) h=.ok (.int (-i)) h:=Eq.trans rfl rfl
@[simp] theorem HK {i j:Int}:dLt (.int i) (.int j) h=.ok (.bl (decide (i<j))) h:=by unfold dLt;rw[mG];rfl
@[simp] theorem HW {i j:Int}:dLe (.int i) (.int j) h=.ok (.bl (decide (i<=j))) h:=by unfold dLe;rw[pj];rfl
@[simp] theorem HL {i j:Int}:dGt (.int i) (.int j) h=.ok (.bl (decide (j<i))) h:=by unfold dGt;rw[mG];rfl
@[simp] theorem HB {i j:Int}:dGe (.int i) (.int j) h=.ok (.bl (decide (j<=i))) h:=by unfold dGe;rw[pj];rfl
@[simp] theorem GJ {i j:Int}:nr nl (.int i) (.int j) h=if sml i=true/\sml j=true then .ok (.int (i*j)) h else .bad:=Eq.trans rfl rfl
@[simp] theorem Hu {i j:Int}:zq (.int i) (.int j) h=if 0<j/\sml j=true then .ok (.int (i / j)) h else .bad:=Eq.trans rfl rfl
@[simp] theorem Hr {i j:Int}:sd (.int i) (.int j) h=if 0<j then .ok (.int (i % j)) h else .bad:=Eq.trans rfl rfl
@[simp] theorem Gz {i j:Int}:tq (.int i) (.int j) h=if 0<=j/\j.natAbs<=1000/\sml i=true then .ok (.int (i ^ j.toNat)) h else .bad:=Eq.trans rfl rfl
@[simp] theorem Ht {i j:Int}:zx [.int i,.int j] h=.ok (.int (max i j)) h:=by
 have:(if j > i then j else i)=max i j:=by split<;>omega
 rw[<- this];rfl
@[simp] theorem Hm {i j:Int}:nM [.int i,.int j] h=.ok (.int (min i j)) h:=by
 have:(if j<i then j else i)=min i j:=by split<;>omega
 rw[<- this];rfl
@[simp] theorem Gm {b:Bool}:yI [.bl b] h=.ok (.int (if b then 1 else 0)) h:=Eq.trans rfl rfl
@[simp] theorem Ie {ds:List D}:bB ds h=if ds.length<=1000000 then .ok (.tup ds) h else .bad:=Eq.trans rfl rfl
@[simp] theorem HC {ds:List D}:bK nl ds h=if ds.length<=1000000 then nl ds h else .bad:=Eq.trans rfl rfl
@[simp] theorem GS {ds:List D}:qx ds h=.ok (.ref h.length) (h++[.lst ds]):=Eq.trans rfl rfl
@[simp] theorem F5 {ds:List D}:az ds h=.ok (.frl ds) h:=Eq.trans rfl rfl
@[simp] theorem Hk {ds:List D}:jT [.tup ds] h=.ok (.int ds.length) h:=Eq.trans rfl rfl
@[simp] theorem F0 {ds:List D}:jT [.scr ds] h=.ok (.int ds.length) h:=Eq.trans rfl rfl
noncomputable def ixK (ds:List D) (i:Int) (h:Hh):R D:=match atI ds i with
 | some d=>.ok d h
 | none=>.bad
@[simp] theorem HN {ds:List D} {i:Int}:dIx (.frl ds) (.int i) h=ixK ds i h:=Eq.trans rfl rfl
@[simp] theorem HF {ds:List D} {i:Int}:dIx (.scr ds) (.int i) h=ixK ds i h:=Eq.trans rfl rfl
theorem nJ {n:Nat} {ds:List D} {i:Int} (e:aI h n=some ds):dIx (.ref n) (.int i) h=ixK ds i h:=by
 have z:eW (.ref n) h=some ds:=e
 delta dIx;rw[z];rfl
theorem Dn {ds:List D} {i:Int} {d:D} (e:atI ds i=some d):ixK ds i h=.ok d h:=by simp only[ixK,e]
theorem w_ {β:Type} {xs:List β} {j:Nat} {v:β} {i:Int} (h:xs[j]?=some v) (e:i=(j:Int)):atI xs i=some v:=by rw[e];exact Bp h
theorem i7 {ds:List D} {i:Int} {j:Nat} {d:D} (e:i=(j:Int)) (e2:ds[j]?=some d):ixK ds i h=.ok d h:=Dn (w_ e2 e)
@[simp] theorem HM {d:D} {ds:List D}:ixK (d::ds) 0 h=.ok d h:=i7 (j:=0) rfl rfl
@[simp] theorem HU {d d1:D} {ds:List D}:ixK (d::d1::ds) 1 h=.ok d1 h:=i7 (j:=1) rfl rfl
theorem qE {β:Type} {xs:List β} {x:β}:atI (xs++[x]) (-1)=some x:=by
 unfold atI ixN
 rw[if_neg (by decide),if_pos (by simp;omega)]
 have:((-1:Int)+((xs++[x]).length:Nat)).toNat=xs.length:=by simp;omega
 rw[this];simp
@[simp] theorem Gq {ds:List D} {lo hi:Option Int}:tP nl (.tup ds) lo hi h=.ok (.tup (cutD ds lo hi)) h:=Eq.trans rfl rfl
@[simp] theorem FV {ds:List D} {lo hi:Option Int}:tP nl (.scr ds) lo hi h=nl (cutD ds lo hi) h:=Eq.trans rfl rfl
@[simp] theorem GX {a b:List D}:bE nl (.tup a) (.tup b) h=if a.length+b.length<=1000000 then .ok (.tup (a++b)) h else .bad:=Eq.trans rfl rfl
@[simp] theorem FY {a b:List D}:bE nl (.frl a) (.frl b) h=if a.length+b.length<=1000000 then nl (a++b) h else .bad:=Eq.trans rfl rfl
@[simp] theorem GL {a:List D} {k:Int}:nr nl (.frl a) (.int k) h=if k.natAbs<=1000000/\a.length*k.toNat<=1000000 then nl (List.replicate k.toNat a).flatten h else .bad:=Eq.trans rfl rfl
@[simp] theorem Ga {ds:List D}:u0 nl (.tup ds) h=.ok (.tup ds.reverse) h:=Eq.trans rfl rfl
@[simp] theorem FU {ds:List D}:dList nl [.tup ds] h=nl ds h:=Eq.trans rfl rfl
@[simp] theorem Gk {ds:List D}:cq [.frl ds] h=.ok (.tup ds) h:=Eq.trans rfl rfl
@[simp] theorem qo {ns:List Int}:d_ [.tup (ns.map D.int)] h=.ok (.int ns.sum) h:=by simp only[d_,eW,gm]
@[simp] theorem GO {b:Bool}:df (.bl b) h=.ok b h:=Eq.trans rfl rfl
@[simp] theorem HJ {i j:Int}:dEq (.int i) (.int j) h=.ok (.bl (i == j)) h:=Eq.trans rfl rfl
@[simp] theorem HV {i j:Str}:dNe (.str i) (.str j) h=.ok (.bl (!(i == j))) h:=Eq.trans rfl rfl
@[simp] theorem HG {i j:Bool}:dNe (.bl i) (.bl j) h=.ok (.bl (!(i == j))) h:=Eq.trans rfl rfl
@[simp] theorem Gv {i:Int}:fA "int" (.int i) h=.ok (.bl true) h:=Eq.trans rfl rfl
@[simp] theorem GF {i:Int}:fA "bool" (.int i) h=.ok (.bl false) h:=Eq.trans rfl rfl
@[simp] theorem Hi {b:Bool}:fA "bool" (.bl b) h=.ok (.bl true) h:=Eq.trans rfl rfl
@[simp] theorem GY {ds:List D}:fA "tuple" (.tup ds) h=.ok (.bl true) h:=Eq.trans rfl rfl
@[simp] theorem FK {j:Int}:gw [.int j] h=if j.natAbs<=1000000 then .ok (.tup (b0 0 j.toNat)) h else .bad:=by
 by_cases z:j.natAbs<=1000000
 ·rw[if_pos z];simp only[gw,wd,if_pos z]
 ·rw[if_neg z];simp only[gw,wd,if_neg z]
@[simp] theorem fZ {ds:List D} {t:Hh}:aI (h++.lst ds::t) h.length=some ds:=by
 unfold aI;rw[List.getElem?_append_right (Nat.le_refl _)];simp
@[simp] theorem uW {o o':O} {t:Hh}:(h++o::t).set h.length o'=h++o'::t:=by
 rw[List.set_append_right _ _ (Nat.le_refl _)];simp
@[simp] theorem fJ {o:O} {ds:List D} {t:Hh}:aI (h++o::.lst ds::t) (h.length+1)=some ds:=by
 unfold aI;rw[List.getElem?_append_right (by omega)];simp
@[simp] theorem xB {o:O} {p p':O} {t:Hh}:(h++o::p::t).set (h.length+1) p'=h++o::p'::t:=by
 rw[List.set_append_right _ _ (by omega)];simp
theorem ya {n:Nat} {ds:List D} (e:aI h n=some ds):isL (.ref n) h=true:=by simp[isL,e]
theorem rL {n:Nat} {ds:List D} {d:D} (e:aI h n=some ds):cE (.ref n) [d] h=if ds.length<1000000 then .ok .non (h.set n (.lst (ds++[d]))) else .bad:=by delta cE;dsimp only;rw[e]
theorem yn {n:Nat} {ds:List D} (e:aI h n=some ds):cq [.ref n] h=.ok (.tup ds) h:=by delta cq;dsimp only;rw[e]
theorem kW {n:Nat} {ds:List D} {i:Int} {j:Nat} {v:D} (e:aI h n=some ds) (e2:ixN ds.length i=some j):f_ (.ref n) (.int i) v h=.ok () (h.set n (.lst (ds.set j v))):=by delta f_;dsimp only;rw[e];dsimp only;rw[e2]
theorem yj {n:Nat} {ns:List Int} (e:aI h n=some (ns.map D.int)):d_ [.ref n] h=.ok (.int ns.sum) h:=by simp only[d_,eW,e,gm]
@[simp] theorem Gu {ds:List D} {t:Hh}:isL (.ref h.length) (h++.lst ds::t)=true:=ya fZ
@[simp] theorem DQ {ds:List D} {d:D} {t:Hh}:cE (.ref h.length) [d] (h++.lst ds::t)=if ds.length<1000000 then .ok .non (h++.lst (ds++[d])::t) else .bad:=by rw[rL fZ,uW]
@[simp] theorem Gp {ds:List D} {t:Hh}:cq [.ref h.length] (h++.lst ds::t)=.ok (.tup ds) (h++.lst ds::t):=yn fZ
@[simp] theorem GZ {o:O} {ds:List D} {t:Hh}:isL (.ref (h.length+1)) (h++o::.lst ds::t)=true:=ya fJ
@[simp] theorem wb {o:O} {ds:List D} {d:D} {t:Hh}:cE (.ref (h.length+1)) [d] (h++o::.lst ds::t)=if ds.length<1000000 then .ok .non (h++o::.lst (ds++[d])::t) else .bad:=by rw[rL fJ,xB]
@[simp] theorem Ho {o:O} {ds:List D} {t:Hh}:cq [.ref (h.length+1)] (h++o::.lst ds::t)=.ok (.tup ds) (h++o::.lst ds::t):=yn fJ
end
@[simp] theorem Gb {a:MA}:kI k9 a env h=(a env h).bind k9:=Eq.trans rfl rfl
@[simp] theorem F4 {a:MA}:kI tQ a env h=(a env h).bind tQ:=Eq.trans rfl rfl
@[simp] theorem Hj {j:Int}:k9 [.int j] h=if j.natAbs<=1000000 then .ok (.snap (b0 0 j.toNat)) h else .bad:=Eq.trans rfl rfl
@[simp] theorem Ha {i j:Int}:tQ [.int i,.int j] h=if i.natAbs<=1000000/\j.natAbs<=1000000 then .ok (.snap (b0 i (j - i).toNat)) h else .bad:=Eq.trans rfl rfl
@[simp] theorem Ic {a:ME}:di a env h=(a env h).bind zA:=Eq.trans rfl rfl
@[simp] theorem H_ {ds:List D}:zA (.tup ds) h=.ok (.snap ds) h:=Eq.trans rfl rfl
@[simp] theorem Ib {ds:List D}:zA (.frl ds) h=.ok (.snap ds) h:=Eq.trans rfl rfl
@[simp] theorem FX {a:MA}:zj a env h=(a env h).bind AZ:=Eq.trans rfl rfl
@[simp] theorem FI {ds es:List D}:AZ [.tup ds,.tup es] h=.ok (.snap (gf ds es)) h:=Eq.trans rfl rfl
@[simp] theorem Gg {nl:NL} {ds:List D} {k:Int}:oB nl (.tup ds) (.int k) h=if ds.isEmpty=false/\1<=k/\k.natAbs<=1000000/\ds.length*k.toNat<=1000000 then .ok (.tup (List.replicate k.toNat ds).flatten) h else .bad:=Eq.trans rfl rfl
noncomputable def EU (tg:D->En->Hh->R En) (body:MS) (env:En):Src->Hh->R Fl:=fun sr h1=>match sr with
 | .snap ds=>dI tg body ds env h1
 | .live n=>j6 (Src.live n).rdr tg body ((aI h1 n).getD []).length 0 env h1
 | .liveE n=>j6 (Src.liveE n).rdr tg body ((aI h1 n).getD []).length 0 env h1
@[simp] theorem G5 {tg:D->En->Hh->R En} {body:MS} {ds:List D}:EU tg body env (.snap ds) h=dI tg body ds env h:=Eq.trans rfl rfl
@[simp] theorem Ia {mi:MI} {tg:D->En->Hh->R En} {body:MS}:fC mi tg body env h=(mi env h).bind (EU tg body env):=by
 unfold fC
 congr 1
noncomputable def E2 (nl:NL) (tt:MT) (te:ME) (ee:D->En):Src->Hh->R D:=fun sr h1=>if sr.fuel h1<=1000000 then
 (match sr with
  | .snap ds=>cQ tt te ee ds h1
  | .live n=>eX (Src.live n).rdr tt te ee ((aI h1 n).getD []).length 0 [] h1
  | .liveE n=>eX (Src.liveE n).rdr tt te ee ((aI h1 n).getD []).length 0 [] h1).bind nl else .bad
@[simp] theorem G6 {nl:NL} {mi:MI} {ix:List Nat} {tt:MT} {te:ME}:dh nl mi ix tt te env h=(mi env h).bind (E2 nl tt te (gO ix env)):=Eq.trans rfl rfl
@[simp] theorem FN {nl:NL} {tt:MT} {te:ME} {ee:D->En} {ds:List D}:E2 nl tt te ee (.snap ds) h=if ds.length<=1000000 then (cQ tt te ee ds h).bind nl else .bad:=Eq.trans rfl rfl
@[simp] theorem DO {lo:Int} {n:Nat}:(b0 lo n).length=n:=by simp[b0]
@[simp] theorem HX {ix:List Nat}:gO ix env=fun d=>some d::ix.map fun i=>(env[i]?).join:=Eq.trans rfl rfl
@[simp] theorem EG:tt1 env h=.ok true h:=Eq.trans rfl rfl
@[simp] theorem Ig {m:En->Hh->R β} {x y:D} {r:En}:unp m (some (.tup [x,y])::r) h=m (some x::some y::r) h:=Eq.trans rfl rfl
noncomputable def CS (tg:D->En->Hh->R En) (body:MS) (ds:List D):Fl->Hh->R Fl:=fun fl h2=>match fl with
 | .nx e=>dI tg body ds e h2
 | .ct e=>dI tg body ds e h2
 | .bk e=>.ok (.nx e) h2
 | .rt d=>.ok (.rt d) h2
theorem gx {tg:D->En->Hh->R En} {body:MS} {d:D} {ds:List D}:dI tg body (d::ds) env h=(tg d env h).bind fun e1 h1=>(body e1 h1).bind (CS tg body ds):=rfl
@[simp] theorem qH {tg:D->En->Hh->R En} {body:MS} {ds:List D} {e:En}:CS tg body ds (.nx e) h=dI tg body ds e h:=Eq.trans rfl rfl
@[simp] theorem HQ {tg:D->En->Hh->R En} {body:MS} {ds:List D} {d:D}:CS tg body ds (.rt d) h=.ok (.rt d) h:=Eq.trans rfl rfl
theorem qQ {σ X:Type} {tg:D->En->Hh->R En} {body:MS} (E:σ->En) (G:σ->Hh) (enc:X->D) (f:σ->X->σ) (I:List X->σ->Prop) (st:∀s x r,I (x::r) s->I r (f s x)/\((tg (enc x) (E s) (G s)).bind body=.ok (.nx (E (f s x))) (G (f s x))\/(tg (enc x) (E s) (G s)).bind body=.ok (.ct (E (f s x))) (G (f s x)))) :
  ∀(xs:List X) (s:σ),I xs s->dI tg body (xs.map enc) (E s) (G s)=.ok (.nx (E (xs.foldl f s))) (G (xs.foldl f s))/\I [] (xs.foldl f s)
 | [],s,i=>⟨rfl,i⟩
 | x::xs,s,i=>by
  obtain⟨i1,e⟩:=st s x xs i
  obtain⟨e2,i2⟩:=qQ E G enc f I st xs (f s x) i1
  refine⟨?_,i2⟩
  rw[List.map_cons,dI]
  rw[<- cc]
  rcases e with e | e<;>rw[e]<;>exact e2
theorem comp_map {X:Type} {tt:MT} {te:ME} {ee:D->En} (enc:X->D) (p:X->Bool) (g:X->D):∀(xs:List X),(∀x∈xs,tt (ee (enc x)) h=.ok (p x) h/\(p x=true->te (ee (enc x)) h=.ok (g x) h)) →
  cQ tt te ee (xs.map enc) h=.ok ((xs.filter p).map g) h
 | [],_=>rfl
 | x::xs,st=>by
  obtain⟨e1,e2⟩:=st x List.mem_cons_self
  have ih:=comp_map enc p g xs fun y hy=>st y (List.mem_cons_of_mem _ hy)
  rw[List.map_cons,cQ,e1,bC]
  cases hp:p x with
  | false=>rw[if_neg Bool.false_ne_true,ih,List.filter_cons_of_neg (by simp[hp])]
  | true=>rw[if_pos rfl,e2 hp,bC,ih,bC,List.filter_cons_of_pos hp,List.map_cons]
theorem lh {X:Type} {te:ME} {ee:D->En} (enc:X->D) (g:X->D) (xs:List X) (st:∀x∈xs,te (ee (enc x)) h=.ok (g x) h):cQ tt1 te ee (xs.map enc) h=.ok (xs.map g) h:=by
 have:=comp_map (tt:=tt1) (ee:=ee) (h:=h) enc (fun _=>true) g xs fun x hx=>⟨rfl,fun _=>st x hx⟩
 rw[List.filter_eq_self.mpr fun _ _=>rfl] at this
 exact this
theorem tB {X:Type} {te:ME} {ee:D->En} (enc:X->D) (g:X->D) (xs:List X) (tt:MT) (ht:∀x∈xs,tt (ee (enc x)) h=.ok true h) (st:∀x∈xs,te (ee (enc x)) h=.ok (g x) h):cQ tt te ee (xs.map enc) h=.ok (xs.map g) h:=by
 have:=comp_map (tt:=tt) (ee:=ee) (h:=h) enc (fun _=>true) g xs fun x hx=>⟨ht x hx,fun _=>st x hx⟩
 rw[List.filter_eq_self.mpr fun _ _=>rfl] at this
 exact this
theorem j2 (n:Nat):b0 0 n=(List.range n).map fun(i:Nat)=>D.int i:=by
 unfold b0
 apply List.map_congr_left
 intro i _
 rw[Int.zero_add]
theorem A9 {σ:Type} {tg:D->En->Hh->R En} {body:MS} (enc:Nat->D) (n:Nat) (E:σ->En) (G:σ->Hh) (f:σ->Nat->σ) (I:Nat->σ->Prop) (s:σ) (i0:I 0 s)
  (st:∀i s,i<n->I i s->I (i+1) (f s i)/\((tg (enc i) (E s) (G s)).bind body=.ok (.nx (E (f s i))) (G (f s i))\/(tg (enc i) (E s) (G s)).bind body=.ok (.ct (E (f s i))) (G (f s i)))) :
  dI tg body ((List.range n).map enc) (E s) (G s)=.ok (.nx (E ((List.range n).foldl f s))) (G ((List.range n).foldl f s))/\I n ((List.range n).foldl f s):=by
 have key:∀(k:Nat) (xs:List Nat) (s:σ),(∀j x,xs[j]?=some x->x=k+j/\x<n)->I k s->dI tg body (xs.map enc) (E s) (G s)=.ok (.nx (E (xs.foldl f s))) (G (xs.foldl f s))/\I (k+xs.length) (xs.foldl f s):=by
  intro k xs
  induction xs generalizing k with
  | nil=>intro s _ i;exact⟨rfl,i⟩
  | cons x xs ih=>
   intro s hx i
   obtain⟨h1,h2⟩:=hx 0 x rfl
   have h1:x=k:=by omega
   subst h1
   obtain⟨i1,e⟩:=st x s h2 i
   obtain⟨e2,i2⟩:=ih (x+1) (f s x) (fun j y hj=>by have:=hx (j+1) y hj;omega) i1
   refine⟨?_,by rw[List.length_cons,List.foldl_cons];rw[show x+(xs.length+1)=x+1+xs.length by omega];exact i2⟩
   rw[List.map_cons,dI,<- cc]
   rcases e with e | e<;>rw[e]<;>exact e2
 have hr:∀j x,(List.range n)[j]?=some x->x=0+j/\x<n:=fun j x hj=>by
  have hl:j<n:=by
   by_cases hl:j<n
   ·exact hl
   ·rw[List.getElem?_eq_none (by simpa using hl)] at hj;cases hj
  rw[List.getElem?_range hl] at hj
  cases hj
  omega
 have:=key 0 (List.range n) s hr i0
 rw[List.length_range,Nat.zero_add] at this
 exact this
theorem AO {σ:Type} {tg:D->En->Hh->R En} {body:MS} (n:Nat) (E:σ->En) (G:σ->Hh) (f:σ->Nat->σ) (I:Nat->σ->Prop) (s:σ) (i0:I 0 s)
  (st:∀i s,i<n->I i s->I (i+1) (f s i)/\((tg (.int (i:Nat)) (E s) (G s)).bind body=.ok (.nx (E (f s i))) (G (f s i))\/(tg (.int (i:Nat)) (E s) (G s)).bind body=.ok (.ct (E (f s i))) (G (f s i)))) :
  dI tg body (b0 0 n) (E s) (G s)=.ok (.nx (E ((List.range n).foldl f s))) (G ((List.range n).foldl f s))/\I n ((List.range n).foldl f s):=by
 rw[j2]
 exact A9 (fun(i:Nat)=>D.int i) n E G f I s i0 st
noncomputable def Wf (h:Hh):Prop:=h.all (mQ h.length)=true
mutual
theorem vO {j k:Nat} (h:j<=k):∀(d:D),jQ j d=true->jQ k d=true
 | .non,_=>rfl | .bl _,_=>rfl | .int _,_=>rfl | .str _,_=>rfl | .fn _,_=>rfl | .edic,_=>rfl | .exc _ _,_=>rfl
 | .ref n,e=>by simp only[jQ,decide_eq_true_eq] at e ⊢;omega
 | .tup ds,e=>by simp only[jQ] at e ⊢;exact de h ds e
 | .frl ds,e=>by simp only[jQ] at e ⊢;exact de h ds e
 | .scr ds,e=>by simp only[jQ] at e ⊢;exact de h ds e
theorem de {j k:Nat} (h:j<=k):∀(ds:List D),dk j ds=true->dk k ds=true
 | [],_=>rfl
 | d::ds,e=>by
  simp only[dk,Bool.and_eq_true] at e ⊢
  exact⟨vO h d e.1,de h ds e.2⟩
end
theorem vA {j k:Nat} (h:j<=k) (o:O) (e:mQ j o=true):mQ k o=true:=by
 cases o with
 | lst ds=>exact de h ds e
 | set n=>rfl
 | dic kvs=>exact de h _ e
 | dit kvs=>exact de h _ e
theorem jH {k:Nat}:∀{ds:List D},(∀d∈ds,jQ k d=true)->dk k ds=true
 | [],_=>rfl
 | d::ds,h=>by simp only[dk,Bool.and_eq_true];exact⟨h d List.mem_cons_self,jH fun e he=>h e (List.mem_cons_of_mem _ he)⟩
theorem Wf.nil:Wf []:=rfl
theorem Wf.app {h:Hh} {o:O} (w:Wf h) (l:mQ (h.length+1) o=true):Wf (h++[o]):=by
 unfold Wf at w ⊢
 rw[List.all_append,List.length_append,List.length_singleton]
 simp only[List.all_cons,List.all_nil,Bool.and_true,Bool.and_eq_true]
 refine⟨?_,l⟩
 rw[List.all_eq_true] at w ⊢
 exact fun x hx=>vA (Nat.le_succ _) x (w x hx)
noncomputable def deep:Nat->D->Bool
 | 0,_=>false
 | f+1,d=>match d with
  | .ref _=>false
  | .scr _=>false
  | .tup ds=>ds.all (deep f)
  | .frl ds=>ds.all (deep f)
  | _=>true
theorem qz {f:D->Option D}:∀{ds:List D},(∀d∈ds,f d=some d)->jC f ds=some ds
 | [],_=>rfl
 | d::ds,h=>by simp only[jC,h d List.mem_cons_self,qz fun e he=>h e (List.mem_cons_of_mem _ he)]
theorem jU {k:Nat} {h:Hh}:∀(f:Nat) (d:D),deep f d=true->fM k h f d=some d
 | 0,_,e=>by cases e
 | f+1,d,e=>by
  unfold deep at e
  unfold fM
  cases d with
  | ref n=>cases e
  | scr n=>cases e
  | tup ds=>simp only[List.all_eq_true] at e;show Option.map D.tup (jC (fM k h f) ds)=_;rw[qz (f:=fM k h f) fun d hd=>jU f d (e d hd)];rfl
  | frl ds=>simp only[List.all_eq_true] at e;show Option.map D.frl (jC (fM k h f) ds)=_;rw[qz (f:=fM k h f) fun d hd=>jU f d (e d hd)];rfl
  | _=>rfl
theorem gk {d:D} {t:Hh} (w:Wf h) (e:deep 8 d=true):dj h d (h++t)=.ok d h:=by
 unfold dj
 rw[List.take_left' rfl,if_pos (show h.all (mQ h.length)=true from w),jU 8 d e]
@[simp] theorem DR {f:Nat} {i:Int}:deep (f+1) (.int i)=true:=rfl
@[simp] theorem FG {f:Nat} {i:Bool}:deep (f+1) (.bl i)=true:=rfl
@[simp] theorem Fp {f:Nat} {i:Str}:deep (f+1) (.str i)=true:=rfl
@[simp] theorem D5 {f:Nat}:deep (f+1) .non=true:=rfl
@[simp] theorem DP {f:Nat}:deep (f+1) .edic=true:=rfl
@[simp] theorem E_ {f:Nat} {ds:List D}:deep (f+1) (.tup ds)=ds.all (deep f):=rfl
@[simp] theorem EL {f:Nat} {ds:List D}:deep (f+1) (.frl ds)=ds.all (deep f):=rfl
end
noncomputable def Ok {β:Type} (r:R β) (Q:β->Hh->Prop):Prop:=∃b h,r=.ok b h/\Q b h
section
variable {β γ:Type} {Q:β->Hh->Prop} {h h1 h2:Hh}
theorem Ok.mono {r:R β} {Q':β->Hh->Prop} (o:Ok r Q) (q:∀b h,Q b h->Q' b h):Ok r Q':=let ⟨b,h,e,z⟩:=o;⟨b,h,e,q b h z⟩
end
theorem oQ {X:Type} {tg:D->En->Hh->R En} {body:MS} {QS:Fl->Hh->Prop} (enc:X->D) (I:En->Hh->Prop) :
  ∀(xs:List X) (env:En) (h:Hh),I env h->(∀x e h,x∈xs->I e h->Ok ((tg (enc x) e h).bind body) fun fl h2=>match fl with
   | .nx e=>I e h2
   | .ct e=>I e h2
   | .bk e=>QS (.nx e) h2
   | .rt d=>QS (.rt d) h2)->(∀e h,I e h->QS (.nx e) h)->Ok (dI tg body (xs.map enc) env h) QS
 | [],env,h,i,_,q=>⟨_,_,rfl,q _ _ i⟩
 | x::xs,env,h,i,st,q=>by
  obtain⟨fl,h2,e,z⟩:=st x env h List.mem_cons_self i
  rw[List.map_cons,dI,<- cc,e,bC]
  cases fl with
  | nx e'=>exact oQ enc I xs e' h2 z (fun y e h hy=>st y e h (List.mem_cons_of_mem _ hy)) q
  | ct e'=>exact oQ enc I xs e' h2 z (fun y e h hy=>st y e h (List.mem_cons_of_mem _ hy)) q
  | bk e=>exact⟨_,_,rfl,z⟩
  | rt d=>exact⟨_,_,rfl,z⟩
end L2.FE
namespace L2.FE
open PySem PySem.Spec PyProof.Rows
noncomputable def BJ (h:Hh) (n:Nat):Option (List (Key × D)):=match h[n]? with
 | some (.dic kvs)=>some kvs
 | _=>none
noncomputable abbrev PD (K:PySem.W.Frag) (g:GG) (α:List Addr) (H:Hp):List (Key × D)->List (Key × V)->Prop:=Paired (fun(a:Key × D) (b:Key × V)=>a.1=b.1/\aD K g α H a.2 b.2)
section
variable {K:PySem.W.Frag} {g:GG} {α:List Addr} {H:Hp} {h:Hh}
theorem aW.dic {n:Nat} {p:Addr} {kvs:List (Key × D)} (r:aW K g α H h) (e:BJ h n=some kvs) (hp:α[n]?=some p):∃kws,H p=some (.dK kws)/\PD K g α H kvs kws:=by
 unfold BJ at e
 cases eo:h[n]? with
 | none=>rw[eo] at e;cases e
 | some o=>
  rw[eo] at e
  cases o with
  | dic k=>cases e;exact r.here n p _ hp eo
  | _=>cases e
theorem PD.ext {α':List Addr} {H':Hp} {kvs:List (Key × D)} {kws:List (Key × V)} (e:Ext K α H α' H') (r:PD K g α H kvs kws):PD K g α' H' kvs kws:=Paired.Fs e.toEx0 r
theorem aF.dic {Q:VK} {kvs:List (Key × D)} {kws:List (Key × V)} {p:Addr} (w:aF K g α H Q (.ref h.length) (h++[.dic kvs])) (r:aW K g α H h) (rs:PD K g α H kvs kws) (hp:H p=none):Q (.ref p) (upd H p (.dK kws)):=by
 have x:=Ext.push (K:=K) (α:=α) (o:=.dK kws) hp
 exact w _ _ _ x (r.push hp ⟨_,aQ,rs.ext x⟩) (.ref (by rw[<- r.len];simp))
end
section
variable {X:Cx} {g:GG} {ε:EE} {o i e f:Expr} {mo mi me mf:ME} {pos:Pos}
theorem pE:PE X (.Dict [] [] pos) (tM X.K g ε (cC .edic)):=
 PE.imp (PE.frz yG) fun σ H Q ⟨α,env,h,s,w⟩ p hp=>by
  refine .inr ⟨p,_,rfl,aQ,trivial,fun o=>?_⟩
  rw[Ar]
  exact(show aF X.K g α H Q .edic h from w) _ _ α (Ext.fresh hp) (s.heap.grow hp) (.edic aQ)
end
end L2.FE
namespace L2
open PySem PySem.Spec PyProof.Rows
theorem zi (o:Obj) (f:Array Value->Array Value):(Obj.mapFields f o).cls=o.cls:=Obj.cls_mapFields _ _
theorem v7 (o:Obj) (f:Array Value->Array Value):(Obj.mapFields f o).dict=o.dict:=by
 unfold Obj.mapFields
 split<;>rfl
structure Gn (h h':Heap):Prop where
 up:h.UpToSlots h'
 there:∀b o,h.get? b=some o->∃o',h'.get? b=some o'
theorem Gn.trans {h h1 h2:Heap} (a:Gn h h1) (b:Gn h1 h2):Gn h h2:=⟨a.up.trans b.up,fun c o q=>let ⟨_,q'⟩:=a.there c o q;b.there c _ q'⟩
structure Fly (B:Heap) (l:List Env) (e:Addr) (C:Value) (dc:Option Addr) (fl:Value) (h:Heap):Prop where
 stays:B.StaysIn h
 new:B.get? e=none
 fr:h.FunFrames B l
 obj:∃oe ws T oT ts,h.get? e=some oe/\oe.cls=C/\oe.dict=dc/\oe.data=.fields ws/\ws[1]?=some (.ref T)/\B.get? T=none/\T≠e/\h.get? T=some oT/\oT.data=.fields ts/\ts[3]?=some fl
theorem Fly.pop {B:Heap} {env:Env} {l:List Env} {e:Addr} {C:Value} {dc:Option Addr} {fl:Value} {h:Heap} (x:Fly B (env::l) e C dc fl h):Fly B l e C dc fl h:=
 ⟨x.stays,x.new,x.fr.2.2,x.obj⟩
theorem Fly.there {B:Heap} {l:List Env} {e:Addr} {C:Value} {dc:Option Addr} {fl:Value} {h:Heap} (x:Fly B l e C dc fl h):∃oe ws,h.get? e=some oe/\oe.cls=C/\oe.dict=dc/\oe.data=.fields ws:=by
 obtain⟨oe,ws,T,oT,ts,a,b,c,d,_⟩:=x.obj
 exact⟨oe,ws,a,b,c,d⟩
section
variable {M:Model} {A:Around} {E:Value->Shared->Prop} {s:Shared} {B:Heap} {env:Env} {l outer:List Env} {e L:Addr} {C:Value} {dc:Option Addr} {fl:Value} {Q:Unit->Shared->Prop}
theorem pT (x:Fly B l e C dc fl s.heap) (k:∀h',Fly B l e C dc .none h'->Gn s.heap h'->Q () { s with heap:=h' }):wpAny M A (setFlight (.ref e) none) Q E s:=by
 obtain⟨st,nw,fr,oe,ws,T,oT,ts,q1,q2,q3,q4,q5,q6,q7,q8,q9,q10⟩:=x
 have hlt:3<ts.size:=(Array.getElem?_eq_some_iff.mp q10).1
 have off:∀b,b≠T->(s.heap.update T (Obj.mapFields (·.setIfInBounds 3 ((none:Option Addr).elim Value.none fun f=>rawInt f)))).get? b=s.heap.get? b:=fun b z=>Heap.get?_update_other _ _ (Ne.symm z)
 have noF:∀b o,s.heap.get? b=some o->(∀vs,o.data≠.fields vs)->b≠T:=by
  rintro b o q n rfl
  rw[q8] at q;cases q;exact n ts q9
 unfold setFlight
 refine wpAny_bind (wpAny_field q1 q4 q5 ?_)
 rw[if_pos (by simp:(Value.ref T != Value.none)=true)]
 refine wpAny_setField q8 q9 hlt (k _ ⟨fun b o q=>(off b ?_).trans (st b o q),nw,fr.of_keeps fun b o q n=>⟨o,(off b (noF b o q n)).trans q,rfl⟩,oe,ws,T,_,_,(off e (Ne.symm q7)).trans q1,q2,q3,q4,q5,q6,q7,Heap.get?_update_self _ q8 (Obj.isFreed_of_fields (Obj.data_mapFields q9 _)),Obj.data_mapFields q9 _,by simp[hlt]⟩
  ⟨fun b o q n=>⟨o.slots,(off b (noF b o q n)).trans q⟩,fun b o q=>?_⟩)
 ·rintro rfl;rw[q6] at q;cases q
 ·by_cases z:b=T
  ·subst z;exact⟨_,Heap.get?_update_self _ q8 (Obj.isFreed_of_fields (Obj.data_mapFields q9 _))⟩
  ·exact⟨o,(off b z).trans q⟩
theorem oA {head:Value} {had:Bool} {oe:Obj} {ws:Array Value} (hA:A.frames=some (env::outer)) (fr:s.heap.FunFrames B (env::outer)) (hL:env.frame=some L) (q1:s.heap.get? e=some oe) (st:B.StaysIn s.heap) (nw:B.get? e=none) (q4:oe.data=.fields ws) (hlt:1<ws.size)
  (k:∀h',Fly B (env::outer) e oe.cls oe.dict (rawInt L) h'->Gn s.heap h'->Q () { s with heap:=h' }) :
  wpAny M A (do let fo ← frameOf env;let pl ← entryPlaceOf L had;let t ← EntryCells.newEntry head fo .none (rawInt L) .none pl;setField (.ref e) 1 t) Q E s:=by
 have hnf:e∉(env::outer).filterMap (·.frame):=fun z=>by
  obtain⟨_,o,ho,n⟩:=fr.mem z
  rw[q1] at ho;cases ho;exact n ws q4
 refine wpAny_bind (wpAny_frameOf_fun hA fr hL fun h1 so=>wpAny_bind (wpAny_entryPlaceOf fun pl hpl=>?_))
 obtain⟨z1,z2,z3⟩:=so
 unfold EntryCells.newEntry newFields
 refine wpAny_bind (wpAny_newObj_type ?_ (hpl.sizeOk5 _ _ _ _ _))
 have e1:h1.get? e=some oe:=by rw[z2 e hnf];exact q1
 have st1:B.StaysIn h1:=fun b o q=>by
  rw[z2 b fun z=>by rw[(fr.mem z).1] at q;cases q]
  exact st b o q
 generalize hT:({ cls:=.type "traceback", dict:=none,data:=.fields ([head,.ref L,.none,rawInt L,.none]++(if pl.isEmpty then List.replicate 6 Value.none else pl)).toArray }:Obj)=oT
 have e2:(h1.push oT).get? e=some oe:=Heap.get?_push_of_some _ e1
 have dT:oT.data=.fields ([head,.ref L,.none,rawInt L,.none]++(if pl.isEmpty then List.replicate 6 Value.none else pl)).toArray:=by rw[<- hT]
 have ne:h1.objs.size≠e:=Nat.ne_of_gt (Heap.lt_size e1)
 refine wpAny_setField e2 q4 hlt (k _ ?_ ?_)
 ·have off:∀b o,b≠e->h1.get? b=some o->((h1.push oT).update e (Obj.mapFields (·.setIfInBounds 1 (Value.ref h1.objs.size)))).get? b=some o:=fun b o n q=>by
   rw[Heap.get?_update_other _ _ (Ne.symm n)]
   exact Heap.get?_push_of_some _ q
  have noF:∀b o,h1.get? b=some o->(∀vs,o.data≠.fields vs)->b≠e:=by
   rintro b o q n rfl
   rw[e1] at q;cases q;exact n ws q4
  refine⟨fun b o q=>off b o ?_ (st1 b o q),nw,?_,_,_,h1.objs.size,oT,_,Heap.get?_update_self _ e2 (Obj.isFreed_of_fields (Obj.data_mapFields q4 _)),zi _ _,v7 _ _,Obj.data_mapFields q4 _,by simp[hlt],?_,ne,?_,dT,?_⟩
  ·rintro rfl;rw[nw] at q;cases q
  ·exact fr.of_keeps fun b o q n=>by
    obtain⟨sl,q'⟩:=z3 b o q
    exact⟨_,off b _ (noF b _ q' n) q',rfl⟩
  ·cases q:B.get? h1.objs.size with
   | none=>rfl
   | some o=>exact absurd (Heap.lt_size (st1 _ _ q)) (Nat.lt_irrefl _)
  ·rw[Heap.get?_update_other _ _ (Ne.symm ne)]
   rw[<- hT]
   exact Heap.get?_push_size h1 rfl
  ·first | (simp;done) | (rcases hpl with rfl | ⟨_,_,_,_,_,_,_,rfl⟩<;>simp)
 ·refine⟨fun b o q n=>?_,fun b o q=>?_⟩
  ·obtain⟨sl,q'⟩:=z3 b o q
   refine⟨sl,?_⟩
   rw[Heap.get?_update_other _ _ ?_]
   ·exact Heap.get?_push_of_some _ q'
   ·rintro rfl
    rw[q1] at q;cases q;exact n ws q4
  ·obtain⟨sl,q'⟩:=z3 b o q
   by_cases z:b=e
   ·subst z;exact⟨_,Heap.get?_update_self _ e2 (Obj.isFreed_of_fields (Obj.data_mapFields q4 _))⟩
   ·exact⟨_,by rw[Heap.get?_update_other _ _ (Ne.symm z)];exact Heap.get?_push_of_some _ q'⟩
theorem vk {oe:Obj} {ws:Array Value} (hA:A.frames=some (env::outer)) (fr:s.heap.FunFrames B (env::outer)) (hL:env.frame=some L) (q1:s.heap.get? e=some oe) (st:B.StaysIn s.heap) (nw:B.get? e=none) (q4:oe.data=.fields ws) (q5:ws[1]?=some .none)
  (k:∀h',Fly B (env::outer) e oe.cls oe.dict (rawInt L) h'->Gn s.heap h'->Q () { s with heap:=h' }):wpAny M A (noteFrame (.ref e) env) Q E s:=by
 unfold noteFrame
 simp only[hL]
 refine wpAny_bind (wpAny_field q1 q4 q5 ?_)
 rw[if_neg (by decide)]
 exact oA hA fr hL q1 st nw q4 (Array.getElem?_eq_some_iff.mp q5).1 k
theorem yP (hA:A.frames=some (env::outer)) (hL:env.frame=some L) (x:Fly B (env::outer) e C dc .none s.heap)
  (k:∀h',Fly B (env::outer) e C dc (rawInt L) h'->Gn s.heap h'->Q () { s with heap:=h' }):wpAny M A (noteFrame (.ref e) env) Q E s:=by
 obtain⟨st,nw,fr,oe,ws,T,oT,ts,q1,q2,q3,q4,q5,q6,q7,q8,q9,q10⟩:=x
 have off:∀b,b≠T->(s.heap.update T (Obj.mapFields (·.setIfInBounds 3 Value.none))).get? b=s.heap.get? b:=fun b z=>Heap.get?_update_other _ _ (Ne.symm z)
 have noF:∀b o,s.heap.get? b=some o->(∀vs,o.data≠.fields vs)->b≠T:=by
  rintro b o q n rfl
  rw[q8] at q;cases q;exact n ts q9
 unfold noteFrame
 simp only[hL]
 refine wpAny_bind (wpAny_field q1 q4 q5 ?_)
 rw[if_pos (by simp:(Value.ref T != Value.none)=true)]
 refine wpAny_bind (wpAny_field q8 q9 q10 ?_)
 rw[if_neg (by simp[rawInt]:¬ ((Value.none == rawInt L)=true))]
 refine wpAny_bind (wpAny_setField q8 q9 (Array.getElem?_eq_some_iff.mp q10).1 ?_)
 refine oA (B:=B) (oe:=oe) hA (fr.of_keeps fun b o q n=>⟨o,(off b (noF b o q n)).trans q,rfl⟩) hL ((off e (Ne.symm q7)).trans q1) (fun b o q=>(off b ?_).trans (st b o q)) nw q4 (Array.getElem?_eq_some_iff.mp q5).1 fun h' y u=>?_
 ·rintro rfl;rw[q6] at q;cases q
 ·subst q2 q3
  refine k h' y ⟨fun b o q n=>u.up b o ((off b (noF b o q n)).trans q) n,fun b o q=>?_⟩
  by_cases z:b=T
  ·subst z;exact u.there _ _ (Heap.get?_update_self _ q8 (Obj.isFreed_of_fields (Obj.data_mapFields q9 _)))
  ·exact u.there b o ((off b z).trans q)
end
theorem C5 {P:Program} {w:World} {H:Hp} {h:Heap} {a:Addr} {o:HO} (x:bZ P w H h a o):∃u,h.get? a=some u:=by
 cases o with
 | lst xs=>obtain⟨_,_,_,_,e⟩:=x;exact⟨_,e⟩
 | tup xs=>obtain⟨_,_,_,ob,e,_⟩:=x;exact⟨_,e⟩
 | dK kvs=>obtain⟨_,_,_,_,o,_,_,e,_⟩:=x;exact⟨_,e⟩
 | dT kvs=>obtain⟨_,_,_,_,o,_,_,e,_⟩:=x;exact⟨_,e⟩
 | set S n=>obtain⟨o,_,_,_,e,_⟩:=x;exact⟨_,e⟩
 | ins C dx fs=>obtain⟨_,_,_,e,_⟩:=x;exact⟨_,e⟩
 | own y=>exact x
 | xd fs=>obtain⟨_,⟨_,_,_,e,_⟩,_⟩:=x;exact⟨_,e⟩
 | rng lo hi=>obtain⟨_,_,_,e⟩:=x;exact⟨_,e⟩
 | frz ob u=>obtain⟨e,_⟩:=x;exact⟨_,e⟩
 | tbl ps=>exact⟨_,(show h.get? a=some _ from x)⟩
 | met f y=>exact⟨_,(show h.get? a=some _ from x)⟩
 | ext φ=>obtain⟨_,e,_⟩:=x;exact e
noncomputable def Arr (B:Heap) (l:List Env) (e:Addr) (C:Value) (dc:Option Addr) (h:Heap):Prop:=
 (B.StaysIn h/\B.get? e=none/\h.FunFrames B l/\∃oe ws,h.get? e=some oe/\oe.cls=C/\oe.dict=dc/\oe.data=.fields ws/\ws[1]?=some .none)\/Fly B l e C dc .none h
theorem Arr.stays {B:Heap} {l:List Env} {e:Addr} {C:Value} {dc:Option Addr} {h:Heap} (x:Arr B l e C dc h):B.StaysIn h:=x.elim (·.1) (·.stays)
theorem Arr.new {B:Heap} {l:List Env} {e:Addr} {C:Value} {dc:Option Addr} {h:Heap} (x:Arr B l e C dc h):B.get? e=none:=x.elim (·.2.1) (·.new)
theorem Arr.fr {B:Heap} {l:List Env} {e:Addr} {C:Value} {dc:Option Addr} {h:Heap} (x:Arr B l e C dc h):h.FunFrames B l:=x.elim (·.2.2.1) (·.fr)
section
variable {M:Model} {A:Around} {E:Value->Shared->Prop} {s:Shared} {B:Heap} {env:Env} {outer:List Env} {e L:Addr} {C:Value} {dc:Option Addr} {Q:Unit->Shared->Prop}
theorem rz (hA:A.frames=some (env::outer)) (hL:env.frame=some L) (x:Arr B (env::outer) e C dc s.heap)
  (k:∀h',Fly B (env::outer) e C dc (rawInt L) h'->Gn s.heap h'->Q () { s with heap:=h' }):wpAny M A (noteFrame (.ref e) env) Q E s:=by
 rcases x with⟨st,nw,fr,oe,ws,q1,rfl,rfl,q4,q5⟩ | x
 ·exact vk hA fr hL q1 st nw q4 q5 k
 ·exact yP hA hL x k
theorem vt (hA:A.frames=some (env::outer)) (hL:env.frame=some L) (x:Arr B (env::outer) e C dc s.heap)
  (k:∀h',Fly B outer e C dc .none h'->Gn s.heap h'->Q () { s with heap:=h' }):wpAny M A (leaving env (.ref e)) Q E s:=by
 unfold leaving
 exact wpAny_bind (rz hA hL x fun h1 x1 u1=>pT x1 fun h2 x2 u2=>k h2 x2.pop (u1.trans u2))
end
structure Cov (B:Heap) (fs:List Addr) (aO:Hp) (h₀:Heap) (H':Hp):Prop where
 trk:∀b o,H' b=some o->∃u,B.get? b=some u
 old:∀b o,h₀.get? b=some o->aO b=none->b∉fs->B.get? b=some o
noncomputable def CXE (P:Program) (w:World):CXT:=fun outer H s E e s'=>∃(H':Hp) (B:Heap) (a:Addr) (C:Value) (dc:Option Addr),e=.ref a/\s'.os=s.os/\AllBare s'.gens/\Un (frs outer) [] H H' s.heap s'.heap/\HOk P w H' s'.heap/\Fly B outer a C dc .none s'.heap/\Cov B (frs outer) H s.heap H'/\E C dc H'
noncomputable def XeB (X:Cx) (E:XK) (e:Value) (s':Shared):Prop:=∃(σ:St) (H':Hp) (B:Heap) (a:Addr) (C:Value) (dc:Option Addr),e=.ref a/\Inv X [] σ H' s'/\Arr B X.stack a C dc s'.heap/\Cov B X.fs X.aO X.aJ.heap H'/\(∀p∈X.pn,B.get? p.1=some p.2)/\E C dc H'
noncomputable def ja (X:Cx) (E:XK):Prop:=∀e s',XeB X E e s'->X.xe e s'
structure Plain (X:Cx):Prop where
 ex:X.ex=[]
 stk:X.stack=X.env::X.outer/\X.env.frame=some X.env.locals
theorem HOk.flew {P:Program} {w:World} {H':Hp} {B h h':Heap} (x:HOk P w H' h) (tr:∀b o,H' b=some o->∃u,B.get? b=some u) (st:B.StaysIn h) (st':B.StaysIn h'):HOk P w H' h':=fun a o e=>
 (x a o e).iS (fun b u hb q=>by
  obtain⟨u',q'⟩:∃u,B.get? b=some u:=by
   rcases hb with rfl | hb
   ·exact tr _ _ e
   ·exact tr _ _ hb
  have:=st _ _ q'
  rw[q] at this;cases this
  exact st' _ _ q') (fun _ q=>q) fun _ _ q=>q
theorem Inv.drop {X:Cx} {pins:List (Addr × Obj)} {σ:St} {H:Hp} {s:Shared} (I:Inv X pins σ H s):Inv X [] σ H s:=
 ⟨I.ok,I.os,I.bare,I.base,I.loc,I.cell,I.free,I.dm,fun p hp=>I.pin p (by simp only[List.append_nil] at hp;exact List.mem_append_left _ hp),I.hok,I.len⟩
theorem uQ {fs:List Addr} {aO H':Hp} {B h₀ h h':Heap} (u:Un fs [] aO H' h₀ h) (c:Cov B fs aO h₀ H') (st':B.StaysIn h') (g:Gn h h') (nf:∀b∈fs,∀o,h.get? b=some o->∀vs,o.data≠.fields vs):Un fs [] aO H' h₀ h':=
 ⟨fun b o e n hb _=>st' b o (c.old b o e n hb),fun b o e n hb hx=>by
  obtain⟨sl,q⟩:=u.slot b o e n hb hx
  obtain⟨sl',q'⟩:=g.up b _ q (nf b hb _ q)
  exact⟨sl',q'⟩,u.free,fun b o e hx=>by
  obtain⟨o',q⟩:=u.there b o e hx
  exact g.there b o' q,u.nB,u.k6,u.m6⟩
theorem Inv.flew {X:Cx} {σ:St} {H':Hp} {s':Shared} {B h':Heap} {t':Nat} (I:Inv X [] σ H' s') (p:Plain X) (c:Cov B X.fs X.aO X.aJ.heap H') (pn:∀p∈X.pn,B.get? p.1=some p.2) (st:B.StaysIn s'.heap) (fr:s'.heap.FunFrames B X.stack) (st':B.StaysIn h') (g:Gn s'.heap h'):Inv X [] σ H' { s' with heap:=h',toks:=t' }:=by
 have cellK:∀{c':Addr} {v:Option Value},s'.heap.IsCell c' v->h'.IsCell c' v:=fun{c' v} ⟨o,ho,hd⟩=>by
  obtain⟨sl,q⟩:=g.up c' o ho fun vs z=>by rw[hd] at z;cases z
  exact⟨_,q,hd⟩
 refine⟨I.ok,I.os,I.bare,?_,?_,fun x c' e=>let ⟨v,q⟩:=I.cell x c' e;⟨v,cellK q⟩,I.free,I.dm,fun q hq=>?_,I.hok.flew c.trk st st',I.len⟩
 ·have u:=I.base
  rw[p.ex] at u ⊢
  refine uQ u c st' g fun b hb o q vs z=>?_
  have:b∈X.stack.filterMap (·.frame):=by
   rw[p.stk.1,List.filterMap_cons,p.stk.2]
   exact List.mem_cons_of_mem _ hb
  obtain⟨_,o',q',n⟩:=fr.mem this
  rw[q] at q';cases q';exact n vs z
 ·obtain⟨m,hn,k⟩:=I.loc
  refine⟨m,g.up.ns hn,fun i x v a b c=>?_⟩
  obtain⟨u,r,l⟩:=k i x v a b c
  refine⟨u,r,l.imp (fun z=>z) fun⟨z,c',e,q⟩=>⟨z,c',e,cellK q⟩⟩
 ·have:=I.pin q hq
  rw[List.append_nil] at hq
  exact⟨st' _ _ (pn q hq),this.2⟩
section
variable {P:Program} {w:World} {K:PySem.W.Frag} {mg:Str->Option Value} {base:Heap}
theorem wz {N:List Str} {qual:Str} {scope:Scope} {f:Addr} {cd:Value} {A:Around} {outer:List Env} {s:Shared} {H:Hp} {E:XK}:ja (iu (CXE P w) P w K mg base N qual scope f cd A outer s H E) E:=by
 rintro e s' ⟨σ,H',B,a,C,dc,rfl,I,ar,c,_,q⟩
 have fr:=ar.fr
 have hA:(iu (CXE P w) P w K mg base N qual scope f cd A outer s H E).A.frames=some (envOfC qual scope s.heap.objs.size f cd::outer):=I.ok.frames
 refine vt hA rfl ar fun h' x g=>?_
 refine⟨H',B,a,C,dc,rfl,I.os,I.bare,uQ (show Un (frs outer) [] H H' s.heap s'.heap from I.base) c x.stays g fun b hb o q vs z=>?_,I.hok.flew c.trk ar.stays x.stays,x,c,q⟩
 have:b∈(envOfC qual scope s.heap.objs.size f cd::outer).filterMap (·.frame):=List.mem_cons_of_mem _ hb
 obtain⟨_,o',q',n⟩:=(show s'.heap.FunFrames B (envOfC qual scope s.heap.objs.size f cd::outer) from fr).mem this
 rw[q] at q';cases q';exact n vs z
end
theorem tu {X:Cx} {E:XK} (p:Plain X) (fl:ja X E):Passes (CXE X.prog X.w) X E:=by
 rintro pins σ H s e s' I ⟨H',B,a,C,dc,rfl,os,bare,un,hok,x,c,q⟩
 refine fl _ _ ⟨σ,H',B,a,C,dc,rfl,(I.rh os un hok bare fun b z=>absurd z (by simp)).drop,.inr x,⟨c.trk,fun b o e n hb=>?_⟩,fun p' hp=>?_,q⟩
 rotate_left
 ·obtain⟨q1,q2,q3,q4,q5⟩:=I.pin p' (List.mem_append_left _ hp)
  refine c.old _ _ q1 q2 fun z=>?_
  rcases List.mem_cons.mp (I.gM _ z) with z | z
  ·exact q3 z
  ·exact q4 z
 have hx:b∉X.ex:=by rw[p.ex];simp
 refine c.old b o (I.base.keep b o e n hb hx) (I.base.free b o e n hx) fun z=>?_
 rcases List.mem_cons.mp (I.gM b z) with rfl | z
 ·exact absurd (Heap.lt_size e) (Nat.not_lt_of_le I.ok.above)
 ·exact hb z
theorem wq {X:Cx} {E:XK} {pins:List (Addr × Obj)} {σ:St} {H:Hp} {s:Shared} {a:Addr} {h':Heap} {C:Value} {dc:Option Addr} {oe:Obj} {ws:Array Value} {t':Nat} (p:Plain X) (fl:ja X E) (I:Inv X pins σ H s) (k:∀b o,s.heap.get? b=some o->h'.get? b=some o)
  (nw:s.heap.get? a=none) (q1:h'.get? a=some oe) (q2:oe.cls=C) (q3:oe.dict=dc) (q4:oe.data=.fields ws) (q5:ws[1]?=some .none) (q:E C dc H):X.xe (.ref a) { s with heap:=h',toks:=t' }:=by
 have fr:=I.stack
 have nfr:∀b,b∈frs X.stack->H b=none:=I.pe
 refine fl _ _ ⟨σ,H,PySem.W.hideAll s.heap (frs X.stack),a,C,dc,rfl,(I.kept k).drop,.inl ⟨fun b o z=>k b o (PySem.W.of_hideAll _ z),?_,?_,oe,ws,q1,q2,q3,q4,q5⟩,⟨fun b o z=>?_,fun b o e n hb=>?_⟩,fun p' hp=>?_,q⟩
 rotate_right
 ·obtain⟨q1,q2,q3,q4,q5⟩:=I.pin p' (List.mem_append_left _ hp)
  refine PySem.W.hideAll_get _ q1 fun z=>?_
  rcases List.mem_cons.mp (I.gM _ z) with z | z
  ·exact q3 z
  ·exact q4 z
 ·cases z:(PySem.W.hideAll s.heap (frs X.stack)).get? a with
  | none=>rfl
  | some o=>have:=PySem.W.of_hideAll _ z;rw[nw] at this;cases this
 ·exact(PySem.W.funFrames_hide fr fun env he b hb=>List.mem_filterMap.mpr ⟨env,he,hb⟩).of_keeps fun b o z _=>⟨o,k b o z,rfl⟩
 ·obtain⟨u,hu⟩:=C5 (I.hok b o z)
  exact⟨u,PySem.W.hideAll_get _ hu fun hm=>by rw[nfr b hm] at z;cases z⟩
 ·have hx:b∉X.ex:=by rw[p.ex];simp
  refine PySem.W.hideAll_get _ (I.base.keep b o e n hb hx) fun z=>?_
  rcases List.mem_cons.mp (I.gM b z) with rfl | z
  ·exact absurd (Heap.lt_size e) (Nat.not_lt_of_le I.ok.above)
  ·exact hb z
noncomputable abbrev bmV:List Value:=[.type "ValueError", .type "Exception", .type "BaseException", .type "object"]
theorem zJ {K:PySem.W.Frag} {h:Heap} {C:Addr} {bmB:List Value} {newId:String} (X:K.In h) (q:PySem.W.excIn K C bmB newId=true) :
  ∃bm N nm q' bs hdct sn sub ab col dd k0 k1 k2 k3 k5 mN,h.get? C=some (excClassObj nm q' C N bs bm hdct sn sub ab col dd k0 k1 k2 k3 k5 newId)/\h.Ns N mN/\mN "__init__" = none/\OwnTail h bmB bm:=by
 unfold PySem.W.excIn at q
 split at q
 ·rename_i dd cd sl ho
  split at q
  ·rename_i C' bm k0 k1 k2 k3 n k5 hm hs
   simp only[Bool.and_eq_true,beq_iff_eq,Bool.not_eq_true'] at q
   obtain⟨⟨⟨⟨⟨rfl,rfl⟩,hdel⟩,ht⟩,hok⟩,hni⟩:=q
   obtain⟨nm,bs,mro,ns,qn,hd,sn,sub,ab,col,del⟩:=cd
   dsimp only at hm hdel hok hni
   subst hm hdel
   obtain rfl:sl = #[k0,k1,k2,k3,some (.builtin n),k5]:=by
    obtain⟨l⟩:=sl
    simp only at hs
    rw[hs]
   exact⟨bm,ns,nm,qn,bs,hd,sn,sub,ab,col,dd,k0,k1,k2,k3,k5,_,X _ _ ho,.of_isNs (PySem.W.isNs_of_in X hok),PySem.W.nsMap_none_of_in X hok hni,PySem.W.tail_of_in X ht⟩
  ·cases q
 ·cases q
theorem B3 {X:Cx} {E:XK} {pins:List (Addr × Obj)} {σ:St} {H:Hp} {s:Shared} {x:Str} {C:Addr} {np cpos pos:Pos} {Q:Flow->Shared->Prop} (p:Plain X) (fl:ja X E) (hc:X.calm=true) (I:Inv X pins σ H s) (hg:Gl X x) (hm:X.mg x=some (.ref C)) (hC:PySem.W.excIn X.K C bmV "ValueError.__new__" = true)
  (q:E (.ref C) none H) (hdb:(x == ("__debug__" : Str))=false:=by decide):wpAny (model X.prog X.w) X.A (exec (.Raise (some (.Call (.Name x np) [] [] cpos)) none pos) X.env) Q X.xe s:=by
 obtain⟨tl,N,nm,q',bs,hdct,sn,sub,ab,col,dd,k0,k1,k2,k3,k5,mN,hC',hN,hni,T⟩:=zJ I.kIn hC
 refine wpAny_Raise_call_subT (C:=C) (nm:=nm) (q:=q') (N:=N) (bs:=bs) (bm:=tl) (hdct:=hdct) (sn:=sn) (sub:=sub) (ab:=ab) (col:=col) (dd:=dd) (k0:=k0) (k1:=k1) (k2:=k2) (k3:=k3) (k5:=k5) PySem.F.excBase_ValueError (mN:=mN) (T.hasType PySem.F.excBase_ValueError.hasBase) (I.ok.hd hc) rfl hni (gZ I hg hm ⟨rfl,?_⟩ hdb)
 refine evalArgs_empty ⟨rfl,Nat.zero_le _,hC',hN,T,fun h' e me=>?_⟩
 obtain⟨t,he,_,_⟩:=me.there
 exact wq p fl I me.keeps me.new he rfl rfl rfl rfl q
end L2
namespace L2.FE
open PySem PySem.Spec PyProof.Rows
noncomputable def εX (g:GG) (E:XK):EE:=fun _ H' x=>∀(C:Addr) (dc:Option Addr),g x.cls=some C->XFs H' dc x.fs->E (.ref C) dc H'
noncomputable abbrev spE (K:PySem.W.Frag) (g:GG) (np:Nat) (m:MF):Sp:=spG K g (εX g) np m
noncomputable def nG (P:Program) (w:World) (K:PySem.W.Frag) (mg:Str->Option Value) (base:Heap) (g:GG) (x:Str) (k:Nat) (ps:List Str) (m:MF):Prop:=
 ∃f fd,ed P w K mg base (CXE P w) k f fd ps (spE K g ps.length m)/\PySem.W.keepIn K (.ref f)=true/\Binds K fd ps []/\mg x=some (.ref f)
noncomputable def kg (x:Str):MS:=fun _ h=>.err ⟨x,[]⟩ h
noncomputable def noR {β:Type}:R β->R β
 | .ok b h=>.ok b h
 | _=>.bad
@[simp] theorem G8 {β:Type} (b:β) (h:Hh):noR (.ok b h)=.ok b h:=rfl
noncomputable def up {β:Type} (m:En->Hh->R β):En->Hh->R β:=fun env h=>noR (m env h)
theorem qu {K:PySem.W.Frag} {g:GG} {ε:EE} {α:List Addr} {H:Hp} {β:Type} {r:R β} {k:β->Hh->Prop} (w:WQ K g ε α H (noR r) k):WQ K g E00 α H r k:=by
 cases r with
 | ok b h=>exact w
 | err x h=>exact w.elim
 | bad=>exact w.elim
section
variable {P:Program} {w:World} {K:PySem.W.Frag} {mg:Str->Option Value} {base:Heap} {g:GG}
theorem rS {x qual:Str} {st:Stmt} {f:Addr} {fd:FuncData} {N ps:List Str} {k:Nat} {mb:MS} (F:Fun K x qual st f fd) (S:aM N ps (au st))
  (hb:∀(cdv:Value) (A:Around) (outer:List Env) (s:Shared) (H:Hp) (E:XK),cX k (A.deeper (envOfC qual (au st) s.heap.objs.size f cdv)) →
   ja (iu (CXE P w) P w K mg base N qual (au st) f cdv A outer s H E) E->Plain (iu (CXE P w) P w K mg base N qual (au st) f cdv A outer s H E) →
   PassesOwn (model P w) (A.deeper (envOfC qual (au st) s.heap.objs.size f cdv)) (envOfC qual (au st) s.heap.objs.size f cdv) (iu (CXE P w) P w K mg base N qual (au st) f cdv A outer s H E).xe →
   PSs (iu (CXE P w) P w K mg base N qual (au st) f cdv A outer s H E) (bJ st) (tMS K g (εX g E) mb)):ed P w K mg base (CXE P w) (k+1) f fd ps (spE K g ps.length (cA N.length mb)):=by
 obtain⟨oc,od,kV,doc,pm,an,cdv,ct,osl,rfl,lk,hcd⟩:=F.ex
 refine Bz lk hcd S (fun vs H Q E h=>h.1) fun A outer s H vs Q E hr hsp=>⟨_,hb cdv A outer s H E hr wz ⟨rfl,rfl,rfl⟩ PassesOwn.leaving,?_⟩
 obtain⟨hl,α,ds,h,rs,hh,w⟩:=hsp
 refine tMS.use ⟨hh,j8 rs⟩ w.bind fun fl h' H' α' e r kk=>?_
 cases fl with
 | nx e'=>exact fun σ' s'=>(show aF K g α H Q .non h' from kk) _ H' α' e r .non
 | bk e'=>exact kk.elim
 | ct e'=>exact kk.elim
 | rt d=>exact fun v rv=>(show aF K g α H Q d h' from kk) _ H' α' e r rv
end
section
variable {X:Cx} {g:GG} {E:XK} {ε:EE}
theorem pq {x:Str} {C:Addr} {np cpos pos:Pos} (fl:ja X E) (pl:Plain X) (hc:X.calm=true) (hg:Gl X x) (hm:X.mg x=some (.ref C)) (hgx:g x=some C) (hC:PySem.W.excIn X.K C bmV "ValueError.__new__" = true) (hdb:(x == ("__debug__" : Str))=false:=by decide) :
  PS X (.Raise (some (.Call (.Name x np) [] [] cpos)) none pos) (tMS X.K g (εX g E) (kg x)):=fun pins s σ H D I ⟨α,env,h,sr,w⟩=>
 B3 pl fl hc I hg hm hC (w α H Ext.refl sr.heap C none hgx (.inl ⟨rfl,rfl⟩)) hdb
theorem gR {k:Nat} {f:Addr} {fd:FuncData} {ps:List Str} {m:MF} {np:Nat} {x:Str} {p pos:Pos} {e:Expr} {es:List Expr} {mr:MA} (fl:ja X E) (pl:Plain X) (F:ed X.prog X.w X.K X.mg X.base (CXE X.prog X.w) k f fd ps (spE X.K g np m)) (hr:cX k X.A) (hg:Gl X x) (hm:X.mg x=some (.ref f)) (hk:PySem.W.keepIn X.K (.ref f)=true) (hb:Binds X.K fd ps [])
  (ha:PA X (e::es) (tMA X.K g (εX g E) mr)) (hlen:∀env h ds h',mr env h=.ok ds h'->ds.length=np) (hdb:(x == ("__debug__" : Str))=false:=by decide) (he:starEach (e::es) X.env=(false,eval e X.env)::starEach es X.env:=by rfl) (hpl:(backTo pos (starEach es X.env)).any (·.1)=false:=by rfl) :
  PE X (.Call (.Name x p) (e::es) [] pos) (tM X.K g (εX g E) (ag m mr)):=
 PE.imp (uk F hr hg hm hk hb .nil (tu pl fl) ha hdb he hpl) fun σ H Q ⟨α,env,h,s,w⟩=>⟨α,env,h,s,w.bind.mono fun d1 h1 eq w1 v1 H1 α1 e1 hr1 r1=>by
  show spE X.K g np m (v1++[]) H1 Q E
  rw[List.append_nil]
  refine⟨?_,α1,d1,h1,r1,hr1,w1.post e1⟩
  rw[<- r1.length]
  exact hlen env h d1 h1 eq⟩
theorem _root_.L2.PS.nox {e:Stmt} {t:TS} (h:PS X.nox e t):PS X e t:=fun pins s σ H D I hw=>
 wpAny_mono (h pins s σ H D (I.kd _) hw) (fun _ _ q=>q.eC) fun _ _ z=>False.elim z
theorem h_ {e:Expr} {m:ME} (h:PE X.nox e (tM X.K g E00 m)):PE X e (tM X.K g ε (up m)):=PE.imp h.nox fun σ H Q ⟨α,env,h,s,w⟩=>⟨α,env,h,s,qu w⟩
theorem zo {e:Expr} {m:MT} (h:PT X.nox e (tMT X.K g E00 m)):PT X e (tMT X.K g ε (up m)):=PT.imp h.nox fun σ H Q ⟨α,env,h,s,w⟩=>⟨α,env,h,s,qu w⟩
theorem lA {e:Stmt} {m:MS} (h:PS X.nox e (tMS X.K g E00 m)):PS X e (tMS X.K g ε (up m)):=PS.imp h.nox fun σ H Q ⟨α,env,h,s,w⟩=>⟨α,env,h,s,qu w⟩
end
end L2.FE
namespace L2
open PySem PySem.Spec PyProof.Rows
noncomputable abbrev unm (A:Around):Around:={ A with handled:=none }
section
variable {X:Cx} {pins:List (Addr × Obj)} {σ:St} {H:Hp} {s:Shared}
noncomputable abbrev Cx.hand (X:Cx) (A:Around) (pn:List (Addr × Obj)) (E:Value->Shared->Prop):Cx:={ X with A:=A,calm:=false,pn:=pn,xe:=E }
theorem Inv.hand (I:Inv X pins σ H s) {A:Around} (hA:A.frames=X.A.frames) {pn pins':List (Addr × Obj)} (hp:∀p∈pn++pins',p∈X.pn++pins) (E:Value->Shared->Prop):Inv (X.hand A pn E) pins' σ H s:=
 ⟨⟨I.ok.mod,I.ok.kind,I.ok.glob,I.ok.blt,I.ok.above,I.ok.inj,I.ok.has,I.ok.cab,fun z=>(nomatch z),hA.trans I.ok.frames,I.ok.stk,I.ok.exf,I.ok.bs,I.ok.bsz,I.ok.qr,I.ok.qS,I.ok.h7,I.ok.frf⟩,I.os,I.bare,I.base,I.loc,I.cell,I.free,I.dm,fun p h=>I.pin p (hp p h),I.hok,I.len⟩
noncomputable abbrev Cx.wpn (X:Cx) (pn:List (Addr × Obj)) (E:Value->Shared->Prop):Cx:={ X with pn:=pn,xe:=E }
theorem Inv.wpn (I:Inv X pins σ H s) {pn pins':List (Addr × Obj)} (hp:∀p∈pn++pins',p∈X.pn++pins) (E:Value->Shared->Prop):Inv (X.wpn pn E) pins' σ H s:=
 ⟨⟨I.ok.mod,I.ok.kind,I.ok.glob,I.ok.blt,I.ok.above,I.ok.inj,I.ok.has,I.ok.cab,I.ok.hd,I.ok.frames,I.ok.stk,I.ok.exf,I.ok.bs,I.ok.bsz,I.ok.qr,I.ok.qS,I.ok.h7,I.ok.frf⟩,I.os,I.bare,I.base,I.loc,I.cell,I.free,I.dm,fun p h=>I.pin p (hp p h),I.hok,I.len⟩
theorem Inv.back {A:Around} {pn pins':List (Addr × Obj)} {E:Value->Shared->Prop} (J:Inv (X.hand A pn E) pins' σ H s) (ok:X.Ok) (hp:∀p∈X.pn++pins,p∈pn++pins'):Inv X pins σ H s:=
 ⟨ok,J.os,J.bare,J.base,J.loc,J.cell,J.free,J.dm,fun p h=>J.pin p (hp p h),J.hok,J.len⟩
theorem Inv.adopt {B:Heap} {a:Addr} {oe:Obj} {ws:Array Value} (I:Inv X [] σ H s) (p:Plain X) (c:Cov B X.fs X.aO X.aJ.heap H) (pn:∀p∈X.pn,B.get? p.1=some p.2) (fr:s.heap.FunFrames B X.stack) (nw:B.get? a=none) (q1:s.heap.get? a=some oe) (q4:oe.data=.fields ws) :
  H a=none/\Inv X [] σ (upd H a (FE.AtO a oe)) s:=by
 have hn:H a=none:=by
  cases z:H a with
  | none=>rfl
  | some o=>obtain⟨u,hu⟩:=c.trk a o z;rw[nw] at hu;cases hu
 have nfr:∀b∈X.env.locals::X.fs,b≠a:=by
  rintro b hb rfl
  have:b∈X.stack.filterMap (·.frame):=by
   rw[p.stk.1,List.filterMap_cons,p.stk.2]
   exact hb
  obtain⟨_,o',q',n⟩:=fr.mem this
  rw[q1] at q';cases q';exact n ws q4
 refine⟨hn,I.ok,I.os,I.bare,?_,I.loc,I.cell,?_,fun x c' e=>?_,fun q hq=>?_,fun b o e=>?_,I.len⟩
 ·obtain⟨u1,u2,u3,u4,u5,u6,u7⟩:=I.base
  refine⟨u1,u2,fun b o e n hx=>?_,u4,fun b xs q=>?_,fun b o u q=>?_,fun b ps q=>?_⟩
  ·rw[aA ?_];exact u3 b o e n hx
   rintro rfl
   by_cases hb:b∈X.fs
   ·exact nfr b (List.mem_cons_of_mem _ hb) rfl
   ·have:=c.old b o e n hb
    rw[nw] at this;cases this
  ·have:=u5 b xs q
   rw[aA (aP this hn)];exact this
  ·have:=u6 b o u q
   rw[aA (aP this hn)];exact this
  ·obtain⟨more,this⟩:=u7 b ps q
   exact⟨more,by rw[aA (aP this hn)];exact this⟩
 ·rw[aA (nfr _ List.mem_cons_self)];exact I.free
 ·rw[aA ?_];exact I.dm x c' e
  rintro rfl
  obtain⟨v,o,ho,hd⟩:=I.cell x c' e
  rw[q1] at ho;cases ho;rw[q4] at hd;cases hd
 ·have z:=I.pin q hq
  refine⟨z.1,?_,z.2.2⟩
  rw[aA ?_];exact z.2.1
  rintro e
  rw[List.append_nil] at hq
  have:=pn q hq
  rw[e,nw] at this;cases this
 ·by_cases hb:b=a
  ·subst hb
   rw[aQ] at e;cases e
   exact⟨q1,q1,⟨_,q1⟩,fun h1 h2 z k=>k _ z⟩
  ·rw[aA hb] at e
   exact(I.hok b o e).iS (fun _ _ _ z=>z) (fun c' z=>by rw[aA (aP z hn)];exact z) fun c' xs z=>by rw[aA (aP z hn)];exact z
theorem Inv.forget {i:Nat} {x:Str} {m m':Str->Option Value} {h':Heap} {t':Nat} (I:Inv X pins σ H s) (hN:X.N.Nodup) (hi:X.N[i]?=some x) (hn:s.heap.Ns X.env.locals m) (hn':h'.Ns X.env.locals m') (hm:∀y,y≠x->m' y=m y) (sb:Heap.SameBut X.env.locals s.heap h'):Inv X pins (σ.set i none) H { s with heap:=h',toks:=t' }:=by
 have kp:∀b,b≠X.env.locals->h'.get? b=s.heap.get? b:=fun b n=>sb.2 b n
 have cellK:∀y c v,X.env.cells.lookup y=some c->s.heap.IsCell c v->h'.IsCell c v:=fun y c v e ⟨o,ho,hd⟩=>⟨o,by rw[kp c (I.cne y c e)];exact ho,hd⟩
 refine⟨I.ok,I.os,I.bare,?_,⟨m',hn',fun j y v a b c=>?_⟩,fun y c e=>let ⟨v,q⟩:=I.cell y c e;⟨v,cellK y c v e q⟩,I.free,I.dm,fun q hq=>?_,fun b o e=>?_,by rw[List.length_set];exact I.len⟩
 ·obtain⟨u1,u2,u3,u4,u5,u6,u7⟩:=I.base
  have ne:∀b o,X.aJ.heap.get? b=some o->b≠X.env.locals:=fun b o e=>Nat.ne_of_lt (Nat.lt_of_lt_of_le (Heap.lt_size e) I.ok.above)
  exact⟨fun b o e n h1 h2=>by rw[kp b (ne b o e)];exact u1 b o e n h1 h2,fun b o e n h1 h2=>by rw[kp b (ne b o e)];exact u2 b o e n h1 h2,u3,fun b o e h2=>by rw[kp b (ne b o e)];exact u4 b o e h2,u5,u6,u7⟩
 ·rw[List.getElem?_set] at b
  by_cases hj:i=j
  ·rw[if_pos hj] at b
   split at b<;>cases b
  ·rw[if_neg hj] at b
   obtain⟨m0,hn0,k⟩:=I.loc
   obtain⟨u,r,l⟩:=k j y v a b c
   have hy:y≠x:=by
    rintro rfl
    exact hj ((List.getElem?_inj (List.getElem?_eq_some_iff.mp hi).1 hN).mp (hi.trans a.symm))
   have e0:m0=m:=by
    obtain⟨o1,es1,ep1,a1,a2,a3,a4⟩:=hn0
    obtain⟨o2,es2,ep2,b1,b2,b3,b4⟩:=hn
    rw[a1] at b1;cases b1
    rw[a2] at b2;cases b2
    funext y;rw[<- a4,<- b4]
   subst e0
   refine⟨u,r,l.imp (fun z=>⟨z.1,by rw[hm y hy];exact z.2⟩) fun⟨z,c',e,q⟩=>⟨z,c',e,cellK y c' _ e q⟩⟩
 ·have z:=I.pin q hq
  exact⟨by rw[kp _ z.2.2.1];exact z.1,z.2⟩
 ·exact(I.hok b o e).iS (fun c' u hc q=>by
   rw[kp c' ?_];exact q
   rintro rfl
   rcases hc with rfl | hc
   ·rw[I.free] at e;cases e
   ·rw[I.free] at hc;cases hc) (fun _ q=>q) fun _ _ q=>q
end
structure FnH (P:Program) (w:World) (K:PySem.W.Frag) (mg:Str->Option Value) (base:Heap) (k:Nat) (f:Addr) (fd:FuncData) (ps:List Str) (sp:Sp):Prop where
 len:∀vs H Q E,sp vs H Q E->vs.length=ps.length
 run:∀(A:Around) (outer:List Env) (s:Shared) (H:Hp) (args:Args) (us:List Value) (vs:List V) (Q:VK) (E:XK),cX k (unm A)->yN P w K mg base A outer s H->BindsTo s fd args (ps.zip us)->Vals vs us->sp vs H Q E →
  codeAny (model P w) A (.call (.ref f) args) (CR CX0 outer P w H s Q E) s
theorem FnH.mono {P:Program} {w:World} {K:PySem.W.Frag} {mg:Str->Option Value} {base:Heap} {j k:Nat} {f:Addr} {fd:FuncData} {ps:List Str} {sp:Sp} (F:FnH P w K mg base j f fd ps sp) (h:j<=k):FnH P w K mg base k f fd ps sp:=
 ⟨F.len,fun A outer s H args us vs Q E hr=>F.run A outer s H args us vs Q E (hr.mono h)⟩
section
variable {P:Program} {w:World} {K:PySem.W.Frag} {mg:Str->Option Value} {base:Heap}
noncomputable abbrev cxH (P:Program) (w:World) (K:PySem.W.Frag) (mg:Str->Option Value) (base:Heap) (N:List Str) (qual:Str) (scope:Scope) (f:Addr) (cd:Value) (A:Around) (outer:List Env) (s:Shared) (H:Hp) (E:XK):Cx:=
 (iu CX0 P w K mg base N qual scope f cd A outer s H E).hand (A.deeper (envOfC qual scope s.heap.objs.size f cd)) [] fun _ _=>False
theorem DA {x qual:Str} {st:Stmt} {f:Addr} {fd:FuncData} {N ps:List Str} {k:Nat} {sp:Sp} (F:Fun K x qual st f fd) (S:aM N ps (au st)) (len:∀vs H Q E,sp vs H Q E->vs.length=ps.length)
  (hbody:∀(cdv:Value) (A:Around) (outer:List Env) (s:Shared) (H:Hp) (vs:List V) (Q:VK) (E:XK),cX k (unm (A.deeper (envOfC qual (au st) s.heap.objs.size f cdv)))->sp vs H Q E →
   ∃t,PSs (cxH P w K mg base N qual (au st) f cdv A outer s H E) (bJ st) t/\t { nx:=fun _ H'=>Q .non H',rt:=Q } (start N vs) H):FnH P w K mg base (k+1) f fd ps sp:=by
 obtain⟨oc,od,kV,doc,pm,an,cdv,ct,osl,rfl,lk,hcd⟩:=F.ex
 refine⟨len,fun A outer s H args us vs Q E hr e0 hb r hsp=>?_⟩
 have hl:=len _ _ _ _ hsp
 have KX:K.In s.heap:=e0.mod.kin.keeps fun b o e=>(e0.bs b o e).1
 have lim:s.heap.NoLimit:=e0.mod.nolimit.keeps fun b o e=>(e0.bs b o e).1
 have hkind:∀y∈ps.zip us,(au st).names.lookup y.1=some .local\/((au st).names.lookup y.1=some .cell/\((cellsFrom (s.heap.objs.size+1) (au st).names []).lookup y.1).isSome=true):=fun⟨n,v⟩ hy=>by
  rcases S.par n (List.of_mem_zip hy).1 with q | q
  ·exact .inl q
  ·exact .inr ⟨q,PySem.W.cellsFrom_some _ _ _ (.inl q)⟩
 have hdp:A.depth<recursionLimit:=cX.depth (A:=unm A) hr
 refine codeAny_call_function hdp (KX _ _ lk) rfl S.co S.gen rfl (PySem.W.codeRec_of KX hcd) (hb _ _ _ _ ?_)
 refine wpAny_newFunctionEnv_cells S.kind hkind fun env he s1 x=>?_
 subst he
 refine⟨lim.keeps x.toInCall.keep,codeAny_func ?_⟩
 obtain⟨t,ht,hq⟩:=hbody cdv A outer s H vs Q E (hr.deeper _) hsp
 have I0:Inv (iu CX0 P w K mg base N qual (au st) f cdv (unm A) outer s H E) [] (start N vs) H s1:=oG S rfl ⟨e0.frames,e0.mod,e0.bs,e0.bsz,e0.h7,e0.frf,e0.hok,e0.bare⟩ hl r x
 have I:Inv (cxH P w K mg base N qual (au st) f cdv A outer s H E) [] (start N vs) H s1:=
  ⟨⟨I0.ok.mod,I0.ok.kind,I0.ok.glob,I0.ok.blt,I0.ok.above,I0.ok.inj,I0.ok.has,I0.ok.cab,fun z=>(nomatch z),Around.frames_deeper e0.frames,I0.ok.stk,I0.ok.exf,I0.ok.bs,I0.ok.bsz,I0.ok.qr,I0.ok.qS,I0.ok.h7,I0.ok.frf⟩,I0.os,I0.bare,I0.base,I0.loc,I0.cell,I0.free,I0.dm,I0.pin,I0.hok,I0.len⟩
 refine wpAny_mono (ht [] s1 (start N vs) H _ I hq) (fun fl s' hs=>?_) fun e s' hs=>hs.elim
 have fin:∀{σ':St} {H':Hp} {v:V} {u:Value},Inv (cxH P w K mg base N qual (au st) f cdv A outer s H E) [] σ' H' s'->RelV v u->Q v H'->CE outer P w H s Q u s':=
  fun{σ' H' v u} J rv q=>⟨v,H',J.os,J.bare,J.base,J.hok,rv,q⟩
 cases fl with
 | ret u=>
  obtain⟨v,σ',H',J,rv,q⟩:=hs
  exact fin J rv q
 | next=>
  obtain⟨σ',H',J,q⟩:=hs
  exact fin (v:=V.non) (u:=Value.none) J rfl q
 | brk=>
  obtain⟨_,_,_,q⟩:=hs
  exact q.elim
 | cont=>
  obtain⟨_,_,_,q⟩:=hs
  exact q.elim
end
section
variable {X:Cx} {k:Nat} {f:Addr} {fd:FuncData} {ps:List Str} {sp:Sp} {x:Str} {p pos:Pos} {e:Expr} {es:List Expr} {t:TA}
theorem qO (F:FnH X.prog X.w X.K X.mg X.base k f fd ps sp) (hr:cX k (unm X.A)) (hg:Gl X x) (hm:X.mg x=some (.ref f)) (hk:PySem.W.keepIn X.K (.ref f)=true) (hb:Binds X.K fd ps [])
  (ha:PA X (e::es) t) (hdb:(x == ("__debug__" : Str))=false:=by decide) (he:starEach (e::es) X.env=(false,eval e X.env)::starEach es X.env:=by rfl) (hpl:(backTo pos (starEach es X.env)).any (·.1)=false:=by rfl) :
  PE X (.Call (.Name x p) (e::es) [] pos) (BE sp [] E0 t):=by
 intro pins s σ H Q I h
 refine wpAny_Call_Name_kw (gZ I hg hm ?_ hdb)
 refine PySem.W.callWith_K (h₀:=X.base) I.ok.mod.kin hk (thn (ha pos pins s σ H _ I h) fun us s1 ⟨vs,H1,I1,r,q⟩=>⟨I1.kIn,?_⟩) he hpl
 replace q:sp vs H1 Q E0:=by simpa using q
 have hl:us.length=ps.length:=by rw[<- r.length];exact F.len _ _ _ _ q
 have hbb:=hb s1 us I1.kIn (by rw[List.append_nil];exact hl)
 rw[List.append_nil] at hbb
 refine wpAny_call (codeAny_mono (F.run X.A X.stack s1 H1 ⟨us,[]⟩ us vs Q E0 hr I1.D4 hbb r q) fun r s' hq=>?_)
 cases r with
 | error e=>exact hq.elim
 | ok fl=>
  cases fl with
  | ret u=>exact I1.after hq
  | next=>exact hq.elim
  | brk=>exact hq.elim
  | cont=>exact hq.elim
end
end L2
namespace L2
open PySem PySem.Spec PyProof.Rows PySem.W
theorem wR:plainId "BaseException.__getattribute__" = true:=by decide +kernel
theorem yi:builtinKind "BaseException.__getattribute__" = some .slot:=by decide +kernel
theorem wx:splitId "BaseException.__getattribute__" = some ("BaseException", "__getattribute__"):=by decide +kernel
theorem xZ (v:Value):bindSpecial (.builtin "BaseException.__getattribute__") v=pure (.builtin "BaseException.__getattribute__", [v]):=F.excAttr_ValueError.ga.bind v
section
variable {prog:Program} {w:World} {A:Around} {E:Value->Shared->Prop} {s:Shared} {K:Frag} {x D:Addr} {ox:Obj} {odo:Option Obj} {name:Str}
theorem Ay {g0 a0:Value} {tk:Tok} {Q:Fin->Shared->Prop} (X:K.In s.heap) (I:InstAt s.heap x ox D odo) (hf:findObj K D odo name=some (.bind g0 a0)) (h:wpAny (model prog w) A (call g0 [a0,.ref x,.ref D]) (fun v s'=>Q (.done (.ret v)) s') E s) :
  wpAny (model prog w) A (Builtin.«object.__getattribute__» ⟨[.ref x,.str name tk],[]⟩) Q E s:=by
 obtain⟨hh,gg,d,t,os⟩:=s
 have L0:=I.type (M:=model prog w)
 have L1:=looks_find (M:=model prog w) X I hf
 unfold Builtin.«object.__getattribute__»
 refine wpAny_bind (wpAny_pure (wpAny_bind (wpAny_pure (wpAny_bind (L0.at (wpAny_bind (L1.at ?_)))))))
 exact wpAny_bind (wpAny_holding (wpAny_mono h (fun v s' z=>wpAny_pure z) fun _ _ z=>z))
theorem xS {g0 a0:Value} {tk:Tok} {R:Result->Shared->Prop} (X:K.In s.heap) (I:InstAt s.heap x ox D odo) (hsub:mroIn K D (.type "BaseException")=some true) (hf:findObj K D odo name=some (.bind g0 a0))
  (h:wpAny (model prog w) A.in1 (call g0 [a0,.ref x,.ref D]) (fun v s'=>R (.ok (.ret v)) s') (fun e s'=>R (.error e) s') s) :
  codeAny (model prog w) A (.call (.builtin "BaseException.__getattribute__") ⟨[.ref x,.str name tk],[]⟩) R s:=by
 have L0:=I.type (M:=model prog w)
 have L3:Looks (model prog w) s.heap (isInstance (.ref x) (.type "BaseException")) true:=L0.andThen (looks_mroIn X hsub)
 refine codeAny_call_builtin wR F.entry_bexc_ga ?_
 refine check_slot (i:="BaseException.__getattribute__") yi wx L3 (F.args_bexc_ga (.ref x) (.str name tk)) ?_
 exact Ay X I hf h
theorem xK {g0 a0 v0:Value} {Q:Option Value->Shared->Prop} (X:K.In s.heap) (I:InstAt s.heap x ox D odo) (hga:findIn K (.ref D) "__getattribute__" = some (some (.builtin "BaseException.__getattribute__"))) (hhk:findIn K (.ref D) "__getattr__" = some none) (hsub:mroIn K D (.type "BaseException")=some true)
  (hf:findObj K D odo name=some (.bind g0 a0)) (hv:handedIn v0=true)
  (h:∀(A:Around) (E:Value->Shared->Prop) (Q':Value->Shared->Prop),Q' v0 { s with toks:=s.toks+1 }->wpAny (model prog w) A (call g0 [a0,.ref x,.ref D]) Q' E { s with toks:=s.toks+1 })
  (q:Q (some v0) { s with toks:=s.toks+1 }):wpAny (model prog w) A (getAttr? (.ref x) name) Q E s:=by
 obtain⟨hh,gg,d,t,os⟩:=s
 have L0:=I.type (M:=model prog w)
 have L1:=looks_findIn (M:=model prog w) X hga
 have L2:=looks_findIn (M:=model prog w) X hhk
 have L3:Looks (model prog w) hh (isInstance (.ref x) (.type "BaseException")) true:=L0.andThen (looks_mroIn X hsub)
 unfold getAttr? getAttrBy? getAttrBy
 refine wpAny_bind (wpAny_mkText (wpAny_bind (wpAny_attempt (wpAny_holding (wpAny_bind (L0.at (wpAny_bind (L1.at ?_))))))))
 dsimp only
 rw[if_neg (show ¬ ((onTheHeap (Value.ref D)&&(Value.builtin "BaseException.__getattribute__" == Value.builtin "object.__getattribute__"))=true) from by rw[show(Value.builtin "BaseException.__getattribute__" == Value.builtin "object.__getattribute__")=false from by decide +kernel,Bool.and_false];decide)]
 unfold getAttrByItsOwn hookBefore
 rw[if_pos (show onTheHeap (.ref D)=true from rfl)]
 refine wpAny_bind (L2.at (wpAny_bind (wpAny_attempt (wpAny_holding ?_))))
 unfold callGetattribute
 rw[if_neg (show ¬ ((false&&_)=true) from by simp)]
 unfold boundAndCalled
 rw[xZ]
 refine wpAny_bind (wpAny_pure ?_)
 show wpAny (model prog w) A (call (.builtin "BaseException.__getattribute__") [.ref x,.str name t]) _ _ _
 refine wpAny_call (xS (s:=⟨hh,gg,d,t+1,os⟩) X I hsub hf (h _ _ _ ?_))
 exact handed_on hv (wpAny_pure q)
end
theorem yQ {K:Frag} {x D:Addr} {ox:Obj} {odo:Option Obj} (hga:findIn K (.ref D) "__getattribute__" = some (some (.builtin "BaseException.__getattribute__"))) (hhk:findIn K (.ref D) "__getattr__" = some none) (hsub:mroIn K D (.type "BaseException")=some true) (hdct:hasDictIn K D=true) (ha:findIn K (.ref D) "__class__" = some (some (.builtin "object.__class__")))
  (hn:specialIn K (.builtin "object.__class__") "__get__" = some (some (.builtin "getset_descriptor.__get__"))) (htk:takesIn K (.builtin "object.__class__")=some true) (hm:mroIn K D (.type "object")=some true) :
  KitX K (.ref x) (.ref D) (fun h=>InstAt h x ox D odo):=by
 obtain⟨cdD,hcD,_⟩:=any_some hdct
 have hlk:∃c' d' cd' sl',K.lookup D=some ⟨c',d',.cls cd',sl'⟩:=by
  unfold clsIn at hcD
  split at hcD
  ·exact⟨_,_,_,_,by assumption⟩
  ·cases hcD
 obtain⟨c',d',cd',sl',ho⟩:=hlk
 refine⟨fun _ _ _ I=>I.type,fun _ _ X _=>?_,fun h tp dd its n sl X htp=>?_,fun{prog w A E Q s} X I k=>?_⟩
 ·intro A' Q' E' s' k q
  unfold isType loadHead
  exact wpAny_bind (wpAny_loadPart (k _ _ (X _ _ ho)) (wpAny_pure q))
 ·refine Bool.eq_false_iff.mpr fun q=>?_
  have e:D=tp:=Value.ref.inj (beq_iff_eq.mp q)
  subst e
  have z:=(X _ _ ho).symm.trans htp
  cases z
 ·have hf:findObj K D odo "__class__" = some (.bind (.builtin "getset_descriptor.__get__") (.builtin "object.__class__")):=by
   unfold findObj
   rw[hcD,Option.bind_some,ha,Option.bind_some]
   simp[hn,htk]
  exact xK X I hga hhk hsub hf rfl (fun A E Q' q'=>wpAny_call (class_get (s:={ s with toks:=s.toks+1 }) (ox:=ox) (od:=odo) X I hm q')) k
noncomputable abbrev bx:List Str:=["FallError", "NoOrder", "NoNumber", "NoSet", "NoRow", "NoLine", "NoText", "TooGreat"]
noncomputable def sU (c x:Str):Bool:=c == x || x == "FallError"
noncomputable def yg (c:Str):Bool:=!(c == "NoText" || c == "TooGreat")
noncomputable def tm (K:Frag) (D:Addr):Bool:=findIn K (.ref D) "__getattribute__" == some (some (.builtin "BaseException.__getattribute__"))&&findIn K (.ref D) "__getattr__" == some none&&mroIn K D (.type "BaseException") == some true&&hasDictIn K D&&findIn K (.ref D) "__class__" == some (some (.builtin "object.__class__"))&&specialIn K (.builtin "object.__class__") "__get__" == some (some (.builtin "getset_descriptor.__get__"))&&takesIn K (.builtin "object.__class__") == some true&&mroIn K D (.type "object") == some true
noncomputable def BL (K:Frag) (l:List (Str × Addr)):Bool:=l.all fun p=>tm K p.2&&kitOne K (.ref p.2) (.type "ValueError") == some true&&(!yg p.1 || excIn K p.2 bmV "ValueError.__new__")&&l.all fun q=>kitOne K (.ref p.2) (.ref q.2) == some (sU p.1 q.1)&&(!(q.1 == "FallError") || exmOne K (.ref p.2) (.ref q.2) == some true)
noncomputable def xP (K:Frag):Prop:=∃l:List (Str × Addr),l.map (·.1)=bx/\(∀p∈l,nsIn K mainGlobals p.1=some (some (.ref p.2)))/\BL K l=true
theorem Cv {K:Frag} {a0 a1 a2 a3 a4 a5 a6 a7:Addr} (e0:nsIn K mainGlobals "FallError" = some (some (.ref a0))) (e1:nsIn K mainGlobals "NoOrder" = some (some (.ref a1))) (e2:nsIn K mainGlobals "NoNumber" = some (some (.ref a2))) (e3:nsIn K mainGlobals "NoSet" = some (some (.ref a3)))
  (e4:nsIn K mainGlobals "NoRow" = some (some (.ref a4))) (e5:nsIn K mainGlobals "NoLine" = some (some (.ref a5))) (e6:nsIn K mainGlobals "NoText" = some (some (.ref a6))) (e7:nsIn K mainGlobals "TooGreat" = some (some (.ref a7)))
  (c:BL K [("FallError", a0),("NoOrder", a1),("NoNumber", a2),("NoSet", a3),("NoRow", a4),("NoLine", a5),("NoText", a6),("TooGreat", a7)]=true):xP K:=
 ⟨_,rfl,by
  intro p hp
  simp only[List.mem_cons,List.not_mem_nil,or_false] at hp
  rcases hp with rfl | rfl | rfl | rfl | rfl | rfl | rfl | rfl<;>assumption,c⟩
structure kD (K:Frag) (mg:Str->Option Value):Prop where
 at_:∀c∈bx,∃C,mg c=some (.ref C)
 one:∀c∈bx,∀C,mg c=some (.ref C)->tm K C=true/\kitOne K (.ref C) (.type "ValueError")=some true/\(yg c=true->excIn K C bmV "ValueError.__new__" = true)
 two:∀c∈bx,∀C,mg c=some (.ref C)->∀x∈bx,∀X,mg x=some (.ref X)->kitOne K (.ref C) (.ref X)=some (sU c x)
 exm:∀c∈bx,∀C,mg c=some (.ref C)->∀X,mg "FallError" = some (.ref X)->exmOne K (.ref C) (.ref X)=some true
theorem kD.of {K:Frag} {h:Heap} {mg:Str->Option Value} (X:K.In h) (G:h.Ns mainGlobals mg) (k:xP K):kD K mg:=by
 obtain⟨l,h1,h2,h3⟩:=k
 have mem:∀c∈bx,∀C,mg c=some (.ref C)->(c,C)∈l:=fun c hc C e=>by
  rw[<- h1] at hc
  obtain⟨p,hp,rfl⟩:=List.mem_map.mp hc
  have:=mg_of X G (h2 p hp)
  rw[e] at this;cases this
  exact hp
 have al:=List.all_eq_true.mp h3
 refine⟨fun c hc=>?_,fun c hc C e=>?_,fun c hc C e x hx D e'=>?_,fun c hc C e D e'=>?_⟩
 ·rw[<- h1] at hc
  obtain⟨p,hp,rfl⟩:=List.mem_map.mp hc
  exact⟨_,mg_of X G (h2 p hp)⟩
 ·have:=al _ (mem c hc C e)
  simp only[Bool.and_eq_true,beq_iff_eq,Bool.or_eq_true,Bool.not_eq_true'] at this
  refine⟨this.1.1.1,this.1.1.2,fun z=>this.1.2.elim (fun y=>?_) fun y=>y⟩
  rw[z] at y;cases y
 ·have:=al _ (mem c hc C e)
  simp only[Bool.and_eq_true] at this
  have:=List.all_eq_true.mp this.2 _ (mem x hx D e')
  simp only[Bool.and_eq_true,beq_iff_eq] at this
  exact this.1
 ·have:=al _ (mem c hc C e)
  simp only[Bool.and_eq_true] at this
  have:=List.all_eq_true.mp this.2 _ (mem "FallError" (by decide) D e')
  simp only[Bool.and_eq_true,beq_iff_eq,Bool.or_eq_true,Bool.not_eq_true'] at this
  rcases this.2 with z | z
  ·exact absurd z (by decide)
  ·exact z
theorem vQ {P:Program} {w:World} {H:Hp} {h:Heap} {p C:Addr} {o:Obj} {fs:List (Str × Int)} (ok:HOk P w H h) (q:H p=some (FE.AtO p o)) (hc:o.cls=.ref C) (hd:∃vs,o.data=.fields vs) (xf:FE.XFs H o.dict fs):∃odo,InstAt h p o C odo:=by
 obtain⟨q1,_⟩:=ok p _ q
 obtain⟨vs,hd⟩:=hd
 have nc:notCls o=true:=by unfold notCls;rw[hd]
 rcases xf with⟨z,_⟩ | ⟨dx,od,z,q2⟩
 ·exact⟨none,q1,hc,nc,by rw[z];trivial⟩
 ·obtain⟨q3,_⟩:=ok dx _ q2
  exact⟨some od,q1,hc,nc,by rw[z];exact q3⟩
end L2
namespace L2.FE
open PySem PySem.Spec PyProof.Rows
section
variable {X:Cx} {g:GG} {ε:EE} {K:PySem.W.Frag}
noncomputable def qh (x:Str):D->Hh->R D:=fun d h=>match d with
 | .exc c _=>if (bx.contains c&&bx.contains x)=true then .ok (.bl (sU c x)) h else .bad
 | _=>.bad
noncomputable def Co:D->Hh->R D:=fun d h=>match d with
 | .exc c _=>if bx.contains c=true then .ok (.bl true) h else .bad
 | _=>.bad
theorem jg {mg:Str->Option Value} {x:Str} {f:Addr} (h:gOf mg x=some f):mg x=some (.ref f):=by
 unfold gOf at h
 split at h
 ·cases h;assumption
 ·cases h
theorem qV (hc:kD X.K X.mg) (hgo:g=gOf X.mg):aR X (.builtin "isinstance") (fun vs H Q=>∃p D o c fs C b,vs=[.ref p,D]/\g c=some C/\H p=some (AtO p o)/\o.cls=.ref C/\(∃us,o.data=.fields us)/\XFs H o.dict fs/\bx.contains c=true/\(∀u,RelV D u->PySem.W.kitOne X.K (.ref C) u=some b)/\Q (.bl b) H):=by
 intro pins s σ H xs us Q I r h
 obtain⟨p,D,o,c,fs,C,b,rfl,hg,hp,hcl,hd,xf,hcn,hk,q⟩:=h
 cases r with
 | @cons _ _ _ _ r1 r2=>
  cases r2 with
  | @cons _ u _ _ r3 r4=>
   cases r4
   cases r1
   obtain⟨odo,ia⟩:=vQ I.hok hp hcl hd xf
   subst hgo
   have hC:=jg hg
   have k1:=(hc.one c (by simpa using hcn) C hC).1
   unfold tm at k1
   simp only[Bool.and_eq_true,beq_iff_eq] at k1
   obtain⟨⟨⟨⟨⟨⟨⟨a1,a1b⟩,a1c⟩,a2⟩,a3⟩,a4⟩,a5⟩,a6⟩:=k1
   refine PySem.W.kia_one (yQ a1 a1b a1c a2 a3 a4 a5 a6) I.kIn ia (hk u r3) (by intro z;cases z) fun tk=>?_
   exact⟨.bl b,H,I.kept (h':=s.heap) (t':=tk) fun _ _ z=>z,rfl,q⟩
theorem Ca {x:Str} {p:Pos} {C:Addr} (hg:Gl X x) (hm:X.mg x=some (.ref C)) (hd:(x == ("__debug__" : Str))=false:=by decide):PE X (.Name x p) (tC (.ref C)):=fun pins s σ H Q I h=>gZ I hg hm ⟨.ref C,H,I,rfl,h⟩ hd
theorem iR {e:Expr} {me:ME} {x:Str} {p1 p2 pos:Pos} (hc:kD X.K X.mg) (hgo:g=gOf X.mg) (he:PE X e (tM X.K g ε me)) (hg:Gl X "isinstance") (hm:X.mg "isinstance" = none) (hg2:Gl X x) (hx:x∈bx) (hd:(x == ("__debug__" : Str))=false:=by decide)
  (hs1:starEach [e,.Name x p2] X.env=(false,eval e X.env)::starEach [.Name x p2] X.env:=by rfl) (hs2:starEach [.Name x p2] X.env=[(false,eval (.Name x p2) X.env)]:=by rfl) (hpl:(backTo pos (starEach [.Name x p2] X.env)).any (·.1)=false:=by rfl) :
  PE X (.Call (.Name "isinstance" p1) [e,.Name x p2] [] pos) (tM X.K g ε (cUn (qh x) me)):=by
 obtain⟨C2,hC2⟩:=hc.at_ x hx
 refine PE.imp (gT (qV hc hgo) hg hm PyProof.Rows.boot_isinstance (dN he (dN (Ca hg2 hC2 hd) iF hs2) hs1) (by decide) (by decide) hs1 hpl) fun σ H Q ⟨α,env,h,s,w⟩=>tM.use s w.bind fun d1 h1 v1 H1 α1 e1 s1 r1 w1=>?_
 unfold qh at w1
 cases r1 with
 | @exc c C p o fs hgc hp hcl hdd xf=>
  obtain⟨hh,w1⟩:=WQ.dy w1
  rw[Bool.and_eq_true] at hh
  refine⟨p,.ref C2,o,c,fs,C,_,rfl,hgc,hp,hcl,hdd,xf,hh.1,fun u ru=>?_,aF.now (aF.ext e1 w1) s1.heap (.bl _)⟩
  cases ru
  subst hgo
  exact hc.two c (by simpa using hh.1) C (jg hgc) x hx C2 hC2
 | _=>exact w1.elim
theorem Dy {e:Expr} {me:ME} {p1 p2 pos:Pos} (hc:kD X.K X.mg) (hgo:g=gOf X.mg) (he:PE X e (tM X.K g ε me)) (hg:Gl X "isinstance") (hm:X.mg "isinstance" = none) (hg2:Gl X "ValueError") (hm2:X.mg "ValueError" = none)
  (hs1:starEach [e,.Name "ValueError" p2] X.env=(false,eval e X.env)::starEach [.Name "ValueError" p2] X.env:=by rfl) (hs2:starEach [.Name "ValueError" p2] X.env=[(false,eval (.Name "ValueError" p2) X.env)]:=by rfl) (hpl:(backTo pos (starEach [.Name "ValueError" p2] X.env)).any (·.1)=false:=by rfl) :
  PE X (.Call (.Name "isinstance" p1) [e,.Name "ValueError" p2] [] pos) (tM X.K g ε (cUn Co me)):=by
 refine PE.imp (gT (qV hc hgo) hg hm PyProof.Rows.boot_isinstance (dN he (dN (uB (v:=.ty "ValueError") hg2 hm2 PyProof.Rows.Boot.«ValueError» rfl (by decide) (by decide)) iF hs2) hs1) (by decide) (by decide) hs1 hpl) fun σ H Q ⟨α,env,h,s,w⟩=>tM.use s w.bind fun d1 h1 v1 H1 α1 e1 s1 r1 w1=>?_
 unfold Co at w1
 cases r1 with
 | @exc c C p o fs hgc hp hcl hdd xf=>
  obtain⟨hh,w1⟩:=WQ.dy w1
  refine⟨p,.ty "ValueError", o,c,fs,C,_,rfl,hgc,hp,hcl,hdd,xf,hh,fun u ru=>?_,aF.now (aF.ext e1 w1) s1.heap (.bl _)⟩
  cases ru
  subst hgo
  exact(hc.one c (by simpa using hh) C (jg hgc)).2.1
 | _=>exact w1.elim
theorem sy {h:Heap} {l:Addr} {its:Array Value} (x:h.IsList l its):∃dd n sl,h.get? l=some { cls:=.type "list", dict:=dd,data:=.seq its n,slots:=sl }:=by
 obtain⟨⟨c,d,da,sl⟩,h1,h2,n,h3⟩:=x
 dsimp only at h2 h3
 subst h2 h3
 exact⟨_,_,_,h1⟩
noncomputable def eqB (b:Bool):Value->Bool
 | .bool c=>c == b
 | _=>false
theorem lC:∀{bs:List Bool} {us:List Value},Vals (bs.map V.bl) us->us=bs.map Value.bool
 | [],_,.nil=>rfl
 | b::bs,_,.cons r t=>by
  have e:_=Value.bool b:=r
  rw[e,lC t];rfl
noncomputable def uI (K:PySem.W.Frag):V->List V->Hp->VK->Prop:=fun x vs H Q=>∃(l:Addr) (bs:List Bool) (b:Bool),x=.ref l/\vs=[.bl b]/\SqL K H l (bs.map V.bl)/\Q (.int (bs.countP (· == b):Nat)) H
theorem wA:MtM X "list.count" (uI X.K):=by
 intro pins s σ H x vs v us Q I rx rv h
 obtain⟨l,bs,b,rfl,rfl,hq,q⟩:=h
 cases rx
 obtain⟨u,rfl,ru⟩:=rv.one
 have e0:u=Value.bool b:=ru
 subst e0
 obtain⟨its,rs,pl,hz⟩:=I.list hq
 have ei:=lC rs
 subst ei
 obtain⟨dd,n,sl,ho⟩:=sy pl.isList
 refine call_meets F.slot_list_count ⟨_,ho,rfl⟩ F.entry_list_count (F.args_list_count_2 _ _) (SeqAt.list_countAt l _ n dd sl (.bool b) (eqB b)) ⟨ho,fun y hy=>?_,?_⟩
 ·obtain⟨c,_,rfl⟩:=List.mem_map.mp (by simpa using hy:y∈bs.map Value.bool)
  exact SeqAt.EqAt.bool_bool c b
 ·refine⟨.int (bs.countP (· == b):Nat),H,I.kept (h':=s.heap) (t':=s.toks+1) fun _ _ z=>z,⟨s.toks,?_⟩,q⟩
  rw[List.toList_toArray,List.countP_map]
  rfl
noncomputable def ux (K:PySem.W.Frag):V->List V->Hp->VK->Prop:=fun x vs H Q=>∃(l:Addr) (bs:List Bool) (b:Bool) (j:Nat),x=.ref l/\vs=[.bl b]/\SqL K H l (bs.map V.bl)/\bs.findIdx? (· == b)=some j/\bs.length<1000000/\Q (.int (j:Nat)) H
theorem v9:MtM X "list.index" (ux X.K):=by
 intro pins s σ H x vs v us Q I rx rv h
 obtain⟨l,bs,b,j,rfl,rfl,hq,hj,hlen,q⟩:=h
 cases rx
 obtain⟨u,rfl,ru⟩:=rv.one
 have e0:u=Value.bool b:=ru
 subst e0
 obtain⟨its,rs,pl,hz⟩:=I.list hq
 have ei:=lC rs
 subst ei
 obtain⟨dd,n,sl,ho⟩:=sy pl.isList
 obtain⟨hlt,hit,hno⟩:=List.findIdx?_eq_some_iff_getElem.mp hj
 refine call_meets F.slot_list_index ⟨_,ho,rfl⟩ F.entry_list_index (F.args_list_index_2 _ _) (SeqAt.list_indexAt l _ n dd sl (.bool b) (eqB b) j (by simpa using hlt) (by omega) ?_ ?_) ⟨ho,fun y hy=>?_,?_⟩
 ·simpa [eqB] using hit
 ·intro m hm h2
  have:=hno m h2
  simpa [eqB] using this
 ·obtain⟨c,_,rfl⟩:=List.mem_map.mp (by simpa using hy:y∈bs.map Value.bool)
  exact SeqAt.EqAt.bool_bool c b
 ·exact⟨.int (j:Nat),H,I.kept (h':=s.heap) (t':=s.toks+1) fun _ _ z=>z,⟨s.toks,rfl⟩,q⟩
noncomputable def pf:D->List D->Hh->R D:=fun o ds h=>match o,ds with
 | .frl xs,[.bl b]=>match ky xs with
  | some bs=>.ok (.int (bs.countP (· == b):Nat)) h
  | none=>.bad
 | _,_=>.bad
noncomputable def p8:D->List D->Hh->R D:=fun o ds h=>match o,ds with
 | .frl xs,[.bl b]=>match ky xs with
  | some bs=>match bs.findIdx? (· == b) with
   | some j=>if bs.length<1000000 then .ok (.int (j:Nat)) h else .bad
   | none=>.bad
  | none=>.bad
 | _,_=>.bad
theorem vV:AU K g ε pf (uI K):=by
 intro α H h o a y x Q r ro ra w
 unfold pf at w
 cases ro with
 | @frl ds p vs hq rs=>
  cases ra with
  | nil=>exact w.elim
  | cons rd rr=>
   cases rr with
   | cons _ _=>cases rd<;>exact w.elim
   | nil=>
    cases rd with
    | bl b=>
     simp only at w
     cases e2:ky ds with
     | none=>rw[e2] at w;exact w.elim
     | some bs=>
      rw[e2] at w
      have e3:=iK e2
      subst e3
      have e4:=rs.Cm
      subst e4
      exact⟨p,bs,b,rfl,rfl,hq.sq,aF.now w r (.int _)⟩
    | _=>exact w.elim
 | _=>exact w.elim
theorem wF:AU K g ε p8 (ux K):=by
 intro α H h o a y x Q r ro ra w
 unfold p8 at w
 cases ro with
 | @frl ds p vs hq rs=>
  cases ra with
  | nil=>exact w.elim
  | cons rd rr=>
   cases rr with
   | cons _ _=>cases rd<;>exact w.elim
   | nil=>
    cases rd with
    | bl b=>
     simp only at w
     cases e2:ky ds with
     | none=>rw[e2] at w;exact w.elim
     | some bs=>
      rw[e2] at w
      simp only at w
      cases e5:bs.findIdx? (· == b) with
      | none=>rw[e5] at w;exact w.elim
      | some j=>
       rw[e5] at w
       obtain⟨hl,w⟩:=WQ.dy w
       have e3:=iK e2
       subst e3
       have e4:=rs.Cm
       subst e4
       exact⟨p,bs,b,j,rfl,rfl,hq.sq,e5,hl,aF.now w r (.int _)⟩
    | _=>exact w.elim
 | _=>exact w.elim
end
end L2.FE
namespace L2
open PySem PySem.Spec PyProof.Rows
theorem Inv.DW {X:Cx} {pins pins' pn:List (Addr × Obj)} {σ:St} {H:Hp} {s:Shared} {E:Value->Shared->Prop} (J:Inv (X.wpn pn E) pins' σ H s) (hp:∀p∈X.pn++pins,p∈pn++pins'):Inv X pins σ H s:=
 ⟨⟨J.ok.mod,J.ok.kind,J.ok.glob,J.ok.blt,J.ok.above,J.ok.inj,J.ok.has,J.ok.cab,J.ok.hd,J.ok.frames,J.ok.stk,J.ok.exf,J.ok.bs,J.ok.bsz,J.ok.qr,J.ok.qS,J.ok.h7,J.ok.frf⟩,J.os,J.bare,J.base,J.loc,J.cell,J.free,J.dm,fun p h=>J.pin p (hp p h),J.hok,J.len⟩
end L2
namespace L2.FE
open PySem PySem.Spec PyProof.Rows
noncomputable def Af (P:Program) (w:World) (K:PySem.W.Frag) (mg:Str->Option Value) (base:Heap) (g:GG) (x:Str) (k:Nat) (ps:List Str) (m:MF):Prop:=
 ∃f fd,FnH P w K mg base k f fd ps (spM K g ps.length m)/\PySem.W.keepIn K (.ref f)=true/\Binds K fd ps []/\mg x=some (.ref f)
section
variable {P:Program} {w:World} {K:PySem.W.Frag} {mg:Str->Option Value} {base:Heap} {g:GG}
theorem Bu {x qual:Str} {st:Stmt} {f:Addr} {fd:FuncData} {N ps:List Str} {k:Nat} {mb:MS} (F:Fun K x qual st f fd) (S:aM N ps (au st))
  (hb:∀(cdv:Value) (A:Around) (outer:List Env) (s:Shared) (H:Hp) (E:XK),cX k (unm (A.deeper (envOfC qual (au st) s.heap.objs.size f cdv))) →
   PSs (cxH P w K mg base N qual (au st) f cdv A outer s H E) (bJ st) (tMS K g E00 mb)):FnH P w K mg base (k+1) f fd ps (spM K g ps.length (cA N.length mb)):=by
 refine DA F S (fun vs H Q E h=>h.1) fun cdv A outer s H vs Q E hr h=>⟨_,hb cdv A outer s H E hr,?_⟩
 obtain⟨hl,α,ds,h,rs,hh,w⟩:=h
 refine tMS.use ⟨hh,j8 rs⟩ w.bind fun fl h' H' α' e r kk=>?_
 cases fl with
 | nx e'=>exact fun σ' s'=>(show aF K g α H Q .non h' from kk) _ H' α' e r .non
 | bk e'=>exact kk.elim
 | ct e'=>exact kk.elim
 | rt d=>exact fun v rv=>(show aF K g α H Q d h' from kk) _ H' α' e r rv
end
section
variable {X:Cx} {g:GG} {ε:EE}
theorem xF {k:Nat} {f:Addr} {fd:FuncData} {ps:List Str} {m:MF} {np:Nat} {x:Str} {p pos:Pos} {e:Expr} {es:List Expr} {mr:MA} (F:FnH X.prog X.w X.K X.mg X.base k f fd ps (spM X.K g np m)) (hr:cX k (unm X.A)) (hg:Gl X x) (hm:X.mg x=some (.ref f)) (hk:PySem.W.keepIn X.K (.ref f)=true) (hb:Binds X.K fd ps [])
  (ha:PA X (e::es) (tMA X.K g E00 mr)) (hlen:∀env h ds h',mr env h=.ok ds h'->ds.length=np) (hdb:(x == ("__debug__" : Str))=false:=by decide) (he:starEach (e::es) X.env=(false,eval e X.env)::starEach es X.env:=by rfl) (hpl:(backTo pos (starEach es X.env)).any (·.1)=false:=by rfl) :
  PE X (.Call (.Name x p) (e::es) [] pos) (tM X.K g E00 (ag m mr)):=
 PE.imp (qO F hr hg hm hk hb ha hdb he hpl) fun σ H Q ⟨α,env,h,s,w⟩=>⟨α,env,h,s,w.bind.mono fun d1 h1 eq w1 v1 H1 α1 e1 hr1 r1=>by
  show spM X.K g np m (v1++[]) H1 Q E0
  rw[List.append_nil]
  refine⟨?_,α1,d1,h1,r1,hr1,w1.post e1⟩
  rw[<- r1.length]
  exact hlen env h d1 h1 eq⟩
noncomputable def qw (mb:MS) (mr:MF):MS:=fun env h=>match mb env h with
 | .ok fl h'=>.ok fl h'
 | .err x h'=>if (bx.contains x.cls&&(h'.take h.length).all (mQ h.length))=true then (noR (mr [.exc x.cls x.fs] (h'.take h.length))).bind fun d h2=>.ok (.rt d) h2 else .bad
 | .bad=>.bad
theorem DZ {body:List Stmt} {mb:MS} {mr:MF} {k:Nat} {f:Addr} {fd:FuncData} {ps:List Str} {i:Nat} {n y:Str} {np p1 p2 cpos rpos hpos pos:Pos}
  (hcl:kD X.K X.mg) (hgo:g=gOf X.mg) (pl:Plain X) (hN:X.N.Nodup) (hi:X.N[i]?=some n) (hl:X.env.scope.names.lookup n=some .local) (hgF:Gl X "FallError") (hgR:Gl X y)
  (F:FnH X.prog X.w X.K X.mg X.base k f fd ps (spM X.K g 1 mr)) (hr:cX k (unm X.A)) (hm:X.mg y=some (.ref f)) (hk:PySem.W.keepIn X.K (.ref f)=true) (hb:Binds X.K fd ps [])
  (hbd:∀(pn:List (Addr × Obj)) (xe:Value->Shared->Prop) (E:XK),ja (X.wpn pn xe) E->Plain (X.wpn pn xe)->PassesOwn (model X.prog X.w) X.A X.env xe->PSs (X.wpn pn xe) body (tMS X.K g (εX g E) mb))
  (hdn:(n == ("__debug__" : Str))=false:=by decide) (hdc:(n == ("__classdict__" : Str))=false:=by decide) (hdb:(y == ("__debug__" : Str))=false:=by decide)
  (hst:starEach [.Name n p2] X.env=(false,eval (.Name n p2) X.env)::starEach [] X.env:=by rfl) (hpl:(backTo cpos (starEach [] X.env)).any (·.1)=false:=by rfl) :
  PS X (.Try body [.ExceptHandler (some (.Name "FallError" np)) (some n) [.Return (some (.Call (.Name y p1) [.Name n p2] [] cpos)) rpos] hpos] [] [] pos) (tMS X.K g ε (qw mb mr)):=by
 intro pins s σ H D I ⟨α,env,h,sr,w⟩
 obtain⟨CF,hmF⟩:=hcl.at_ "FallError" (by decide)
 refine wpAny_Try_except ?_
 let K1:Value->Shared->Prop:=fun e s₁=>wpAny (model X.prog X.w) X.A (noteFrame e X.env) (fun _ s₂=>wpAny (model X.prog X.w) X.A (setFlight e none) (fun _ s₃=>wpAny (model X.prog X.w) X.A (handleBy e X.env [.ExceptHandler (some (.Name "FallError" np)) (some n) [.Return (some (.Call (.Name y p1) [.Name n p2] [] cpos)) rpos] hpos]) (SP X pins D) X.xe s₃) X.xe s₂) X.xe s₁
 let E1:XK:=fun C dc H'=>∃α' x h',mb env h=.err x h'/\Ext X.K α H α' H'/\aW X.K g α' H' h'/\(∃C0,C=.ref C0/\g x.cls=some C0)/\XFs H' dc x.fs
 have un:∀{σ:St} {H:Hp} {s:Shared},Inv (X.wpn (X.pn++pins) K1) [] σ H s->Inv X pins σ H s:=fun J=>J.DW fun p hp=>by simpa using hp
 have fl:ja (X.wpn (X.pn++pins) K1) E1:=by
  rintro e s1 ⟨σ1,H1,B,a,C,dc,rfl,J,ar,cv,pn,α',x,h',eq,ext,hr',⟨C0,rfl,hgC⟩,xf⟩
  have ar':Arr B (X.env::X.outer) a (.ref C0) dc s1.heap:=by rw[<- pl.stk.1];exact ar
  have hA:X.A.frames=some (X.env::X.outer):=by rw[<- pl.stk.1];exact J.ok.frames
  have pl1:Plain (X.wpn (X.pn++pins) K1):=⟨pl.ex,pl.stk⟩
  unfold qw at w
  rw[eq] at w
  obtain⟨low,w⟩:=WQ.dy w
  rw[Bool.and_eq_true] at low
  obtain⟨hcn,low⟩:=low
  refine rz hA pl.stk.2 ar' fun h2 y2 g2=>pT y2 fun h3 y3 g3=>?_
  have J3:Inv (X.wpn (X.pn++pins) K1) [] σ1 H1 { s1 with heap:=h3 }:=J.flew (t':=s1.toks) pl1 cv pn ar.stays ar.fr y3.stays (g2.trans g3)
  refine wpAny_handleBy_cons (codeAny_handlers_test ?_) (by intro q;cases q)
  have J3h:Inv ((X.wpn (X.pn++pins) K1).hand (X.A.mark (some (.ref a))) (X.pn++pins) fun _ _=>False) [] σ1 H1 { s1 with heap:=h3 }:=Inv.hand (A:=X.A.mark (some (.ref a))) (pn:=X.pn++pins) J3 rfl (fun p hp=>hp) _
  refine gZ J3h hgF hmF ?_
  obtain⟨ob,ws0,hob,hoc,_,_⟩:=y3.there
  have LT:PySem.W.Looks (model X.prog X.w) h3 (typeOf (.ref a)) (.ref C0):=hoc ▸ (PySem.W.Looks.ld hob).andThen .now
  have hx:PySem.W.exmOne X.K (.ref C0) (.ref CF)=some true:=by
   subst hgo
   exact hcl.exm x.cls (by simpa using hcn) C0 (jg hgC) CF hmF
  refine(PySem.W.exm_one J3.kIn LT hx).here ?_
  refine codeAny_handlers_suite_as ?_
  refine pT y3 fun h4 y4 g4=>?_
  have J4:Inv (X.wpn (X.pn++pins) K1) [] σ1 H1 { s1 with heap:=h4 }:=J.flew (t':=s1.toks) pl1 cv pn ar.stays ar.fr y4.stays (g2.trans (g3.trans g4))
  obtain⟨oe,ws,q1,q2,q3,q4⟩:=y4.there
  have fr4:h4.FunFrames B X.stack:=by rw[pl.stk.1];exact y4.fr
  obtain⟨hn,J5⟩:=J4.adopt pl1 cv pn fr4 y4.new q1 q4
  refine eK (X:=X.wpn (X.pn++pins) K1) J5 hN hi (.inl hl) (v:=.ref a) (u:=.ref a) rfl (fun s6 J6=>?_) (.inr hl)
  have J7:Inv ((X.wpn (X.pn++pins) K1).hand (X.A.mark (some (.ref a))) (X.pn++pins) fun _ _=>False) [] (σ1.set i (some (.ref a))) (upd H1 a (AtO a oe)) s6:=Inv.hand (A:=X.A.mark (some (.ref a))) (pn:=X.pn++pins) J6 rfl (fun p hp=>hp) _
  have T:=uM (xl (pos:=rpos) (qO (X:=(X.wpn (X.pn++pins) K1).hand (X.A.mark (some (.ref a))) (X.pn++pins) fun _ _=>False) (p:=p1) (pos:=cpos) F hr hgR hm hk hb (dN (ze (pos:=p2) hi (.inl hl) hdn hdc) iF hst) hdb hst hpl))
  have lenσ:i<σ1.length:=by rw[J.len];exact(List.getElem?_eq_some_iff.mp hi).1
  refine wpAny_mono (T [] s6 _ _ { nx:=fun _ _=>False,rt:=D.rt } J7 ⟨.ref a,by simp[lenσ],?_⟩) (fun fl s7 q=>?_) fun _ _ z=>z.elim
  ·show spM X.K g 1 mr ([.ref a]++[]) (upd H1 a (AtO a oe)) D.rt E0
   have k0:α.length=h.length:=sr.heap.len
   have fz:∀p o u,H1 p=some (.frz o u)->upd H1 a (AtO a oe) p=some (.frz o u):=fun p o u z=>by rw[aA (aP z hn)];exact z
   have Lw:ow X.K α α' H1 (upd H1 a (AtO a oe)) h.length:=⟨fun m hm=>kU ext.pre (by omega),fun p xs z=>by rw[aA (aP z hn)];exact z,fz⟩
   have kp:∀m p u,m<h.length->α'[m]?=some p->H1 p=some u->upd H1 a (AtO a oe) p=some u:=fun m p u _ _ z=>by rw[aA (aP z hn)];exact z
   have ex2:Ext X.K α H α (upd H1 a (AtO a oe)):=⟨⟨List.prefix_refl _,fun p xs z=>Lw.tup p xs (ext.tup p xs z),fun p o u z=>fz p o u (ext.frz p o u z)⟩,fun p u z m=>by
    have:=ext.keep p u z m
    rw[aA (aP this hn)];exact this,fun _ z m=>absurd z m⟩
   refine⟨rfl,α,[.exc x.cls x.fs],h'.take h.length,.cons (.exc hgC aQ q2 ⟨ws,q4⟩ ?_) .nil,⟨?_,sr.heap.inj,fun m p ob h1 h2=>?_⟩,?_⟩
   ·rw[q3]
    exact xf.elim .inl fun⟨dx,od,z1,z2⟩=>.inr ⟨dx,od,z1,fz _ _ _ z2⟩
   ·rw[List.length_take,<- hr'.len,k0]
    have:=ext.pre.length_le
    omega
   ·have hm:m<h.length:=(lW h2).1
    rw[kU ext.pre (by omega)] at h1
    exact rQ k0 ext hr' low Lw kp m p ob hm h1 h2
   ·refine((qu w.bind).ext ex2).mono fun d h2 _ kk v H2 α2 e2 r2 rd=>?_
    exact(show cy X.K g α H D (.rt d) h2 from kk) H2 α2 (ex2.trans e2) r2 v rd
  ·cases fl with
   | ret u=>
    obtain⟨v,σ7,H7,J8,rv,q⟩:=q
    obtain⟨m,hm7,_⟩:=J8.loc
    have J9:Inv X pins σ7 H7 s7:=un (Inv.back (pins:=[]) J8 J.ok fun p hp=>hp)
    refine wpAny_nameGoes_keeps hl hm7 (by rw[I.ok.kind];rfl) fun h8 v8 hn8 sb=>?_
    exact⟨v,σ7.set i none,H7,J9.forget hN hi hm7 hn8 (fun z hz=>if_neg hz) sb,rv,q⟩
   | next=>obtain⟨_,_,_,q⟩:=q;exact q.elim
   | brk=>obtain⟨_,_,_,q⟩:=q;exact q.elim
   | cont=>obtain⟨_,_,_,q⟩:=q;exact q.elim
 have I1:Inv (X.wpn (X.pn++pins) K1) [] σ H s:=I.wpn (fun p hp=>by simpa using hp) _
 refine wpAny_mono (hbd (X.pn++pins) K1 E1 fl ⟨pl.ex,pl.stk⟩ PassesOwn.looking [] s σ H D I1 ⟨α,env,h,sr,?_⟩) (fun f s1 q=>?_) fun _ _ z=>z
 ·unfold qw at w
  cases eq:mb env h with
  | ok fl h'=>rw[eq] at w;exact w
  | err x h'=>exact fun α' H' e r C dc hg xf=>⟨α',x,h',eq,e,r,⟨C,rfl,hg⟩,xf⟩
  | bad=>rw[eq] at w;exact w.elim
 ·cases f with
  | next=>obtain⟨σ',H',J,q⟩:=q;exact wpAny_execs_nil ⟨σ',H',un J,q⟩
  | brk=>obtain⟨σ',H',J,q⟩:=q;exact⟨σ',H',un J,q⟩
  | cont=>obtain⟨σ',H',J,q⟩:=q;exact⟨σ',H',un J,q⟩
  | ret u=>obtain⟨v,σ',H',J,r,q⟩:=q;exact⟨v,σ',H',un J,r,q⟩
end
end L2.FE
namespace L2
open PySem PySem.Spec PyProof.Rows
theorem yD {k:Nat} {A:Around} (h:cX k A):cX k (unm A):=⟨rfl,h.dp,h.un,h.gd⟩
inductive RdE (K:PySem.W.Frag) (H:Hp):V->PyData->Prop
 | non:RdE K H .non .none
 | bl (b:Bool):RdE K H (.bl b) (.bool b)
 | int (i:Int):RdE K H (.int i) (.int i)
 | str (x:Str):RdE K H (.str x) (.str x)
 | tup {a:Addr} {xs:List V} {ds:List PyData} (h:SqT K H a xs) (hl:xs.length=ds.length) (hx:∀(i:Nat) x d,xs[i]?=some x->ds[i]?=some d->RdE K H x d):RdE K H (.ref a) (.tuple ds)
 | edic {a:Addr} {o:Obj} (h:H a=some (.frz o (.dK []))):RdE K H (.ref a) (.dict [])
theorem oj {h:Heap}:∀{us:List Value} {ds:List PyData},us.length=ds.length->(∀(i:Nat) u d,us[i]?=some u->ds[i]?=some d->∃as,Reads h u d as/\sysModules∉as)->∃as,ReadsAll h us ds as/\sysModules∉as
 | [],[],_,_=>⟨_,.nil,by simp⟩
 | [],_::_,hl,_=>by simp at hl
 | _::_,[],hl,_=>by simp at hl
 | u::us,d::ds,hl,hx=>by
  obtain⟨as,h1,n1⟩:=hx 0 u d rfl rfl
  obtain⟨bs,h2,n2⟩:=oj (us:=us) (ds:=ds) (by simpa using hl) fun i u d e1 e2=>hx (i+1) u d (by simpa using e1) (by simpa using e2)
  exact⟨_,.cons h1 h2,by simp[n1,n2]⟩
section
variable {X:Cx}
theorem Inv.Cc {pins:List (Addr × Obj)} {σ:St} {H:Hp} {s:Shared} (I:Inv X pins σ H s) {x:V} {d:PyData} (r:RdE X.K H x d):∀u,RelV x u->∃as,Reads s.heap u d as/\sysModules∉as:=by
 induction r with
 | non=>intro u ru;cases (show u=Value.none from ru);exact⟨_,.none,by simp⟩
 | bl b=>intro u ru;cases (show u=Value.bool b from ru);exact⟨_,.bool b,by simp⟩
 | int i=>intro u ru;obtain⟨t,q⟩:=(show ∃t,u=Value.int i t from ru);cases q;exact⟨_,.int i t,by simp⟩
 | str y=>intro u ru;obtain⟨t,q⟩:=(show ∃t,u=Value.str y t from ru);cases q;exact⟨_,.str y t,by simp⟩
 | @tup a xs ds h hl hx ih=>
  intro u ru
  cases (show u=Value.ref a from ru)
  obtain⟨its,rv,p,hz⟩:=I.tuple h
  obtain⟨o,ho,hc,n,hd⟩:=p
  obtain⟨as,ra,na⟩:=oj (h:=s.heap) (us:=its) (ds:=ds) (by rw[<- rv.length,hl]) fun i u d e1 e2=>by
   obtain⟨y,e3,ry⟩:=rv.get' e1
   exact ih i y d e3 e2 u ry
  exact⟨_,.tuple ho hc hd (by simpa using ra),na⟩
 | @edic a o h=>
  intro u ru
  cases (show u=Value.ref a from ru)
  obtain⟨_,_,na,vs,kv,o',es,ep,e1,e2,e3,e4⟩:=I.hok a _ h
  have hv:vs=[]:=by cases kv;rfl
  subst hv
  have he:es.toList=[]:=by
   have:=e4.2.1.length
   simpa using this
  exact⟨_,.dict (kvs:=[]) (as:=[]) (bs:=[]) e1 e2.1 e3 (by rw[he];exact .nil) (by rw[he];exact .nil),by simpa using fun z=>(by rw[<- z] at na;simp at na)⟩
theorem s_ (hg:X.A.guards=some []) (hu:X.A.units+64<cLine):aR X (.builtin "repr") (fun vs H Q=>∃p d,vs=[.ref p]/\RdE X.K H (.ref p) d/\d.showable=true/\d.depth<=60/\d.shown.length<=sizeLine/\Q (.str d.shown) H):=by
 intro pins s σ H xs us Q I r h
 obtain⟨p,d,rfl,rd,hs,hdp,hz,q⟩:=h
 obtain⟨u,rfl,rx⟩:=vals1 r
 cases rx
 obtain⟨as,ra,na⟩:=I.Cc rd (.ref p) rfl
 exact repr_of_reads' ra hs (fun _=>na) hg (by omega) (fun _ _ e=>e) (fun h' u tk kp=>⟨.str d.shown,H,I.kept kp,⟨_,rfl⟩,q⟩) hz
theorem tJ:aR X (.builtin "repr") (fun vs H Q=>vs=[.non]/\Q (.str "None") H):=by
 intro pins s σ H xs us Q I r h
 obtain⟨rfl,q⟩:=h
 obtain⟨u,rfl,rx⟩:=vals1 r
 cases (show u=Value.none from rx)
 exact PySem.P.repr_of_none ⟨.str "None", H,I.tok _,⟨_,rfl⟩,q⟩
theorem tU:aR X (.builtin "repr") (fun vs H Q=>∃b,vs=[.bl b]/\Q (.str (if b then "True" else "False")) H):=by
 intro pins s σ H xs us Q I r h
 obtain⟨b,rfl,q⟩:=h
 obtain⟨u,rfl,rx⟩:=vals1 r
 cases (show u=Value.bool b from rx)
 exact PySem.P.repr_of_bool ⟨.str (if b then "True" else "False"),H,I.tok _,⟨_,rfl⟩,q⟩
theorem t7:aR X (.builtin "repr") (fun vs H Q=>∃x,vs=[.str x]/\(reprText x).length<=sizeLine/\Q (.str (reprText x)) H):=by
 intro pins s σ H xs us Q I r h
 obtain⟨x,rfl,hz,q⟩:=h
 obtain⟨u,rfl,t,rfl⟩:=vals1 r
 exact PySem.P.repr_of_str ⟨.str (reprText x),H,I.tok _,⟨_,rfl⟩,q⟩ hz
end
end L2
namespace L2.FE
open PySem PySem.Spec PyProof.Rows
noncomputable def ji:Nat->D->Option PyData
 | 0,_=>none
 | k+1,d=>match d with
  | .non=>some .none
  | .bl b=>some (.bool b)
  | .int i=>if sml i=true then some (.int i) else none
  | .str x=>if x.cps.toList.all (fun c=>decide (c<16 ^ 8))=true then some (.str x) else none
  | .tup ds=>(cF (ji k) ds).map .tuple
  | .edic=>some (.dict [])
  | _=>none
structure BO (k:Nat) (d:PyData):Prop where
 sh:d.showable=true
 dp:d.depth<=k
 lv:d.leavesShort 1921=true
structure Ce (k:Nat) (ds:List PyData):Prop where
 sh:PyData.showableAll ds=true
 dp:PyData.depthAll ds<=k
 lv:PyData.leavesShortAll 1921 ds=true
section
variable {K:PySem.W.Frag} {g:GG} {α:List Addr} {H:Hp} {h:Hh} {X:Cx} {ε:EE}
theorem n_ {f:D->Option PyData} {k:Nat} (hf:∀d x p,aD K g α H d x->f d=some p->RdE K H x p/\BO k p):∀{ds:List D} {vs:List V} {ps:List PyData},av K g α H ds vs->cF f ds=some ps →
  Ce k ps/\vs.length=ps.length/\∀(i:Nat) x d,vs[i]?=some x->ps[i]?=some d->RdE K H x d
 | _,_,_,.nil,e=>by
  cases e
  exact⟨⟨by simp[PyData.showableAll],by simp[PyData.depthAll],by simp[PyData.leavesShortAll]⟩,rfl,fun i x d h=>by simp at h⟩
 | _,_,_,.cons r t,e=>by
  unfold cF at e
  split at e
  ·rename_i p ps h1 h2
   cases e
   obtain⟨a1,a2⟩:=hf _ _ _ r h1
   obtain⟨b1,b2,b3⟩:=n_ hf t h2
   refine⟨⟨by rw[PyData.showableAll,a2.sh,b1.sh];rfl,by rw[PyData.depthAll];exact Nat.max_le.mpr ⟨a2.dp,b1.dp⟩,by rw[PyData.leavesShortAll,a2.lv,b1.lv];rfl⟩,by simp[b2],fun i x d hx hd=>?_⟩
   cases i with
   | zero=>simp at hx hd;subst hx hd;exact a1
   | succ i=>exact b3 i x d (by simpa using hx) (by simpa using hd)
  ·cases e
theorem rW:∀(k:Nat) (d:D) (x:V) (p:PyData),aD K g α H d x->ji k d=some p->RdE K H x p/\BO k p
 | 0,_,_,_,_,e=>by cases e
 | k+1,d,x,p,rd,e=>by
  unfold ji at e
  cases rd with
  | non=>cases e;exact⟨.non,by simp[PyData.showable],by simp[PyData.depth],by simp[PyData.leavesShort]⟩
  | bl b=>cases e;exact⟨.bl b,by simp[PyData.showable],by simp[PyData.depth],by simp[PyData.leavesShort]⟩
  | int i=>
   simp only at e
   split at e
   ·rename_i hs
    cases e
    have hl:i.natAbs.log2<1920:=Nat.lt_trans (kQ hs) (by decide)
    exact⟨.int i,by simp[PyData.showable,hl],by simp[PyData.depth],by simp only[PyData.leavesShort,decide_eq_true_eq];exact int_text_len_1921 hl⟩
   ·cases e
  | str z=>
   simp only at e
   split at e
   ·rename_i hs
    cases e
    exact⟨.str z,by simp[PyData.showable],by simp[PyData.depth],by simpa only[PyData.leavesShort] using hs⟩
   ·cases e
  | edic hp=>cases e;exact⟨.edic hp,by simp[PyData.showable,PyData.showableKv],by simp[PyData.depth,PyData.depthKv],by simp[PyData.leavesShort,PyData.leavesShortKv]⟩
  | tup hp rs=>
   simp only at e
   cases e1:cF (ji k) _ with
   | none=>rw[e1] at e;cases e
   | some ps=>
    rw[e1] at e
    cases e
    obtain⟨b1,b2,b3⟩:=n_ (fun d x p=>rW k d x p) rs e1
    exact⟨.tup (SqT.of hp) b2 b3,by rw[PyData.showable];exact b1.sh,by rw[PyData.depth];exact Nat.succ_le_succ b1.dp,by rw[PyData.leavesShort];exact b1.lv⟩
  | _=>cases e
noncomputable def wC (d:D) (h:Hh):R D:=match ji 12 d with
 | some p=>if p.bulk<=8000 then .ok (.str p.shown) h else .bad
 | none=>.bad
noncomputable def pH:List D->Hh->R D:=fun ds h=>match ds with
 | [.non]=>.ok (.str "None") h
 | [.bl b]=>.ok (.str (if b then "True" else "False")) h
 | [.str x]=>if (reprText x).length<=1000000 then .ok (.str (reprText x)) h else .bad
 | [.tup ds]=>wC (.tup ds) h
 | [.edic]=>wC .edic h
 | _=>.bad
noncomputable def cb:List D->Hh->R D:=fun ds h=>match mE ds h with
 | .ok d h'=>.ok d h'
 | _=>pH ds h
noncomputable abbrev kS (K:PySem.W.Frag):List V->Hp->VK->Prop:=fun vs H Q=>pB K vs H Q\/(∃p d,vs=[.ref p]/\RdE K H (.ref p) d/\d.showable=true/\d.depth<=60/\d.shown.length<=sizeLine/\Q (.str d.shown) H)\/(vs=[.non]/\Q (.str "None") H)\/(∃b,vs=[.bl b]/\Q (.str (if b then "True" else "False")) H)\/∃x,vs=[.str x]/\(reprText x).length<=sizeLine/\Q (.str (reprText x)) H
theorem fF (hg:X.A.guards=some []) (hu:X.A.units+64<cLine):aR X (.builtin "repr") (kS X.K):=aR.or (AA hg hu) (aR.or (s_ hg hu) (aR.or tJ (aR.or tU t7)))
theorem fw:jq K g ε cb (kS K):=by
 intro α H h a x Q r ra w
 unfold cb at w
 cases e:mE a h with
 | ok d h'=>rw[e] at w;exact .inl (AY α H h a x Q r ra (by rw[e];exact w))
 | err z h'=>rw[e] at w;exact im α H h a x Q r ra w
 | bad=>rw[e] at w;exact im α H h a x Q r ra w
where
 im (α H h a x Q) (r:aW K g α H h) (ra:av K g α H a x) (w:WQ K g ε α H (pH a h) (aF K g α H Q)):kS K x H Q:=by
  unfold pH at w
  have gen:∀{d:D} {v:V},aD K g α H d v->(∃p,v=.ref p)->WQ K g ε α H (wC d h) (aF K g α H Q)->kS K [v] H Q:=by
   intro d v rd ⟨p,hp⟩ w
   subst hp
   unfold wC at w
   cases e:ji 12 d with
   | none=>simp only[e] at w;exact w.elim
   | some pd=>
    simp only[e] at w
    obtain⟨hb,w⟩:=WQ.dy w
    obtain⟨q1,q2⟩:=rW 12 d _ pd rd e
    have:=PyData.shown_le_bulk 1921 (by decide) pd q2.lv
    exact .inr (.inl ⟨p,pd,rfl,q1,q2.sh,Nat.le_trans q2.dp (by decide),by rw[sizeLine_eq];omega,aF.now w r (.str _)⟩)
  cases ra with
  | nil=>exact w.elim
  | cons rd rr=>
   cases rr with
   | cons _ _=>cases rd<;>exact w.elim
   | nil=>
    cases rd with
    | non=>exact .inr (.inr (.inl ⟨rfl,aF.now w r (.str _)⟩))
    | bl b=>exact .inr (.inr (.inr (.inl ⟨b,rfl,aF.now w r (.str _)⟩)))
    | str z=>
     obtain⟨hz,w⟩:=WQ.dy w
     exact .inr (.inr (.inr (.inr ⟨z,rfl,eh hz,aF.now w r (.str _)⟩)))
    | tup hp rs=>exact gen (.tup hp rs) ⟨_,rfl⟩ w
    | edic hp=>exact gen (.edic hp) ⟨_,rfl⟩ w
    | _=>exact w.elim
theorem gu {ds:List D} {d:D} {h h':Hh} (e:mE ds h=.ok d h'):cb ds h=.ok d h':=by unfold cb;rw[e]
end
theorem us0 {P:List Value->Prop} {us:List Value} (hl:us.length=0) (h:P []):P us:=by cases us with | nil=>exact h | cons _ _=>cases hl
theorem us1 {P:List Value->Prop} {us:List Value} (hl:us.length=1) (h:∀a,P [a]):P us:=by cases us with | nil=>cases hl | cons a us=>exact us0 (P:=fun us=>P (a::us)) (Nat.succ.inj hl) (h a)
theorem us2 {P:List Value->Prop} {us:List Value} (hl:us.length=2) (h:∀a b,P [a,b]):P us:=by cases us with | nil=>cases hl | cons a us=>exact us1 (P:=fun us=>P (a::us)) (Nat.succ.inj hl) (h a)
theorem us3 {P:List Value->Prop} {us:List Value} (hl:us.length=3) (h:∀a b c,P [a,b,c]):P us:=by cases us with | nil=>cases hl | cons a us=>exact us2 (P:=fun us=>P (a::us)) (Nat.succ.inj hl) (h a)
theorem mZ {fd:FuncData} {ps:List Str} {us:List Value} (hl:us.length=1) (h:∀a:Value,bindArgs fd ⟨[a],[]⟩=pure (ps.zip [a])):bindArgs fd ⟨us,[]⟩=pure (ps.zip us):=us1 (P:=fun us=>bindArgs fd ⟨us,[]⟩=pure (ps.zip us)) hl h
theorem mX {fd:FuncData} {ps:List Str} {us:List Value} (hl:us.length=2) (h:∀a b:Value,bindArgs fd ⟨[a,b],[]⟩=pure (ps.zip [a,b])):bindArgs fd ⟨us,[]⟩=pure (ps.zip us):=us2 (P:=fun us=>bindArgs fd ⟨us,[]⟩=pure (ps.zip us)) hl h
theorem vq {fd:FuncData} {ps:List Str} {us:List Value} (hl:us.length=3) (h:∀a b c:Value,bindArgs fd ⟨[a,b,c],[]⟩=pure (ps.zip [a,b,c])):bindArgs fd ⟨us,[]⟩=pure (ps.zip us):=us3 (P:=fun us=>bindArgs fd ⟨us,[]⟩=pure (ps.zip us)) hl h
end L2.FE
namespace PySem.W
open PySem PySem.Calls PyProof.Rows PySem.Spec Builtin Builtin.ObjectAttr
noncomputable abbrev EC:List Value:=[.type "ValueError", .type "Exception", .type "BaseException", .type "object"]
noncomputable def yK:Value->Bool
 | .ref _=>true
 | _=>false
noncomputable def nS (l:List Value):Bool:=l.dropWhile yK == EC
theorem rY {l:List Value} (e:nS l=true):l=EC\/∃c r,l=.ref c::r/\nS r=true:=by
 cases l with
 | nil=>cases e
 | cons a r=>
  by_cases h:yK a=true
  ·cases a with
   | ref c=>exact .inr ⟨c,r,rfl,by unfold nS at e ⊢;rw[List.dropWhile_cons_of_pos h] at e;exact e⟩
   | _=>cases h
  ·unfold nS at e
   rw[List.dropWhile_cons_of_neg h] at e
   exact .inl (beq_iff_eq.mp e)
noncomputable def kT (K:Frag) (C:Addr):Bool:=(clsIn K C).any fun cd=>nS cd.mro
end PySem.W
namespace L2
open PySem PySem.Spec PyProof.Rows PySem.W
noncomputable def yU (K:PySem.W.Frag) (C fI:Addr):Bool:=match K.lookup C with
 | some ⟨.type "type", _,.cls cd,sl⟩=>(match cd.mro,sl.toList with
  | .ref C'::bm,[_,_,_,_,some (.builtin n),_]=>C' == C&&n == "ValueError.__new__" && !cd.hasDel&&tailIn K bmV bm&&nsOkIn K cd.ns&&nsIn K cd.ns "__init__" == some (some (.ref fI))
  | _,_=>false)
 | _=>false
inductive iq:List Stmt->List Str->Prop
 | nil:iq [] []
 | cons {f:Str} {p1 p2 p3 p4:Pos} {r:List Stmt} {fs:List Str}:(f == ("__debug__" : Str))=false->iq r fs->iq (.Assign [.Attribute (.Name "self" p1) f p2] (.Name f p3) p4::r) (f::fs)
noncomputable def cj:Stmt->Stmt
 | .ClassDef _ _ _ (st::_) ..=>st
 | st=>st
structure Fe (K:PySem.W.Frag) (x:Str) (cst:Stmt) (C:Addr) (fs:List Str):Prop where
 ex:∃fI fd qual,yU K C fI=true/\Fun K "__init__" qual (cj cst) fI fd/\Binds K fd ("self" :: fs) []/\typeIn K (.ref fI)=some (.type "function")
 sc:aM ("self" :: fs) ("self" :: fs) (au (cj cst))
 loc:∀y∈("self" : Str)::fs,(au (cj cst)).names.lookup y=some .local
 body:iq (bJ (cj cst)) fs
 sa:findIn K (.ref C) "__setattr__" = some (some (.builtin "object.__setattr__"))
 ov:kT K C=true
 tk:∀f∈fs,takerIn K C f=some none
 hd:hasDictIn K C=true
 ne:fs≠[]
noncomputable abbrev ws0 (t:Addr):Array Value:=#[.ref t,.none,.none,.none,.bool false,.none]
end L2
namespace PySem.W
open PySem PySem.Calls PyProof.Rows PySem.Spec Builtin Builtin.ObjectAttr
theorem nX:∀(n:Nat) {l:List Value},l.length<=n->nS l=true->l.contains (.type "BaseException")=true
 | 0,l,hl,e=>by
  have:l=[]:=List.eq_nil_of_length_eq_zero (by omega)
  subst this;cases e
 | n+1,l,hl,e=>by
  rcases rY e with rfl | ⟨c,r,rfl,e'⟩
  ·simp
  ·rw[List.contains_cons,nX n (by simp at hl;omega) e',Bool.or_true]
section
variable {K:Frag} {prog:Program} {w:World} {A:Around} {E:Value->Shared->Prop} {s:Shared} {x C dx:Addr} {ox:Obj} {mA:Str->Option Value} {name:Str} {v:Value}
theorem wN {tk:Tok} {Q:Fin->Shared->Prop} (X:K.In s.heap) (hx:s.heap.get? x=some ox) (hc:ox.cls=.ref C) (hf:∃ws,ox.data=.fields ws) (hd:ox.dict=some dx) (hn:s.heap.Ns dx mA) (hv:mA name=some v)
  (hna:findIn K (.ref C) name=some none) (hh:hasDictIn K C=true) (h:Q (.done (.ret v)) s):wpAny (model prog w) A (Builtin.«object.__getattribute__» ⟨[.ref x,.str name tk],[]⟩) Q E s:=by
 obtain⟨cd,hcd,hd'⟩:=any_some hh
 obtain⟨oc,od,oda,osl⟩:=ox
 obtain⟨ws,hf⟩:=hf
 dsimp only at hc hd hf
 subst hc hd hf
 have I:InstAt s.heap x ⟨.ref C,some dx,.fields ws,osl⟩ C (some hn.choose):=⟨hx,rfl,rfl,hn.choose_spec.choose_spec.choose_spec.1⟩
 have e:Builtin.«object.__getattribute__» ⟨[.ref x,.str name tk],[]⟩=(typeOf (.ref x) >>= fun tp=>find (.ref x) tp name >>= fun f=>match f with
   | .value v=>(ret v:Sem Fin)
   | .bind g a=>bindTo g a (.ref x) tp
   | .missing=>do
    if tp == .type "module" then
     if ← isOpaqueModuleObj (.ref x) then
      let byTheModulesOwnEntry:=match (← stack).drop 1 with
       | (.builtin "module.__getattribute__" ⟨m::_,_⟩,_)::_=>m == .ref x
       | _=>false
      if !byTheModulesOwnEntry then unsupported "thirdparty:object.__getattribute__:a-miss-on-an-opaque-module"
    if tp == .type "type" then
     if let some key ← opaqueClassAbove (.ref x) then unsupported s!"thirdparty:{key.toString}.{name.toString}:object.__getattribute__-misses-on-an-opaque-class"
    noSuchAttribute (.ref x) name):=by rfl
 rw[e]
 refine wpAny_bind (I.type.here ?_)
 refine wpAny_bind ?_
 unfold find
 refine wpAny_bind ((looks_findIn X hna).here ?_)
 refine wpAny_bind (wpAny_pure (wpAny_bind (wpAny_pure ?_)))
 show wpAny _ _ (ownThenClass (.ref x) name none none) _ _ _
 unfold ownThenClass inOwnDict
 refine wpAny_bind (wpAny_bind ?_)
 show wpAny _ _ (loadPart x (some headPart) >>= _) _ _ _
 refine wpAny_bind (wpAny_loadPart hx ?_)
 show wpAny _ _ (instanceDict x false) _ _ _
 unfold instanceDict
 refine wpAny_bind (wpAny_loadPart hx ?_)
 refine wpAny_bind ?_
 refine(looks_clsIn X hcd).here ?_
 rw[hd']
 refine wpAny_pure (a:=some dx) ?_
 show wpAny _ _ (nsGet dx name) _ _ _
 refine wpAny_nsGet hn ?_
 rw[hv]
 refine wpAny_bind (wpAny_rule (wpAny_pure ?_))
 exact wpAny_pure h
theorem A6 {b:Bool} {Q:Value->Shared->Prop} (X:K.In s.heap) (hx:s.heap.get? x=some ox) (hc:ox.cls=.ref C) (hf:∃ws,ox.data=.fields ws) (hd:ox.dict=some dx) (hn:s.heap.Ns dx mA) (hv:mA name=some v)
  (hga:findIn K (.ref C) "__getattribute__" = some (some (.builtin "BaseException.__getattribute__"))) (hgh:findIn K (.ref C) "__getattr__" = some none) (hna:findIn K (.ref C) name=some none) (ov:kT K C=true) (hh:hasDictIn K C=true) (hv2:handedOut v=pure v)
  (h:Q v { s with toks:=s.toks+1 }):wpAny (model prog w) A (getAttr (.ref x) name b) Q E s:=by
 have FB:=PySem.F.attrBase_ValueError
 have I:InstAt s.heap x ox C (some hn.choose):=⟨hx,hc,by obtain⟨ws,e⟩:=hf;unfold notCls;rw[e],by rw[hd];exact hn.choose_spec.choose_spec.choose_spec.1⟩
 obtain⟨cd,hcd,ho⟩:=any_some ov
 have ne:cd.mro.isEmpty=false:=by cases q:cd.mro with | nil=>rw[q] at ho;cases ho | cons _ _=>rfl
 have sub:Looks (model prog w) s.heap (isInstance (.ref x) (.type "BaseException")) true:=I.type.andThen (looks_mroIn X (by unfold mroIn;rw[hcd,Option.bind_some,if_neg (by rw[ne];decide),nX _ (Nat.le_refl _) ho]))
 unfold getAttr getAttrBy
 refine wpAny_bind (wpAny_mkText (wpAny_holding (wpAny_bind (Looks.here (s:={ s with toks:=s.toks+1 }) I.type (wpAny_bind (Looks.here (s:={ s with toks:=s.toks+1 }) (looks_findIn X hga) ?_))))))
 dsimp only
 have hx2:(Value.builtin "BaseException.__getattribute__" == Value.builtin "object.__getattribute__")=false:=by decide +kernel
 rw[if_neg (by rw[hx2,Bool.and_false];decide)]
 unfold getAttrByItsOwn
 refine wpAny_bind ?_
 show wpAny _ _ (typeLookup (.ref C) "__getattr__") _ _ _
 refine Looks.here (s:={ s with toks:=s.toks+1 }) (looks_findIn X hgh) ?_
 refine wpAny_bind (wpAny_attempt (wpAny_holding ?_))
 have hcall:callGetattribute (.ref x) (.str name s.toks) (.builtin "BaseException.__getattribute__") b=boundAndCalled (.builtin "BaseException.__getattribute__") (.ref x) (.str name s.toks):=by cases b<;>rfl
 rw[hcall]
 unfold boundAndCalled
 refine wpAny_bind ?_
 rw[FB.ga.bind (.ref x)]
 refine wpAny_pure ?_
 have hk:builtinKind "BaseException.__getattribute__" = some .slot:=by decide +kernel
 have hsplit:splitId "BaseException.__getattribute__" = some ("BaseException", "__getattribute__"):=by decide +kernel
 refine wpAny_call (codeAny_call_builtin FB.ga.plain PySem.F.entry_bexc_ga (@check_slot (model prog w) _ _ { s with toks:=s.toks+1 } "BaseException.__getattribute__" "BaseException" "__getattribute__" (.ref x) [.str name s.toks] [] _ hk hsplit sub (PySem.F.args_bexc_ga (.ref x) (.str name s.toks)) ?_))
 refine wN (s:={ s with toks:=s.toks+1 }) X hx hc hf hd hn hv hna hh ?_
 show wpAny _ _ (handedOut v) _ _ _
 rw[hv2]
 exact wpAny_pure h
end
end PySem.W
namespace L2
open PySem PySem.Spec PyProof.Rows PySem.W
structure Cy (K:PySem.W.Frag) (C:Addr) (f:Str):Prop where
 ga:findIn K (.ref C) "__getattribute__" = some (some (.builtin "BaseException.__getattribute__"))
 gh:findIn K (.ref C) "__getattr__" = some none
 na:findIn K (.ref C) f=some none
 ov:kT K C=true
 hd:hasDictIn K C=true
end L2
namespace L2.FE
open PySem PySem.Spec PyProof.Rows
noncomputable def wH (c f:Str):D->Hh->R D:=fun d h=>match d with
 | .exc c' fs=>if c'=c then (match fs.lookup f with | some i=>.ok (.int i) h | none=>.bad) else .bad
 | _=>.bad
theorem kr:∀{fs:List (Str × Int)} {f:Str} {i:Int},fs.lookup f=some i->(fs.map fun x=>(x.1,V.int x.2)).lookup f=some (.int i)
 | [],f,i,h=>by cases h
 | (y,j)::fs,f,i,h=>by
  simp only[List.map_cons,List.lookup] at h ⊢
  cases q:f == y with
  | true=>rw[q] at h;cases h;rfl
  | false=>rw[q] at h;exact kr h
section
variable {X:Cx} {g:GG} {ε:EE}
theorem CA {e:Expr} {c f:Str} {C:Addr} {pos:Pos} {m:ME} (he:PE X e (tM X.K g ε m)) (hgc:g c=some C) (cr:Cy X.K C f) (hb:attributeBase e f X.env (eval e X.env)=eval e X.env:=by rfl):PE X (.Attribute e f pos) (tM X.K g ε (cUn (wH c f) m)):=by
 intro pins s σ H Q I ⟨α,env,h,sr,w⟩
 have A0:=he pins s σ H (fun v H1=>∃(p dx:Addr) (o od:Obj) (i:Int) (fs:List (Str × Int)),v=.ref p/\H1 p=some (AtO p o)/\o.cls=.ref C/\(∃vs,o.data=.fields vs)/\o.dict=some dx/\H1 dx=some (.frz od (.xd (fs.map fun x=>(x.1,V.int x.2))))/\fs.lookup f=some i/\Q (.int i) H1) I ⟨α,env,h,sr,w.bind.mono fun d h1 eq w1 v H1 α1 e1 hr1 r1=>by
  unfold wH at w1
  cases r1 with
  | exc hg hp hcl hda hfs=>
   rename_i c' C' p o fs
   dsimp only at w1
   by_cases hc:c'=c
   ·rw[if_pos hc] at w1
    subst hc
    rw[hgc] at hg;cases hg
    cases el:fs.lookup f with
    | none=>rw[el] at w1;exact w1.elim
    | some i=>
     rw[el] at w1
     rcases hfs with⟨_,rfl⟩ | ⟨dx,od,hd1,hd2⟩
     ·cases el
     ·exact⟨p,dx,o,od,i,fs,rfl,hp,hcl,hda,hd1,hd2,el,w1 (.int i) H1 α1 e1 hr1 (.int i)⟩
   ·rw[if_neg hc] at w1;exact w1.elim
  | _=>exact w1.elim⟩
 refine zZ hb (thn A0 fun u s1 ⟨v,H1,I1,rv,p,dx,o,od,i,fs,ev,hp,hcl,hda,hd1,hd2,el,q⟩=>?_)
 subst ev
 obtain rfl:u=Value.ref p:=rv
 obtain⟨ho,_⟩:=I1.hok p _ hp
 obtain⟨hod,mA,hns,rel⟩:=I1.hok dx _ hd2
 have rl:=rel f
 rw[kr el] at rl
 cases em:mA f with
 | none=>rw[em] at rl;exact rl.elim
 | some u=>
  rw[em] at rl
  obtain⟨t,rfl⟩:=rl
  exact PySem.W.A6 I1.kIn ho hcl hda hd1 hns.ns em cr.ga cr.gh cr.na cr.ov cr.hd rfl ⟨.int i,H1,I1.tok _,⟨t,rfl⟩,q⟩
end
end L2.FE
namespace L2
open PySem PySem.Spec PyProof.Rows PySem.W
noncomputable def CIs (K:PySem.W.Frag) (x:Str) (cst:Stmt) (fs:List Str):Prop:=∃C,nsIn K mainGlobals x=some (some (.ref C))/\Fe K x cst C fs/\∀f∈fs,Cy K C f
noncomputable def Et (K:PySem.W.Frag) (C fI:Addr) (fs:List Str):Bool:=yU K C fI&&typeIn K (.ref fI) == some (.type "function")&&findIn K (.ref C) "__setattr__" == some (some (.builtin "object.__setattr__"))&&kT K C&&hasDictIn K C&&
 findIn K (.ref C) "__getattribute__" == some (some (.builtin "BaseException.__getattribute__"))&&findIn K (.ref C) "__getattr__" == some none&&fs.all fun f=>takerIn K C f == some none&&findIn K (.ref C) f == some none
noncomputable def CIm (K:PySem.W.Frag) (mg:Str->Option Value) (x:Str) (cst:Stmt) (fs:List Str):Prop:=∃C,mg x=some (.ref C)/\Fe K x cst C fs/\∀f∈fs,Cy K C f
theorem CIm.of {K:PySem.W.Frag} {h:Heap} {mg:Str->Option Value} {x:Str} {cst:Stmt} {fs:List Str} (X:K.In h) (G:h.Ns mainGlobals mg) (c:CIs K x cst fs):CIm K mg x cst fs:=
 let ⟨C,a,b,d⟩:=c;⟨C,mg_of X G a,b,d⟩
end L2
namespace L2.FE
open PySem PySem.Spec PyProof.Rows
section
variable {X:Cx} {g:GG} {E:XK}
theorem pZ {ε:EE} {e:Expr} {c f:Str} {cst:Stmt} {fs:List Str} {pos:Pos} {m:ME} (he:PE X e (tM X.K g ε m)) (cm:CIm X.K X.mg c cst fs) (hgo:g=gOf X.mg) (hf:f∈fs) (hb:attributeBase e f X.env (eval e X.env)=eval e X.env:=by rfl):PE X (.Attribute e f pos) (tM X.K g ε (cUn (wH c f) m)):=by
 obtain⟨C,hm,_,cr⟩:=cm
 exact CA he (by rw[hgo];unfold gOf;rw[hm]) (cr f hf) hb
end
end L2.FE
namespace L2
open PySem PySem.Spec PyProof.Rows PySem.W
theorem uC {K:PySem.W.Frag} {x qual:Str} {cst:Stmt} {C fI:Addr} {fs:List Str} {oc:Value} {od an:Option Addr} {osl:Array (Option Value)} {kV doc pm cdv ct:Value} (a:nsIn K mainGlobals x=some (some (.ref C))) (_b:findIn K (.ref C) "__init__" = some (some (.ref fI)))
  (l:K.lookup fI=some ⟨oc,od,.func (fnOf "__init__" qual (d9 (cj cst)) (bJ (cj cst)) (au (cj cst)) .none kV doc pm an cdv ct),osl⟩) (c:codeIn K cdv qual=true) (k:keepIn K (.ref fI)=true) (o:Et K C fI fs=true)
  (sc:aM ("self" :: fs) ("self" :: fs) (au (cj cst))) (loc:∀y∈("self" : Str)::fs,(au (cj cst)).names.lookup y=some .local) (body:iq (bJ (cj cst)) fs)
  (bd:∀(kV doc pm:Value) (an:Option Addr) (cdv ct:Value) (us:List Value),us.length=(("self" : Str)::fs).length->bindArgs (fnOf "__init__" qual (d9 (cj cst)) (bJ (cj cst)) (au (cj cst)) .none kV doc pm an cdv ct) ⟨us,[]⟩=pure ((("self" : Str)::fs).zip us)) (ne:fs≠[]):CIs K x cst fs:=by
 unfold Et at o
 simp only[Bool.and_eq_true,beq_iff_eq,List.all_eq_true] at o
 obtain⟨⟨⟨⟨⟨⟨⟨o1,o2⟩,o3⟩,o4⟩,o5⟩,o6⟩,o7⟩,o8⟩:=o
 have F:Fun K "__init__" qual (cj cst) fI _:=xJ l c k
 exact⟨C,a,⟨⟨fI,_,qual,o1,F,F.binds bd,o2⟩,sc,loc,body,o3,o4,fun f hf=>(o8 f hf).1,o5,ne⟩,fun f hf=>⟨o6,o7,(o8 f hf).2,o4,o5⟩⟩
theorem ED {P:Program} {w:World} {H:Hp} {h':Heap} {a:Addr} {o:Obj} (e:h'.get? a=some o):bZ P w H h' a (FE.AtO a o):=⟨e,e,⟨o,e⟩,fun h1 h2 q k=>k o q⟩
end L2
namespace L2.Srt
open PySem PySem.W PyProof.Rows PySem.Calls
section
variable {prog:Program} {w:World} {A:Around} {E:Value->Shared->Prop} {s:Shared} {vs:List Value}
inductive Prs (h:Heap):List Value->List (Int × Int)->Prop
 | nil:Prs h [] []
 | cons {a:Addr} {o:Obj} {k:Nat} {t u:Tok} {x y:Int} {vs:List Value} {ps:List (Int × Int)}:h.get? a=some o->o.cls=.type "tuple" -> o.data=.seq #[.int x t,.int y u] k->Prs h vs ps->Prs h (.ref a::vs) ((x,y)::ps)
theorem Prs.len {h:Heap} {vs:List Value} {ps:List (Int × Int)} (r:Prs h vs ps):vs.length=ps.length:=by
 induction r with
 | nil=>rfl
 | cons _ _ _ _ ih=>simp[ih]
theorem Prs.at_ {h:Heap} {vs:List Value} {ps:List (Int × Int)} (r:Prs h vs ps):∀{i:Nat},i<ps.length->∃a o k t u,vs.getD i Value.none=.ref a/\h.get? a=some o/\o.data=.seq #[.int (ps.getD i (0,0)).1 t,.int (ps.getD i (0,0)).2 u] k:=by
 induction r with
 | nil=>intro i hi;simp at hi
 | @cons a o k t u x y vs ps ha hc hd r ih=>
  intro i hi
  cases i with
  | zero=>exact⟨a,o,k,t,u,rfl,ha,hd⟩
  | succ i=>
   obtain⟨a',o',k',t',u',e1,e2,e3⟩:=ih (i:=i) (by simpa using hi)
   exact⟨a',o',k',t',u',by simpa using e1,e2,by simpa using e3⟩
end
end L2.Srt
namespace L2
open PySem PySem.Spec PyProof.Rows L2.Srt
inductive PrV (K:PySem.W.Frag) (H:Hp):List V->List (Int × Int)->Prop
 | nil:PrV K H [] []
 | cons {a:Addr} {x y:Int} {xs:List V} {ps:List (Int × Int)}:SqT K H a [.int x,.int y]->PrV K H xs ps->PrV K H (.ref a::xs) ((x,y)::ps)
section
variable {X:Cx}
theorem PrV.len {K:PySem.W.Frag} {H:Hp} {xs:List V} {ps:List (Int × Int)} (r:PrV K H xs ps):xs.length=ps.length:=by
 induction r with
 | nil=>rfl
 | cons _ _ ih=>simp[ih]
end
end L2
namespace L2.FE
open PySem PySem.Spec PyProof.Rows
noncomputable def setOf (h:Hh) (n:Nat):Option (List Int):=match h[n]? with
 | some (.set ns)=>some ns
 | _=>none
section
variable {X:Cx} {g:GG} {ε:EE} {K:PySem.W.Frag}
theorem aW.set {α:List Addr} {H:Hp} {h:Hh} {n:Nat} {p:Addr} {ns:List Int} (r:aW K g α H h) (e:setOf h n=some ns) (hp:α[n]?=some p):H p=some (.set (fun k=>ns.any (· == k)) ns.length):=by
 unfold setOf at e
 cases eo:h[n]? with
 | none=>rw[eo] at e;cases e
 | some o=>
  rw[eo] at e
  cases o with
  | set k=>cases e;exact r.here n p _ hp eo
  | _=>cases e
end
noncomputable def BH (h:Hh) (n:Nat):Option (List (List Key × D)):=match h[n]? with
 | some (.dit kvs)=>some kvs
 | _=>none
noncomputable abbrev PDT (K:PySem.W.Frag) (g:GG) (α:List Addr) (H:Hp):List (List Key × D)->List (List Key × V)->Prop:=Paired (fun(a:List Key × D) (b:List Key × V)=>a.1=b.1/\aD K g α H a.2 b.2)
section
variable {K:PySem.W.Frag} {g:GG} {α:List Addr} {H:Hp} {h:Hh}
theorem aW.dit {n:Nat} {p:Addr} {kvs:List (List Key × D)} (r:aW K g α H h) (e:BH h n=some kvs) (hp:α[n]?=some p):∃kws,H p=some (.dT kws)/\PDT K g α H kvs kws:=by
 unfold BH at e
 cases eo:h[n]? with
 | none=>rw[eo] at e;cases e
 | some o=>
  rw[eo] at e
  cases o with
  | dit k=>cases e;exact r.here n p _ hp eo
  | _=>cases e
theorem PDT.ext {α':List Addr} {H':Hp} {kvs:List (List Key × D)} {kws:List (List Key × V)} (e:Ext K α H α' H') (r:PDT K g α H kvs kws):PDT K g α' H' kvs kws:=Paired.FA e.toEx0 r
theorem aF.dit {Q:VK} {kvs:List (List Key × D)} {kws:List (List Key × V)} {p:Addr} (w:aF K g α H Q (.ref h.length) (h++[.dit kvs])) (r:aW K g α H h) (rs:PDT K g α H kvs kws) (hp:H p=none):Q (.ref p) (upd H p (.dT kws)):=by
 have x:=Ext.push (K:=K) (α:=α) (o:=.dT kws) hp
 exact w _ _ _ x (r.push hp ⟨_,aQ,rs.ext x⟩) (.ref (by rw[<- r.len];simp))
end
end L2.FE
namespace L2
open PySem PySem.Spec PyProof.Rows
section
variable {prog:Program} {w:World} {A:Around} {R:Result->Shared->Prop} {s:Shared} {elt tg iter tg2 iter2:Expr} {scope:Scope} {pos:Pos} {it acc:Value} {env:Env}
noncomputable abbrev e2 (elt tg iter tg2 iter2:Expr) (scope:Scope) (pos:Pos):Expr:=.ListComp elt [⟨tg,iter,[],0⟩,⟨tg2,iter2,[],0⟩] scope pos
end
end L2
namespace L2.FE
open PySem PySem.Spec PyProof.Rows
variable {X:Cx} {g:GG}
theorem uY {K:PySem.W.Frag} {ε:EE} {mi:MI} {ix:List Nat} {tt:TT} {te:TE} {σ:St} {H:Hp} {Q:VK} (t:BP (tMI K g ε mi) ix tt te σ H Q):lq (tMI K g ε mi) 1 ix (fH 0) tt te σ H Q:=by
 obtain⟨α,env,h,s,w⟩:=t
 refine⟨α,env,h,s,w.mono fun sr h1 _ z J H' α' e hr rd acc ha=>?_⟩
 obtain⟨W,w0,st⟩:=z J H' α' e hr rd acc ha
 refine⟨W,w0,fun i m ys H1 hw=>(st i m ys H1 hw).imp id fun⟨a,b⟩=>⟨a,fun σ0 x H2 hc hy=>?_⟩⟩
 obtain⟨ts,tl,rfl⟩:=hc
 match ts,tl with
 | [t0],_=>exact⟨⟨[some x],rfl,rfl⟩,b x H2 hy⟩
theorem fD {nl:NL} [fQ nl] {elt iter:Expr} {x:Str} {px:Pos} {ifs:List Expr} {scope osc:Scope} {pos:Pos} {mi:MI} {tt:MT} {te:ME} (ix:List Nat) (N':List Str)
  (hxe:X.xe=fun _ _=>False) (hc:X.calm=true) (ho:X.env.scope=osc) (hN:N'=x::ix.map fun i=>(X.N[i]?).getD ("" : Str)) (hnd:N'.Nodup)
  (hall:(∀y∈scope.names,y.2=.free->osc.names.lookup y.1=some .cell)/\(∀y∈scope.names,y.2≠.cell)/\scope.kind=.function/\(∀y∈scope.names,y.2=.local->scope.names.lookup y.1=some .local)/\scope.names.lookup x=some .local/\(∀y∈N'.tail,scope.names.lookup y=some .free))
  (hi:PI X (.Name x px) iter (tMI X.K g E00 mi))
  (ht:∀cl C aJ aO fp,PTs (bF X scope cl C aJ aO fp N') ifs (tMT X.K g E00 tt))
  (he:∀cl C aJ aO fp,PE (bF X scope cl C aJ aO fp N') elt (tM X.K g E00 te))
  (hs:∀x,foldedSetIterable iter X.env x=pure x:=by intro _;rfl) :
  PE X (.ListComp elt [⟨.Name x px,iter,ifs,0⟩] scope pos) (tM X.K g E00 (dh nl mi ix tt te)):=by
 refine PE.imp (PE.frz (rZ (tgr:=fH 0) ix [x] N' hxe hc ho hN hnd ⟨hall.1,hall.2.1,hall.2.2.1,hall.2.2.2.1,fun y hy=>hall.2.2.2.2.2 y (by rw[hN] at hy ⊢;exact hy)⟩ hi (fun cl C aJ aO fp=>dA (X:=bF X scope cl C aJ aO fp N') hnd (show N'[0]?=some x by rw[hN];rfl) (.inl (lookup_relabel_local hall.2.2.2.2.1)) (.inr (lookup_relabel_local hall.2.2.2.2.1))) ht he hs)) fun σ H Q t=>?_
 exact uY (rC (fun _ _ z=>z) t)
theorem tN {nl:NL} [fQ nl] {elt iter:Expr} {x z:Str} {px pz:Pos} {ifs:List Expr} {scope osc:Scope} {pos spos:Pos} {mi:MI} {tt:MT} {te:ME} {i:Nat} (ix:List Nat) (N':List Str)
  (hxe:X.xe=fun _ _=>False) (hc:X.calm=true) (ho:X.env.scope=osc) (hN:N'=x::ix.map fun i=>(X.N[i]?).getD ("" : Str)) (hnd:N'.Nodup)
  (hall:(∀y∈scope.names,y.2=.free->osc.names.lookup y.1=some .cell)/\(∀y∈scope.names,y.2≠.cell)/\scope.kind=.function/\(∀y∈scope.names,y.2=.local->scope.names.lookup y.1=some .local)/\scope.names.lookup x=some .local/\(∀y∈N'.tail,scope.names.lookup y=some .free))
  (hi:PI X (.Name x px) iter (tMI X.K g E00 mi))
  (ht:∀cl C aJ aO fp,PTs (bF X scope cl C aJ aO fp N') ifs (tMT X.K g E00 tt))
  (he:∀cl C aJ aO fp,PE (bF X scope cl C aJ aO fp N') elt (tM X.K g E00 te))
  (hNN:X.N.Nodup) (hz:X.N[i]?=some z) (hl:X.env.scope.names.lookup z=some .local:=by rfl)
  (hsw:swapsWith (.ListComp elt [⟨.Name x px,iter,ifs,0⟩] scope pos) (some (.Name z pz)) spos.line X.env=pure true:=by rfl)
  (hs:∀x,foldedSetIterable iter X.env x=pure x:=by intro _;rfl) :
  PS X (.Assign [.Name z pz] (.ListComp elt [⟨.Name x px,iter,ifs,0⟩] scope pos) spos) (tMS X.K g E00 (bh i (dh nl mi ix tt te))):=by
 refine PS.imp (PS.frz (sv (tgr:=fH 0) ix [x] N' hxe hc ho hN hnd ⟨hall.1,hall.2.1,hall.2.2.1,hall.2.2.2.1,fun y hy=>hall.2.2.2.2.2 y (by rw[hN] at hy ⊢;exact hy)⟩ hi (fun cl C aJ aO fp=>dA (X:=bF X scope cl C aJ aO fp N') hnd (show N'[0]?=some x by rw[hN];rfl) (.inl (lookup_relabel_local hall.2.2.2.2.1)) (.inr (lookup_relabel_local hall.2.2.2.2.1))) ht he hNN hz hl hsw hs)) fun E σ H ⟨α,env,h,s,w⟩=>uY (rC (nl:=nl) (Q:=fun v H1=>E.nx (σ.set i (some v)) H1) (fun v H1 z=>zR z) (tM.use s w.bind fun d1 h1 v1 H1 α1 e1 s1 r1 w1=>(show cy X.K g α H E (.nx (env.set i (some d1))) h1 from w1) H1 α1 e1 s1.heap _ (s1.vs.set r1)))
end L2.FE
namespace L2.ST
open PySem
noncomputable abbrev Asc (l:List Nat):Prop:=l.Pairwise (· < ·)
theorem getD_at {xs:Array Nat} {i d:Nat} (h:i<xs.size):xs.getD i d=xs.toList[i]'(by simpa using h):=by
 simp[Array.getD,h]
theorem lu (xs:Array Nat) (j:Nat) (so:Asc xs.toList):∀(f lo hi:Nat),lo<=hi->hi<=xs.size->hi - lo<=f->(∀i (h:i<xs.toList.length),i<lo->xs.toList[i]<j)->(∀i (h:i<xs.toList.length),hi<=i->j<=xs.toList[i]) →
  ∃r,SetTable.below.go xs j f lo hi=r/\r<=xs.size/\(∀i (h:i<xs.toList.length),i<r->xs.toList[i]<j)/\(∀i (h:i<xs.toList.length),r<=i->j<=xs.toList[i])
 | 0,lo,hi,h1,h2,hf,a,b=>⟨lo,rfl,by omega,a,fun i h hi'=>b i h (by omega)⟩
 | f+1,lo,hi,h1,h2,hf,a,b=>by
  unfold SetTable.below.go
  by_cases c:lo<hi
  ·rw[if_pos c]
   dsimp only
   have hm:(lo+hi) / 2<xs.size:=by omega
   have hm':(lo+hi) / 2<xs.toList.length:=by simpa using hm
   rw[getD_at hm]
   by_cases d:xs.toList[(lo+hi) / 2]<j
   ·rw[if_pos d]
    refine lu xs j so f _ hi (by omega) h2 (by omega) (fun i h hi'=>?_) b
    rcases Nat.lt_or_ge i ((lo+hi) / 2) with e | e
    ·have:=List.pairwise_iff_getElem.mp so i ((lo+hi) / 2) h hm' e
     omega
    ·have:i=(lo+hi) / 2:=by omega
     subst this;exact d
   ·rw[if_neg d]
    refine lu xs j so f lo _ (by omega) (by omega) (by omega) a (fun i h hi'=>?_)
    rcases Nat.lt_or_ge ((lo+hi) / 2) i with e | e
    ·have:=List.pairwise_iff_getElem.mp so ((lo+hi) / 2) i hm' h e
     omega
    ·have:i=(lo+hi) / 2:=by omega
     subst this;omega
  ·rw[if_neg c]
   exact⟨lo,rfl,by omega,a,fun i h hi'=>b i h (by omega)⟩
theorem i6 {xs:Array Nat} (j:Nat) (so:Asc xs.toList):∃r,SetTable.below xs j=r/\r<=xs.size/\(∀i (h:i<xs.toList.length),i<r->xs.toList[i]<j)/\(∀i (h:i<xs.toList.length),r<=i->j<=xs.toList[i]):=by
 unfold SetTable.below
 exact lu xs j so xs.size 0 xs.size (by omega) (Nat.le_refl _) (by omega) (fun i h hi=>by omega) (fun i h hi=>by simp at h;omega)
theorem ie {α:Type} (xs:Array α) (p:Nat) (x:α) (hp:p<=xs.size):(SetTable.insertAt xs p x).toList=xs.toList.take p++x::xs.toList.drop p:=by
 unfold SetTable.insertAt
 simp[Array.toList_extract,List.extract_eq_drop_take]
 rw[List.take_of_length_le (by simp)]
theorem tD {xs:Array Nat} {j:Nat} (so:Asc xs.toList) (hj:j∉xs.toList):Asc (SetTable.insertAt xs (SetTable.below xs j) j).toList:=by
 obtain⟨r,e,hr,a,b⟩:=i6 j so
 rw[e,ie _ _ _ hr]
 have s1:Asc (xs.toList.take r):=so.sublist (List.take_sublist _ _)
 have s2:Asc (xs.toList.drop r):=so.sublist (List.drop_sublist _ _)
 refine List.pairwise_append.mpr ⟨s1,List.pairwise_cons.mpr ⟨fun y hy=>?_,s2⟩,fun x hx y hy=>?_⟩
 ·obtain⟨i,hi,rfl⟩:=List.getElem_of_mem hy
  rw[List.getElem_drop]
  rw[List.length_drop] at hi
  have h1:=b (r+i) (by omega) (by omega)
  have h2:j≠xs.toList[r+i]:=fun z=>hj (z ▸ List.getElem_mem _)
  omega
 ·obtain⟨i,hi,rfl⟩:=List.getElem_of_mem hx
  rw[List.length_take] at hi
  have h1:=a i (by omega) (by omega)
  rw[List.getElem_take]
  rcases List.mem_cons.mp hy with rfl | hy
  ·exact h1
  ·obtain⟨k,hk,rfl⟩:=List.getElem_of_mem hy
   rw[List.length_drop] at hk
   rw[List.getElem_drop]
   have:=b (r+k) (by omega) (by omega)
   omega
noncomputable def okM (m:Nat):Prop:=m=7\/m=31\/m=127\/m=511
noncomputable def itr (m:Nat):Nat->Nat->Nat
 | 0,i=>i
 | b+1,i=>itr m b ((i*5+1) % (m+1))
theorem kN (m:Nat):∀a b i,itr m (a+b) i=itr m b (itr m a i)
 | 0,b,i=>by rw[Nat.zero_add];rfl
 | a+1,b,i=>by rw[show a+1+b=(a+b)+1 by omega];exact kN m a b _
noncomputable def Dr (m:Nat):Nat->Nat->List Nat
 | 0,_=>[]
 | b+1,i=>i::Dr m b ((i*5+1) % (m+1))
theorem ui (m:Nat):∀b i e,e∈Dr m b i->∃c,c<b/\itr m c i=e
 | 0,i,e,h=>by cases h
 | b+1,i,e,h=>by
  rcases List.mem_cons.mp h with rfl | h
  ·exact⟨0,by omega,rfl⟩
  ·obtain⟨c,h1,h2⟩:=ui m b _ e h
   exact⟨c+1,by omega,h2⟩
noncomputable def ckO (m:Nat):Bool:=(List.range (m+1)).all (fun e=>(Dr m (m+1) 0).contains e)&&(itr m (m+1) 0 == 0)
theorem ck7:ckO 7=true:=by decide +kernel
theorem GU:ckO 31=true:=by decide +kernel
theorem Fw:ckO 127=true:=by decide +kernel
theorem Fv:ckO 511=true:=by decide +kernel
theorem Ft {m:Nat} (h:okM m):ckO m=true:=by
 rcases h with rfl | rfl | rfl | rfl
 ·exact ck7
 ·exact GU
 ·exact Fw
 ·exact Fv
theorem D3 {m i e:Nat} (h:okM m) (hi:i<=m) (he:e<=m):∃b,b<=m/\itr m b i=e:=by
 have q:=Ft h
 unfold ckO at q
 rw[Bool.and_eq_true,List.all_eq_true,beq_iff_eq] at q
 obtain⟨q1,q2⟩:=q
 have get:∀x,x<=m->∃c,c<m+1/\itr m c 0=x:=fun x hx=>ui m _ _ _ (by simpa using q1 x (List.mem_range.mpr (by omega)))
 obtain⟨a,ha,ea⟩:=get i hi
 obtain⟨b,hb,eb⟩:=get e he
 rcases Nat.lt_or_ge b a with c | c
 ·refine⟨m+1 - a+b,by omega,?_⟩
  rw[kN,show itr m (m+1 - a) i=0 by rw[<- ea,<- kN,show a+(m+1 - a)=m+1 by omega,q2],eb]
 ·refine⟨b - a,by omega,?_⟩
  rw[<- ea,<- kN,show a+(b - a)=b by omega,eb]
noncomputable def blk (m:Nat):Nat->Nat->Nat->Nat × Nat
 | 0,i,p=>(i,p)
 | b+1,i,p=>blk m b (SetTable.leap m i p).1 (SetTable.leap m i p).2
theorem DS (m:Nat):∀b i,(blk m b i 0).1=itr m b i
 | 0,i=>rfl
 | b+1,i=>by
  show(blk m b ((i*5+1+0 / 32) % (m+1)) (0 / 32)).1=_
  rw[Nat.zero_div,Nat.add_zero,DS m b];rfl
theorem reach {m e:Nat} (h:okM m) (he:e<=m):∀c i p,p<32 ^ c->i<=m->∃b,b<=m+c/\(blk m b i p).1=e
 | 0,i,p,hp,hi=>by
  have:p=0:=by simpa using hp
  subst this
  obtain⟨b,h1,h2⟩:=D3 h hi he
  exact⟨b,by omega,by rw[DS,h2]⟩
 | c+1,i,p,hp,hi=>by
  have h1:p / 32<32 ^ c:=by rw[Nat.div_lt_iff_lt_mul (by decide)];rw[Nat.pow_succ] at hp;exact hp
  have h2:(i*5+1+p / 32) % (m+1)<=m:=Nat.le_of_lt_succ (Nat.mod_lt _ (by omega))
  obtain⟨b,h3,h4⟩:=reach h he c ((i*5+1+p / 32) % (m+1)) (p / 32) h1 h2
  exact⟨b+1,by omega,h4⟩
theorem t9 (h:Int):SetTable.bits h<32 ^ 13:=by
 unfold SetTable.bits
 have h1:=Int.emod_lt_of_pos h (show(0:Int)<2 ^ 64 by decide)
 have h2:=Int.emod_nonneg h (show(2 ^ 64:Int)≠0 by decide)
 have:((2:Int) ^ 64)=((2 ^ 64:Nat):Int):=by norm_cast
 have:(h % 2 ^ 64).toNat<2 ^ 64:=by omega
 exact Nat.lt_trans this (by decide)
structure Tb (t:SetTable):Prop where
 m:okM t.mask
 so:Asc t.place.toList
 le:∀x∈t.place.toList,x<=t.mask
 du:t.dummies = #[]
 sz:t.place.size<=t.mask
theorem ug (j:Nat):SetTable.has #[] j=false:=by
 unfold SetTable.has;simp
theorem AH {t:SetTable} (T:Tb t) {j:Nat} (hj:j∈t.place.toList):∃i,t.slot j=.live i/\i<t.place.size:=by
 obtain⟨r,e,hr,a,b⟩:=i6 j T.so
 obtain⟨i,hi,ei⟩:=List.getElem_of_mem hj
 have h1:r<=i:=by
  rcases Nat.lt_or_ge i r with c | c
  ·have:=a i hi c;omega
  ·exact c
 have h2:i<=r:=by
  rcases Nat.lt_or_ge r i with c | c
  ·have q:=b r (by omega) (Nat.le_refl _)
   have:=List.pairwise_iff_getElem.mp T.so r i (by omega) hi c
   omega
  ·exact c
 have:i=r:=by omega
 subst this
 refine⟨i,?_,by simpa using hi⟩
 unfold SetTable.slot
 rw[e]
 have:t.place[i]?=some j:=by rw[<- Array.getElem?_toList,List.getElem?_eq_getElem hi,ei]
 simp[this]
theorem rX {t:SetTable} (T:Tb t) {j:Nat} (hj:j∉t.place.toList):t.slot j=.empty:=by
 unfold SetTable.slot
 have:(t.place[SetTable.below t.place j]? == some j)=false:=by
  cases e:t.place[SetTable.below t.place j]? with
  | none=>rfl
  | some x=>
   have:x∈t.place.toList:=by rw[<- Array.getElem?_toList] at e;exact List.mem_of_getElem? e
   have ne:x≠j:=fun z=>hj (z ▸ this)
   simpa using ne
 simp[this,T.du,ug]
theorem tY {t:SetTable} (T:Tb t) (j:Nat):(t.slot j=.empty/\j∉t.place.toList)\/∃i,t.slot j=.live i/\i<t.place.size:=by
 by_cases h:j∈t.place.toList
 ·exact .inr (AH T h)
 ·exact .inl ⟨rX T h,h⟩
theorem yd:∀{l l':List Nat},l.Nodup->(∀x∈l,x∈l')->l.length<=l'.length
 | [],_,_,_=>Nat.zero_le _
 | x::l,l',nd,s=>by
  obtain⟨n1,n2⟩:=List.nodup_cons.mp nd
  have:=yd (l':=l'.erase x) n2 fun y hy=>(List.mem_erase_of_ne (fun z:y=x=>n1 (z ▸ hy))).mpr (s y (List.mem_cons_of_mem _ hy))
  have q:=s x List.mem_cons_self
  rw[List.length_erase_of_mem q] at this
  have:=List.length_pos_of_mem q
  rw[List.length_cons];omega
theorem tO {t:SetTable} (T:Tb t):∃e,e<=t.mask/\t.slot e=.empty:=by
 by_cases c:∃e,e<=t.mask/\e∉t.place.toList
 ·obtain⟨e,h1,h2⟩:=c
  exact⟨e,h1,rX T h2⟩
 ·exfalso
  have all:∀e,e<=t.mask->e∈t.place.toList:=fun e he=>Classical.byContradiction fun z=>c ⟨e,he,z⟩
  have q:=yd (l:=List.range (t.mask+1)) (l':=t.place.toList) List.nodup_range fun x hx=>all x (by have:=List.mem_range.mp hx;omega)
  rw[List.length_range,Array.length_toList] at q
  have:=T.sz
  omega
noncomputable def adv (t:SetTable):Nat->SetTable.Probe->SetTable.Probe
 | 0,q=>q
 | k+1,q=>adv t k (t.advance q)
theorem ub (t:SetTable):∀a b q,adv t (a+b) q=adv t b (adv t a q)
 | 0,b,q=>by rw[Nat.zero_add];rfl
 | a+1,b,q=>by rw[show a+1+b=(a+b)+1 by omega];exact ub t a b _
noncomputable abbrev pAt (t:SetTable) (i p:Nat):SetTable.Probe:={ j:=i,more:=SetTable.runEnd t.mask i - i,i:=i,perturb:=p,dummy:=none }
theorem uO (t:SetTable):∀c (q:SetTable.Probe),q.more=c->q.dummy=none->adv t (c+1) q=pAt t (SetTable.leap t.mask q.i q.perturb).1 (SetTable.leap t.mask q.i q.perturb).2
 | 0,q,h,hd=>by
  show t.advance q=_
  unfold SetTable.advance
  rw[if_neg (by omega)]
  obtain⟨j,mo,i,p,d⟩:=q
  subst hd
  rfl
 | c+1,q,h,hd=>by
  show adv t (c+1) (t.advance q)=_
  have e:t.advance q={ q with j:=q.j+1,more:=q.more - 1 }:=by unfold SetTable.advance;rw[if_pos (by omega)]
  rw[e];exact uO t c _ (by show q.more - 1=c;omega) hd
theorem Du (m i:Nat):SetTable.runEnd m i - i<=9:=by unfold SetTable.runEnd;split<;>omega
theorem uF (t:SetTable):∀b i p,∃k,k<=10*b/\adv t k (pAt t i p)=pAt t (blk t.mask b i p).1 (blk t.mask b i p).2
 | 0,i,p=>⟨0,by omega,rfl⟩
 | b+1,i,p=>by
  obtain⟨k,h1,h2⟩:=uF t b (SetTable.leap t.mask i p).1 (SetTable.leap t.mask i p).2
  refine⟨SetTable.runEnd t.mask i - i+1+k,by have:=Du t.mask i;omega,?_⟩
  rw[ub,uO t _ (pAt t i p) rfl rfl,h2]
  rfl
theorem xt (t:SetTable) (h:Int):(t.probeStart h).j+(t.probeStart h).more<=t.mask:=by
 show SetTable.bits h % (t.mask+1)+(SetTable.runEnd t.mask (SetTable.bits h % (t.mask+1)) - SetTable.bits h % (t.mask+1))<=_
 have:SetTable.bits h % (t.mask+1)<=t.mask:=Nat.le_of_lt_succ (Nat.mod_lt _ (by omega))
 unfold SetTable.runEnd
 split<;>omega
theorem BV {t:SetTable} (q:SetTable.Probe) (h:q.j+q.more<=t.mask):(t.advance q).j+(t.advance q).more<=t.mask:=by
 unfold SetTable.advance
 split
 ·show q.j+1+(q.more - 1)<=_;omega
 ·show(SetTable.leap t.mask q.i q.perturb).1+(SetTable.runEnd t.mask (SetTable.leap t.mask q.i q.perturb).1 - (SetTable.leap t.mask q.i q.perturb).1)<=t.mask
  have:(SetTable.leap t.mask q.i q.perturb).1<=t.mask:=Nat.le_of_lt_succ (Nat.mod_lt _ (by omega))
  unfold SetTable.runEnd
  split<;>omega
noncomputable def Rch (t:SetTable) (k:Nat) (q:SetTable.Probe):Prop:=q.dummy=none/\q.j+q.more<=t.mask/\t.slot (adv t k q).j=.empty
theorem wQ {t:SetTable} (T:Tb t) (h:Int):∃k,k+1<10*SetTable.turns t.mask/\Rch t k (t.probeStart h):=by
 obtain⟨e,he,ee⟩:=tO T
 obtain⟨b,h1,h2⟩:=reach T.m he 13 (SetTable.bits h % (t.mask+1)) (SetTable.bits h) (t9 h) (Nat.le_of_lt_succ (Nat.mod_lt _ (by omega)))
 obtain⟨k,h3,h4⟩:=uF t b (SetTable.bits h % (t.mask+1)) (SetTable.bits h)
 refine⟨k,by unfold SetTable.turns;omega,rfl,xt t h,?_⟩
 show t.slot (adv t k (pAt t (SetTable.bits h % (t.mask+1)) (SetTable.bits h))).j=.empty
 rw[h4]
 show t.slot (blk t.mask b (SetTable.bits h % (t.mask+1)) (SetTable.bits h)).1=.empty
 rw[h2,ee]
theorem vN (t:SetTable) (q:SetTable.Probe):(t.advance q).dummy=q.dummy:=by unfold SetTable.advance;split<;>rfl
theorem yc {t:SetTable} (T:Tb t) (ha:Nat->Int) (h:Int):∀k fuel q,k<fuel->Rch t k q →
  (∃j,SetTable.probe.go t ha h fuel q=some (.empty j none)/\j∉t.place.toList/\j<=t.mask)\/(∃j i k' q',SetTable.probe.go t ha h fuel q=some (.candidate j i q')/\t.slot j=.live i/\i<t.place.size/\ha i=h/\k'<k/\Rch t k' q')
 | k,0,q,hf,_=>by omega
 | k,f+1,q,hf,R=>by
  unfold SetTable.probe.go
  rcases tY T q.j with⟨e,hn⟩ | ⟨i,e,hi⟩
  ·rw[e]
   exact .inl ⟨q.j,by show some (SetTable.Met.empty q.j q.dummy)=_;rw[R.1],hn,by have:=R.2.1;omega⟩
  ·rw[e]
   cases k with
   | zero=>have:=R.2.2;rw[show adv t 0 q=q from rfl,e] at this;cases this
   | succ k=>
    have R':Rch t k (t.advance q):=⟨by rw[vN];exact R.1,BV q R.2.1,R.2.2⟩
    by_cases c:(ha i == h)=true
    ·refine .inr ⟨q.j,i,k,t.advance q,?_,e,hi,by simpa using c,by omega,R'⟩
     show(if (ha i == h)=true then _ else _)=_
     rw[if_pos c]
    ·show(∃j,(if (ha i == h)=true then _ else _)=_/\_)\/(∃j i' k' q',(if (ha i == h)=true then _ else _)=_/\_)
     rw[if_neg c]
     rcases yc T ha h k f (t.advance q) (by omega) R' with⟨j,h1,h2,h3⟩ | ⟨j,i',k',q',h1,h2,h3,h4,h5,h6⟩
     ·exact .inl ⟨j,h1,h2,h3⟩
     ·exact .inr ⟨j,i',k',q',h1,h2,h3,h4,by omega,h6⟩
theorem zX {t:SetTable} (T:Tb t) (h:Int):∃j,t.freeSlot h=some (j,false)/\j<=t.mask/\j∉t.place.toList:=by
 obtain⟨k,h1,R⟩:=wQ T h
 unfold SetTable.freeSlot SetTable.probe
 rcases yc T (fun _=>h+1) h k (10*SetTable.turns t.mask) _ (by omega) R with⟨j,e,hn,hj⟩ | ⟨j,i,k',q',e,_,_,z,_⟩
 ·rw[e]
  exact⟨j,rfl,hj,hn⟩
 ·exfalso;omega
theorem rD {m:Nat} (owner:Array (Option Nat)) {e:Nat} (he:(owner.getD e (some 0)).isNone=true):∀b fuel i p,b<fuel->(blk m b i p).1=e →
  ∃j,SetTable.layClean.free m owner fuel i p=some j/\(owner.getD j (some 0)).isNone=true
 | b,0,i,p,h,_=>by omega
 | b,f+1,i,p,h,hb=>by
  unfold SetTable.layClean.free
  cases c:(List.range (SetTable.runEnd m i+1 - i)).find? fun k=>(owner.getD (i+k) (some 0)).isNone with
  | some k=>exact⟨i+k,rfl,by simpa using List.find?_some c⟩
  | none=>
   cases b with
   | zero=>
    exfalso
    have hr:SetTable.runEnd m i ≥ i:=by unfold SetTable.runEnd;split<;>omega
    have:=List.find?_eq_none.mp c 0 (List.mem_range.mpr (by omega))
    rw[show i+0=e from hb] at this
    exact this he
   | succ b=>exact rD owner he b f _ _ (by omega) hb
noncomputable def gS (l:List (Option Nat)):List Nat:=l.filterMap id
theorem rm:∀{l:List (Option Nat)},(gS l).length<l.length->∃j:Nat,l[j]?=some none
 | [],h=>by simp[gS] at h
 | none::l,_=>⟨0,rfl⟩
 | some x::l,h=>by
  obtain⟨j,e⟩:=rm (l:=l) (by simp[gS] at h ⊢;omega)
  exact⟨j+1,e⟩
theorem oJ {k:Nat}:∀{l:List (Option Nat)} {j:Nat},l[j]?=some none->(gS (l.set j (some k))).Perm (k::gS l)
 | none::l,0,_=>by simp[gS]
 | some x::l,0,h=>by cases h
 | none::l,j+1,h=>by simpa [gS] using oJ (l:=l) h
 | some x::l,j+1,h=>by
  have:=oJ (k:=k) (l:=l) h
  simp only[gS,List.set_cons_succ,List.filterMap_cons,id] at this ⊢
  exact(this.cons x).trans (.swap _ _ _)
noncomputable def kM (m:Nat) (acc:Option (Array (Option Nat) × Nat)) (h:Int):Option (Array (Option Nat) × Nat):=do
 let (owner,k) ← acc
 let j ← SetTable.layClean.free m owner (SetTable.turns m) (SetTable.bits h % (m+1)) (SetTable.bits h)
 pure (owner.setIfInBounds j (some k),k+1)
theorem se {m:Nat} (hm:okM m):∀(hs:List Int) (owner:Array (Option Nat)) (k:Nat),owner.size=m+1->(gS owner.toList).Perm (List.range k)->k+hs.length<=m+1 →
  ∃owner',hs.foldl (kM m) (some (owner,k))=some (owner',k+hs.length)/\owner'.size=m+1/\(gS owner'.toList).Perm (List.range (k+hs.length))
 | [],owner,k,hs,hp,_=>⟨owner,rfl,hs,hp⟩
 | h::r,owner,k,hs,hp,hk=>by
  rw[List.length_cons] at hk
  have hl:(gS owner.toList).length<owner.toList.length:=by rw[hp.length_eq,List.length_range,Array.length_toList];omega
  obtain⟨e,ee⟩:=rm hl
  rw[Array.getElem?_toList] at ee
  have he:(owner.getD e (some 0)).isNone=true:=by simp[Array.getD_eq_getD_getElem?,ee]
  have hle:e<=m:=by have:=(Array.getElem?_eq_some_iff.mp ee).1;omega
  obtain⟨b,h1,h2⟩:=reach hm hle 13 (SetTable.bits h % (m+1)) (SetTable.bits h) (t9 h) (Nat.le_of_lt_succ (Nat.mod_lt _ (by omega)))
  obtain⟨j,h3,h4⟩:=rD (m:=m) owner he b (SetTable.turns m) _ _ (by unfold SetTable.turns;omega) h2
  have hj:owner[j]?=some none:=by
   rw[Array.getD_eq_getD_getElem?] at h4
   cases c:owner[j]? with
   | none=>rw[c] at h4;simp at h4
   | some x=>rw[c] at h4;simp at h4;rw[h4]
  have hp2:(gS (owner.setIfInBounds j (some k)).toList).Perm (List.range (k+1)):=by
   rw[Array.toList_setIfInBounds]
   refine(oJ (by rw[Array.getElem?_toList];exact hj)).trans ((hp.cons k).trans ?_)
   rw[List.range_succ]
   exact(List.perm_append_singleton k (List.range k)).symm
  obtain⟨o',q1,q2,q3⟩:=se hm r (owner.setIfInBounds j (some k)) (k+1) (by simpa using hs) hp2 (by omega)
  refine⟨o',?_,q2,?_⟩
  ·rw[List.foldl_cons,show kM m (some (owner,k)) h=some (owner.setIfInBounds j (some k),k+1) by unfold kM;simp[h3],q1,List.length_cons]
   congr 2;omega
  ·rw[List.length_cons,show k+(r.length+1)=k+1+r.length by omega];exact q3
theorem DF {m:Nat} (hm:okM m) (hs:Array Int) (hl:hs.size<=m+1):∃owner,SetTable.layClean m hs=some owner/\owner.size=m+1/\(gS owner.toList).Perm (List.range hs.size):=by
 obtain⟨o',q1,q2,q3⟩:=se hm hs.toList (Array.replicate (m+1) none) 0 (by simp) (by simp[gS]) (by rw[Array.length_toList];omega)
 refine⟨o',?_,q2,by rw[Nat.zero_add,Array.length_toList] at q3;exact q3⟩
 show(hs.foldl (kM m) (some (Array.replicate (m+1) none,0))).map (·.1)=_
 rw[<- Array.foldl_toList,q1];rfl
theorem jr (g:Nat->Option Nat):∀l:List Nat,(l.filterMap fun j=>(g j).map (j,·)).map (·.1)=l.filter fun j=>(g j).isSome
 | []=>rfl
 | j::l=>by
  rw[List.filterMap_cons,List.filter_cons]
  cases e:g j with
  | none=>simpa [e] using jr g l
  | some x=>simpa [e] using jr g l
theorem iY (g:Nat->Option Nat):∀l:List Nat,(l.filterMap fun j=>(g j).map (j,·)).map (·.2)=l.filterMap g
 | []=>rfl
 | j::l=>by
  rw[List.filterMap_cons,List.filterMap_cons]
  cases e:g j with
  | none=>simpa [e] using iY g l
  | some x=>simpa [e] using iY g l
theorem ou (o:Array (Option Nat)):(List.range o.size).filterMap (fun j=>o.getD j none)=gS o.toList:=by
 have e:(List.range o.size).map (fun j=>o.getD j none)=o.toList:=by
  apply List.ext_getElem
  ·simp
  ·intro i h1 h2
   simp at h1
   simp[Array.getD,h1]
 rw[gS,<- e,List.filterMap_map];rfl
theorem Bm {m f mv:Nat} {ld pl:Bool} (hm:okM m) (hs:Array Int) (hl:hs.size<=m):∃t order,SetTable.laid m f mv ld pl hs=some (t,order)/\Tb t/\t.mask=m/\t.led=ld/\t.plain=pl/\t.place.size=hs.size/\order.toList.Perm (List.range hs.size):=by
 obtain⟨o,q1,q2,q3⟩:=DF hm hs (by omega)
 refine⟨{ mask:=m,place:=((List.range (m+1)).filter fun j=>(o.getD j none).isSome).toArray,dummies:=#[],finger:=f,led:=ld,moves:=mv,plain:=pl },(gS o.toList).toArray,?_,?_⟩
 ·unfold SetTable.laid
  rw[q1]
  show some _=some _
  congr 2
  ·congr 2
   exact jr (fun j=>o.getD j none) _
  ·rw[iY (fun j=>o.getD j none),<- q2,ou]
 ·have len:((List.range (m+1)).filter fun j=>(o.getD j none).isSome).length=hs.size:=by
   rw[<- jr,List.length_map,<- List.length_map (f:=(·.2)),iY,<- q2,ou,q3.length_eq,List.length_range]
  refine⟨⟨hm,?_,?_,rfl,?_⟩,rfl,rfl,rfl,?_,?_⟩
  ·show Asc (List.toArray _).toList
   exact List.Pairwise.filter _ List.pairwise_lt_range
  ·intro x hx
   have:=List.mem_range.mp (List.mem_filter.mp hx).1
   show x<=m;omega
  ·show(List.toArray _).size<=m
   rw[List.size_toArray,len];exact hl
  ·show(List.toArray _).size=_
   rw[List.size_toArray,len]
  ·exact q3
theorem CQ {t:SetTable} (T:Tb t) {j:Nat} (hj:j∉t.place.toList) (hm:j<=t.mask) (hs:t.place.size+1<=t.mask):Tb (t.put j).1/\(t.put j).1.mask=t.mask/\(t.put j).1.led=t.led/\(t.put j).1.plain=t.plain/\(t.put j).1.place.size=t.place.size+1/\(t.put j).2<=t.place.size:=by
 obtain⟨r,e,hr,_⟩:=i6 j T.so
 have il:=ie t.place r j hr
 have sz:(SetTable.insertAt t.place (SetTable.below t.place j) j).size=t.place.size+1:=by
  rw[e,<- Array.length_toList,il,List.length_append,List.length_cons,List.length_take,List.length_drop,Array.length_toList];omega
 have du:(t.put j).1.dummies = #[]:=by
  show(if SetTable.has t.dummies j=true then _ else t.dummies)=_
  rw[T.du,ug];rfl
 refine⟨⟨T.m,tD T.so hj,?_,du,?_⟩,rfl,rfl,rfl,sz,by show SetTable.below t.place j<=_;rw[e];exact hr⟩
 ·intro x hx
  have hx:x∈(SetTable.insertAt t.place (SetTable.below t.place j) j).toList:=hx
  rw[e,il] at hx
  show x<=t.mask
  rcases List.mem_append.mp hx with h | h
  ·exact T.le x (List.mem_of_mem_take h)
  ·rcases List.mem_cons.mp h with rfl | h
   ·exact hm
   ·exact T.le x (List.mem_of_mem_drop h)
 ·show(SetTable.insertAt t.place (SetTable.below t.place j) j).size<=t.mask
  rw[sz];exact hs
structure Gd (bt:Bool) (t:SetTable) (n:Nat):Prop where
 tb:Tb t
 sz:t.place.size=n
 led:t.led = !bt
 pl:t.plain=true
 rng:(t.mask=7/\n<=4)\/(t.mask=31/\5<=n/\n<=18)\/(t.mask=127/\19<=n/\n<=76)\/(t.mask=511/\77<=n/\n<=306)
theorem Gd.fits {bt:Bool} {t:SetTable} {n:Nat} (g:Gd bt t n):t.fits n=true:=by
 unfold SetTable.fits SetTable.fill
 rw[g.sz,g.tb.du]
 have:=g.tb.sz
 rw[g.sz] at this
 simp;exact this
theorem Dd (bt:Bool):Gd bt (.fresh 0 0 (!bt)) 0:=⟨⟨.inl rfl,by simp[SetTable.fresh,Asc],by simp[SetTable.fresh],rfl,by simp[SetTable.fresh]⟩,rfl,rfl,rfl,.inl ⟨rfl,by omega⟩⟩
structure Pre (bt:Bool) (t:SetTable) (n:Nat):Prop where
 tb:Tb t
 sz:t.place.size=n
 led:t.led = !bt
 pl:t.plain=true
 fits:t.fits n=true
 no:t.tooFull=false->Gd bt t n
 yes:t.tooFull=true->∃m,SetTable.sizeAbove (SetTable.grown n)=m+1/\m<=511/\∀hs:Array Int,hs.size=n->∃t' order,t.relaid hs (SetTable.grown n)=some (t',order)/\Gd bt t' n/\order.toList.Perm (List.range n)
theorem Dm {bt:Bool} {t:SetTable} {n:Nat} (g:Gd bt t n) (hn:n<306) {j:Nat} (hj:j∉t.place.toList) (hm:j<=t.mask):Pre bt (t.put j).1 (n+1)/\(t.put j).2<=n:=by
 have hs:t.place.size+1<=t.mask:=by rw[g.sz];rcases g.rng with h | h | h | h<;>omega
 obtain⟨T,e1,e2,e3,e4,e5⟩:=CQ g.tb hj hm hs
 rw[g.sz] at e4 e5
 have ft:(t.put j).1.fits (n+1)=true:=by
  unfold SetTable.fits SetTable.fill
  have:=T.sz
  rw[e4] at this
  rw[e4,T.du];simp;exact this
 have tf:(t.put j).1.tooFull=decide ((n+1)*5 ≥ t.mask*3):=by
  unfold SetTable.tooFull SetTable.fill
  rw[e4,T.du,e1];simp
 refine⟨⟨T,e4,by rw[e2];exact g.led,by rw[e3];exact g.pl,ft,fun c=>⟨T,e4,by rw[e2];exact g.led,by rw[e3];exact g.pl,?_⟩,fun c=>?_⟩,e5⟩
 ·rw[tf] at c
  have c:=of_decide_eq_false c
  rw[e1]
  rcases g.rng with h | h | h | h
  ·exact .inl ⟨h.1,by omega⟩
  ·exact .inr (.inl ⟨h.1,by omega,by omega⟩)
  ·exact .inr (.inr (.inl ⟨h.1,by omega,by omega⟩))
  ·exact .inr (.inr (.inr ⟨h.1,by omega,by omega⟩))
 ·rw[tf] at c
  have c:=of_decide_eq_true c
  have key:∀m,okM m->SetTable.sizeAbove (SetTable.grown (n+1))=m+1->m<=511->n+1<=m->((m=7/\n+1<=4)\/(m=31/\5<=n+1/\n+1<=18)\/(m=127/\19<=n+1/\n+1<=76)\/(m=511/\77<=n+1/\n+1<=306)) →
    ∃m,SetTable.sizeAbove (SetTable.grown (n+1))=m+1/\m<=511/\∀hs:Array Int,hs.size=n+1->∃t' order,(t.put j).1.relaid hs (SetTable.grown (n+1))=some (t',order)/\Gd bt t' (n+1)/\order.toList.Perm (List.range (n+1)):=by
   intro m om hsz h5 hle hr
   refine⟨m,hsz,h5,fun hs hh=>?_⟩
   unfold SetTable.relaid
   rw[hsz,show m+1 - 1=m by omega]
   obtain⟨t',order,a1,a2,a3,a4,a5,a6,a7⟩:=Bm (m:=m) (f:=(t.put j).1.finger) (mv:=(t.put j).1.movedTo m) (ld:=(t.put j).1.led) (pl:=(t.put j).1.plain) om hs (by omega)
   rw[hh] at a6 a7
   exact⟨t',order,a1,⟨a2,a6,by rw[a4,e2];exact g.led,by rw[a5,e3];exact g.pl,by rw[a3];exact hr⟩,a7⟩
  rcases g.rng with h | h | h | h
  ·have:n+1=5:=by omega
   exact key 31 (.inr (.inl rfl)) (by rw[this];decide) (by omega) (by omega) (.inr (.inl ⟨rfl,by omega,by omega⟩))
  ·have:n+1=19:=by omega
   exact key 127 (.inr (.inr (.inl rfl))) (by rw[this];decide) (by omega) (by omega) (.inr (.inr (.inl ⟨rfl,by omega,by omega⟩)))
  ·have:n+1=77:=by omega
   exact key 511 (.inr (.inr (.inr rfl))) (by rw[this];decide) (by omega) (by omega) (.inr (.inr (.inr ⟨rfl,by omega,by omega⟩)))
  ·exfalso;omega
end L2.ST
namespace L2.ST
open PySem PySem.Spec PyProof.Rows
noncomputable abbrev byT (w:World):Bool:=w.params.followText "set-order"
noncomputable def Dq (w:World) (h:Heap) (S:Addr) (es:Array (Int × Value)):Prop:=∃o ep t,h.get? S=some o/\o.ExactSet/\o.data=.set es ep t/\Gd (byT w) t es.size
theorem xG {α:Type} (xs:Array α) (p:Nat) (x:α):(SetTable.insertAt xs p x).size=xs.size+1:=by
 have:=(SetTable.insertAt_perm xs p x).length_eq
 simpa using this
theorem v_ {α:Type} {es:Array α} {order:Array Nat} (p:order.toList.Perm (List.range es.size)):(order.filterMap (es[·]?)).toList.Perm es.toList:=by
 rw[Array.toList_filterMap]
 exact(p.filterMap _).trans (by rw[filterMap_getElem?_range])
section
variable {prog:Program} {w:World} {A:Around} {E:Value->Shared->Prop} {s:Shared} {S:Addr} {es:Array (Int × Value)}
theorem uu {h:Heap} {o:Obj} {ep:Nat} {t:SetTable} (ho:h.get? S=some o) (hd:o.data=.set es ep t) (es':Array (Int × Value)) (t':SetTable) :
  (h.update S (Obj.putSet es' t')).get? S=some { o with data:=.set es' (ep+1) t' }:=by
 have:=Heap.get?_update_self (Obj.putSet es' t') ho (by rw[putSet_of es' t' hd];rfl)
 rw[putSet_of es' t' hd] at this;exact this
theorem rg {n:Nat} (h:n<=306):n<=sizeLine:=Nat.le_trans h (by decide)
theorem add_int {k:Int} {tk:Tok} {Q:Bool->Shared->Prop} (hS:Dq w s.heap S es) (hn:es.size<306) (hel:ElemsOf (intKind prog w) es.toList)
  (h0:(∃e∈es.toList,(intKind prog w).is k e.2=true)->Q false s)
  (h1:(¬ ∃e∈es.toList,(intKind prog w).is k e.2=true)->∀h' es',Heap.SameBut S s.heap h'->Dq w h' S es'->es'.toList.Perm (es.toList++[((intKind prog w).hash k,.int k tk)])->Q true { s with heap:=h' }) :
  wpAny (model prog w) A (setAddHashed S (.int k tk) ((intKind prog w).hash k)) Q E s:=by
 obtain⟨o,ep,t,ho,hex,hd,g⟩:=hS
 have hf:=g.fits
 have hkey:(intKind prog w).is k (.int k tk)=true:=intKind_is _ _ _ _
 unfold setAddHashed setAddHashedIn
 refine wpAny_holding (wpAny_bind (wpAny_setState_of ho hd hf ?_))
 dsimp only
 rw[byScan_of (knd:=intKind prog w) (x:=.int k tk) rfl (by show es.size<4096;omega) hel]
 simp only[↓reduceIte]
 unfold setAddByScan
 refine wpAny_bind ?_
 refine wpAny_bind (wpAny_rule ?_)
 refine wpAny_bind (wpAny_setScan_of hkey ho hd hf hel ?_)
 cases hr:List.findIdx? (fun e=>(intKind prog w).is k e.2) es.toList with
 | some j=>
  dsimp only
  obtain⟨hj,hpj,_⟩:=List.findIdx?_eq_some_iff_getElem.mp hr
  exact wpAny_pure (wpAny_pure (h0 ⟨es.toList[j],List.getElem_mem hj,hpj⟩))
 | none=>
  dsimp only
  have no:¬ ∃e∈es.toList,(intKind prog w).is k e.2=true:=fun⟨e,he,hp⟩=>by have:=List.findIdx?_eq_none_iff.mp hr e he;rw[hp] at this;exact Bool.noConfusion this
  obtain⟨j,ej,jl,jn⟩:=zX g.tb ((intKind prog w).hash k)
  obtain⟨P,pl⟩:=Dm g hn jn jl
  have sz:(SetTable.insertAt es (t.put j).2 ((intKind prog w).hash k,Value.int k tk)).size=es.size+1:=xG _ _ _
  have L:layNew t es ((intKind prog w).hash k) (.int k tk)=(SetTable.insertAt es (t.put j).2 ((intKind prog w).hash k,Value.int k tk),(t.put j).1,false,false):=by
   unfold layNew
   rw[ej]
   dsimp only
   rw[sz,P.fits]
   unfold SetTable.orStandIn
   rw[P.fits]
   rfl
  have pm:=SetTable.insertAt_perm es (t.put j).2 ((intKind prog w).hash k,Value.int k tk)
  rw[Array.toList_push] at pm
  generalize he1:SetTable.insertAt es (t.put j).2 ((intKind prog w).hash k,Value.int k tk)=es1 at L sz pm
  generalize ht1:(t.put j).1=t1 at L P
  rw[L]
  dsimp only
  refine wpAny_bind (wpAny_pure ?_)
  rw[P.pl]
  simp only[if_true]
  refine wpAny_bind ?_
  rw[hashByValue_scannable 8 (x:=.int k tk) rfl]
  refine wpAny_pure ?_
  simp only[plainKind,if_true]
  refine wpAny_bind (wpAny_storeSet_of ho hd ?_ (rg (by omega)))
  have e1:=uu ho hd es1 t1
  by_cases c:t1.tooFull=true
  ·rw[c]
   simp only[Bool.not_false,Bool.and_self,if_true]
   obtain⟨m,_,_,q⟩:=P.yes c
   obtain⟨t',order,a1,a2,a3⟩:=q (es1.map (·.1)) (by rw[Array.size_map,sz])
   rw[<- sz] at a3
   have pm2:=v_ a3
   have sz2:(order.filterMap (es1[·]?)).size=es.size+1:=by rw[<- Array.length_toList,pm2.length_eq,Array.length_toList,sz]
   have R:relayAll t1 es1 (SetTable.grown es1.size)=(order.filterMap (es1[·]?),t',false):=by
    unfold relayAll
    rw[sz,a1]
    dsimp only
    rw[sz2,a2.fits,show coversAll order (es.size+1)=true by unfold coversAll;rw[<- sz];exact List.isPerm_iff.mpr a3]
    rfl
   rw[R]
   dsimp only
   refine wpAny_bind (wpAny_pure (wpAny_bind (wpAny_storeSet_of e1 rfl ?_ (rg (by omega)))))
   refine wpAny_pure (wpAny_pure (h1 no _ _ ((Heap.SameBut.update _ _ _).trans (Heap.SameBut.update _ _ _)) ⟨_,_,t',uu e1 rfl _ t',hex,rfl,by rw[sz2];exact a2⟩ (pm2.trans pm)))
  ·rw[Bool.not_eq_true] at c
   rw[c]
   simp only[Bool.and_false,Bool.false_eq_true,if_false]
   exact wpAny_pure (wpAny_pure (h1 no _ es1 (Heap.SameBut.update _ _ _) ⟨_,_,t1,e1,hex,rfl,by rw[sz];exact P.no c⟩ pm))
end
section
variable {prog:Program} {w:World} {A:Around} {E:Value->Shared->Prop} {s:Shared} {S:Addr} {es:Array (Int × Value)}
theorem C1 {k:Int} {v:Value} (h:(intKind prog w).is k v=true):∃t,v=.int k t:=by
 cases v<;>simp[intKind,Value.isInt] at h
 subst h;exact⟨_,rfl⟩
end
section
variable {prog:Program} {w:World} {A:Around} {R:Result->Shared->Prop} {I:Addr} {fp wr:List Addr} {n:Nat} {P:Nat->Value->Prop} {St:Nat->Heap->Prop}
theorem Bn (W:Walks prog w A.in1 I fp wr n P St) (S:Addr) (hSf:S∉fp) (J:Nat->Heap->Prop)
  (keep:∀i h h',J i h->(∀b o,b∉wr->h.get? b=some o->h'.get? b=some o)->J i h')
  (step:∀i v (s:Shared) (Q:Bool->Shared->Prop) (E:Value->Shared->Prop),i<n->P i v->J i s.heap->(∀b h' tk,Heap.SameBut S s.heap h'->J (i+1) h'->Q b { s with heap:=h',toks:=tk })->wpAny (model prog w) A.in1 (setAdd S v) Q E s) :
  ∀(k i:Nat) (s:Shared),n - i=k->i<=n->St i s.heap->J i s.heap →
   (∀h' tk,(∀b o,b∉S::wr->s.heap.get? b=some o->h'.get? b=some o)->J n h'->R (.ok (.ret .none)) { s with heap:=h',toks:=tk }) →
   codeAny (model prog w) A (.builtin "set.update.loop" ⟨[.ref S,.ref I],[]⟩) R s:=by
 intro k
 induction k with
 | zero=>
  intro i s hk hi hst hJ hR
  have hin:i=n:=by omega
  subst hin
  refine codeAny_builtin F.entry_set_update_loop ?_
  rw[Around.under_plainId F.plain_set_update_loop _]
  show wpAny _ A.in1 (pyNext (.ref I) >>= _) _ _ s
  refine wpAny_bind (W.done s _ _ hst fun h' tk hm=>?_)
  show wpAny _ A.in1 (ret Value.none) _ _ _
  exact wpAny_pure (hR _ _ (fun b o hb e=>hm b o (fun z=>hb (List.mem_cons_of_mem _ z)) e) (keep _ _ _ hJ hm))
 | succ k ih=>
  intro i s hk hi hst hJ hR
  have hlt:i<n:=by omega
  refine codeAny_builtin F.entry_set_update_loop ?_
  rw[Around.under_plainId F.plain_set_update_loop _]
  show wpAny _ A.in1 (pyNext (.ref I) >>= _) _ _ s
  refine wpAny_bind (W.item i s _ _ hlt hst fun v h' tk hP hst' hm=>?_)
  show wpAny _ A.in1 (holding [v] (setAdd S v) >>= _) _ _ _
  refine wpAny_bind (wpAny_holding (step i v _ _ _ hlt hP (keep _ _ _ hJ hm) fun b h2 tk2 sb J2=>?_))
  refine wpAny_pure ⟨plainId_quiet F.plain_set_update_loop _,ih (i+1) _ (by omega) hlt (W.frame _ _ _ hst' fun b hb o e=>?_) J2 fun h3 tk3 m3 J3=>?_⟩
  ·rw[sb.2 b (fun z:b=S=>hSf (z ▸ hb))];exact e
  ·refine hR h3 tk3 (fun b o hb e=>m3 b o hb ?_) J3
   show h2.get? b=some o
   rw[sb.2 b (fun z:b=S=>hb (by rw[z];exact List.mem_cons_self))]
   exact hm b o (fun z=>hb (List.mem_cons_of_mem _ z)) e
end
theorem Dw {prog:Program} {w:World} {A:Around} {E:Value->Shared->Prop} {s:Shared} (a:Value) {Q₁:Value->Shared->Prop}
  (h:Q₁ (.ref s.heap.objs.size) { s with heap:=s.heap.push { cls:=.type "set", dict:=none,data:=.set #[] 0 (.fresh 0 0 (!byT w)) } }) :
  codeAny (model prog w) A (.call (.builtin "set.__new__") ⟨[.type "set", a],[]⟩) (wants Q₁ E) s:=by
 refine codeAny_of_tree ?_
 show wpAny _ A.in1 (do checkBuiltinCall "set.__new__" ⟨[.type "set", a],[]⟩;again (.builtin "set.__new__" ⟨[.type "set", a],[]⟩)) _ _ s
 refine wpAny_bind (wpAny_of_eq (F.newCall_set_1 a) (wpAny_pure ⟨plainId_quiet F.plain_set_new _,codeAny_builtin F.entry_set_new ?_⟩))
 rw[Around.under_plainId F.plain_set_new _]
 unfold Builtin.«set.__new__» Builtin.Frozenset.newClass
 have hsub:=sub_set_self
 obtain⟨hp,g,d,tk,os⟩:=s
 dsimp only
 wp_walk
 refine wpAny_askSetting (wpAny_pure ?_)
 dsimp only
 simp only[newObj]
 refine wpAny_bind (wpAny_alloc (wpAny_pure ?_))
 exact wpAny_pure h
noncomputable abbrev lD (w:World):Obj:={ cls:=.type "set", dict:=none,data:=.set #[] 0 (.fresh 0 0 (!byT w)) }
structure Src (prog:Program) (w:World) (T:String) (a:Addr) (n:Nat) (P:Nat->Value->Prop) (OK:Heap->Prop):Prop where
 obj:∀h,OK h->∃o,h.get? a=some o/\o.cls=.type T
 keep:∀h h':Heap,OK h->(∀o,h.get? a=some o->h'.get? a=some o)->OK h'
 iter:∀(A:Around) (s:Shared),A.handled=none->OK s.heap->∃(oI:Obj) (St:Nat->Heap->Prop),
  (∀(E:Value->Shared->Prop) (Q:Value->Shared->Prop),Q (.ref s.heap.objs.size) { s with heap:=s.heap.push oI }->wpAny (model prog w) A (pyIter (.ref a)) Q E s) ∧
  (∀A':Around,A'.handled=none->Walks prog w A' s.heap.objs.size [s.heap.objs.size,a] [s.heap.objs.size] n P St)/\St 0 (s.heap.push oI)
 s1:isSubtype (.type T) (.type "set")=pure false
 s2:isSubtype (.type T) (.type "frozenset")=pure false
 nd:(Value.type T == Value.type "dict")=false
set_option maxHeartbeats 3200000 in
theorem C4 {prog:Program} {w:World} {B:Around} {Er:Value->Shared->Prop} {z:Shared} {T:String} {a:Addr} {n:Nat} {P:Nat->Value->Prop} {OK:Heap->Prop} {Q:Value->Shared->Prop} (K:Src prog w T a n P OK)
  (hh:B.handled=none) (hok:OK z.heap) (J:Nat->Heap->Prop) (j0:∀h,h.get? z.heap.objs.size=some (lD w)->(∀b o,z.heap.get? b=some o->h.get? b=some o)->J 0 h)
  (keep:∀i h h',J i h->(∀b o,b≠z.heap.objs.size+1->h.get? b=some o->h'.get? b=some o)->J i h')
  (step:∀(A:Around) i v (s:Shared) (Q:Bool->Shared->Prop) (E:Value->Shared->Prop),A.units<=B.units+20->i<n->P i v->J i s.heap->(∀b h' tk,Heap.SameBut z.heap.objs.size s.heap h'->J (i+1) h'->Q b { s with heap:=h',toks:=tk })->wpAny (model prog w) A (setAdd z.heap.objs.size v) Q E s)
  (fin:∀(g':Heap) (tk:Nat),J n g'->(∀b o,b<z.heap.objs.size->z.heap.get? b=some o->g'.get? b=some o)->Q (.ref z.heap.objs.size) { z with heap:=g',toks:=tk }) :
  wpAny (model prog w) B (call (.type "set") [.ref a]) Q Er z:=by
 obtain⟨_,_,_⟩:=F.called_set.mro
 have:=F.called_set.made
 have:=F.called_set.sub
 refine wpAny_call (codeAny_of_tree ?_)
 show wpAny _ _ (callAny (.type "set") _) _ _ _
 refine wpAny_pure ⟨Code.quiet_builtin _ (by decide +kernel),codeAny_builtin F.entry_type_call ?_⟩
 rw[Around.under_plain (weight_type_call_type "set" [.ref a] []) rfl]
 have:=F.called_set.notType
 have:=F.called_set.canCreate
 have:=F.typeCall_set_1 (.ref a)
 repeat (any_goals (first | assumption | wp_step))
 refine codeAny_mono (Dw (.ref a) (E:=Er) (Q₁:=fun v y=>v=.ref z.heap.objs.size/\y={ z with heap:=z.heap.push (lD w) }) ⟨rfl,rfl⟩) fun r y hr=>?_
 cases r with
 | error e=>exact hr
 | ok fl=>
  cases fl with
  | ret v=>
   obtain⟨rfl,rfl⟩:=hr
   have hS:(z.heap.push (lD w)).get? z.heap.objs.size=some (lD w):=Heap.get?_push_size _ rfl
   have hT:Shared.TypeIs { z with heap:=z.heap.push (lD w) } (.ref z.heap.objs.size) "set" := ⟨_,hS,rfl⟩
   have:=F.called_set.init.lookup
   have:=F.called_set.init.bind (.ref z.heap.objs.size)
   repeat (any_goals (first | assumption | wp_step))
   refine codeAny_mono (codeAny_call_builtin (R:=wants (fun r y=>r=.none/\∃g' tk,y={ z with heap:=g',toks:=tk }/\J n g' ∧
     (∀b o,b<z.heap.objs.size->z.heap.get? b=some o->g'.get? b=some o)) Er) F.called_set.init.plain F.entry_set_init (check_set_init_1 hT ?_)) fun r₂ y₂ hr₂=>?_
   ·obtain⟨ol,hol,hcl⟩:=K.obj _ hok
    have hlS:a<z.heap.objs.size:=Heap.lt_size hol
    obtain⟨oc,od,oda,osl⟩:=ol
    simp only at hcl
    subst hcl
    have hol':(z.heap.push (lD w)).get? a=some { cls:=.type T,dict:=od,data:=oda,slots:=osl }:=Heap.get?_push_of_some _ hol
    have:=K.s1
    have:=K.s2
    have:=K.nd
    have ok1:OK (z.heap.push (lD w)):=K.keep _ _ hok fun o e=>Heap.get?_push_of_some _ e
    unfold Builtin.«set.__init__» noKeywords Builtin.Frozenset.updateFrom
    generalize hPI:pyIter=PI
    wp_walk
    subst hPI
    obtain⟨oI,St,hit,W,st⟩:=K.iter B.in1.in1 { z with heap:=z.heap.push (lD w) } hh ok1
    refine hit _ _ ?_
    refine wpAny_bind (wpAny_runValue ?_)
    have sz:(z.heap.push (lD w)).objs.size=z.heap.objs.size+1:=Heap.size_push _ _
    have W':=W B.in1.in1.in1 hh
    rw[show({ z with heap:=z.heap.push (lD w) }:Shared).heap.objs.size=z.heap.objs.size+1 from sz] at W'
    show codeAny _ _ (.builtin "set.update.loop" ⟨[.ref z.heap.objs.size,.ref (z.heap.push (lD w)).objs.size],[]⟩) _ _
    rw[sz]
    refine Bn W' z.heap.objs.size ?hSf J (fun i h h' j k=>keep i h h' j fun b o hb e=>k b o (by simpa using hb) e) (fun i v s Q E hi hp hj hq=>step _ i v s Q E ?un hi hp hj hq) (n - 0) 0 _ (by omega) (Nat.zero_le _) st ?hJ0 ?hR
    case hSf=>simp only[List.mem_cons,List.not_mem_nil,or_false,not_or];exact⟨Nat.ne_of_lt (Nat.lt_succ_self _),Nat.ne_of_gt hlS⟩
    case un=>show B.units+3<=_;omega
    case hJ0=>exact j0 _ (Heap.get?_push_of_some _ hS) fun b o e=>Heap.get?_push_of_some _ (Heap.get?_push_of_some _ e)
    case hR=>
     intro h' tk hm hJ
     show wpAny _ _ _ _ _ _
     refine wpAny_pure ?_
     show wpAny _ _ (ret Value.none) _ _ _
     refine wpAny_pure ⟨rfl,h',tk,rfl,hJ,fun b o hb e=>hm b o ?_ (Heap.get?_push_of_some _ (Heap.get?_push_of_some _ e))⟩
     simp only[List.mem_cons,List.not_mem_nil,or_false,not_or]
     exact⟨Nat.ne_of_lt hb,Nat.ne_of_lt (Nat.lt_succ_of_lt hb)⟩
   ·cases r₂ with
    | error e=>exact hr₂
    | ok fl₂=>
     cases fl₂ with
     | ret r=>
      obtain⟨rfl,g',tk,rfl,hS',hk'⟩:=hr₂
      repeat (any_goals (first | assumption | wp_step))
      exact fin _ _ hS' hk'
     | _=>exact hr₂.elim
  | _=>exact hr.elim
theorem uD {α:Type} (next:Nat->Nat):∀(f k:Nat) (l:List α) (out:Array α),l.length=f->(pickOrder.go next f k l out).toList.Perm (out.toList++l)
 | 0,k,l,out,h=>by
  have:l=[]:=List.length_eq_zero_iff.mp h
  subst this
  unfold pickOrder.go;simp
 | f+1,k,l,out,h=>by
  unfold pickOrder.go
  have hl:next k % l.length<l.length:=Nat.mod_lt _ (by omega)
  rw[List.getElem?_eq_getElem hl]
  refine(uD next f (k+1) _ _ (by rw[List.length_eraseIdx_of_lt hl,h];rfl)).trans ?_
  rw[Array.toList_push,List.append_assoc]
  refine List.Perm.append_left _ ?_
  generalize next k % l.length=i at hl
  clear h
  induction l generalizing i with
  | nil=>simp at hl
  | cons a r ih=>
   cases i with
   | zero=>simp
   | succ i=>
    simp only[List.getElem_cons_succ,List.eraseIdx_cons_succ]
    exact(List.Perm.swap _ _ _).trans ((ih i (by simpa using hl)).cons a)
theorem wm {α:Type} (next:Nat->Nat) (xs:Array α):(pickOrder next xs).toList.Perm xs.toList:=by
 unfold pickOrder
 simpa using uD next xs.size 0 xs.toList #[] (by simp)
noncomputable def gn (w:World) (S:Addr) (ep:Nat) (es:Array (Int × Value)):Array (Int × Value):=if byT w then pickOrder (w.params.setOrder S ep) es else es
theorem nL (w:World) (S:Addr) (ep:Nat) (es:Array (Int × Value)):(gn w S ep es).toList.Perm es.toList:=by
 unfold gn;split
 ·exact wm _ _
 ·exact .refl _
noncomputable def plF (t:SetTable):Nat->Nat
 | 0=>0
 | j+1=>t.place.getD j 0+1
noncomputable def slW (w:World) (t:SetTable) (j:Nat):Nat:=if byT w then 0 else plF t j
theorem tW {t:SetTable} (T:Tb t) {j:Nat} (hj:j<=t.place.size):SetTable.below t.place (plF t j)=j:=by
 have key:∀x,(∀i (h:i<t.place.toList.length),i<j->t.place.toList[i]<x)->(∀i (h:i<t.place.toList.length),j<=i->x<=t.place.toList[i])->SetTable.below t.place x=j:=by
  intro x a b
  obtain⟨r,e,hr,a',b'⟩:=i6 x T.so
  rw[e]
  rcases Nat.lt_trichotomy r j with c | c | c
  ·have h:r<t.place.toList.length:=by rw[Array.length_toList];omega
   have:=a r h c
   have:=b' r h (Nat.le_refl _)
   omega
  ·exact c
  ·have h:j<t.place.toList.length:=by rw[Array.length_toList];omega
   have:=a' j h c
   have:=b j h (Nat.le_refl _)
   omega
 cases j with
 | zero=>exact key 0 (fun i h c=>by omega) (fun i h c=>Nat.zero_le _)
 | succ j=>
  have hl:j<t.place.toList.length:=by rw[Array.length_toList];omega
  have e:t.place.getD j 0=t.place.toList[j]:=getD_at (by omega)
  show SetTable.below t.place (t.place.getD j 0+1)=j+1
  rw[e]
  refine key _ (fun i h c=>?_) (fun i h c=>?_)
  ·rcases Nat.lt_or_ge i j with d | d
   ·have:=List.pairwise_iff_getElem.mp T.so i j h hl d;omega
   ·have:i=j:=by omega
    subst this;omega
  ·have:=List.pairwise_iff_getElem.mp T.so j i hl h (by omega);omega
theorem slot_next:Slot "set_iterator" "__next__" "set_iterator.__next__" :=
 .of (owner:="set_iterator") (n:="__next__") (by rw[typeLookup_type,builtinLookup_eq_fast];kernel_rfl) (by decide +kernel) (by decide +kernel) (by decide +kernel)
  (by first | exact .inl (by decide +kernel) | exact .inr (by decide +kernel)) (by rw[isSubtype_type];kernel_rfl)
theorem oH:Slot "set_iterator" "__iter__" "set_iterator.__iter__" :=
 .of (owner:="set_iterator") (n:="__iter__") (by rw[typeLookup_type,builtinLookup_eq_fast];kernel_rfl) (by decide +kernel) (by decide +kernel) (by decide +kernel)
  (by first | exact .inl (by decide +kernel) | exact .inr (by decide +kernel)) (by rw[isSubtype_type];kernel_rfl)
theorem entry_next:entryFor table "set_iterator.__next__" = some Builtin.«set_iterator.__next__»:=entryFor_of_tree (by kernel_rfl)
theorem qI:entryFor table "set_iterator.__iter__" = some Builtin.«dict_keyiterator.__iter__»:=
 entryFor_alias (id':="dict_keyiterator.__iter__") (by kernel_rfl) rfl (by decide +kernel) (by kernel_rfl)
theorem t5:entryFor table "set.__iter__" = some Builtin.«frozenset.__iter__»:=
 entryFor_alias (id':="frozenset.__iter__") (by kernel_rfl) rfl (by decide +kernel) (by kernel_rfl)
theorem rO:Manifest.owners.lookup (String.ofList ['r','o','t','a','r','e','t','i','_','t','e','s'].reverse)=some Manifest.sig_set_iterator:=by kernel_rfl
theorem args_next (a:Value):argsOk "set_iterator.__next__" ⟨[a],[]⟩:=by
 unfold argsOk;rw[signature?_of (id:="set_iterator.__next__") (n:=['_','_','t','x','e','n','_','_']) (o:=['r','o','t','a','r','e','t','i','_','t','e','s']) (by kernel_rfl) rO];kernel_rfl
theorem vy (a:Value):argsOk "set_iterator.__iter__" ⟨[a],[]⟩:=by
 unfold argsOk;rw[signature?_of (id:="set_iterator.__iter__") (n:=['_','_','r','e','t','i','_','_']) (o:=['r','o','t','a','r','e','t','i','_','t','e','s']) (by kernel_rfl) rO];kernel_rfl
noncomputable def eS (h:Heap) (S:Addr) (es:Array (Int × Value)) (ep:Nat) (t:SetTable):Prop:=∃o,h.get? S=some o/\o.ExactSet/\o.data=.set es ep t
noncomputable def rN (h:Heap) (I S:Addr) (sl i n ep:Nat):Prop:=h.get? I=some { cls:=.type "set_iterator", data:=.fields #[rawInt sl,rawInt i,.ref S,rawInt n,rawInt ep] }
section
variable {prog:Program} {w:World} {A:Around} {E:Value->Shared->Prop} {s:Shared} {S I:Addr} {es:Array (Int × Value)} {ep:Nat} {t:SetTable}
theorem eS.typeIs (x:eS s.heap S es ep t):s.TypeIs (.ref S) "set" := let ⟨o,a,b,_⟩:=x;⟨o,a,b.1⟩
theorem eS.keep {h h':Heap} (x:eS h S es ep t) (k:∀o,h.get? S=some o->h'.get? S=some o):eS h' S es ep t:=let ⟨o,a,b⟩:=x;⟨o,k o a,b⟩
theorem zb (g:Gd (byT w) t es.size) (x:eS s.heap S es ep t) {Q:Bool->Shared->Prop} (h:Q false s):wpAny (model prog w) A (setDrawn S) Q E s:=by
 obtain⟨o,a,b,c⟩:=x
 unfold setDrawn
 refine wpAny_bind (wpAny_setState_of a c g.fits ?_)
 dsimp only
 refine wpAny_bind ?_
 unfold setsByText
 refine wpAny_bind (wpAny_askSetting (wpAny_pure ?_))
 show wpAny _ _ (pure (!_&&(!t.plain&&_))) _ _ _
 rw[g.pl]
 simp only[Bool.not_true,Bool.false_and,Bool.and_false]
 exact wpAny_pure h
theorem xA (g:Gd (byT w) t es.size) (x:eS s.heap S es ep t) {Q:Value->Shared->Prop}
  (hQ:Q (.ref s.heap.objs.size) { s with heap:=s.heap.push { cls:=.type "set_iterator", data:=.fields #[rawInt 0,rawInt 0,.ref S,rawInt es.size,rawInt ep] } }):wpAny (model prog w) A (pyIter (.ref S)) Q E s:=by
 have T:=x.typeIs
 refine wpAny_pyIter_slot T F.slot_set_iter (wpAny_call_entry F.slot_set_iter T t5 ?_ (F.args_set_iter_1 _))
 obtain⟨o,a,b,c⟩:=id x
 unfold Builtin.«frozenset.__iter__» Builtin.Frozenset.slot0 slotArgs
 simp only[List.isEmpty_nil,Bool.not_true,Bool.false_eq_true,↓reduceIte,bind_assoc,List.length_nil,bne_self_eq_false]
 unfold Builtin.Frozenset.addrOf Builtin.Frozenset.sizeOf
 refine wpAny_bind (wpAny_pure ?_)
 try dsimp only
 refine wpAny_bind (wpAny_pure ?_)
 refine wpAny_bind (wpAny_bind (wpAny_setEntries_of a c g.fits (wpAny_pure ?_)))
 refine wpAny_bind (zb g x ?_)
 simp only[Bool.false_eq_true,if_false]
 refine wpAny_bind (wpAny_pure ?_)
 refine wpAny_bind (wpAny_setEpoch_of a c g.fits ?_)
 unfold newFields
 refine wpAny_bind (wpAny_newObj_type (wpAny_pure ⟨_,rfl,"set_iterator", _,⟨_,Heap.get?_push_size _ rfl,rfl⟩,slot_next.lookup,?_⟩))
 exact hQ
theorem uV (g:Gd (byT w) t es.size) (x:eS s.heap S es ep t) {j:Nat} (hj:j<=es.size) {Q:Option (Value × Nat)->Shared->Prop}
  (h:Q (((gn w S ep es)[j]?).map fun e=>(e.2,slW w t (j+1))) s):wpAny (model prog w) A (setNext S (slW w t j) j ep) Q E s:=by
 obtain⟨o,a,b,c⟩:=id x
 unfold setNext
 refine wpAny_bind (wpAny_setState_of a c g.fits ?_)
 dsimp only
 refine wpAny_bind ?_
 unfold setsByText
 refine wpAny_bind (wpAny_askSetting (wpAny_pure ?_))
 unfold gn slW at h
 by_cases hb:byT w=true
 ·rw[if_pos hb] at h
  show wpAny _ _ (if byT w=true then _ else _) _ _ _
  rw[if_pos hb,if_neg (by simp)]
  refine wpAny_bind ?_
  unfold setWalk
  refine wpAny_bind (wpAny_setState_of a c g.fits ?_)
  dsimp only
  refine wpAny_bind ?_
  unfold setsByText
  refine wpAny_bind (wpAny_askSetting (wpAny_pure ?_))
  show wpAny _ _ (if byT w=true then _ else _) _ _ _
  rw[if_pos hb]
  refine wpAny_bind (wpAny_askSetting (wpAny_pure (wpAny_pure ?_)))
  unfold slW
  simp only[if_pos hb] at h ⊢
  exact h
 ·simp only[if_neg hb] at h
  show wpAny _ _ (if byT w=true then _ else _) _ _ _
  rw[if_neg hb]
  show wpAny _ _ (if (!t.plain&&decide (es.size > 1))=true then _ else _) _ _ _
  rw[g.pl]
  simp only[Bool.not_true,Bool.false_and,Bool.false_eq_true,if_false]
  show wpAny _ _ ((if (!t.led&&!es.isEmpty)=true then unsupported "set:maker-not-led" else pure PUnit.unit) >>= _) _ _ _
  rw[show t.led=true by rw[g.led];simpa using hb]
  simp only[Bool.not_true,Bool.false_and,Bool.false_eq_true,if_false]
  refine wpAny_bind (wpAny_pure ?_)
  have e:SetTable.below t.place (slW w t j)=j:=by
   unfold slW;rw[if_neg hb];exact tW g.tb (by rw[g.sz];exact hj)
  rw[e]
  refine wpAny_pure ?_
  cases q:es[j]? with
  | none=>rw[q] at h;exact h
  | some v=>
   rw[q] at h
   have hl:j<t.place.size:=by rw[g.sz];exact(Array.getElem?_eq_some_iff.mp q).1
   rw[Array.getElem?_eq_getElem hl]
   simp only[Option.map_some,plF,Array.getD,hl] at h
   exact h
theorem jL:(gn w S ep es).size=es.size:=by rw[<- Array.length_toList,(nL w S ep es).length_eq,Array.length_toList]
theorem vi {j:Nat} (g:Gd (byT w) t es.size) (hi:rN s.heap I S (slW w t j) j es.size ep) (x:eS s.heap S es ep t) {P:PySem.Fin->Shared->Prop}
  (h:wpAny (model prog w) A (do
   match ← setNext S (slW w t j) j ep with
   | some (x,next)=>
    setField (.ref I) 0 (rawInt next)
    setField (.ref I) 1 (rawInt ((j:Int)+1))
    ret x
   | none=>setField (.ref I) 2 .none;raiseNew (← newExc (.type "StopIteration") [])) P E s) :
  wpAny (model prog w) A (Builtin.«set_iterator.__next__» ⟨[.ref I],[]⟩) P E s:=by
 obtain⟨o,a,b,c⟩:=id x
 unfold Builtin.«set_iterator.__next__» slotArgs
 simp only[List.isEmpty_nil,Bool.not_true,Bool.false_eq_true,↓reduceIte,List.length_nil,bne_self_eq_false]
 refine wpAny_bind (wpAny_pure ?_)
 refine wpAny_bind (wpAny_fieldsOf hi rfl ?_)
 simp only[rawInt]
 refine wpAny_bind (wpAny_setEntries_of a c g.fits ?_)
 rw[if_neg (by simp)]
 simp only[Int.toNat_natCast]
 exact h
end
section
variable {prog:Program} {w:World} {A:Around} {E:Value->Shared->Prop} {s:Shared} {S I:Addr} {es:Array (Int × Value)} {ep:Nat} {t:SetTable}
theorem rN.typeIs {sl j n:Nat} (hi:rN s.heap I S sl j n ep):s.TypeIs (.ref I) "set_iterator" := ⟨_,hi,rfl⟩
theorem next_item {j:Nat} (g:Gd (byT w) t es.size) (hi:rN s.heap I S (slW w t j) j es.size ep) (x:eS s.heap S es ep t) (hj:j<es.size) {Q:Option Value->Shared->Prop}
  (hQ:∀h' e,(gn w S ep es)[j]?=some e->rN h' I S (slW w t (j+1)) (j+1) es.size ep->Heap.SameBut I s.heap h'->Q (some e.2) { s with heap:=h' }):wpAny (model prog w) A (pyNext (.ref I)) Q E s:=by
 unfold pyNext
 refine wpAny_bind (wpAny_attempt (wpAny_callSpecial?_slot (name:=Str.ofString "__next__") hi.typeIs slot_next (wpAny_call_entry slot_next hi.typeIs entry_next (vi g hi x ?_) (args_next _))))
 have hl:j<(gn w S ep es).size:=by rw[jL];exact hj
 refine wpAny_bind (uV g x (Nat.le_of_lt hj) ?_)
 rw[Array.getElem?_eq_getElem hl]
 dsimp only[Option.map_some]
 refine wpAny_bind (wpAny_setField_rec hi (by simp) fun h1 e1 s1=>?_)
 refine wpAny_bind (wpAny_setField_rec e1 (by simp) fun h2 e2 s2=>?_)
 refine wpAny_pure ⟨_,rfl,wpAny_pure (hQ h2 _ (Array.getElem?_eq_getElem hl) ?_ (s1.trans s2))⟩
 exact e2
theorem next_end {j:Nat} (hh:A.handled=none) (g:Gd (byT w) t es.size) (hi:rN s.heap I S (slW w t j) j es.size ep) (x:eS s.heap S es ep t) (hj:j=es.size) {Q:Option Value->Shared->Prop}
  (hQ:∀h',Heap.ExtBut I s.heap h'->Q none { s with heap:=h' }):wpAny (model prog w) A (pyNext (.ref I)) Q E s:=by
 unfold pyNext
 refine wpAny_bind (wpAny_attempt (wpAny_callSpecial?_slot (name:=Str.ofString "__next__") hi.typeIs slot_next (wpAny_call_entry slot_next hi.typeIs entry_next (vi g hi x ?_) (args_next _))))
 refine wpAny_bind (uV g x (by omega) ?_)
 rw[Array.getElem?_eq_none (by rw[jL];omega)]
 dsimp only[Option.map_none]
 refine wpAny_bind (wpAny_setField_rec hi (by simp) fun h1 e1 s1=>?_)
 show wpAny _ _ (newExc (.type "StopIteration") [] >>= _) _ _ _;refine wpAny_bind ?_;simp only[newExc,newTuple]
 refine wpAny_bind (wpAny_newObj_type (wpAny_bind (m:=firstArgMember _ _) (wpAny_of_eq (a:=Value.none) (by first | rfl | (simp only[firstArgMember];rfl)) (wpAny_newObj_type ?_ (by size_fits)))) (by size_fits))
 simp only[raiseNew];refine wpAny_bind (wpAny_handled ?_);rw[show A.in1.handled=none from hh]
 refine wpAny_bind (wpAny_pure (wpAny_throw ?_));refine wpAny_bind (wpAny_isInstance (T:="StopIteration") (b:=true) ⟨_,Heap.get?_push_size _ rfl,rfl⟩ isSubtype_stop ?_)
 exact wpAny_pure (hQ _ ((s1.extBut.push _).push _))
theorem wG (hh:A.handled=none) (I:Addr) (ne:S≠I) (g:Gd (byT w) t es.size):Walks prog w A I [I,S] [I] es.size (fun j v=>∃e,(gn w S ep es)[j]?=some e/\v=e.2) (fun j h=>rN h I S (slW w t j) j es.size ep/\eS h S es ep t) where
 sub:=fun b hb=>by simp at hb;simp[hb]
 frame:=fun _ _ _ st hk=>⟨hk I (by simp) _ st.1,st.2.keep fun o e=>hk S (by simp) o e⟩
 item:=fun j s Q E hj st hQ=>next_item g st.1 st.2 hj fun h' e he a b=>hQ _ h' s.toks ⟨e,he,rfl⟩ ⟨a,st.2.keep fun o e=>b.extBut S o ne e⟩ fun c o hc e=>b.extBut c o (fun z=>hc (by simp[z])) e
 done:=fun s Q E st hQ=>next_end hh g st.1 st.2 rfl fun h' a=>hQ h' s.toks fun c o hc e=>a c o (fun z=>hc (by simp[z])) e
 self:=fun _ _ _ _ st hQ=>wpAny_pyIter_slot st.1.typeIs oH (wpAny_call_entry oH st.1.typeIs qI (wpAny_pure ⟨_,rfl,"set_iterator", _,st.1.typeIs,slot_next.lookup,hQ⟩) (vy _))
theorem yA {Q:Bool->Shared->Prop} (hT:s.TypeIs (.ref S) "set") (h:Q false s):wpAny (model prog w) A (Builtin.List.listLengthHint (.ref S)) Q E s:=by
 unfold Builtin.List.listLengthHint
 refine wpAny_bind (wpAny_specialOf hT F.slot_set_len.lookup ?_)
 generalize hid:("set.__len__" : String)=id0
 wp_delta
 rw[show splitId id0=some ("set", "__len__") from by subst hid;decide +kernel]
 subst hid
 refine wpAny_bind (wpAny_isInstance (T:="set") (b:=true) hT (by rw[isSubtype_type];kernel_rfl) ?_)
 refine wpAny_ite_split (fun hab=>absurd hab (by decide)) (fun _=>?_)
 refine wpAny_ite_split (fun _=>?_) (fun hab=>absurd (by decide +kernel) hab)
 refine wpAny_bind (wpAny_typeOf hT ?_)
 exact wpAny_pure h
theorem eS.lt {h:Heap} (x:eS h S es ep t):S<h.objs.size:=let ⟨_,a,_⟩:=x;Heap.lt_size a
theorem Av (g:Gd (byT w) t es.size):PySem.W.KdlSrc prog w "set" S S es.size (fun j v=>∃e,(gn w S ep es)[j]?=some e/\v=e.2) (fun h=>eS h S es ep t) where
 type:=fun _ x=>x.typeIs
 there:=fun _ x=>⟨x.lt,x.lt⟩
 keep:=fun _ _ x k=>x.keep fun o e=>k S (.inl rfl) o e
 notList:=by decide
 notTuple:=by decide
 hint:=fun _ _ _ _ x hq=>yA x.typeIs hq
 iter:=fun _ s hh x=>⟨_,_,(fun _ _ hq=>xA g x hq),wG hh _ (Nat.ne_of_lt x.lt) g,⟨by
  have:slW w t 0=0:=by unfold slW;split<;>rfl
  unfold rN
  rw[this]
  exact Heap.get?_push_size _ rfl,x.keep fun o e=>Heap.get?_push_of_some _ e⟩⟩
end
section
variable {prog:Program} {w:World} {A:Around} {E:Value->Shared->Prop} {s:Shared}
theorem rk {T:String} {r d:Addr} {n:Nat} {P:Nat->Value->Prop} {OK:Heap->Prop} (K:PySem.W.KdlSrc prog w T r d n P OK) (hh:A.handled=none) (hok:OK s.heap) (hn:n<=sizeLine) {Q:List Value->Shared->Prop}
  (h:∀(h':Heap) tk (acc:Array Value),s.heap.objs.size<=h'.objs.size->(∀b o,s.heap.get? b=some o->h'.get? b=some o)->ItemsOf P acc n->Q acc.toList { s with heap:=h',toks:=tk }):wpAny (model prog w) A (collect (.ref r)) Q E s:=by
 unfold collect
 refine wpAny_bind (wpAny_runValue (codeAny_builtin entry_proto_collect' ?_))
 show wpAny _ _ (do again (.builtin "list.__iadd__" ⟨[<- newList [],.ref r],[]⟩)) _ _ s
 refine wpAny_bind (wpAny_newList (wpAny_pure ⟨Code.quiet_builtin _ (by decide +kernel),codeAny_builtin entry_list_iadd' ?_⟩))
 show wpAny _ _ (Builtin.List.listExtendWith (.ref s.heap.objs.size) (.ref r) (.ref s.heap.objs.size)) _ _ { s with heap:=s.heap.push (seqObj "list" #[] 0) }
 have hlt:=K.there _ hok
 rw[Around.under_plainId (show plainId "list.__iadd__" = true by decide +kernel) _]
 refine PySem.W.kdl_extend (A:=A) (R:=fun r s'=>match r with
  | .ok (.ret v)=>wpAny (model prog w) A (match v with
   | .ref a=>do
    match (← load a).data with
    | .seq xs _=>pure xs.toList
    | _=>unsupported "internal:collect"
   | _=>unsupported "internal:collect") Q E s'
  | .ok _=>False
  | .error e=>E e s') (s:={ s with heap:=s.heap.push (seqObj "list" #[] 0) }) K hh (K.keep _ _ hok fun b _ o e=>Heap.get?_push_of_some _ e) _ (Nat.ne_of_gt hlt.1) (Nat.ne_of_gt hlt.2) _ 0 (Heap.get?_push_size _ rfl) (fun h' tk acc c kp e hi=>?_) hn
 show wpAny (model prog w) A (do
   let o ← load s.heap.objs.size
   match o.data with
   | .seq xs _=>pure xs.toList
   | _=>unsupported "internal:collect") Q E { s with heap:=h',toks:=tk }
 refine wpAny_bind (wpAny_load e ?_)
 exact wpAny_pure (h h' tk acc (Nat.le_of_lt (Heap.lt_size e)) (fun b o q=>kp b o (Nat.ne_of_lt (Heap.lt_size q)) (Heap.get?_push_of_some _ q)) hi)
theorem sD {T:String} {r d:Addr} {n:Nat} {P:Nat->Value->Prop} {OK:Heap->Prop} (K:PySem.W.KdlSrc prog w T r d n P OK) (hh:A.handled=none) (hok:OK s.heap) (hn:n<=sizeLine) {Q:Value->Shared->Prop}
  (h:∀(h':Heap) tk (acc:Array Value),s.heap.objs.size<=h'.objs.size->(∀b o,s.heap.get? b=some o->h'.get? b=some o)->ItemsOf P acc n →
   wpAny (model prog w) A.in1.in1 (Builtin.«list.sort» ⟨[.ref h'.objs.size],[]⟩) (fun fin s'=>∃v,fin=.done (.ret v)/\Q (.ref h'.objs.size) s') E { s with heap:=h'.push (seqObj "list" acc.toList.toArray 0),toks:=tk }) :
  wpAny (model prog w) A (call (.builtin "sorted") [.ref r]) Q E s:=by
 refine Calls.call_function_entry kind_sorted plain_sorted entry_sorted (args_sorted1 _) ?_
 unfold Builtin.«sorted»
 refine wpAny_bind (m:=checkCount "sorted" 1 1 _) (wpAny_pure ?_)
 refine wpAny_bind (rk (A:=A.in1) K hh hok hn fun h' tk acc le kp hi=>?_)
 refine wpAny_bind (wpAny_newList ?_ (by rw[Array.length_toList,hi.1];exact hn))
 refine wpAny_bind (wpAny_holding (wpAny_call_entry slot_list_sort ⟨_,Heap.get?_push_size _ rfl,rfl⟩ entry_list_sort ?_ (args_list_sort _)))
 refine wpAny_mono (h h' tk acc le kp hi) (fun fin s' ⟨v,e,q⟩=>⟨v,e,wpAny_pure ⟨_,rfl,q⟩⟩) fun _ _ x=>x
theorem vJ {S:Addr} {es:Array (Int × Value)} {ep:Nat} {acc:Array Value} (hi:ItemsOf (fun j v=>∃e,(gn w S ep es)[j]?=some e/\v=e.2) acc es.size):acc.toList.Perm (es.toList.map (·.2)):=by
 have e:acc.toList=(gn w S ep es).toList.map (·.2):=by
  apply List.ext_getElem?
  intro j
  rw[List.getElem?_map,Array.getElem?_toList,Array.getElem?_toList]
  cases q:acc[j]? with
  | none=>
   have:(gn w S ep es)[j]?=none:=by
    rw[Array.getElem?_eq_none_iff] at q ⊢
    rw[jL,<- hi.1];exact q
   rw[this];rfl
  | some v=>
   obtain⟨e,h1,h2⟩:=hi.2 j v q
   rw[h1,h2];rfl
 rw[e]
 exact(nL w S ep es).map _
end
noncomputable def vI:Value->Int
 | .int n _=>n
 | _=>0
noncomputable def udd:List Int->List Int
 | []=>[]
 | x::r=>if r.contains x then udd r else x::udd r
theorem pK (k:Int):∀l,k∈udd l↔k∈l
 | []=>Iff.rfl
 | x::r=>by
  unfold udd
  have ih:=pK k r
  split
  ·rename_i h
   rw[ih,List.mem_cons]
   exact⟨.inr,fun q=>q.elim (fun e=>by rw[e];simpa using h) id⟩
  ·rw[List.mem_cons,List.mem_cons,ih]
theorem qp:∀l,(udd l).Nodup
 | []=>.nil
 | x::r=>by
  unfold udd
  split
  ·exact qp r
  ·rename_i h
   exact List.nodup_cons.mpr ⟨fun q=>h (by simpa using(pK x r).mp q),qp r⟩
theorem A2 {a b:List Int} (ha:a.Nodup) (hb:b.Nodup) (h:∀x,x∈a↔x∈b):a.Perm b:=by
 refine List.perm_iff_count.mpr fun x=>?_
 rw[ha.count,hb.count]
 simp only[h x]
theorem vj:∀{vs:List Value},(∀v∈vs,∃n t,v=Value.int n t)->IntsAre vs (vs.map vI)
 | [],_=>.nil
 | v::vs,h=>by
  obtain⟨n,t,rfl⟩:=h v List.mem_cons_self
  exact .cons n t (vj fun u hu=>h u (List.mem_cons_of_mem _ hu))
noncomputable def InI (es:List (Int × Value)) (ns:List Int):Prop:=(∀e∈es,∃n t,e.2=Value.int n t)/\(es.map fun e=>vI e.2).Nodup/\∀k,k∈(es.map fun e=>vI e.2)↔k∈ns
noncomputable def WSi (w:World) (o:Obj) (ns:List Int):Prop:=∃es ep t,o.ExactSet/\o.data=.set es ep t/\Gd (byT w) t es.size/\InI es.toList ns
section
variable {prog:Program} {w:World}
theorem AK (a:Addr) (its:Array Value):Src prog w "tuple" a its.size (fun i v=>its[i]?=some v) (fun h=>h.IsTuple a its) where
 obj:=fun h ⟨o,a,b,_⟩=>⟨o,a,b⟩
 keep:=fun h h' ⟨o,a,b⟩ k=>⟨o,k o a,b⟩
 iter:=fun A s hh x=>⟨_,_,(fun E Q hq=>wpAny_pyIter_tuple x hq),(fun A' hh'=>Walks.tuple hh' _ a (by obtain⟨o,e,_⟩:=x;exact Nat.ne_of_lt (Heap.lt_size e)) its),⟨⟨_,Heap.get?_push_size _ rfl,rfl,rfl⟩,by obtain⟨o,e,r⟩:=x;exact⟨o,Heap.get?_push_of_some _ e,r⟩⟩⟩
 s1:=rR
 s2:=pV
 nd:=by decide
theorem xk {es:List (Int × Value)} (h:∀e∈es,∃k t,e.2=Value.int k t/\e.1=(intKind prog w).hash k):ElemsOf (intKind prog w) es:=fun e he=>by
 obtain⟨k,t,e1,e2⟩:=h e he
 exact⟨⟨k,by rw[e1];exact intKind_is _ _ _ _,e2⟩,by rw[e1];rfl⟩
theorem yT {B:Around} {Er:Value->Shared->Prop} {z:Shared} {a:Addr} {its:Array Value} {zs:List Int} {Q:Value->Shared->Prop}
  (hh:B.handled=none) (ht:z.heap.IsTuple a its) (hi:IntsAre its.toList zs) (hb:its.size<=306)
  (fin:∀(g':Heap) (tk:Nat) o,g'.get? z.heap.objs.size=some o->WSi w o zs->(∀b o,b<z.heap.objs.size->z.heap.get? b=some o->g'.get? b=some o)->Q (.ref z.heap.objs.size) { z with heap:=g',toks:=tk }) :
  wpAny (model prog w) B (call (.type "set") [.ref a]) Q Er z:=by
 have hl:zs.length=its.size:=by rw[<- Array.length_toList,<- hi.nums,List.length_map]
 refine C4 (AK a its) hh ht (fun i h=>∃es,Dq w h z.heap.objs.size es/\es.size<=i/\(∀e∈es.toList,∃k t,e.2=Value.int k t/\e.1=(intKind prog w).hash k)/\InI es.toList (zs.take i)) ?_ ?_ ?_ ?_
 ·intro h e _
  exact⟨#[],⟨_,_,_,e,⟨rfl,rfl,rfl⟩,rfl,Dd _⟩,Nat.zero_le _,by simp,by simp[InI]⟩
 ·rintro i h h' ⟨es,⟨o,ep,t,e,r⟩,q⟩ k
  exact⟨es,⟨o,ep,t,k _ o (Nat.ne_of_lt (Nat.lt_succ_self _)) e,r⟩,q⟩
 ·rintro A i v s Q E hu hi' hp ⟨es,hS,sz,el,i1,i2,i3⟩ hq
  obtain⟨tk,rfl⟩:=IntsAre.int_at hi i v (by rw[Array.getElem?_toList];exact hp)
  have hz:i<zs.length:=by omega
  have tk1:zs.take (i+1)=zs.take i++[zs.getD i 0]:=by rw[List.take_succ_eq_append_getElem hz];simp[hz]
  unfold setAdd
  refine wpAny_holding ?_
  refine wpAny_bind ((intKind prog w).pyHash (k:=zs.getD i 0) (intKind_is _ _ _ _) ?_)
  refine add_int (s:={ s with toks:=s.toks+1 }) hS (by omega) (xk el) (fun hin=>?_) fun hno h' es' sb hS' pm=>?_
  ·obtain⟨e,he,q⟩:=hin
   obtain⟨k,t,e1,e2⟩:=el e he
   have hk:k=zs.getD i 0:=by obtain⟨t',e'⟩:=C1 q;rw[e1] at e';injection e'
   refine hq false s.heap (s.toks+1) (Heap.SameBut.refl _ _) ⟨es,hS,by omega,el,i1,i2,fun x=>?_⟩
   rw[tk1,List.mem_append,List.mem_singleton,<- i3]
   exact⟨.inl,fun q=>q.elim id fun z=>List.mem_map.mpr ⟨e,he,by rw[e1,z,<- hk];rfl⟩⟩
  ·have el':∀e∈es'.toList,∃k t,e.2=Value.int k t/\e.1=(intKind prog w).hash k:=fun e he=>by
    rcases List.mem_append.mp (pm.mem_iff.mp he) with h | h
    ·exact el e h
    ·rw[List.mem_singleton] at h;subst h;exact⟨_,_,rfl,rfl⟩
   have sz':es'.size=es.size+1:=by rw[<- Array.length_toList,pm.length_eq];simp
   have pm2:=pm.map fun e=>vI e.2
   rw[List.map_append] at pm2
   refine hq true h' (s.toks+1) sb ⟨es',hS',by omega,el',fun e he=>?_,?_,fun x=>?_⟩
   ·obtain⟨k,t,e1,_⟩:=el' e he;exact⟨k,t,e1⟩
   ·refine pm2.nodup_iff.mpr ?_
    refine List.nodup_append.mpr ⟨i2,by simp,fun x hx y hy=>?_⟩
    rintro rfl
    obtain⟨e,he,q⟩:=List.mem_map.mp hx
    obtain⟨k,t,e1,_⟩:=el e he
    refine hno ⟨e,he,?_⟩
    have:x=zs.getD i 0:=by simpa [vI] using hy
    rw[e1]
    rw[e1] at q
    have:k=zs.getD i 0:=by rw[<- this,<- q];rfl
    subst this
    exact intKind_is _ _ _ _
   ·rw[pm2.mem_iff,tk1,List.mem_append,List.mem_append,i3 x]
    rfl
 ·rintro g' tk ⟨es,⟨o,ep,t,e,hx,hd,g⟩,sz,el,ii⟩ kp
  rw[List.take_of_length_le (by omega)] at ii
  exact fin g' tk o e ⟨es,ep,t,hx,hd,g,ii⟩ kp
end
end L2.ST
namespace L2
open PySem PySem.Spec PyProof.Rows L2.ST
section
variable {X:Cx}
theorem we (hc:X.calm=true):aR X (.type "set") (fun vs H Q=>∃p ns,vs=[.ref p]/\SqT X.K H p (ns.map V.int)/\ns.length<=306/\∀l o,H l=none->WSi X.w o ns->Q (.ref l) (upd H l (FE.AtO l o))):=by
 intro pins s σ H xs us Q I r h
 obtain⟨p,ns,rfl,hq,hb,q⟩:=h
 obtain⟨u,rfl,rx⟩:=vals1 r
 cases rx
 obtain⟨its,r',pl,hz⟩:=I.tuple hq
 have hlen:=r'.length
 rw[List.length_map] at hlen
 refine yT (I.ok.hd hc) (show s.heap.IsTuple p its.toArray from pl) (zs:=ns) (by simpa using intsAre_of r') (by rw[List.size_toArray,<- hlen];exact hb) fun g' tk o e hW hk=>?_
 exact⟨.ref s.heap.objs.size,_,I.laid (t':=tk) (fun b o e=>hk b o (Heap.lt_size e) e) (Nat.le_refl _) (ED e),rfl,q _ _ (I.hok.fresh (Nat.le_refl _)) hW⟩
theorem rq (hc:X.calm=true):aR X (.builtin "sorted") (fun vs H Q=>∃p o ns,vs=[.ref p]/\H p=some (FE.AtO p o)/\WSi X.w o ns/\(udd ns).length<64/\∀l,H l=none->Q (.ref l) (upd H l (.lst ((sortI (udd ns)).map V.int)))):=by
 intro pins s σ H xs us Q I r h
 obtain⟨p,o,ns,rfl,hp,⟨es,ep,t,hx,hd,g,i1,i2,i3⟩,h64,q⟩:=h
 obtain⟨u,rfl,rx⟩:=vals1 r
 cases rx
 have ho:s.heap.get? p=some o:=(I.hok p _ hp).1
 have pm:=A2 i2 (qp ns) (fun x=>by rw[i3,pK])
 have hes:es.size<64:=by
  have:=pm.length_eq
  rw[List.length_map,Array.length_toList] at this
  omega
 have h64':64<=sizeLine:=by decide
 refine sD (Av (es:=es) (ep:=ep) g) (I.ok.hd hc) ⟨o,ho,hx,hd⟩ (by omega) fun h' tk acc hle kp hi=>?_
 have va:=vJ hi
 have ia:∀v∈acc.toList,∃n t,v=Value.int n t:=fun v hv=>by
  obtain⟨e,he,rfl⟩:=List.mem_map.mp (va.mem_iff.mp hv)
  exact i1 e he
 have al:acc.toList.length<64:=by rw[va.length_eq,List.length_map,Array.length_toList];exact hes
 refine list_sort_tree (s:={ s with heap:=h'.push (seqObj "list" acc.toList.toArray 0),toks:=tk }) (Heap.get?_push_size _ rfl) (vj ia) al fun out ms a1 a2 a3=>⟨_,rfl,?_⟩
 have e:ms=sortI (udd ns):=by
  refine gI (a2.trans (((va.map vI).trans ?_).trans (sortI_perm _).symm)) a3 (eg _)
  rw[List.map_map];exact pm
 subst e
 obtain⟨k,hk⟩:=sortedHeap_at (h:=h'.push (seqObj "list" acc.toList.toArray 0)) (a:=h'.objs.size) (vs:=acc.toList) (n:=0) (out:=out) (Heap.get?_push_size _ rfl)
 have hn:H h'.objs.size=none:=I.hok.fresh hle
 have len:((sortI (udd ns)).map V.int).length<=sizeLine:=by rw[List.length_map,(sortI_perm _).length_eq];omega
 refine⟨.ref h'.objs.size,upd H h'.objs.size (.lst ((sortI (udd ns)).map V.int)),I.laid (t':=tk) (fun b o z=>?_) hle ⟨len,out.toList,k,og a1,?_⟩,rfl,q _ hn⟩
 ·have z':=kp b o z
  rw[sortedHeap_old (Nat.ne_of_lt (Heap.lt_size z')) (by rw[size_push'];exact Nat.lt_succ_of_lt (Heap.lt_size z'))]
  exact Heap.get?_push_of_some _ z'
 ·rw[hk]
end
end L2
namespace L2.FE
open PySem PySem.Spec PyProof.Rows L2.ST
section
variable {X:Cx} {g:GG} {ε:EE} {e:Expr} {es:List Expr} {pos pos1:Pos} {mr:MA} {K:PySem.W.Frag}
theorem xg {id T:String} {x y:Str} {p q:Pos} {f:List D->Hh->R D} {r1 r2:List V->Hp->VK->Prop} (hc2:aR X (.builtin id) r2) (hc1:aR X (.type T) r1) (im:jq X.K g ε f (fun vs H Q=>r1 vs H (fun v H1=>r2 [v] H1 Q)))
  (hg:Gl X x) (hm:X.mg x=none) (hv:bootBuiltins x=some (.builtin id)) (hg1:Gl X y) (hm1:X.mg y=none) (hv1:bootBuiltins y=some (.type T)) (ha:PA X (e::es) (tMA X.K g ε mr)) (hn:x≠"__name__" := by decide) (hdb:(x == ("__debug__" : Str))=false:=by decide) (hn1:y≠"__name__" := by decide) (hdb1:(y == ("__debug__" : Str))=false:=by decide)
  (he1:starEach (e::es) X.env=(false,eval e X.env)::starEach es X.env:=by rfl) (hpl1:(backTo pos1 (starEach es X.env)).any (·.1)=false:=by rfl)
  (he:starEach [Expr.Call (.Name y q) (e::es) [] pos1] X.env=(false,eval (Expr.Call (.Name y q) (e::es) [] pos1) X.env)::starEach [] X.env:=by rfl) (hpl:(backTo pos (starEach [] X.env)).any (·.1)=false:=by rfl) :
  PE X (.Call (.Name x p) [.Call (.Name y q) (e::es) [] pos1] [] pos) (tM X.K g ε (ag f mr)):=
 PE.imp (gT hc2 hg hm hv (dN (g9 hc1 hg1 hm1 hv1 ha hn1 hdb1 he1 hpl1) iF he) hn hdb he hpl) fun _ _ _ t=>sS im t
noncomputable def lM (nl:NL):List D->Hh->R D:=fun ds h=>match ds with
 | [.tup xs]=>match intsOf xs with
  | some ns=>if ns.length<64 then nl ((sortI (udd ns)).map D.int) h else .bad
  | none=>.bad
 | _=>.bad
theorem uj:∀ns,(udd ns).length<=ns.length
 | []=>Nat.le_refl _
 | x::r=>by
  unfold udd
  have:=uj r
  split<;>simp<;>omega
theorem nI {α:List Addr} {H:Hp}:∀{ns:List Int} {vs:List V},av K g α H (ns.map D.int) vs->vs=ns.map V.int
 | [],_,.nil=>rfl
 | n::ns,_,.cons r rs=>by cases r;rw[nI rs];rfl
theorem xh {nl:NL} [fQ nl] {w:World}:jq K g ε (lM nl) (fun vs H Q=>∃p ns,vs=[.ref p]/\SqT K H p (ns.map V.int)/\ns.length<=306/\∀l o,H l=none->WSi w o ns →
  ∃p' o' ns',[V.ref l]=[V.ref p']/\upd H l (AtO l o) p'=some (AtO p' o')/\WSi w o' ns'/\(udd ns').length<64/\∀l',upd H l (AtO l o) l'=none->f7 Q (.ref l') (upd (upd H l (AtO l o)) l' (.lst ((sortI (udd ns')).map V.int)))):=by
 intro α H h a x Q r ra w
 unfold lM at w
 cases ra with
 | nil=>exact w.elim
 | cons rd rr=>
  cases rr with
  | cons _ _=>cases rd<;>exact w.elim
  | nil=>
   cases rd with
   | @tup ds p vs hp rs=>
    simp only at w
    cases e:intsOf ds with
    | none=>rw[e] at w;exact w.elim
    | some ns=>
     rw[e] at w
     obtain⟨h64,w⟩:=WQ.dy w
     have e1:=gH e
     subst e1
     have e2:=nI rs
     subst e2
     refine⟨p,ns,rfl,SqT.of hp,by omega,fun l o hl hW=>⟨l,o,ns,rfl,aQ,hW,by have:=uj ns;omega,fun l' hl'=>?_⟩⟩
     have ex:Ext K α H α (upd H l (AtO l o)):=Ext.fresh hl
     exact NL.post (w.post ex) (r.grow hl) (si _) hl'
   | _=>exact w.elim
end
end L2.FE
namespace FC
open PySem L2 L2.FE
noncomputable def bG:MF:=cA 2 (aG (cM (aE asB (aw dLt (ah 1) (ag jT (aa (ah 0) ak)))) (bg (aw dIx (ah 0) (ah 1))) br)
  (bg (cC (.int 0))))
noncomputable def bT:MF:=cA 2 (aG (bh 1 (ag zx (aa (ah 0) (aa (aw dn (cC (.int 0)) (ah 0)) ak))))
  (bg (ag (bK qx) (aa (ah 1) (aa (ag yI (aa (aw dGe (ah 1) (aw tq (cC (.int 10)) (cC (.int 18)))) ak)) (aa (aw sd (ah 1) (cC (.int 1000003))) ak))))))
noncomputable def dg:MF:=cA 1 (aG (bh 0 (aw sd (aw (bE az) (ah 0) (cC (.int 7919))) (cC (.int 2147483647))))
  (bg (aw sd (aw (bE az) (aw (bE az) (aw (nr az) (ah 0) (ah 0)) (aw (nr az) (cC (.int 48271)) (ah 0))) (cC (.int 12345))) (cC (.int 2147483629)))))
noncomputable def ay:MF:=cA 3 (aG (cM (oz (aE asB (aw dEq (aw dIx (ah 0) (cC (.int 1))) (cC (.int 1)))) (aE asB (aw dGt (aw dIx (ah 0) (cC (.int 0))) (cC (.int 0))))) (aG (bh 2 (aw sd (aw dIx (ah 0) (cC (.int 0))) (ah 1)))
  (aG (jG f_ (ah 0) (cC (.int 0)) (aw zq (aw dIx (ah 0) (cC (.int 0))) (ah 1)))
  (bg (ah 2)))) br)
  (aG (jG f_ (ah 0) (cC (.int 2)) (ag dg (aa (aw (bE az) (ag dg (aa (aw dIx (ah 0) (cC (.int 2))) ak)) (cC (.int 7))) ak)))
  (bg (aw sd (aw zq (aw dIx (ah 0) (cC (.int 2))) (cC (.int 64))) (ah 1)))))
noncomputable def cU:MF:=cA 3 (aG (bh 2 (aw dIx (ag (bK az) (aa (ag (bK az) (aa (cC (.int 2)) (aa (cC (.int 1)) ak))) (aa (ag (bK az) (aa (cC (.int 4)) (aa (cC (.int 1)) ak))) (aa (ag (bK az) (aa (cC (.int 4)) (aa (cC (.int 3)) ak))) ak)))) (ag ay (aa (ah 0) (aa (cC (.int 3)) ak)))))
  (bg (ag cq (aa (dh az (kI k9 (aa (aw dn (ah 1) (cC (.int 1))) ak)) [0,2] (aE asB (aw dLt (ag ay (aa (ah 1) (aa (aw dIx (ah 2) (cC (.int 0))) ak))) (aw dIx (ah 2) (cC (.int 1))))) (ah 0)) ak))))
noncomputable def cn:MF:=cA 7 (aG (wM 3 4 (aa (ag ay (aa (ah 0) (aa (cC (.int 7)) ak))) (aa (ag ay (aa (ah 0) (aa (aw (bE az) (ag jT (aa (ah 2) ak)) (cC (.int 1))) ak))) ak)))
  (aG (bh 5 (aw dIx (ag (bK az) (aa (aw dn (ah 1) (cC (.int 1))) (aa (cUn kh (cC (.int 1))) (aa (cC (.bl true)) (aa (cC (.bl false)) (aa (cC .non) (aa (cC (.str "0")) (aa (ag (bK az) (aa (cC (.int 0)) ak)) (aa (cC .edic) (aa (ag bB (aa (cC (.int 0)) ak)) (aa (aw tq (cC (.int 10)) (cC (.int 30))) (aa (cC (.int 0)) (aa (ah 1) ak))))))))))))) (ag ay (aa (ah 0) (aa (cC (.int 12)) ak)))))
  (aG (bh 6 (aw (bE az) (aw (bE az) (bU az (ah 2) bA (cH (ah 4))) (ag bB (aa (ah 5) ak))) (bU az (ah 2) (cH (aw (bE az) (ah 4) (cC (.int 1)))) bA)))
  (bg (aw dIx (ag (bK az) (aa (ah 6) (aa (ah 6) (aa (aw (bE az) (aw (bE az) (bU az (ah 2) bA (cH (ah 4))) (ag bB (aa (ah 5) ak))) (bU az (ah 2) (cH (ah 4)) bA)) (aa (cUn (u0 az) (ah 2)) (aa (ag (dList az) (aa (ah 2) ak)) (aa (aw (bE az) (ah 2) (bU az (ah 2) (cH (cUn kh (cC (.int 1)))) bA)) (aa (bU az (ah 2) (cH (cC (.int 1))) bA) ak)))))))) (ah 3))))))
noncomputable def cw:MF:=cA 1 (bg (nQ (cUn (fA "int") (ah 0)) (uT (cUn (fA "bool") (ah 0)))))
noncomputable def a_:MF:=cA 3 (bg (nQ (ag cw (aa (ah 0) ak)) (iy dLe dLe (ah 1) (ah 0) (ah 2))))
noncomputable def bN:MF:=cA 3 (cM (bL (aE df (ag a_ (aa (ah 0) (aa (ah 1) (aa (ah 2) ak)))))) Hv br)
noncomputable def dF:MF:=cA 4 (aG (eY (ag bN (aa (ah 0) (aa (cC (.int 1)) (aa (cC (.int 12)) ak)))))
  (aG (cM (bL (aE df (cUn (fA "tuple") (ah 1)))) (bg (cC (.bl false))) br)
  (aG (bh 2 (cC (.int 0)))
  (aG (fC (di (ah 1)) (gN 3) (aG (cM (bL (aE df (ag a_ (aa (ah 3) (aa (ah 2) (aa (aw dn (ah 0) (cC (.int 2))) ak)))))) (bg (cC (.bl false))) br)
  (bh 2 (aw (bE az) (ah 3) (cC (.int 1))))))
  (bg (cC (.bl true)))))))
noncomputable def bP:MF:=cA 1 (bg (nQ (cUn (fA "int") (ah 0)) (uT (cUn (fA "bool") (ah 0)))))
noncomputable def ck:MF:=cA 2 (aG (cM (ir (bL (aE df (cUn (fA "tuple") (ah 1)))) (aE asB (aw dNe (dh az (di (ah 1)) [] (bL (aE df (ag bP (aa (ah 0) ak)))) (ah 0)) (ag (bK az) ak)))) (bg (cC (.bl false))) br)
  (bg (nQ (aw dEq (dh az (di (ah 1)) [0] (bL (aE asB (iy dLe dLt (cC (.int 0)) (ah 0) (aw dn (ah 1) (cC (.int 1)))))) (ah 0)) (ag (bK az) ak)) (aw dEq (ag (dList az) (aa (ah 1) ak)) (ag (lM az) (aa (ah 1) ak))))))
noncomputable def cP:MF:=fun ds h=>((cA 4 (aG (bh 2 (ag (bK qx) (aa (cC (.int 1)) ak)))
  (aG (fC (kI k9 (aa (aw dn (ah 0) (cC (.int 1))) ak)) (gN 3) (aG (cM (aE asB (aw (dIn false) (ah 3) (ah 1))) (eY (eG cE (ah 2) (aa (cC (.int 0)) ak))) br)
  (jG f_ (ah 2) (cUn kh (cC (.int 1))) (aw (bE az) (aw dIx (ah 2) (cUn kh (cC (.int 1)))) (cC (.int 1))))))
  (bg (ag cq (aa (ah 2) ak)))))) ds h).bind (dj h)
noncomputable def eM:MF:=cA 2 (aG (bh 1 (ag (bK az) (aa (cUn (qh "NoOrder") (ah 0)) (aa (cUn (qh "NoNumber") (ah 0)) (aa (cUn (qh "NoSet") (ah 0)) (aa (cUn (qh "NoRow") (ah 0)) ak))))))
  (aG (bh 1 (aw (bE az) (ah 1) (ag (bK az) (aa (cUn (qh "NoLine") (ah 0)) (aa (cUn (qh "NoText") (ah 0)) (aa (cUn (qh "TooGreat") (ah 0)) ak))))))
  (aG (cM (ir (bL (aE df (cUn Co (ah 0)))) (aE asB (aw dNe (eG pf (ah 1) (aa (cC (.bl true)) ak)) (cC (.int 1))))) (bg (cC (.str "other"))) br)
  (bg (aw dIx (ag (bK az) (aa (cC (.str "order")) (aa (cC (.str "number")) (aa (cC (.str "set")) (aa (cC (.str "row")) (aa (cC (.str "line")) (aa (cC (.str "text")) (aa (cC (.str "great")) ak)))))))) (eG p8 (ah 1) (aa (cC (.bl true)) ak)))))))
noncomputable def bb:MF:=cA 2 (aG (bh 1 (ag eM (aa (ah 0) ak)))
  (aG (cM (aE asB (aw dEq (ah 1) (cC (.str "text")))) (bg (ag bB (aa (ah 1) (aa (cUn (wH "NoText" "row") (ah 0)) ak)))) br)
  (bg (cIf (aE asB (aw dEq (ah 1) (cC (.str "great")))) (ag bB (aa (ah 1) (aa (cUn (wH "TooGreat" "many") (ah 0)) (aa (cUn (wH "TooGreat" "most") (ah 0)) ak)))) (ag bB (aa (ah 1) ak))))))
noncomputable def bO:MF:=cA 3 (cM (up (bL (aE df (ag a_ (aa (ah 0) (aa (ah 1) (aa (ah 2) ak))))))) (kg "NoNumber") br)
noncomputable def eN:MF:=cA 4 (aG (eY (ag bO (aa (up (ah 0)) (aa (up (cC (.int 1))) (aa (up (cC (.int 12))) ak)))))
  (aG (up (cM (bL (aE df (cUn (fA "tuple") (ah 1)))) (bg (cC (.bl false))) br))
  (aG (up (bh 2 (cC (.int 0))))
  (aG (up (fC (di (ah 1)) (gN 3) (aG (cM (bL (aE df (ag a_ (aa (ah 3) (aa (ah 2) (aa (aw dn (ah 0) (cC (.int 2))) ak)))))) (bg (cC (.bl false))) br)
  (bh 2 (aw (bE az) (ah 3) (cC (.int 1)))))))
  (up (bg (cC (.bl true))))))))
noncomputable def cu:MF:=cA 2 (cM (bL (aE df (ag eN (aa (up (ah 0)) (aa (up (ah 1)) ak))))) (kg "NoSet") br)
noncomputable def cI:MF:=cA 4 (aG (eY (ag cu (aa (up (ah 0)) (aa (up (ah 1)) ak))))
  (aG (up (bh 2 (aw (bE az) (ag bB (aa (cC (.int 0)) ak)) (ag cq (aa (dh az (di (ah 1)) [] tt1 (aw (bE az) (ah 0) (cC (.int 1)))) ak)))))
  (aG (up (bh 3 (aw (bE az) (bU az (ah 2) (cH (cC (.int 1))) bA) (ag bB (aa (ah 0) ak)))))
  (up (bg (ag cq (aa (dh az (zj (aa (ah 2) (aa (ah 3) ak))) [] (unp tt1) (unp (aw dn (ah 1) (ah 0)))) ak)))))))
noncomputable def cO:MF:=cA 2 (aG (cM (ir (bL (aE df (cUn (fA "tuple") (ah 0)))) (aE asB (aw dEq (ag jT (aa (ah 0) ak)) (cC (.int 0))))) (bg (cC (.bl false))) br)
  (aG (fC (di (ah 0)) (gN 1) (cM (ir (bL (aE df (ag cw (aa (ah 1) ak)))) (aE asB (aw dLt (ah 1) (cC (.int 1))))) (bg (cC (.bl false))) br))
  (bg (aw dLe (ag d_ (aa (ah 0) ak)) (cC (.int 12))))))
noncomputable def dS:MF:=fun ds h=>((cA 4 (aG (cM (up (bL (aE df (ag cO (aa (ah 0) ak))))) (kg "NoRow") br)
  (aG (up (bh 1 (ag (bK qx) ak)))
  (aG (up (bh 2 (cC (.int 0))))
  (aG (up (fC (di (ah 0)) (gN 3) (aG (Ah 2 rG (ah 3))
  (eY (eG cE (ah 1) (aa (aw dn (ah 2) (cC (.int 1))) ak))))))
  (up (bg (ag bB (aa (ah 2) (aa (ag cq (aa (bU az (ah 1) bA (cH (cUn kh (cC (.int 1))))) ak)) ak)))))))))) ds h).bind (dj h)
noncomputable def aL:MF:=cA 4 (qw (bg (cIf (up (aE asB (aw dEq (ah 0) (cC (.int 0))))) (ag cI (aa (up (ah 1)) (aa (up (ah 2)) ak))) (ag dS (aa (up (ah 2)) ak)))) bb)
noncomputable def a9:MF:=fun ds h=>((cA 7 (aG (bh 1 (ag (bK qx) ak))
  (aG (o9 64 (oz (aE asB (aw dLt (ag d_ (aa (ah 1) ak)) (cC (.int 12)))) (ir (aE asB (aw dEq (ah 1) (ag (bK az) ak))) (aE asB (aw dGt (ag ay (aa (ah 0) (aa (cC (.int 6)) ak))) (cC (.int 0)))))) (eY (eG cE (ah 1) (aa (aw (bE az) (cC (.int 1)) (ag ay (aa (ah 0) (aa (ag nM (aa (cC (.int 4)) (aa (aw dn (cC (.int 12)) (ag d_ (aa (ah 1) ak))) ak))) ak)))) ak))))
  (aG (bh 1 (ag cq (aa (ah 1) ak)))
  (aG (bh 2 (dh az (kI tQ (aa (cC (.int 1)) (aa (ag jT (aa (ah 1) ak)) ak))) [1] tt1 (aw dn (ag d_ (aa (bU az (ah 1) bA (cH (ah 0))) ak)) (cC (.int 1)))))
  (aG (cM (aE asB (aw dNe (ag cb (aa (ag aL (aa (cC (.int 1)) (aa (cC (.int 0)) (aa (ah 1) ak)))) ak)) (ag cb (aa (ag bB (aa (ag d_ (aa (ah 1) ak)) (aa (ag cq (aa (ah 2) ak)) ak))) ak)))) (bg (cC (.bl false))) br)
  (aG (wM 3 4 (aa (ag ay (aa (ah 0) (aa (ag jT (aa (ah 1) ak)) ak))) (aa (ag ay (aa (ah 0) (aa (cC (.int 10)) ak))) ak)))
  (aG (bh 5 (aw dIx (ag (bK az) (aa (cC (.int 0)) (aa (cUn kh (cC (.int 1))) (aa (cC (.bl true)) (aa (cC .non) (aa (cC (.str "1")) (aa (ag (bK az) (aa (cC (.int 1)) ak)) (aa (cC .edic) (aa (ag bB (aa (cC (.int 1)) ak)) (aa (cC (.int 13)) (aa (aw tq (cC (.int 10)) (cC (.int 30))) ak))))))))))) (ah 4)))
  (aG (bh 6 (ag (bK az) (aa (aw (bE az) (aw (bE az) (bU az (ah 1) bA (cH (ah 3))) (ag bB (aa (ah 5) ak))) (bU az (ah 1) (cH (aw (bE az) (ah 3) (cC (.int 1)))) bA)) (aa (ag (dList az) (aa (ah 1) ak)) (aa (aw (bE az) (ah 1) (ag bB (aa (aw dn (cC (.int 13)) (ag d_ (aa (ah 1) ak))) ak))) (aa (ag bB ak) (aa (cC .non) (aa (cC (.int 12)) (aa (aw (oB az) (ag bB (aa (cC (.int 1)) ak)) (cC (.int 13))) ak)))))))))
  (bg (aw dEq (dh az (di (ah 6)) [] tt1 (ag aL (aa (cC (.int 1)) (aa (cC (.int 0)) (aa (ah 0) ak))))) (aw (nr az) (ag (bK az) (aa (ag bB (aa (cC (.str "row")) ak)) ak)) (cC (.int 7)))))))))))))) ds h).bind (dj h)
noncomputable def lH:MF:=fun ds h=>((cA 10 (aG (fC (di (aw (bE az) (ag (bK az) (aa (ag bG (aa (ah 0) (aa (cC (.int 0)) ak))) ak)) (bU az (ah 0) (cH (cC (.int 1))) (cH (cC (.int 4)))))) (gN 1) (aG (bh 2 (ag bT (aa (ah 1) ak)))
  (aG (bh 3 (aw (bE az) (cC (.int 1)) (ag ay (aa (ah 2) (aa (cC (.int 12)) ak)))))
  (aG (bh 4 (ag cU (aa (ah 2) (aa (ah 3) ak))))
  (aG (bh 5 (ag (bK az) (aa (ah 4) (aa (ag bB ak) (aa (cC .non) (aa (cC (.int 0)) (aa (cC (.bl true)) (aa (cC (.str "0")) (aa (ag (bK az) ak) (aa (cC .edic) (aa (ag bB (aa (cC (.int 0)) ak)) (aa (ag bB (aa (cC (.int 1)) ak)) (aa (ag bB (aa (cC (.bl true)) ak)) (aa (ag bB (aa (cC (.int 0)) (aa (cC (.int 0)) ak))) (aa (ag bB (aa (cC (.int 1)) (aa (cC (.int 0)) ak))) (aa (ag bB (aa (ag (bK az) (aa (cC (.int 0)) ak)) ak)) ak))))))))))))))))
  (aG (fC (di (aw (bE az) (aw (bE az) (ah 5) (ag (bK az) (aa (ag gw (aa (aw dn (ah 3) (cC (.int 1))) ak)) (aa (ag gw (aa (ah 3) ak)) ak)))) (dh az (kI k9 (aa (cC (.int 8)) ak)) [2,3,4] tt1 (ag cn (aa (ah 1) (aa (ah 2) (aa (ah 3) ak))))))) (gN 6) (aG (bh 7 (ag cb (aa (ah 6) ak)))
  (aG (bh 8 (ag dF (aa (ah 3) (aa (ah 6) ak))))
  (aG (cM (ir (bL (aE df (cUn (fA "bool") (ah 8)))) (aE asB (aw dNe (ah 8) (ag ck (aa (ah 3) (aa (ah 6) ak)))))) (bg (cC (.bl false))) br)
  (aG (bh 9 (cIf (aE df (ah 8)) (ag cP (aa (ah 3) (aa (ah 6) ak))) (ag bB (aa (cC (.str "set")) ak))))
  (cM (ir (aE asB (aw dNe (ag cb (aa (ag aL (aa (cC (.int 0)) (aa (ah 3) (aa (ah 6) ak)))) ak)) (ag cb (aa (ah 9) ak)))) (aE asB (aw dNe (ag cb (aa (ah 6) ak)) (ah 7)))) (bg (cC (.bl false))) br))))))
  (cM (bL (aE df (ag a9 (aa (ah 2) ak)))) (bg (cC (.bl false))) br)))))))
  (bg (cC (.bl true))))) ds h).bind (dj h)
noncomputable def aK (i:Nat):Stmt:=PySem.Challenge.pw_fallcounts_k31_what_is_a_set.main.body.getD i (.Pass ⟨0,0,0,0⟩)
structure Blt (mg:Str->Option Value):Prop where
 ValueError:mg "ValueError" = none
 bool:mg "bool" = none
 int:mg "int" = none
 isinstance:mg "isinstance" = none
 len:mg "len" = none
 list:mg "list" = none
 max:mg "max" = none
 min:mg "min" = none
 range:mg "range" = none
 repr:mg "repr" = none
 set:mg "set" = none
 sorted:mg "sorted" = none
 sum:mg "sum" = none
 tuple:mg "tuple" = none
 zip:mg "zip" = none
section
variable {P:Program} {w:World} {K:PySem.W.Frag} {mg:Str->Option Value} {base:Heap} {g:GG}
theorem kC:aM ["_law_script", "_law_k"] ["_law_script", "_law_k"] (au (aK 21)):=⟨rfl,rfl,rfl,by decide +kernel,rfl,by decide +kernel,by decide +kernel⟩
theorem jM (D:aX K mg "_law_cell_at" (aK 21)) (T:Blt mg):Has P w K mg base g "_law_cell_at" 1 ["_law_script", "_law_k"] bG:=by
 obtain⟨f,fd,hm,F⟩:=D
 refine⟨f,fd,gA F kC (fun cdv A outer s H E hr=>?_),F.kp,F.binds (fun _ _ _ _ _ _ us hl=>mX hl fun _ _=>rfl),hm,bI F⟩
 exact(@ax _ _ _ _ _ _ _ (@fB _ _ _ _ _ _ _ _ _ _ (@cp _ _ _ _ _ _ _ _ _ _ _ qK sx (af 1) (ba kZ lF rfl T.len PySem.boot_len (@ae _ _ _ _ _ _ _ (af 0) aj rfl)) (bH _)) (@aC _ _ _ _ _ (@bp _ _ _ _ _ _ (@eR _ _ _ _ _ _ _ _ _ _ cW eQ (af 0) (af 1) (fun _ _=>rfl)))) bu)
   (@aC _ _ _ _ _ (@bp _ _ _ _ _ _ aq)))
theorem gy:aM ["_law_cell", "_law_left"] ["_law_cell"] (au (aK 23)):=⟨rfl,rfl,rfl,by decide +kernel,rfl,by decide +kernel,by decide +kernel⟩
theorem kz (D:aX K mg "_law_pen_of" (aK 23)) (T:Blt mg):Has P w K mg base g "_law_pen_of" 1 ["_law_cell"] bT:=by
 obtain⟨f,fd,hm,F⟩:=D
 refine⟨f,fd,gA F gy (fun cdv A outer s H E hr=>?_),F.kp,F.binds (fun _ _ _ _ _ _ us hl=>mZ hl fun _=>rfl),hm,bI F⟩
 exact(@ax _ _ _ _ _ _ _ (@bQ _ _ _ _ _ _ 1 _ _ gy.nd rfl (by first | exact Or.inl rfl | exact Or.inr rfl) (ba (wI rfl) Bj rfl T.max PyProof.Rows.boot_max (@ae _ _ _ _ _ _ _ (af 0) (@ae _ _ _ _ _ _ _ (@aB _ _ _ _ _ _ _ _ _ _ _ dH dG aq (af 0)) aj rfl) rfl)) rfl (.inl rfl))
   (@aC _ _ _ _ _ (@bp _ _ _ _ _ _ (@bq _ _ _ _ _ _ _ _ (@ae _ _ _ _ _ _ _ (af 1) (@ae _ _ _ _ _ _ _ (b9 vL DI rfl T.int PyProof.Rows.boot_int (@ae _ _ _ _ _ _ _ (@l9 _ _ _ _ _ _ _ _ _ _ _ Fz DY (af 1) (@aB _ _ _ _ _ _ _ _ _ _ _ oZ sP aq aq) (bH _)) aj rfl)) (@ae _ _ _ _ _ _ _ (@aB _ _ _ _ _ _ _ _ _ _ _ mq lL (af 1) aq) aj rfl) rfl) rfl)))))
theorem i5:aM ["_law_seed"] ["_law_seed"] (au (aK 22)):=⟨rfl,rfl,rfl,by decide +kernel,rfl,by decide +kernel,by decide +kernel⟩
theorem nu (D:aX K mg "_law_next" (aK 22)) (T:Blt mg):Has P w K mg base g "_law_next" 1 ["_law_seed"] dg:=by
 obtain⟨f,fd,hm,F⟩:=D
 refine⟨f,fd,gA F i5 (fun cdv A outer s H E hr=>?_),F.kp,F.binds (fun _ _ _ _ _ _ us hl=>mZ hl fun _=>rfl),hm,bI F⟩
 exact(@ax _ _ _ _ _ _ _ (@bQ _ _ _ _ _ _ 0 _ _ i5.nd rfl (by first | exact Or.inl rfl | exact Or.inr rfl) (@aB _ _ _ _ _ _ _ _ _ _ _ mq lL (@aB _ _ _ _ _ _ _ _ _ _ _ bo bj (af 0) aq) aq) rfl (.inl rfl))
   (@aC _ _ _ _ _ (@bp _ _ _ _ _ _ (@aB _ _ _ _ _ _ _ _ _ _ _ mq lL (@aB _ _ _ _ _ _ _ _ _ _ _ bo bj (@aB _ _ _ _ _ _ _ _ _ _ _ bo bj (@aB _ _ _ _ _ _ _ _ _ _ _ qf pD (af 0) (af 0)) (@aB _ _ _ _ _ _ _ _ _ _ _ qf pD aq (af 0))) aq) aq))))
theorem i9:aM ["_law_pen", "_law_many", "_law_found"] ["_law_pen", "_law_many"] (au (aK 24)):=⟨rfl,rfl,rfl,by decide +kernel,rfl,by decide +kernel,by decide +kernel⟩
theorem nj (D:aX K mg "_law_draw" (aK 24)) (T:Blt mg) (fh:Has P w K mg base g "_law_next" 1 ["_law_seed"] dg):Has P w K mg base g "_law_draw" 2 ["_law_pen", "_law_many"] ay:=by
 obtain⟨f,fd,hm,F⟩:=D
 obtain⟨zB,yq,h9,ik,ic,ij,_⟩:=fh
 refine⟨f,fd,gA F i9 (fun cdv A outer s H E hr=>?_),F.kp,F.binds (fun _ _ _ _ _ _ us hl=>mX hl fun _ _=>rfl),hm,bI F⟩
 exact(@ax _ _ _ _ _ _ _ (@fB _ _ _ _ _ _ _ _ _ _ (PW.pt (@yL _ _ _ _ _ _ _ _ _ (@cp _ _ _ _ _ _ _ _ _ _ _ (fP hr.units) iZ (@eR _ _ _ _ _ _ _ _ _ _ cW eQ (af 0) aq (fun _ _=>rfl)) aq (bH _)) (@uX _ _ _ _ _ _ (@cp _ _ _ _ _ _ _ _ _ _ _ Bv BS (@eR _ _ _ _ _ _ _ _ _ _ cW eQ (af 0) aq (fun _ _=>rfl)) aq (bH _))))) (@ax _ _ _ _ _ _ _ (@bQ _ _ _ _ _ _ 2 _ _ i9.nd rfl (by first | exact Or.inl rfl | exact Or.inr rfl) (@aB _ _ _ _ _ _ _ _ _ _ _ mq lL (@eR _ _ _ _ _ _ _ _ _ _ cW eQ (af 0) aq (fun _ _=>rfl)) (af 1)) rfl (.inl rfl))
   (@ax _ _ _ _ _ _ _ (p_ (@aB _ _ _ _ _ _ _ _ _ _ _ sf yy (@eR _ _ _ _ _ _ _ _ _ _ cW eQ (af 0) aq (fun _ _=>rfl)) (af 1)) (af 0) aq set_list lR)
   (@aC _ _ _ _ _ (@bp _ _ _ _ _ _ (af 2))))) bu)
   (@ax _ _ _ _ _ _ _ (p_ (aN (h9.mono (by decide)) hr rfl ij ik ic (@ae _ _ _ _ _ _ _ (@aB _ _ _ _ _ _ _ _ _ _ _ bo bj (aN (h9.mono (by decide)) hr rfl ij ik ic (@ae _ _ _ _ _ _ _ (@eR _ _ _ _ _ _ _ _ _ _ cW eQ (af 0) aq (fun _ _=>rfl)) aj rfl) (ao aH)) aq) aj rfl) (ao aH)) (af 0) aq set_list lR)
   (@aC _ _ _ _ _ (@bp _ _ _ _ _ _ (@aB _ _ _ _ _ _ _ _ _ _ _ mq lL (@aB _ _ _ _ _ _ _ _ _ _ _ sf yy (@eR _ _ _ _ _ _ _ _ _ _ cW eQ (af 0) aq (fun _ _=>rfl)) aq) (af 1))))))
theorem kq:aM ["_law_pen", "_law_n", "_law_rare"] ["_law_pen", "_law_n"] (au (aK 28)):=⟨rfl,rfl,rfl,by decide +kernel,rfl,by decide +kernel,by decide +kernel⟩
theorem pP (D:aX K mg "_law_set" (aK 28)) (T:Blt mg) (aY:Has P w K mg base g "_law_draw" 2 ["_law_pen", "_law_many"] ay):Has P w K mg base g "_law_set" 3 ["_law_pen", "_law_n"] cU:=by
 obtain⟨f,fd,hm,F⟩:=D
 obtain⟨fj,eO,aU,aS,aT,aV,_⟩:=aY
 refine⟨f,fd,gA F kq (fun cdv A outer s H E hr=>?_),F.kp,F.binds (fun _ _ _ _ _ _ us hl=>mX hl fun _ _=>rfl),hm,bI F⟩
 exact(@ax _ _ _ _ _ _ _ (@bQ _ _ _ _ _ _ 2 _ _ kq.nd rfl (by first | exact Or.inl rfl | exact Or.inr rfl) (@eR _ _ _ _ _ _ _ _ _ _ cW eQ (@bq _ _ _ _ _ _ _ _ (@ae _ _ _ _ _ _ _ (@bq _ _ _ _ _ _ _ _ (@ae _ _ _ _ _ _ _ aq (@ae _ _ _ _ _ _ _ aq aj rfl) rfl)) (@ae _ _ _ _ _ _ _ (@bq _ _ _ _ _ _ _ _ (@ae _ _ _ _ _ _ _ aq (@ae _ _ _ _ _ _ _ aq aj rfl) rfl)) (@ae _ _ _ _ _ _ _ (@bq _ _ _ _ _ _ _ _ (@ae _ _ _ _ _ _ _ aq (@ae _ _ _ _ _ _ _ aq aj rfl) rfl)) aj rfl) rfl) rfl)) (aN (aU.mono (by decide)) hr rfl aV aS aT (@ae _ _ _ _ _ _ _ (af 0) (@ae _ _ _ _ _ _ _ aq aj rfl) rfl) (ao (ao aH))) (fun _ _=>rfl)) rfl (.inl rfl))
   (@aC _ _ _ _ _ (@bp _ _ _ _ _ _ (b9 bY eE rfl T.tuple PyProof.Rows.boot_tuple (@ae _ _ _ _ _ _ _ (fD (osc:=au (aK 28)) [0,2] ["_law_place", "_law_pen", "_law_rare"] rfl rfl rfl rfl (by decide +kernel) ⟨by decide +kernel,by decide +kernel,rfl,by decide +kernel,rfl,by decide +kernel⟩ (qj rfl T.range (@ae _ _ _ _ _ _ _ (@aB _ _ _ _ _ _ _ _ _ _ _ dH dG (af 1) aq) aj rfl))
    (fun cl C aJ aO fp=>(tV (@cp _ _ _ _ _ _ _ _ _ _ _ qK sx (aN (aU.mono (by decide)) hr rfl aV aS aT (@ae _ _ _ _ _ _ _ (af 1) (@ae _ _ _ _ _ _ _ (@eR _ _ _ _ _ _ _ _ _ _ cW eQ (af 2) aq (fun _ _=>rfl)) aj rfl) rfl) (ao (ao aH))) (@eR _ _ _ _ _ _ _ _ _ _ cW eQ (af 2) aq (fun _ _=>rfl)) (bH _)))) (fun cl C aJ aO fp=>(af 0))) aj rfl)))))
theorem ec:aM ["_law_pen", "_law_n", "_law_some", "_law_way", "_law_spot", "_law_odd", "_law_bent_here"] ["_law_pen", "_law_n", "_law_some"] (au (aK 31)):=⟨rfl,rfl,rfl,by decide +kernel,rfl,by decide +kernel,by decide +kernel⟩
theorem nq (D:aX K mg "_law_bent" (aK 31)) (T:Blt mg) (aY:Has P w K mg base g "_law_draw" 2 ["_law_pen", "_law_many"] ay):Has P w K mg base g "_law_bent" 3 ["_law_pen", "_law_n", "_law_some"] cn:=by
 obtain⟨f,fd,hm,F⟩:=D
 obtain⟨fj,eO,aU,aS,aT,aV,_⟩:=aY
 refine⟨f,fd,gA F ec (fun cdv A outer s H E hr=>?_),F.kp,F.binds (fun _ _ _ _ _ _ us hl=>vq hl fun _ _ _=>rfl),hm,bI F⟩
 exact(@ax _ _ _ _ _ _ _ (yE (i:=3) (j:=4) rfl ec.nd rfl rfl (by decide) (@ae _ _ _ _ _ _ _ (aN (aU.mono (by decide)) hr rfl aV aS aT (@ae _ _ _ _ _ _ _ (af 0) (@ae _ _ _ _ _ _ _ aq aj rfl) rfl) (ao (ao aH))) (@ae _ _ _ _ _ _ _ (aN (aU.mono (by decide)) hr rfl aV aS aT (@ae _ _ _ _ _ _ _ (af 0) (@ae _ _ _ _ _ _ _ (@aB _ _ _ _ _ _ _ _ _ _ _ bo bj (ba kZ lF rfl T.len PySem.boot_len (@ae _ _ _ _ _ _ _ (af 2) aj rfl)) aq) aj rfl) rfl) (ao (ao aH))) aj rfl) rfl))
   (@ax _ _ _ _ _ _ _ (@bQ _ _ _ _ _ _ 5 _ _ ec.nd rfl (by first | exact Or.inl rfl | exact Or.inr rfl) (@eR _ _ _ _ _ _ _ _ _ _ cW eQ (@bq _ _ _ _ _ _ _ _ (@ae _ _ _ _ _ _ _ (@aB _ _ _ _ _ _ _ _ _ _ _ dH dG (af 1) aq) (@ae _ _ _ _ _ _ _ (@nY _ _ _ _ _ _ _ _ _ iA jF aq) (@ae _ _ _ _ _ _ _ cT (@ae _ _ _ _ _ _ _ cT (@ae _ _ _ _ _ _ _ pF (@ae _ _ _ _ _ _ _ cV (@ae _ _ _ _ _ _ _ (@bq _ _ _ _ _ _ _ _ (@ae _ _ _ _ _ _ _ aq aj rfl)) (@ae _ _ _ _ _ _ _ pE (@ae _ _ _ _ _ _ _ (@bz _ _ _ _ _ _ _ (@ae _ _ _ _ _ _ _ aq aj rfl)) (@ae _ _ _ _ _ _ _ (@aB _ _ _ _ _ _ _ _ _ _ _ oZ sP aq aq) (@ae _ _ _ _ _ _ _ aq (@ae _ _ _ _ _ _ _ (af 1) aj rfl) rfl) rfl) rfl) rfl) rfl) rfl) rfl) rfl) rfl) rfl) rfl)) (aN (aU.mono (by decide)) hr rfl aV aS aT (@ae _ _ _ _ _ _ _ (af 0) (@ae _ _ _ _ _ _ _ aq aj rfl) rfl) (ao (ao aH))) (fun _ _=>rfl)) rfl (.inl rfl))
   (@ax _ _ _ _ _ _ _ (@bQ _ _ _ _ _ _ 6 _ _ ec.nd rfl (by first | exact Or.inl rfl | exact Or.inr rfl) (@aB _ _ _ _ _ _ _ _ _ _ _ bo bj (@aB _ _ _ _ _ _ _ _ _ _ _ bo bj (cx (af 2) dz (@cN _ _ _ _ _ (af 4))) (@bz _ _ _ _ _ _ _ (@ae _ _ _ _ _ _ _ (af 5) aj rfl))) (cx (af 2) (@cN _ _ _ _ _ (@aB _ _ _ _ _ _ _ _ _ _ _ bo bj (af 4) aq)) dz)) rfl (.inl rfl))
   (@aC _ _ _ _ _ (@bp _ _ _ _ _ _ (@eR _ _ _ _ _ _ _ _ _ _ cW eQ (@bq _ _ _ _ _ _ _ _ (@ae _ _ _ _ _ _ _ (af 6) (@ae _ _ _ _ _ _ _ (af 6) (@ae _ _ _ _ _ _ _ (@aB _ _ _ _ _ _ _ _ _ _ _ bo bj (@aB _ _ _ _ _ _ _ _ _ _ _ bo bj (cx (af 2) dz (@cN _ _ _ _ _ (af 4))) (@bz _ _ _ _ _ _ _ (@ae _ _ _ _ _ _ _ (af 5) aj rfl))) (cx (af 2) (@cN _ _ _ _ _ (af 4)) dz)) (@ae _ _ _ _ _ _ _ (Aj (af 2)) (@ae _ _ _ _ _ _ _ (b9 (aR.frz fY) pY rfl T.list PyProof.Rows.boot_list (@ae _ _ _ _ _ _ _ (af 2) aj rfl)) (@ae _ _ _ _ _ _ _ (@aB _ _ _ _ _ _ _ _ _ _ _ bo bj (af 2) (cx (af 2) (@cN _ _ _ _ _ (@nY _ _ _ _ _ _ _ _ _ iA jF aq)) dz)) (@ae _ _ _ _ _ _ _ (cx (af 2) (@cN _ _ _ _ _ aq) dz) aj rfl) rfl) rfl) rfl) rfl) rfl) rfl)) (af 3) (fun _ _=>rfl)))))))
theorem rF:aM ["thing"] ["thing"] (au (aK 10)):=⟨rfl,rfl,rfl,by decide +kernel,rfl,by decide +kernel,by decide +kernel⟩
theorem p0 (D:aX K mg "is_whole" (aK 10)) (T:Blt mg):Has P w K mg base g "is_whole" 1 ["thing"] cw:=by
 obtain⟨f,fd,hm,F⟩:=D
 refine⟨f,fd,gA F rF (fun cdv A outer s H E hr=>?_),F.kp,F.binds (fun _ _ _ _ _ _ us hl=>mZ hl fun _=>rfl),hm,bI F⟩
 exact(@aC _ _ _ _ _ (@bp _ _ _ _ _ _ (@pL _ _ _ _ _ _ _ _ _ (fR (af 0) rfl T.isinstance rfl T.int PyProof.Rows.boot_int) (@oO _ _ _ _ _ _ _ (@yX _ _ _ _ _ _ (fR (af 0) rfl T.isinstance rfl T.bool PyProof.Rows.boot_bool))))))
theorem qs:aM ["thing", "least", "most"] ["thing", "least", "most"] (au (aK 11)):=⟨rfl,rfl,rfl,by decide +kernel,rfl,by decide +kernel,by decide +kernel⟩
theorem mP (D:aX K mg "is_within" (aK 11)) (T:Blt mg) (cL:Has P w K mg base g "is_whole" 1 ["thing"] cw):Has P w K mg base g "is_within" 2 ["thing", "least", "most"] a_:=by
 obtain⟨f,fd,hm,F⟩:=D
 obtain⟨p6,nh,gi,fW,fK,gj,_⟩:=cL
 refine⟨f,fd,gA F qs (fun cdv A outer s H E hr=>?_),F.kp,F.binds (fun _ _ _ _ _ _ us hl=>vq hl fun _ _ _=>rfl),hm,bI F⟩
 exact(@aC _ _ _ _ _ (@bp _ _ _ _ _ _ (@pL _ _ _ _ _ _ _ _ _ (aN (gi.mono (by decide)) hr rfl gj fW fK (@ae _ _ _ _ _ _ _ (af 0) aj rfl) (ao aH)) (@oO _ _ _ _ _ _ _ (xQ uJ uJ uy uy (af 1) (af 0) (af 2))))))
theorem fu:aM ["thing", "least", "most"] ["thing", "least", "most"] (au (aK 12)):=⟨rfl,rfl,rfl,by decide +kernel,rfl,by decide +kernel,by decide +kernel⟩
theorem jx (D:aX K mg "number_needed" (aK 12)) (T:Blt mg) (aZ:Has P w K mg base g "is_within" 2 ["thing", "least", "most"] a_):Has P w K mg base g "number_needed" 3 ["thing", "least", "most"] bN:=by
 obtain⟨f,fd,hm,F⟩:=D
 obtain⟨fm,eH,bV,bS,bW,bX,_⟩:=aZ
 refine⟨f,fd,gA F fu (fun cdv A outer s H E hr=>?_),F.kp,F.binds (fun _ _ _ _ _ _ us hl=>vq hl fun _ _ _=>rfl),hm,bI F⟩
 exact(@aC _ _ _ _ _ (@fB _ _ _ _ _ _ _ _ _ _ (@cS _ _ _ _ _ _ (@bw _ _ _ _ _ _ cR (aN (bV.mono (by decide)) hr rfl bX bS bW (@ae _ _ _ _ _ _ _ (af 0) (@ae _ _ _ _ _ _ _ (af 1) (@ae _ _ _ _ _ _ _ (af 2) aj rfl) rfl) rfl) (ao (ao (ao aH)))) (fun _=>rfl))) (@aC _ _ _ _ _ (PS.imp xC fun E σ H ⟨α,env,h,s,w⟩=>w.elim)) bu))
theorem cf:aM ["n", "thing", "least", "place"] ["n", "thing"] (au (aK 15)):=⟨rfl,rfl,rfl,by decide +kernel,rfl,by decide +kernel,by decide +kernel⟩
theorem pQ (D:aX K mg "set_good" (aK 15)) (T:Blt mg) {b_:Tok} (bc:mg "MOST_NUMBERS" = some (.int 12 b_)) (dB:Has P w K mg base g "number_needed" 3 ["thing", "least", "most"] bN) (aZ:Has P w K mg base g "is_within" 2 ["thing", "least", "most"] a_):Has P w K mg base g "set_good" 4 ["n", "thing"] dF:=by
 obtain⟨f,fd,hm,F⟩:=D
 obtain⟨uR,sF,jo,jt,je,jA,_⟩:=dB
 obtain⟨fm,eH,bV,bS,bW,bX,_⟩:=aZ
 refine⟨f,fd,gA F cf (fun cdv A outer s H E hr=>?_),F.kp,F.binds (fun _ _ _ _ _ _ us hl=>mX hl fun _ _=>rfl),hm,bI F⟩
 exact(@ax _ _ _ _ _ _ _ (jN (aN (jo.mono (by decide)) hr rfl jA jt je (@ae _ _ _ _ _ _ _ (af 0) (@ae _ _ _ _ _ _ _ aq (@ae _ _ _ _ _ _ _ (mO rfl bc) aj rfl) rfl) rfl) (ao (ao (ao aH)))))
   (@ax _ _ _ _ _ _ _ (@fB _ _ _ _ _ _ _ _ _ _ (@cS _ _ _ _ _ _ (@bw _ _ _ _ _ _ cR (fR (af 1) rfl T.isinstance rfl T.tuple PyProof.Rows.boot_tuple) (fun _=>rfl))) (@aC _ _ _ _ _ (@bp _ _ _ _ _ _ cT)) bu)
   (@ax _ _ _ _ _ _ _ (@bQ _ _ _ _ _ _ 2 _ _ cf.nd rfl (by first | exact Or.inl rfl | exact Or.inr rfl) aq rfl (.inl rfl))
   (@ax _ _ _ _ _ _ _ (mH PassesOwn.never rfl (@e_ _ _ _ _ _ _ (af 1)) (dA (i:=3) cf.nd rfl (by first | exact Or.inl rfl | exact Or.inr rfl)) fN (@ax _ _ _ _ _ _ _ (@fB _ _ _ _ _ _ _ _ _ _ (@cS _ _ _ _ _ _ (@bw _ _ _ _ _ _ cR (aN (bV.mono (by decide)) hr rfl bX bS bW (@ae _ _ _ _ _ _ _ (af 3) (@ae _ _ _ _ _ _ _ (af 2) (@ae _ _ _ _ _ _ _ (@aB _ _ _ _ _ _ _ _ _ _ _ dH dG (af 0) aq) aj rfl) rfl) rfl) (ao (ao (ao aH)))) (fun _=>rfl))) (@aC _ _ _ _ _ (@bp _ _ _ _ _ _ cT)) bu)
   (@aC _ _ _ _ _ (@bQ _ _ _ _ _ _ 2 _ _ cf.nd rfl (by first | exact Or.inl rfl | exact Or.inr rfl) (@aB _ _ _ _ _ _ _ _ _ _ _ bo bj (af 3) aq) rfl (.inl rfl)))))
   (@aC _ _ _ _ _ (@bp _ _ _ _ _ _ cT))))))
theorem kc:aM ["_law_found"] ["_law_found"] (au (aK 27)):=⟨rfl,rfl,rfl,by decide +kernel,rfl,by decide +kernel,by decide +kernel⟩
theorem jh (D:aX K mg "_law_whole_of" (aK 27)) (T:Blt mg):Has P w K mg base g "_law_whole_of" 1 ["_law_found"] bP:=by
 obtain⟨f,fd,hm,F⟩:=D
 refine⟨f,fd,gA F kc (fun cdv A outer s H E hr=>?_),F.kp,F.binds (fun _ _ _ _ _ _ us hl=>mZ hl fun _=>rfl),hm,bI F⟩
 exact(@aC _ _ _ _ _ (@bp _ _ _ _ _ _ (@pL _ _ _ _ _ _ _ _ _ (fR (af 0) rfl T.isinstance rfl T.int PyProof.Rows.boot_int) (@oO _ _ _ _ _ _ _ (@yX _ _ _ _ _ _ (fR (af 0) rfl T.isinstance rfl T.bool PyProof.Rows.boot_bool))))))
theorem oX:aM ["_law_n", "_law_thing"] ["_law_n", "_law_thing"] (au (aK 29)):=⟨rfl,rfl,rfl,by decide +kernel,rfl,by decide +kernel,by decide +kernel⟩
theorem m9 (D:aX K mg "_law_good" (aK 29)) (T:Blt mg) (dv:Has P w K mg base g "_law_whole_of" 1 ["_law_found"] bP):Has P w K mg base g "_law_good" 2 ["_law_n", "_law_thing"] ck:=by
 obtain⟨f,fd,hm,F⟩:=D
 obtain⟨uL,tX,jb,jc,jj,iW,_⟩:=dv
 refine⟨f,fd,gA F oX (fun cdv A outer s H E hr=>?_),F.kp,F.binds (fun _ _ _ _ _ _ us hl=>mX hl fun _ _=>rfl),hm,bI F⟩
 exact(@ax _ _ _ _ _ _ _ (@fB _ _ _ _ _ _ _ _ _ _ (PW.pt (@lS _ _ _ _ _ _ _ _ _ (@cS _ _ _ _ _ _ (@bw _ _ _ _ _ _ cR (fR (af 1) rfl T.isinstance rfl T.tuple PyProof.Rows.boot_tuple) (fun _=>rfl))) (@iC _ _ _ _ _ _ (@cp _ _ _ _ _ _ _ _ _ _ _ (jO hr.units) oq (fD (osc:=au (aK 29)) [] ["_law_one"] rfl rfl rfl rfl (by decide +kernel) ⟨by decide +kernel,by decide +kernel,rfl,by decide +kernel,rfl,by decide +kernel⟩ (@e_ _ _ _ _ _ _ (af 1))
    (fun cl C aJ aO fp=>(tV (@cS _ _ _ _ _ _ (@bw _ _ _ _ _ _ cR (aN (jb.mono (by decide)) hr rfl iW jc jj (@ae _ _ _ _ _ _ _ (af 0) aj rfl) (ao aH)) (fun _=>rfl))))) (fun cl C aJ aO fp=>(af 0))) (@bq _ _ _ _ _ _ _ _ aj) (bH _))))) (@aC _ _ _ _ _ (@bp _ _ _ _ _ _ cT)) bu)
   (@aC _ _ _ _ _ (@bp _ _ _ _ _ _ (@pL _ _ _ _ _ _ _ _ _ (@l9 _ _ _ _ _ _ _ _ _ _ _ (fP hr.units) iZ (fD (osc:=au (aK 29)) [0] ["_law_one", "_law_n"] rfl rfl rfl rfl (by decide +kernel) ⟨by decide +kernel,by decide +kernel,rfl,by decide +kernel,rfl,by decide +kernel⟩ (@e_ _ _ _ _ _ _ (af 1))
    (fun cl C aJ aO fp=>(tV (@cS _ _ _ _ _ _ (xw uJ qK uy sx aq (af 0) (@aB _ _ _ _ _ _ _ _ _ _ _ dH dG (af 1) aq))))) (fun cl C aJ aO fp=>(af 0))) (@bq _ _ _ _ _ _ _ _ aj) (bH _)) (@oO _ _ _ _ _ _ _ (@l9 _ _ _ _ _ _ _ _ _ _ _ (fP hr.units) iZ (b9 (aR.frz fY) pY rfl T.list PyProof.Rows.boot_list (@ae _ _ _ _ _ _ _ (af 1) aj rfl)) (xg (aR.frz (rq rfl)) (we rfl) xh rfl T.sorted PyProof.Rows.boot_sorted rfl T.set PyProof.Rows.boot_set (@ae _ _ _ _ _ _ _ (af 1) aj rfl)) (bH _)))))))
theorem fk:aM ["_law_n", "_law_some", "_law_found", "_law_place"] ["_law_n", "_law_some"] (au (aK 32)):=⟨rfl,rfl,rfl,by decide +kernel,rfl,by decide +kernel,by decide +kernel⟩
theorem mj (D:aX K mg "_law_sizes" (aK 32)) (T:Blt mg):Has P w K mg base g "_law_sizes" 1 ["_law_n", "_law_some"] cP:=by
 obtain⟨f,fd,hm,F⟩:=D
 refine⟨f,fd,kO (gA F fk (fun cdv A outer s H E hr=>?_)),F.kp,F.binds (fun _ _ _ _ _ _ us hl=>mX hl fun _ _=>rfl),hm,bI F⟩
 exact(@ax _ _ _ _ _ _ _ (@bQ _ _ _ _ _ _ 2 _ _ fk.nd rfl (by first | exact Or.inl rfl | exact Or.inr rfl) (@bq _ _ _ _ _ _ _ _ (@ae _ _ _ _ _ _ _ aq aj rfl)) rfl (.inl rfl))
   (@ax _ _ _ _ _ _ _ (mH PassesOwn.never rfl (qj rfl T.range (@ae _ _ _ _ _ _ _ (@aB _ _ _ _ _ _ _ _ _ _ _ dH dG (af 0) aq) aj rfl)) (dA (i:=3) fk.nd rfl (by first | exact Or.inl rfl | exact Or.inr rfl)) fN (@ax _ _ _ _ _ _ _ (@fB _ _ _ _ _ _ _ _ _ _ (@cp _ _ _ _ _ _ _ _ _ _ _ wg DX (af 3) (af 1) (by rfl)) (@aC _ _ _ _ _ (jN (l6 PySem.F.slot_list_append PySem.F.type_list_append g_ j7 (af 2) (@ae _ _ _ _ _ _ _ aq aj rfl)))) bu)
   (@aC _ _ _ _ _ (p_ (@aB _ _ _ _ _ _ _ _ _ _ _ bo bj (@eR _ _ _ _ _ _ _ _ _ _ cW eQ (af 2) (@nY _ _ _ _ _ _ _ _ _ iA jF aq) (fun _ _=>rfl)) aq) (af 2) (@nY _ _ _ _ _ _ _ _ _ iA jF aq) set_list lR))))
   (@aC _ _ _ _ _ (@bp _ _ _ _ _ _ (b9 bY eE rfl T.tuple PyProof.Rows.boot_tuple (@ae _ _ _ _ _ _ _ (af 2) aj rfl))))))
theorem dY:aM ["_law_e", "_law_marks"] ["_law_e"] (au (aK 25)):=⟨rfl,rfl,rfl,by decide +kernel,rfl,by decide +kernel,by decide +kernel⟩
theorem jI (D:aX K mg "_law_kind_of" (aK 25)) (T:Blt mg) (hgo:g=gOf mg) (CL:kD K mg):Af P w K mg base g "_law_kind_of" 1 ["_law_e"] eM:=by
 obtain⟨f,fd,hm,F⟩:=D
 refine⟨f,fd,Bu F dY (fun cdv A outer s H E hr=>?_),F.kp,F.binds (fun _ _ _ _ _ _ us hl=>mZ hl fun _=>rfl),hm⟩
 exact(@ax _ _ _ _ _ _ _ (@bQ _ _ _ _ _ _ 1 _ _ dY.nd rfl (by first | exact Or.inl rfl | exact Or.inr rfl) (@bq _ _ _ _ _ _ _ _ (@ae _ _ _ _ _ _ _ (iR CL hgo (af 0) rfl T.isinstance rfl (by decide)) (@ae _ _ _ _ _ _ _ (iR CL hgo (af 0) rfl T.isinstance rfl (by decide)) (@ae _ _ _ _ _ _ _ (iR CL hgo (af 0) rfl T.isinstance rfl (by decide)) (@ae _ _ _ _ _ _ _ (iR CL hgo (af 0) rfl T.isinstance rfl (by decide)) aj rfl) rfl) rfl) rfl)) rfl (.inl rfl))
   (@ax _ _ _ _ _ _ _ (@bQ _ _ _ _ _ _ 1 _ _ dY.nd rfl (by first | exact Or.inl rfl | exact Or.inr rfl) (@aB _ _ _ _ _ _ _ _ _ _ _ bo bj (af 1) (@bq _ _ _ _ _ _ _ _ (@ae _ _ _ _ _ _ _ (iR CL hgo (af 0) rfl T.isinstance rfl (by decide)) (@ae _ _ _ _ _ _ _ (iR CL hgo (af 0) rfl T.isinstance rfl (by decide)) (@ae _ _ _ _ _ _ _ (iR CL hgo (af 0) rfl T.isinstance rfl (by decide)) aj rfl) rfl) rfl))) rfl (.inl rfl))
   (@ax _ _ _ _ _ _ _ (@fB _ _ _ _ _ _ _ _ _ _ (PW.pt (@lS _ _ _ _ _ _ _ _ _ (@cS _ _ _ _ _ _ (@bw _ _ _ _ _ _ cR (Dy CL hgo (af 0) rfl T.isinstance rfl T.ValueError) (fun _=>rfl))) (@iC _ _ _ _ _ _ (@cp _ _ _ _ _ _ _ _ _ _ _ (jO hr.units) oq (l6 PySem.F.slot_list_count PySem.F.type_list_count wA vV (af 1) (@ae _ _ _ _ _ _ _ cT aj rfl)) aq (bH _))))) (@aC _ _ _ _ _ (@bp _ _ _ _ _ _ cV)) bu)
   (@aC _ _ _ _ _ (@bp _ _ _ _ _ _ (@eR _ _ _ _ _ _ _ _ _ _ cW eQ (@bq _ _ _ _ _ _ _ _ (@ae _ _ _ _ _ _ _ cV (@ae _ _ _ _ _ _ _ cV (@ae _ _ _ _ _ _ _ cV (@ae _ _ _ _ _ _ _ cV (@ae _ _ _ _ _ _ _ cV (@ae _ _ _ _ _ _ _ cV (@ae _ _ _ _ _ _ _ cV aj rfl) rfl) rfl) rfl) rfl) rfl) rfl)) (l6 PySem.F.slot_list_index PySem.F.type_list_index v9 wF (af 1) (@ae _ _ _ _ _ _ _ cT aj rfl)) (fun _ _=>rfl)))))))
theorem gq:aM ["_law_e", "_law_kind"] ["_law_e"] (au (aK 26)):=⟨rfl,rfl,rfl,by decide +kernel,rfl,by decide +kernel,by decide +kernel⟩
theorem j9 (D:aX K mg "_law_refused" (aK 26)) (T:Blt mg) (hgo:g=gOf mg) (j_:CIm K mg "NoText" (aK 7) ["row"]) (eT:CIm K mg "TooGreat" (aK 8) ["many", "most"]) (dE:Af P w K mg base g "_law_kind_of" 1 ["_law_e"] eM):Af P w K mg base g "_law_refused" 2 ["_law_e"] bb:=by
 obtain⟨f,fd,hm,F⟩:=D
 obtain⟨vW,ur,jJ,ke,jP,j4⟩:=dE
 refine⟨f,fd,Bu F gq (fun cdv A outer s H E hr=>?_),F.kp,F.binds (fun _ _ _ _ _ _ us hl=>mZ hl fun _=>rfl),hm⟩
 exact(@ax _ _ _ _ _ _ _ (@bQ _ _ _ _ _ _ 1 _ _ gq.nd rfl (by first | exact Or.inl rfl | exact Or.inr rfl) (xF (jJ.mono (by decide)) hr rfl j4 ke jP (@ae _ _ _ _ _ _ _ (af 0) aj rfl) (ao aH)) rfl (.inl rfl))
   (@ax _ _ _ _ _ _ _ (@fB _ _ _ _ _ _ _ _ _ _ (@cp _ _ _ _ _ _ _ _ _ _ _ (fP hr.units) iZ (af 1) cV (bH _)) (@aC _ _ _ _ _ (@bp _ _ _ _ _ _ (@bz _ _ _ _ _ _ _ (@ae _ _ _ _ _ _ _ (af 1) (@ae _ _ _ _ _ _ _ (pZ (af 0) j_ hgo (by decide)) aj rfl) rfl)))) bu)
   (@aC _ _ _ _ _ (@bp _ _ _ _ _ _ (@k7 _ _ _ _ _ _ _ _ _ _ (@cp _ _ _ _ _ _ _ _ _ _ _ (fP hr.units) iZ (af 1) cV (bH _)) (@bz _ _ _ _ _ _ _ (@ae _ _ _ _ _ _ _ (af 1) (@ae _ _ _ _ _ _ _ (pZ (af 0) eT hgo (by decide)) (@ae _ _ _ _ _ _ _ (pZ (af 0) eT hgo (by decide)) aj rfl) rfl) rfl)) (@bz _ _ _ _ _ _ _ (@ae _ _ _ _ _ _ _ (af 1) aj rfl)))))))
theorem jy (D:aX K mg "number_needed" (aK 12)) (T:Blt mg) (hgo:g=gOf mg) (CL:kD K mg) (aZ:Has P w K mg base g "is_within" 2 ["thing", "least", "most"] a_):nG P w K mg base g "number_needed" 3 ["thing", "least", "most"] bO:=by
 obtain⟨f,fd,hm,F⟩:=D
 obtain⟨fm,eH,bV,bS,bW,bX,_⟩:=aZ
 obtain⟨A_NoNumber,iw⟩:=CL.at_ "NoNumber" (by decide)
 refine⟨f,fd,rS F fu (fun cdv A outer s H E hr fl pl po=>?_),F.kp,F.binds (fun _ _ _ _ _ _ us hl=>vq hl fun _ _ _=>rfl),hm⟩
 exact(@aC _ _ _ _ _ (@fB _ _ _ _ _ _ _ _ _ _ (@zo _ _ _ _ _ (@cS _ _ _ _ _ _ (@bw _ _ _ _ _ _ cR (aN (bV.mono (by decide)) hr rfl bX bS bW (@ae _ _ _ _ _ _ _ (af 0) (@ae _ _ _ _ _ _ _ (af 1) (@ae _ _ _ _ _ _ _ (af 2) aj rfl) rfl) rfl) (ao (ao (ao aH)))) (fun _=>rfl)))) (@aC _ _ _ _ _ (pq fl pl rfl rfl iw (sR hgo iw) ((CL.one _ (by decide) _ iw).2.2 rfl))) bu))
theorem qt (D:aX K mg "set_good" (aK 15)) (T:Blt mg) {b_:Tok} (bc:mg "MOST_NUMBERS" = some (.int 12 b_)) (dw:nG P w K mg base g "number_needed" 3 ["thing", "least", "most"] bO) (aZ:Has P w K mg base g "is_within" 2 ["thing", "least", "most"] a_):nG P w K mg base g "set_good" 4 ["n", "thing"] eN:=by
 obtain⟨f,fd,hm,F⟩:=D
 obtain⟨uH,sC,jB,jf,iT,iX⟩:=dw
 obtain⟨fm,eH,bV,bS,bW,bX,_⟩:=aZ
 refine⟨f,fd,rS F cf (fun cdv A outer s H E hr fl pl po=>?_),F.kp,F.binds (fun _ _ _ _ _ _ us hl=>mX hl fun _ _=>rfl),hm⟩
 exact(@ax _ _ _ _ _ _ _ (jN (gR fl pl (jB.mono (by decide)) hr rfl iX jf iT (@ae _ _ _ _ _ _ _ (@h_ _ _ _ _ _ (af 0)) (@ae _ _ _ _ _ _ _ (@h_ _ _ _ _ _ aq) (@ae _ _ _ _ _ _ _ (@h_ _ _ _ _ _ (mO rfl bc)) aj rfl) rfl) rfl) (ao (ao (ao aH)))))
   (@ax _ _ _ _ _ _ _ (@lA _ _ _ _ _ (@fB _ _ _ _ _ _ _ _ _ _ (@cS _ _ _ _ _ _ (@bw _ _ _ _ _ _ cR (fR (af 1) rfl T.isinstance rfl T.tuple PyProof.Rows.boot_tuple) (fun _=>rfl))) (@aC _ _ _ _ _ (@bp _ _ _ _ _ _ cT)) bu))
   (@ax _ _ _ _ _ _ _ (@lA _ _ _ _ _ (@bQ _ _ _ _ _ _ 2 _ _ cf.nd rfl (by first | exact Or.inl rfl | exact Or.inr rfl) aq rfl (.inl rfl)))
   (@ax _ _ _ _ _ _ _ (@lA _ _ _ _ _ (mH PassesOwn.never rfl (@e_ _ _ _ _ _ _ (af 1)) (dA (i:=3) cf.nd rfl (by first | exact Or.inl rfl | exact Or.inr rfl)) fN (@ax _ _ _ _ _ _ _ (@fB _ _ _ _ _ _ _ _ _ _ (@cS _ _ _ _ _ _ (@bw _ _ _ _ _ _ cR (aN (bV.mono (by decide)) hr rfl bX bS bW (@ae _ _ _ _ _ _ _ (af 3) (@ae _ _ _ _ _ _ _ (af 2) (@ae _ _ _ _ _ _ _ (@aB _ _ _ _ _ _ _ _ _ _ _ dH dG (af 0) aq) aj rfl) rfl) rfl) (ao (ao (ao aH)))) (fun _=>rfl))) (@aC _ _ _ _ _ (@bp _ _ _ _ _ _ cT)) bu)
   (@aC _ _ _ _ _ (@bQ _ _ _ _ _ _ 2 _ _ cf.nd rfl (by first | exact Or.inl rfl | exact Or.inr rfl) (@aB _ _ _ _ _ _ _ _ _ _ _ bo bj (af 3) aq) rfl (.inl rfl))))))
   (@aC _ _ _ _ _ (@lA _ _ _ _ _ (@bp _ _ _ _ _ _ cT)))))))
theorem mY:aM ["n", "thing"] ["n", "thing"] (au (aK 16)):=⟨rfl,rfl,rfl,by decide +kernel,rfl,by decide +kernel,by decide +kernel⟩
theorem lZ (D:aX K mg "set_needed" (aK 16)) (T:Blt mg) (hgo:g=gOf mg) (CL:kD K mg) (f9:nG P w K mg base g "set_good" 4 ["n", "thing"] eN):nG P w K mg base g "set_needed" 5 ["n", "thing"] cu:=by
 obtain⟨f,fd,hm,F⟩:=D
 obtain⟨Ax,zG,pW,qb,qC,qi⟩:=f9
 obtain⟨A_NoSet,p5⟩:=CL.at_ "NoSet" (by decide)
 refine⟨f,fd,rS F mY (fun cdv A outer s H E hr fl pl po=>?_),F.kp,F.binds (fun _ _ _ _ _ _ us hl=>mX hl fun _ _=>rfl),hm⟩
 exact(@aC _ _ _ _ _ (@fB _ _ _ _ _ _ _ _ _ _ (@cS _ _ _ _ _ _ (@bw _ _ _ _ _ _ cR (gR fl pl (pW.mono (by decide)) hr rfl qi qb qC (@ae _ _ _ _ _ _ _ (@h_ _ _ _ _ _ (af 0)) (@ae _ _ _ _ _ _ _ (@h_ _ _ _ _ _ (af 1)) aj rfl) rfl) (ao (ao aH))) (fun _=>rfl))) (@aC _ _ _ _ _ (pq fl pl rfl rfl p5 (sR hgo p5) ((CL.one _ (by decide) _ p5).2.2 rfl))) bu))
theorem gz:aM ["n", "some", "starts", "ends"] ["n", "some"] (au (aK 17)):=⟨rfl,rfl,rfl,by decide +kernel,rfl,by decide +kernel,by decide +kernel⟩
theorem o_ (D:aX K mg "sizes_of" (aK 17)) (T:Blt mg) (eP:nG P w K mg base g "set_needed" 5 ["n", "thing"] cu):nG P w K mg base g "sizes_of" 6 ["n", "some"] cI:=by
 obtain⟨f,fd,hm,F⟩:=D
 obtain⟨yB,wW,lT,lJ,lU,lG⟩:=eP
 refine⟨f,fd,rS F gz (fun cdv A outer s H E hr fl pl po=>?_),F.kp,F.binds (fun _ _ _ _ _ _ us hl=>mX hl fun _ _=>rfl),hm⟩
 exact(@ax _ _ _ _ _ _ _ (jN (gR fl pl (lT.mono (by decide)) hr rfl lG lJ lU (@ae _ _ _ _ _ _ _ (@h_ _ _ _ _ _ (af 0)) (@ae _ _ _ _ _ _ _ (@h_ _ _ _ _ _ (af 1)) aj rfl) rfl) (ao (ao aH))))
   (@ax _ _ _ _ _ _ _ (@lA _ _ _ _ _ (@bQ _ _ _ _ _ _ 2 _ _ gz.nd rfl (by first | exact Or.inl rfl | exact Or.inr rfl) (@aB _ _ _ _ _ _ _ _ _ _ _ bo bj (@bz _ _ _ _ _ _ _ (@ae _ _ _ _ _ _ _ aq aj rfl)) (b9 bY eE rfl T.tuple PyProof.Rows.boot_tuple (@ae _ _ _ _ _ _ _ (fD (osc:=au (aK 17)) [] ["place"] rfl rfl rfl rfl (by decide +kernel) ⟨by decide +kernel,by decide +kernel,rfl,by decide +kernel,rfl,by decide +kernel⟩ (@e_ _ _ _ _ _ _ (af 1))
    (fun cl C aJ aO fp=>lj) (fun cl C aJ aO fp=>(@aB _ _ _ _ _ _ _ _ _ _ _ bo bj (af 0) aq))) aj rfl))) rfl (.inl rfl)))
   (@ax _ _ _ _ _ _ _ (@lA _ _ _ _ _ (@bQ _ _ _ _ _ _ 3 _ _ gz.nd rfl (by first | exact Or.inl rfl | exact Or.inr rfl) (@aB _ _ _ _ _ _ _ _ _ _ _ bo bj (cx (af 2) (@cN _ _ _ _ _ aq) dz) (@bz _ _ _ _ _ _ _ (@ae _ _ _ _ _ _ _ (af 0) aj rfl))) rfl (.inl rfl)))
   (@aC _ _ _ _ _ (@lA _ _ _ _ _ (@bp _ _ _ _ _ _ (b9 bY eE rfl T.tuple PyProof.Rows.boot_tuple (@ae _ _ _ _ _ _ _ (yH (osc:=au (aK 17)) [] ["start", "end"] rfl rfl rfl rfl (by decide +kernel) ⟨by decide +kernel,by decide +kernel,rfl,by decide +kernel,by decide +kernel⟩ (AI rfl T.zip (@ae _ _ _ _ _ _ _ (af 2) (@ae _ _ _ _ _ _ _ (af 3) aj rfl) rfl)) (fun cl C aJ aO fp=>⟨Or.inl rfl,rfl⟩) (fun cl C aJ aO fp=>⟨Or.inl rfl,rfl⟩)
    (fun cl C aJ aO fp=>lj) (fun cl C aJ aO fp=>(@aB _ _ _ _ _ _ _ _ _ _ _ dH dG (af 1) (af 0)))) aj rfl))))))))
theorem ib:aM ["thing", "size"] ["thing"] (au (aK 19)):=⟨rfl,rfl,rfl,by decide +kernel,rfl,by decide +kernel,by decide +kernel⟩
theorem l8 (D:aX K mg "sizes_good" (aK 19)) (T:Blt mg) {b_:Tok} (bc:mg "MOST_NUMBERS" = some (.int 12 b_)) (cL:Has P w K mg base g "is_whole" 1 ["thing"] cw):Has P w K mg base g "sizes_good" 2 ["thing"] cO:=by
 obtain⟨f,fd,hm,F⟩:=D
 obtain⟨p6,nh,gi,fW,fK,gj,_⟩:=cL
 refine⟨f,fd,gA F ib (fun cdv A outer s H E hr=>?_),F.kp,F.binds (fun _ _ _ _ _ _ us hl=>mZ hl fun _=>rfl),hm,bI F⟩
 exact(@ax _ _ _ _ _ _ _ (@fB _ _ _ _ _ _ _ _ _ _ (PW.pt (@lS _ _ _ _ _ _ _ _ _ (@cS _ _ _ _ _ _ (@bw _ _ _ _ _ _ cR (fR (af 0) rfl T.isinstance rfl T.tuple PyProof.Rows.boot_tuple) (fun _=>rfl))) (@iC _ _ _ _ _ _ (@cp _ _ _ _ _ _ _ _ _ _ _ (fP hr.units) iZ (ba kZ lF rfl T.len PySem.boot_len (@ae _ _ _ _ _ _ _ (af 0) aj rfl)) aq (bH _))))) (@aC _ _ _ _ _ (@bp _ _ _ _ _ _ cT)) bu)
   (@ax _ _ _ _ _ _ _ (mH PassesOwn.never rfl (@e_ _ _ _ _ _ _ (af 0)) (dA (i:=1) ib.nd rfl (by first | exact Or.inl rfl | exact Or.inr rfl)) fN (@aC _ _ _ _ _ (@fB _ _ _ _ _ _ _ _ _ _ (PW.pt (@lS _ _ _ _ _ _ _ _ _ (@cS _ _ _ _ _ _ (@bw _ _ _ _ _ _ cR (aN (gi.mono (by decide)) hr rfl gj fW fK (@ae _ _ _ _ _ _ _ (af 1) aj rfl) (ao aH)) (fun _=>rfl))) (@iC _ _ _ _ _ _ (@cp _ _ _ _ _ _ _ _ _ _ _ qK sx (af 1) aq (bH _))))) (@aC _ _ _ _ _ (@bp _ _ _ _ _ _ cT)) bu)))
   (@aC _ _ _ _ _ (@bp _ _ _ _ _ _ (@l9 _ _ _ _ _ _ _ _ _ _ _ uJ uy (ba (eB rfl) jE rfl T.sum PyProof.Rows.boot_sum (@ae _ _ _ _ _ _ _ (af 0) aj rfl)) (mO rfl bc) (bH _))))))
theorem fq:aM ["sizes", "some", "n", "size"] ["sizes"] (au (aK 18)):=⟨rfl,rfl,rfl,by decide +kernel,rfl,by decide +kernel,by decide +kernel⟩
theorem sO (D:aX K mg "set_by" (aK 18)) (T:Blt mg) (hgo:g=gOf mg) (CL:kD K mg) (eD:Has P w K mg base g "sizes_good" 2 ["thing"] cO):nG P w K mg base g "set_by" 3 ["sizes"] dS:=by
 obtain⟨f,fd,hm,F⟩:=D
 obtain⟨xj,wY,mz,lp,mD,ly,_⟩:=eD
 obtain⟨A_NoRow,oP⟩:=CL.at_ "NoRow" (by decide)
 refine⟨f,fd,kO (rS F fq (fun cdv A outer s H E hr fl pl po=>?_)),F.kp,F.binds (fun _ _ _ _ _ _ us hl=>mZ hl fun _=>rfl),hm⟩
 exact(@ax _ _ _ _ _ _ _ (@fB _ _ _ _ _ _ _ _ _ _ (@zo _ _ _ _ _ (@cS _ _ _ _ _ _ (@bw _ _ _ _ _ _ cR (aN (mz.mono (by decide)) hr rfl ly lp mD (@ae _ _ _ _ _ _ _ (af 0) aj rfl) (ao aH)) (fun _=>rfl)))) (@aC _ _ _ _ _ (pq fl pl rfl rfl oP (sR hgo oP) ((CL.one _ (by decide) _ oP).2.2 rfl))) bu)
   (@ax _ _ _ _ _ _ _ (@lA _ _ _ _ _ (@bQ _ _ _ _ _ _ 1 _ _ fq.nd rfl (by first | exact Or.inl rfl | exact Or.inr rfl) (@bq _ _ _ _ _ _ _ _ aj) rfl (.inl rfl)))
   (@ax _ _ _ _ _ _ _ (@lA _ _ _ _ _ (@bQ _ _ _ _ _ _ 2 _ _ fq.nd rfl (by first | exact Or.inl rfl | exact Or.inr rfl) aq rfl (.inl rfl)))
   (@ax _ _ _ _ _ _ _ (@lA _ _ _ _ _ (mH PassesOwn.never rfl (@e_ _ _ _ _ _ _ (af 0)) (dA (i:=3) fq.nd rfl (by first | exact Or.inl rfl | exact Or.inr rfl)) fN (@ax _ _ _ _ _ _ _ (FF (i:=2) fq.nd rfl (by first | exact Or.inl rfl | exact Or.inr rfl) (af 3) DD CM)
   (@aC _ _ _ _ _ (jN (l6 PySem.F.slot_list_append PySem.F.type_list_append g_ j7 (af 1) (@ae _ _ _ _ _ _ _ (@aB _ _ _ _ _ _ _ _ _ _ _ dH dG (af 2) aq) aj rfl)))))))
   (@aC _ _ _ _ _ (@lA _ _ _ _ _ (@bp _ _ _ _ _ _ (@bz _ _ _ _ _ _ _ (@ae _ _ _ _ _ _ _ (af 2) (@ae _ _ _ _ _ _ _ (b9 bY eE rfl T.tuple PyProof.Rows.boot_tuple (@ae _ _ _ _ _ _ _ (cx (af 1) dz (@cN _ _ _ _ _ (@nY _ _ _ _ _ _ _ _ _ iA jF aq))) aj rfl)) aj rfl) rfl)))))))))
theorem jk:aM ["_law_way", "_law_n", "_law_thing", "_law_e"] ["_law_way", "_law_n", "_law_thing"] (au (aK 30)):=⟨rfl,rfl,rfl,by decide +kernel,rfl,by decide +kernel,by decide +kernel⟩
theorem ny (D:aX K mg "_law_told" (aK 30)) (T:Blt mg) (hgo:g=gOf mg) (CL:kD K mg) (dD:Af P w K mg base g "_law_refused" 2 ["_law_e"] bb) (fT:nG P w K mg base g "sizes_of" 6 ["n", "some"] cI) (iH:nG P w K mg base g "set_by" 3 ["sizes"] dS):Has P w K mg base g "_law_told" 7 ["_law_way", "_law_n", "_law_thing"] aL:=by
 obtain⟨f,fd,hm,F⟩:=D
 obtain⟨vM,uG,jS,jW,jZ,jK⟩:=dD
 obtain⟨AF,zD,qy,oS,oK,pA⟩:=fT
 obtain⟨Cd,Bt,tG,sJ,tS,sX⟩:=iH
 refine⟨f,fd,gA F jk (fun cdv A outer s H E hr=>?_),F.kp,F.binds (fun _ _ _ _ _ _ us hl=>vq hl fun _ _ _=>rfl),hm,bI F⟩
 exact(@aC _ _ _ _ _ (DZ (i:=3) CL hgo ⟨rfl,rfl,rfl⟩ jk.nd rfl rfl rfl rfl (jS.mono (by decide)) (yD hr) jK jW jZ (fun pn xe E fl pl po=>(@aC _ _ _ _ _ (@bp _ _ _ _ _ _ (@k7 _ _ _ _ _ _ _ _ _ _ (@zo _ _ _ _ _ (@cp _ _ _ _ _ _ _ _ _ _ _ (fP hr.units) iZ (af 0) aq (bH _))) (gR fl pl (qy.mono (by decide)) hr rfl pA oS oK (@ae _ _ _ _ _ _ _ (@h_ _ _ _ _ _ (af 1)) (@ae _ _ _ _ _ _ _ (@h_ _ _ _ _ _ (af 2)) aj rfl) rfl) (ao (ao aH))) (gR fl pl (tG.mono (by decide)) hr rfl sX sJ tS (@ae _ _ _ _ _ _ _ (@h_ _ _ _ _ _ (af 2)) aj rfl) (ao aH))))))))
theorem a8:aM ["_law_pen", "_law_sizes_here", "_law_ends", "_law_spot", "_law_way", "_law_odd", "_law_bad"] ["_law_pen"] (au (aK 33)):=⟨rfl,rfl,rfl,by decide +kernel,rfl,by decide +kernel,by decide +kernel⟩
theorem gC (D:aX K mg "_law_sizes_right" (aK 33)) (T:Blt mg) (aY:Has P w K mg base g "_law_draw" 2 ["_law_pen", "_law_many"] ay) (cz:Has P w K mg base g "_law_told" 7 ["_law_way", "_law_n", "_law_thing"] aL):Has P w K mg base g "_law_sizes_right" 8 ["_law_pen"] a9:=by
 obtain⟨f,fd,hm,F⟩:=D
 obtain⟨fj,eO,aU,aS,aT,aV,_⟩:=aY
 obtain⟨mW,lV,dQ,dP,dR,dM,_⟩:=cz
 refine⟨f,fd,kO (gA F a8 (fun cdv A outer s H E hr=>?_)),F.kp,F.binds (fun _ _ _ _ _ _ us hl=>mZ hl fun _=>rfl),hm,bI F⟩
 exact(@ax _ _ _ _ _ _ _ (@bQ _ _ _ _ _ _ 1 _ _ a8.nd rfl (by first | exact Or.inl rfl | exact Or.inr rfl) (@bq _ _ _ _ _ _ _ _ aj) rfl (.inl rfl))
   (@ax _ _ _ _ _ _ _ (@z_ _ _ _ _ _ _ _ _ 64 PassesOwn.never (PW.pt (@yL _ _ _ _ _ _ _ _ _ (@cp _ _ _ _ _ _ _ _ _ _ _ qK sx (ba (eB rfl) jE rfl T.sum PyProof.Rows.boot_sum (@ae _ _ _ _ _ _ _ (af 1) aj rfl)) aq (bH _)) (@uX _ _ _ _ _ _ (PW.pt (@lS _ _ _ _ _ _ _ _ _ (@cp _ _ _ _ _ _ _ _ _ _ _ (fP hr.units) iZ (af 1) (@bq _ _ _ _ _ _ _ _ aj) (bH _)) (@iC _ _ _ _ _ _ (@cp _ _ _ _ _ _ _ _ _ _ _ Bv BS (aN (aU.mono (by decide)) hr rfl aV aS aT (@ae _ _ _ _ _ _ _ (af 0) (@ae _ _ _ _ _ _ _ aq aj rfl) rfl) (ao (ao aH))) aq (bH _)))))))) (@aC _ _ _ _ _ (jN (l6 PySem.F.slot_list_append PySem.F.type_list_append g_ j7 (af 1) (@ae _ _ _ _ _ _ _ (@aB _ _ _ _ _ _ _ _ _ _ _ bo bj aq (aN (aU.mono (by decide)) hr rfl aV aS aT (@ae _ _ _ _ _ _ _ (af 0) (@ae _ _ _ _ _ _ _ (ba (wJ rfl) z0 rfl T.min PyProof.Rows.boot_min (@ae _ _ _ _ _ _ _ aq (@ae _ _ _ _ _ _ _ (@aB _ _ _ _ _ _ _ _ _ _ _ dH dG aq (ba (eB rfl) jE rfl T.sum PyProof.Rows.boot_sum (@ae _ _ _ _ _ _ _ (af 1) aj rfl))) aj rfl) rfl)) aj rfl) rfl) (ao (ao aH)))) aj rfl)))))
   (@ax _ _ _ _ _ _ _ (@bQ _ _ _ _ _ _ 1 _ _ a8.nd rfl (by first | exact Or.inl rfl | exact Or.inr rfl) (b9 bY eE rfl T.tuple PyProof.Rows.boot_tuple (@ae _ _ _ _ _ _ _ (af 1) aj rfl)) rfl (.inl rfl))
   (@ax _ _ _ _ _ _ _ (tN (osc:=au (aK 33)) [1] ["_law_at", "_law_sizes_here"] rfl rfl rfl rfl (by decide +kernel) ⟨by decide +kernel,by decide +kernel,rfl,by decide +kernel,rfl,by decide +kernel⟩ (A8 rfl T.range (@ae _ _ _ _ _ _ _ aq (@ae _ _ _ _ _ _ _ (ba kZ lF rfl T.len PySem.boot_len (@ae _ _ _ _ _ _ _ (af 1) aj rfl)) aj rfl) rfl))
    (fun cl C aJ aO fp=>lj) (fun cl C aJ aO fp=>(@aB _ _ _ _ _ _ _ _ _ _ _ dH dG (ba (eB rfl) jE rfl T.sum PyProof.Rows.boot_sum (@ae _ _ _ _ _ _ _ (cx (af 1) dz (@cN _ _ _ _ _ (af 0))) aj rfl)) aq)) (i:=2) a8.nd rfl)
   (@ax _ _ _ _ _ _ _ (@fB _ _ _ _ _ _ _ _ _ _ (@cp _ _ _ _ _ _ _ _ _ _ _ (jO hr.units) oq (ba (fF hr.gd hr.units) fw rfl T.repr PyProof.Rows.boot_repr (@ae _ _ _ _ _ _ _ (aN (dQ.mono (by decide)) hr rfl dM dP dR (@ae _ _ _ _ _ _ _ aq (@ae _ _ _ _ _ _ _ aq (@ae _ _ _ _ _ _ _ (af 1) aj rfl) rfl) rfl) (ao (ao (ao aH)))) aj rfl)) (ba (fF hr.gd hr.units) fw rfl T.repr PyProof.Rows.boot_repr (@ae _ _ _ _ _ _ _ (@bz _ _ _ _ _ _ _ (@ae _ _ _ _ _ _ _ (ba (eB rfl) jE rfl T.sum PyProof.Rows.boot_sum (@ae _ _ _ _ _ _ _ (af 1) aj rfl)) (@ae _ _ _ _ _ _ _ (b9 bY eE rfl T.tuple PyProof.Rows.boot_tuple (@ae _ _ _ _ _ _ _ (af 2) aj rfl)) aj rfl) rfl)) aj rfl)) (bH _)) (@aC _ _ _ _ _ (@bp _ _ _ _ _ _ cT)) bu)
   (@ax _ _ _ _ _ _ _ (yE (i:=3) (j:=4) rfl a8.nd rfl rfl (by decide) (@ae _ _ _ _ _ _ _ (aN (aU.mono (by decide)) hr rfl aV aS aT (@ae _ _ _ _ _ _ _ (af 0) (@ae _ _ _ _ _ _ _ (ba kZ lF rfl T.len PySem.boot_len (@ae _ _ _ _ _ _ _ (af 1) aj rfl)) aj rfl) rfl) (ao (ao aH))) (@ae _ _ _ _ _ _ _ (aN (aU.mono (by decide)) hr rfl aV aS aT (@ae _ _ _ _ _ _ _ (af 0) (@ae _ _ _ _ _ _ _ aq aj rfl) rfl) (ao (ao aH))) aj rfl) rfl))
   (@ax _ _ _ _ _ _ _ (@bQ _ _ _ _ _ _ 5 _ _ a8.nd rfl (by first | exact Or.inl rfl | exact Or.inr rfl) (@eR _ _ _ _ _ _ _ _ _ _ cW eQ (@bq _ _ _ _ _ _ _ _ (@ae _ _ _ _ _ _ _ aq (@ae _ _ _ _ _ _ _ (@nY _ _ _ _ _ _ _ _ _ iA jF aq) (@ae _ _ _ _ _ _ _ cT (@ae _ _ _ _ _ _ _ pF (@ae _ _ _ _ _ _ _ cV (@ae _ _ _ _ _ _ _ (@bq _ _ _ _ _ _ _ _ (@ae _ _ _ _ _ _ _ aq aj rfl)) (@ae _ _ _ _ _ _ _ pE (@ae _ _ _ _ _ _ _ (@bz _ _ _ _ _ _ _ (@ae _ _ _ _ _ _ _ aq aj rfl)) (@ae _ _ _ _ _ _ _ aq (@ae _ _ _ _ _ _ _ (@aB _ _ _ _ _ _ _ _ _ _ _ oZ sP aq aq) aj rfl) rfl) rfl) rfl) rfl) rfl) rfl) rfl) rfl) rfl)) (af 4) (fun _ _=>rfl)) rfl (.inl rfl))
   (@ax _ _ _ _ _ _ _ (@bQ _ _ _ _ _ _ 6 _ _ a8.nd rfl (by first | exact Or.inl rfl | exact Or.inr rfl) (@bq _ _ _ _ _ _ _ _ (@ae _ _ _ _ _ _ _ (@aB _ _ _ _ _ _ _ _ _ _ _ bo bj (@aB _ _ _ _ _ _ _ _ _ _ _ bo bj (cx (af 1) dz (@cN _ _ _ _ _ (af 3))) (@bz _ _ _ _ _ _ _ (@ae _ _ _ _ _ _ _ (af 5) aj rfl))) (cx (af 1) (@cN _ _ _ _ _ (@aB _ _ _ _ _ _ _ _ _ _ _ bo bj (af 3) aq)) dz)) (@ae _ _ _ _ _ _ _ (b9 (aR.frz fY) pY rfl T.list PyProof.Rows.boot_list (@ae _ _ _ _ _ _ _ (af 1) aj rfl)) (@ae _ _ _ _ _ _ _ (@aB _ _ _ _ _ _ _ _ _ _ _ bo bj (af 1) (@bz _ _ _ _ _ _ _ (@ae _ _ _ _ _ _ _ (@aB _ _ _ _ _ _ _ _ _ _ _ dH dG aq (ba (eB rfl) jE rfl T.sum PyProof.Rows.boot_sum (@ae _ _ _ _ _ _ _ (af 1) aj rfl))) aj rfl))) (@ae _ _ _ _ _ _ _ (@bz _ _ _ _ _ _ _ aj) (@ae _ _ _ _ _ _ _ pF (@ae _ _ _ _ _ _ _ aq (@ae _ _ _ _ _ _ _ (@aB _ _ _ _ _ _ _ _ _ _ _ Ak zN (@bz _ _ _ _ _ _ _ (@ae _ _ _ _ _ _ _ aq aj rfl)) aq) aj rfl) rfl) rfl) rfl) rfl) rfl) rfl)) rfl (.inl rfl))
   (@aC _ _ _ _ _ (@bp _ _ _ _ _ _ (@l9 _ _ _ _ _ _ _ _ _ _ _ (fP hr.units) iZ (fD (osc:=au (aK 33)) [] ["_law_one"] rfl rfl rfl rfl (by decide +kernel) ⟨by decide +kernel,by decide +kernel,rfl,by decide +kernel,rfl,by decide +kernel⟩ (@e_ _ _ _ _ _ _ (af 6))
    (fun cl C aJ aO fp=>lj) (fun cl C aJ aO fp=>(aN (dQ.mono (by decide)) hr rfl dM dP dR (@ae _ _ _ _ _ _ _ aq (@ae _ _ _ _ _ _ _ aq (@ae _ _ _ _ _ _ _ (af 0) aj rfl) rfl) rfl) (ao (ao (ao aH)))))) (@aB _ _ _ _ _ _ _ _ _ _ _ qf pD (@bq _ _ _ _ _ _ _ _ (@ae _ _ _ _ _ _ _ (@bz _ _ _ _ _ _ _ (@ae _ _ _ _ _ _ _ cV aj rfl)) aj rfl)) aq) (bH _))))))))))))
theorem ff:aM ["_law_script", "_law_cell", "_law_pen", "_law_n", "_law_some", "_law_things", "_law_thing", "_law_kept", "_law_good_here", "_law_due"] ["_law_script"] (au (aK 34)):=⟨rfl,rfl,rfl,by decide +kernel,rfl,by decide +kernel,by decide +kernel⟩
theorem A5 (D:aX K mg "law" (aK 34)) (T:Blt mg) (dC:Has P w K mg base g "_law_cell_at" 1 ["_law_script", "_law_k"] bG) (dW:Has P w K mg base g "_law_pen_of" 1 ["_law_cell"] bT) (aY:Has P w K mg base g "_law_draw" 2 ["_law_pen", "_law_many"] ay) (fV:Has P w K mg base g "_law_set" 3 ["_law_pen", "_law_n"] cU) (fc:Has P w K mg base g "_law_bent" 3 ["_law_pen", "_law_n", "_law_some"] cn) (fU:Has P w K mg base g "set_good" 4 ["n", "thing"] dF) (fi:Has P w K mg base g "_law_good" 2 ["_law_n", "_law_thing"] ck) (eF:Has P w K mg base g "_law_sizes" 1 ["_law_n", "_law_some"] cP) (cz:Has P w K mg base g "_law_told" 7 ["_law_way", "_law_n", "_law_thing"] aL) (cJ:Has P w K mg base g "_law_sizes_right" 8 ["_law_pen"] a9):Has P w K mg base g "law" 9 ["_law_script"] lH:=by
 obtain⟨f,fd,hm,F⟩:=D
 obtain⟨vm,uf,jY,j3,ka,j1,_⟩:=dC
 obtain⟨wV,wD,kB,kF,kG,kE,_⟩:=dW
 obtain⟨fj,eO,aU,aS,aT,aV,_⟩:=aY
 obtain⟨AN,zE,ph,oU,oV,pO,_⟩:=fV
 obtain⟨zC,yh,nk,mU,mS,nF,_⟩:=fc
 obtain⟨Ap,zH,oY,pS,pG,pJ,_⟩:=fU
 obtain⟨zF,yo,mV,nz,nA,mT,_⟩:=fi
 obtain⟨yF,wX,mI,kX,mC,kY,_⟩:=eF
 obtain⟨mW,lV,dQ,dP,dR,dM,_⟩:=cz
 obtain⟨r9,qD,gv,gU,gr,gK,_⟩:=cJ
 refine⟨f,fd,kO (gA F ff (fun cdv A outer s H E hr=>?_)),F.kp,F.binds (fun _ _ _ _ _ _ us hl=>mZ hl fun _=>rfl),hm,bI F⟩
 exact(@ax _ _ _ _ _ _ _ (mH PassesOwn.never rfl (@e_ _ _ _ _ _ _ (@aB _ _ _ _ _ _ _ _ _ _ _ bo bj (@bq _ _ _ _ _ _ _ _ (@ae _ _ _ _ _ _ _ (aN (jY.mono (by decide)) hr rfl j1 j3 ka (@ae _ _ _ _ _ _ _ (af 0) (@ae _ _ _ _ _ _ _ aq aj rfl) rfl) (ao (ao aH))) aj rfl)) (cx (af 0) (@cN _ _ _ _ _ aq) (@cN _ _ _ _ _ aq)))) (dA (i:=1) ff.nd rfl (by first | exact Or.inl rfl | exact Or.inr rfl)) fN (@ax _ _ _ _ _ _ _ (@bQ _ _ _ _ _ _ 2 _ _ ff.nd rfl (by first | exact Or.inl rfl | exact Or.inr rfl) (aN (kB.mono (by decide)) hr rfl kE kF kG (@ae _ _ _ _ _ _ _ (af 1) aj rfl) (ao aH)) rfl (.inl rfl))
   (@ax _ _ _ _ _ _ _ (@bQ _ _ _ _ _ _ 3 _ _ ff.nd rfl (by first | exact Or.inl rfl | exact Or.inr rfl) (@aB _ _ _ _ _ _ _ _ _ _ _ bo bj aq (aN (aU.mono (by decide)) hr rfl aV aS aT (@ae _ _ _ _ _ _ _ (af 2) (@ae _ _ _ _ _ _ _ aq aj rfl) rfl) (ao (ao aH)))) rfl (.inl rfl))
   (@ax _ _ _ _ _ _ _ (@bQ _ _ _ _ _ _ 4 _ _ ff.nd rfl (by first | exact Or.inl rfl | exact Or.inr rfl) (aN (ph.mono (by decide)) hr rfl pO oU oV (@ae _ _ _ _ _ _ _ (af 2) (@ae _ _ _ _ _ _ _ (af 3) aj rfl) rfl) (ao (ao aH))) rfl (.inl rfl))
   (@ax _ _ _ _ _ _ _ (@bQ _ _ _ _ _ _ 5 _ _ ff.nd rfl (by first | exact Or.inl rfl | exact Or.inr rfl) (@bq _ _ _ _ _ _ _ _ (@ae _ _ _ _ _ _ _ (af 4) (@ae _ _ _ _ _ _ _ (@bz _ _ _ _ _ _ _ aj) (@ae _ _ _ _ _ _ _ pF (@ae _ _ _ _ _ _ _ aq (@ae _ _ _ _ _ _ _ cT (@ae _ _ _ _ _ _ _ cV (@ae _ _ _ _ _ _ _ (@bq _ _ _ _ _ _ _ _ aj) (@ae _ _ _ _ _ _ _ pE (@ae _ _ _ _ _ _ _ (@bz _ _ _ _ _ _ _ (@ae _ _ _ _ _ _ _ aq aj rfl)) (@ae _ _ _ _ _ _ _ (@bz _ _ _ _ _ _ _ (@ae _ _ _ _ _ _ _ aq aj rfl)) (@ae _ _ _ _ _ _ _ (@bz _ _ _ _ _ _ _ (@ae _ _ _ _ _ _ _ cT aj rfl)) (@ae _ _ _ _ _ _ _ (@bz _ _ _ _ _ _ _ (@ae _ _ _ _ _ _ _ aq (@ae _ _ _ _ _ _ _ aq aj rfl) rfl)) (@ae _ _ _ _ _ _ _ (@bz _ _ _ _ _ _ _ (@ae _ _ _ _ _ _ _ aq (@ae _ _ _ _ _ _ _ aq aj rfl) rfl)) (@ae _ _ _ _ _ _ _ (@bz _ _ _ _ _ _ _ (@ae _ _ _ _ _ _ _ (@bq _ _ _ _ _ _ _ _ (@ae _ _ _ _ _ _ _ aq aj rfl)) aj rfl)) aj rfl) rfl) rfl) rfl) rfl) rfl) rfl) rfl) rfl) rfl) rfl) rfl) rfl) rfl)) rfl (.inl rfl))
   (@ax _ _ _ _ _ _ _ (mH PassesOwn.never rfl (@e_ _ _ _ _ _ _ (@aB _ _ _ _ _ _ _ _ _ _ _ bo bj (@aB _ _ _ _ _ _ _ _ _ _ _ bo bj (af 5) (@bq _ _ _ _ _ _ _ _ (@ae _ _ _ _ _ _ _ (uh rfl rfl T.tuple rfl T.range (@ae _ _ _ _ _ _ _ (@aB _ _ _ _ _ _ _ _ _ _ _ dH dG (af 3) aq) aj rfl)) (@ae _ _ _ _ _ _ _ (uh rfl rfl T.tuple rfl T.range (@ae _ _ _ _ _ _ _ (af 3) aj rfl)) aj rfl) rfl))) (fD (osc:=au (aK 34)) [2,3,4] ["_law_turn", "_law_pen", "_law_n", "_law_some"] rfl rfl rfl rfl (by decide +kernel) ⟨by decide +kernel,by decide +kernel,rfl,by decide +kernel,rfl,by decide +kernel⟩ (qj rfl T.range (@ae _ _ _ _ _ _ _ aq aj rfl))
    (fun cl C aJ aO fp=>lj) (fun cl C aJ aO fp=>(aN (nk.mono (by decide)) hr rfl nF mU mS (@ae _ _ _ _ _ _ _ (af 1) (@ae _ _ _ _ _ _ _ (af 2) (@ae _ _ _ _ _ _ _ (af 3) aj rfl) rfl) rfl) (ao (ao (ao aH)))))))) (dA (i:=6) ff.nd rfl (by first | exact Or.inl rfl | exact Or.inr rfl)) fN (@ax _ _ _ _ _ _ _ (@bQ _ _ _ _ _ _ 7 _ _ ff.nd rfl (by first | exact Or.inl rfl | exact Or.inr rfl) (ba (fF hr.gd hr.units) fw rfl T.repr PyProof.Rows.boot_repr (@ae _ _ _ _ _ _ _ (af 6) aj rfl)) rfl (.inl rfl))
   (@ax _ _ _ _ _ _ _ (@bQ _ _ _ _ _ _ 8 _ _ ff.nd rfl (by first | exact Or.inl rfl | exact Or.inr rfl) (aN (oY.mono (by decide)) hr rfl pJ pS pG (@ae _ _ _ _ _ _ _ (af 3) (@ae _ _ _ _ _ _ _ (af 6) aj rfl) rfl) (ao (ao aH))) rfl (.inl rfl))
   (@ax _ _ _ _ _ _ _ (@fB _ _ _ _ _ _ _ _ _ _ (PW.pt (@lS _ _ _ _ _ _ _ _ _ (@cS _ _ _ _ _ _ (@bw _ _ _ _ _ _ cR (fR (af 8) rfl T.isinstance rfl T.bool PyProof.Rows.boot_bool) (fun _=>rfl))) (@iC _ _ _ _ _ _ (@cp _ _ _ _ _ _ _ _ _ _ _ (jO hr.units) oq (af 8) (aN (mV.mono (by decide)) hr rfl mT nz nA (@ae _ _ _ _ _ _ _ (af 3) (@ae _ _ _ _ _ _ _ (af 6) aj rfl) rfl) (ao (ao aH))) (bH _))))) (@aC _ _ _ _ _ (@bp _ _ _ _ _ _ cT)) bu)
   (@ax _ _ _ _ _ _ _ (@bQ _ _ _ _ _ _ 9 _ _ ff.nd rfl (by first | exact Or.inl rfl | exact Or.inr rfl) (@k7 _ _ _ _ _ _ _ _ _ _ (@bw _ _ _ _ _ _ cR (af 8) (fun _=>rfl)) (aN (mI.mono (by decide)) hr rfl kY kX mC (@ae _ _ _ _ _ _ _ (af 3) (@ae _ _ _ _ _ _ _ (af 6) aj rfl) rfl) (ao (ao aH))) (@bz _ _ _ _ _ _ _ (@ae _ _ _ _ _ _ _ cV aj rfl))) rfl (.inl rfl))
   (@aC _ _ _ _ _ (@fB _ _ _ _ _ _ _ _ _ _ (PW.pt (@lS _ _ _ _ _ _ _ _ _ (@cp _ _ _ _ _ _ _ _ _ _ _ (jO hr.units) oq (ba (fF hr.gd hr.units) fw rfl T.repr PyProof.Rows.boot_repr (@ae _ _ _ _ _ _ _ (aN (dQ.mono (by decide)) hr rfl dM dP dR (@ae _ _ _ _ _ _ _ aq (@ae _ _ _ _ _ _ _ (af 3) (@ae _ _ _ _ _ _ _ (af 6) aj rfl) rfl) rfl) (ao (ao (ao aH)))) aj rfl)) (ba (fF hr.gd hr.units) fw rfl T.repr PyProof.Rows.boot_repr (@ae _ _ _ _ _ _ _ (af 9) aj rfl)) (bH _)) (@iC _ _ _ _ _ _ (@cp _ _ _ _ _ _ _ _ _ _ _ (jO hr.units) oq (ba (fF hr.gd hr.units) fw rfl T.repr PyProof.Rows.boot_repr (@ae _ _ _ _ _ _ _ (af 6) aj rfl)) (af 7) (bH _))))) (@aC _ _ _ _ _ (@bp _ _ _ _ _ _ cT)) bu)))))))
   (@aC _ _ _ _ _ (@fB _ _ _ _ _ _ _ _ _ _ (@cS _ _ _ _ _ _ (@bw _ _ _ _ _ _ cR (aN (gv.mono (by decide)) hr rfl gK gU gr (@ae _ _ _ _ _ _ _ (af 2) aj rfl) (ao aH)) (fun _=>rfl))) (@aC _ _ _ _ _ (@bp _ _ _ _ _ _ cT)) bu))))))))
   (@aC _ _ _ _ _ (@bp _ _ _ _ _ _ cT)))
theorem tH:aM ["self", "row"] ["self", "row"] (au (cj (aK 7))):=⟨rfl,rfl,rfl,by decide +kernel,rfl,by decide +kernel,by decide +kernel⟩
theorem sj:∀y∈(["self", "row"]:List Str),(au (cj (aK 7))).names.lookup y=some .local:=by decide +kernel
theorem sA:iq (bJ (cj (aK 7))) ["row"]:=iq.cons rfl (.nil)
theorem t4:∀(kV doc pm:Value) (an:Option Addr) (cdv ct:Value) (us:List Value),us.length=(["self", "row"]:List Str).length->bindArgs (PySem.W.fnOf "__init__" "NoText.__init__" (d9 (cj (aK 7))) (bJ (cj (aK 7))) (au (cj (aK 7))) .none kV doc pm an cdv ct) ⟨us,[]⟩=pure ((["self", "row"]:List Str).zip us):=fun _ _ _ _ _ _ us hl=>mX hl fun _ _=>rfl
theorem pM:aM ["self", "many", "most"] ["self", "many", "most"] (au (cj (aK 8))):=⟨rfl,rfl,rfl,by decide +kernel,rfl,by decide +kernel,by decide +kernel⟩
theorem ng:∀y∈(["self", "many", "most"]:List Str),(au (cj (aK 8))).names.lookup y=some .local:=by decide +kernel
theorem oR:iq (bJ (cj (aK 8))) ["many", "most"]:=iq.cons rfl (iq.cons rfl (.nil))
theorem pN:∀(kV doc pm:Value) (an:Option Addr) (cdv ct:Value) (us:List Value),us.length=(["self", "many", "most"]:List Str).length->bindArgs (PySem.W.fnOf "__init__" "TooGreat.__init__" (d9 (cj (aK 8))) (bJ (cj (aK 8))) (au (cj (aK 8))) .none kV doc pm an cdv ct) ⟨us,[]⟩=pure ((["self", "many", "most"]:List Str).zip us):=fun _ _ _ _ _ _ us hl=>vq hl fun _ _ _=>rfl
end
structure Text (K:PySem.W.Frag):Prop where
 eL:cB K "_law_cell_at" (aK 21)
 eZ:cB K "_law_pen_of" (aK 23)
 gE:cB K "_law_next" (aK 22)
 gB:cB K "_law_draw" (aK 24)
 iE:cB K "_law_set" (aK 28)
 gJ:cB K "_law_bent" (aK 31)
 iJ:cB K "is_whole" (aK 10)
 gG:cB K "is_within" (aK 11)
 dU:cB K "number_needed" (aK 12)
 iQ:cB K "set_good" (aK 15)
 dX:cB K "_law_whole_of" (aK 27)
 gQ:cB K "_law_good" (aK 29)
 fS:cB K "_law_sizes" (aK 32)
 eJ:cB K "_law_kind_of" (aK 25)
 eI:cB K "_law_refused" (aK 26)
 fX:cB K "set_needed" (aK 16)
 iM:cB K "sizes_of" (aK 17)
 gb:cB K "sizes_good" (aK 19)
 ll:cB K "set_by" (aK 18)
 gD:cB K "_law_told" (aK 30)
 cZ:cB K "_law_sizes_right" (aK 33)
 xV:cB K "law" (aK 34)
 cls:xP K
 jV:CIs K "NoText" (aK 7) ["row"]
 gL:CIs K "TooGreat" (aK 8) ["many", "most"]
 gc:PySem.W.nsIn K mainGlobals "ValueError" = some none
 sW:PySem.W.nsIn K mainGlobals "bool" = some none
 xO:PySem.W.nsIn K mainGlobals "int" = some none
 fL:PySem.W.nsIn K mainGlobals "isinstance" = some none
 x9:PySem.W.nsIn K mainGlobals "len" = some none
 sM:PySem.W.nsIn K mainGlobals "list" = some none
 yp:PySem.W.nsIn K mainGlobals "max" = some none
 zt:PySem.W.nsIn K mainGlobals "min" = some none
 pw:PySem.W.nsIn K mainGlobals "range" = some none
 tj:PySem.W.nsIn K mainGlobals "repr" = some none
 xr:PySem.W.nsIn K mainGlobals "set" = some none
 lB:PySem.W.nsIn K mainGlobals "sorted" = some none
 yl:PySem.W.nsIn K mainGlobals "sum" = some none
 oM:PySem.W.nsIn K mainGlobals "tuple" = some none
 xq:PySem.W.nsIn K mainGlobals "zip" = some none
 cG:∃t,PySem.W.nsIn K mainGlobals "MOST_NUMBERS" = some (some (Value.int 12 t))
theorem all_mk {P:Program} {w:World} {K:PySem.W.Frag} {h:Heap} {mg:Str->Option Value} {fa:Addr} (X:K.In h) (G:h.Ns mainGlobals mg) (hfa:mg "law" = some (.ref fa)) (t:Text K) :
  ∃fd:FuncData,(∀(s:Shared) (v:Value),BindsTo s fd ⟨[v],[]⟩ [("_law_script", v)])/\∀base:Heap,K.In base->base.Ns mainGlobals mg->ed P w K mg base CX0 9 fa fd ["_law_script"] (spM K (gOf mg) 1 lH):=by
 have T:Blt mg:=⟨PySem.W.mg_none_of X G t.gc,PySem.W.mg_none_of X G t.sW,PySem.W.mg_none_of X G t.xO,PySem.W.mg_none_of X G t.fL,PySem.W.mg_none_of X G t.x9,PySem.W.mg_none_of X G t.sM,PySem.W.mg_none_of X G t.yp,PySem.W.mg_none_of X G t.zt,PySem.W.mg_none_of X G t.pw,PySem.W.mg_none_of X G t.tj,PySem.W.mg_none_of X G t.xr,PySem.W.mg_none_of X G t.lB,PySem.W.mg_none_of X G t.yl,PySem.W.mg_none_of X G t.oM,PySem.W.mg_none_of X G t.xq⟩
 obtain⟨b_,cG⟩:=t.cG
 have bc:=PySem.W.mg_of X G cG
 have lO:=aX.of X G t.eL
 have ni:=aX.of X G t.eZ
 have qL:=aX.of X G t.gE
 have qJ:=aX.of X G t.gB
 have sN:=aX.of X G t.iE
 have qY:=aX.of X G t.gJ
 have tR:=aX.of X G t.iJ
 have qT:=aX.of X G t.gG
 have gp:=aX.of X G t.dU
 have my:=aX.of X G t.iQ
 have kA:=aX.of X G t.dX
 have qP:=aX.of X G t.gQ
 have pk:=aX.of X G t.fS
 have lE:=aX.of X G t.eJ
 have mJ:=aX.of X G t.eI
 have pI:=aX.of X G t.fX
 have tT:=aX.of X G t.iM
 have oN:=aX.of X G t.gb
 have yO:=aX.of X G t.ll
 have rf:=aX.of X G t.gD
 have iz:=aX.of X G t.cZ
 have Fo:=aX.of X G t.xV
 have CL:=kD.of X G t.cls
 have j_:=CIm.of X G t.jV
 have eT:=CIm.of X G t.gL
 obtain⟨f,fd,hm,F⟩:=Fo
 have e:=hfa.symm.trans hm
 cases e
 refine⟨fd,?_,fun base _ _=>?_⟩
 ·obtain⟨oc,od,kV,doc,pm,an,cdv,ct,osl,rfl,lk,hcd⟩:=F.ex
  exact fun s v=>.of_eq rfl
 ·have dC:=jM (P:=P) (w:=w) (base:=base) (g:=gOf mg) lO T
  have dW:=kz (P:=P) (w:=w) (base:=base) (g:=gOf mg) ni T
  have fh:=nu (P:=P) (w:=w) (base:=base) (g:=gOf mg) qL T
  have aY:=nj (P:=P) (w:=w) (base:=base) (g:=gOf mg) qJ T fh
  have fV:=pP (P:=P) (w:=w) (base:=base) (g:=gOf mg) sN T aY
  have fc:=nq (P:=P) (w:=w) (base:=base) (g:=gOf mg) qY T aY
  have cL:=p0 (P:=P) (w:=w) (base:=base) (g:=gOf mg) tR T
  have aZ:=mP (P:=P) (w:=w) (base:=base) (g:=gOf mg) qT T cL
  have dB:=jx (P:=P) (w:=w) (base:=base) (g:=gOf mg) gp T aZ
  have fU:=pQ (P:=P) (w:=w) (base:=base) (g:=gOf mg) my T bc dB aZ
  have dv:=jh (P:=P) (w:=w) (base:=base) (g:=gOf mg) kA T
  have fi:=m9 (P:=P) (w:=w) (base:=base) (g:=gOf mg) qP T dv
  have eF:=mj (P:=P) (w:=w) (base:=base) (g:=gOf mg) pk T
  have dE:=jI (P:=P) (w:=w) (base:=base) (g:=gOf mg) lE T rfl CL
  have dD:=j9 (P:=P) (w:=w) (base:=base) (g:=gOf mg) mJ T rfl j_ eT dE
  have dw:=jy (P:=P) (w:=w) (base:=base) (g:=gOf mg) gp T rfl CL aZ
  have f9:=qt (P:=P) (w:=w) (base:=base) (g:=gOf mg) my T bc dw aZ
  have eP:=lZ (P:=P) (w:=w) (base:=base) (g:=gOf mg) pI T rfl CL f9
  have fT:=o_ (P:=P) (w:=w) (base:=base) (g:=gOf mg) tT T eP
  have eD:=l8 (P:=P) (w:=w) (base:=base) (g:=gOf mg) oN T bc cL
  have iH:=sO (P:=P) (w:=w) (base:=base) (g:=gOf mg) yO T rfl CL eD
  have cz:=ny (P:=P) (w:=w) (base:=base) (g:=gOf mg) rf T rfl CL dD fT iH
  have cJ:=gC (P:=P) (w:=w) (base:=base) (g:=gOf mg) iz T aY cz
  have zV:=A5 (P:=P) (w:=w) (base:=base) (g:=gOf mg) ⟨_,_,hm,F⟩ T dC dW aY fV fc fU fi eF cz cJ
  exact C3 F hm zV
theorem walk {l:PySem.W.OpenLaw} {q:Program} {loose:List Str} {XP:(Str->Option Value)->Heap->Prop} {YP:World->Heap->Prop} {d:DefRec} {K:Params->PySem.W.Frag} (hn:l.most=some 63) (hdf:d.params.defaults=[])
  (hY:∀(w:World) (h:Heap),YP w h->(K w.params).In h)
  (ok:∀ns:List Int,ns.length<=63->∃h,lH [.scr (ns.map D.int)] []=.ok (.bl true) h)
  (F:∀(w:World) (mg:Str->Option Value) (fa:Addr) (h:Heap),(K w.params).In h->h.Ns mainGlobals mg->mg d.name=some (.ref fa) →
   ∃fd:FuncData,(∀(s:Shared) (u:Value),BindsTo s fd ⟨[u],[]⟩ [("_law_script", u)])/\∀base:Heap,(K w.params).In base->base.Ns mainGlobals mg->ed l.prog w (K w.params) mg base CX0 9 fa fd ["_law_script"] (spM (K w.params) (gOf mg) 1 lH)) :
  PySem.W.WalkO q loose XP YP l.row.toRowW d [] (fun f vs=>PySem.call f vs):=
 CT (k:=9) hn hdf ⟨rfl,by decide,by decide,rfl⟩ hY ok F
theorem g6 {i:Int} (h1:-(10 ^ 30)<=i) (h2:i<=10 ^ 30):sml i=true:=B7 (Nat.le_trans (show i.natAbs<=10 ^ 30 by omega) (by decide +kernel))
theorem Cb {h:Hh} {n:Nat} {ds:List D} (e:aI h n=some ds):n<h.length:=by
 unfold aI at e
 by_cases hl:n<h.length
 ·exact hl
 ·rw[List.getElem?_eq_none (by omega)] at e;cases e
theorem ud {h:Hh} {n:Nat} {ds es:List D} (e:aI h n=some ds):aI (h.set n (.lst es)) n=some es:=by
 unfold aI;rw[List.getElem?_set_self (Cb e)]
structure Pen where
 a:Int
 b:Int
 s:Int
noncomputable abbrev c_ (p:Pen):List D:=[.int p.a,.int p.b,.int p.s]
noncomputable def nxt (x:Int):Int:=((x+7919) % 2147483647*((x+7919) % 2147483647)+48271*((x+7919) % 2147483647)+12345) % 2147483629
noncomputable def fv (p:Pen) (m:Int):Int:=if p.b=1/\0<p.a then p.a % m else nxt (nxt p.s+7) / 64 % m
noncomputable def eV (p:Pen) (m:Int):Pen:=if p.b=1/\0<p.a then ⟨p.a / m,p.b,p.s⟩ else ⟨p.a,p.b,nxt (nxt p.s+7)⟩
theorem A7 (p:Pen) {m:Int} (h:0<m):0<=fv p m:=by unfold fv;split<;>exact Int.emod_nonneg _ (by omega)
theorem y0 (p:Pen) {m:Int} (h:0<m):fv p m<m:=by unfold fv;split<;>exact Int.emod_lt_of_pos _ h
@[simp] theorem F9 {x:Int} {h:Hh}:dg [.int x] h=.ok (.int (nxt x)) h:=by
 have h1:0<=(x+7919) % 2147483647:=Int.emod_nonneg _ (by decide)
 have h2:(x+7919) % 2147483647<2147483647:=Int.emod_lt_of_pos _ (by decide)
 have s1:sml ((x+7919) % 2147483647)=true:=g6 (by omega) (by omega)
 have s2:sml 48271=true:=by decide +kernel
 simp[dg,bf,s1,s2,nxt]
theorem Df {p:Pen} {m:Int} {h:Hh} {n:Nat} (e:aI h n=some (c_ p)) (hm:0<m) (hm2:m<=10 ^ 20):ay [.ref n,.int m] h=.ok (.int (fv p m)) (h.set n (.lst (c_ (eV p m)))):=by
 have s1:sml m=true:=g6 (by omega) (by omega)
 have s2:sml 64=true:=by decide +kernel
 have i2:∀(x y z:Int) (h:Hh),ixK [D.int x,.int y,.int z] 2 h=.ok (.int z) h:=fun _ _ _ _=>rfl
 have n0:ixN (c_ p).length 0=some 0:=rfl
 have n2:ixN (c_ p).length 2=some 2:=rfl
 by_cases c:p.b=1
 ·by_cases c2:0<p.a
  ·simp[ay,bf,nJ e,c,c2,hm,s1,kW e n0,fv,eV]
  ·simp[ay,bf,nJ e,c,c2,i2,kW e n2,nJ (ud e),s1,s2,hm,fv,eV]
 ·simp[ay,bf,nJ e,c,i2,kW e n2,nJ (ud e),s1,s2,hm,fv,eV]
@[simp] theorem eU {p:Pen} {m:Int} {h t:Hh} (hm:0<m/\m<=10 ^ 20):ay [.ref h.length,.int m] (h++.lst (c_ p)::t)=.ok (.int (fv p m)) (h++.lst (c_ (eV p m))::t):=by
 rw[Df fZ hm.1 hm.2,uW]
noncomputable def qN (c:Int):Pen:=⟨max c (0 - c),if max c (0 - c) ≥ 10 ^ 18 then 1 else 0,max c (0 - c) % 1000003⟩
@[simp] theorem HR {c:Int} {h:Hh}:bT [.int c] h=.ok (.ref h.length) (h++[.lst (c_ (qN c))]):=by
 have s1:sml 10=true:=by decide +kernel
 simp[bT,bf,s1,qN]
@[simp] theorem Hc {ns:List Int} {h:Hh}:bG [.scr (ns.map D.int),.int 0] h=.ok (.int (ns.headD 0)) h:=by
 cases ns with
 | nil=>simp[bG,bf]
 | cons c r=>simp[bG,bf]
@[simp] theorem FH {i:Int} {h:Hh}:cw [.int i] h=.ok (.bl true) h:=by simp[cw,bf]
@[simp] theorem xc {i a b:Int} {h:Hh}:a_ [.int i,.int a,.int b] h=.ok (.bl (decide (a<=i/\i<=b))) h:=by
 by_cases z:a<=i<;>simp[a_,bf,z]
@[simp] theorem yz {i a b:Int} {h:Hh} (hi:a<=i/\i<=b):bN [.int i,.int a,.int b] h=.ok .non h:=by
 simp[bN,bf,hi]
noncomputable def bD {X:Type} (xs:List X) (lo hi:Option Int):List X:=(xs.drop (HT.sIx xs.length 0 lo)).take (HT.sIx xs.length xs.length hi - HT.sIx xs.length 0 lo)
theorem cK {X:Type} (f:X->D) (xs:List X) (lo hi:Option Int):cutD (xs.map f) lo hi=(bD xs lo hi).map f:=by
 unfold cutD bD
 rw[List.length_map,List.map_take,List.map_drop]
theorem Al {X:Type} (xs:List X) (k:Nat):bD xs none (some (k:Int))=xs.take k:=by
 unfold bD
 rw[HT.lY,HT.um]
 simp
theorem wL {X:Type} (xs:List X) (k:Nat):bD xs (some (k:Int)) none=xs.drop k:=by
 unfold bD
 rw[HT.lY,HT.um]
 rcases Nat.le_total k xs.length with h | h
 ·rw[Nat.min_eq_left h,List.take_of_length_le (by simp)]
 ·rw[Nat.min_eq_right h];simp[List.drop_eq_nil_of_le h]
noncomputable def shT (ns:List Int):Str:=PyData.shown (.tuple (ns.map PyData.int))
theorem iD {k:Nat} {h:Hh}:∀{ns:List Int},(∀x∈ns,sml x=true)->cF (toPy (k+1) h) (ns.map D.int)=some (ns.map PyData.int)
 | [],_=>rfl
 | n::r,hs=>by
  have h1:sml n=true:=hs n List.mem_cons_self
  rw[List.map_cons,cF,iD (ns:=r) fun x hx=>hs x (List.mem_cons_of_mem _ hx)]
  simp[toPy,h1]
theorem j5:∀ns:List Int,PyData.bulkAll (ns.map PyData.int)=ns.length
 | []=>rfl
 | n::r=>by rw[List.map_cons,PyData.bulkAll,j5 r,PyData.bulk,List.length_cons];omega
theorem Ai {h:Hh} {ns:List Int} (hs:∀x∈ns,sml x=true) (hl:ns.length<=8000):mE [.tup (ns.map D.int)] h=.ok (.str (shT ns)) h:=by
 have e1:toPy 12 h (.tup (ns.map D.int))=some (.tuple (ns.map PyData.int)):=by
  show(cF (toPy (10+1) h) (ns.map D.int)).map PyData.tuple=_
  rw[iD hs];rfl
 have e2:PyData.bulk (.tuple (ns.map PyData.int))<=8000:=by rw[PyData.bulk,j5];exact hl
 show hZ (.tup (ns.map D.int)) h=_
 delta hZ;rw[e1];exact if_pos e2
theorem uS (i:Int):∀ns:List Int,((ns.map D.int).any fun d=>eqF d (.int i))=ns.any (· == i)
 | []=>rfl
 | n::r=>by rw[List.map_cons,List.any_cons,List.any_cons,uS i r];rfl
theorem wU (ns:List Int):(ns.map D.int).all d8=true:=by simp[d8]
@[simp] theorem HE {neg:Bool} {i:Int} {ns:List Int} {h:Hh}:dIn neg (.int i) (.tup (ns.map D.int)) h=.ok (.bl (if neg then !(ns.any (· == i)) else ns.any (· == i))) h:=by
 simp only[dIn,eW,d8,wU,and_self,if_true,uS]
theorem dO {i:Int} (h0:0<=i) (h:i<=1000000):sml i=true:=g6 (by omega) (by omega)
theorem lQ {h:Hh} (w:Wf h) (p:Pen):Wf (h++[.lst (c_ p)]):=w.app rfl
theorem nR (p:Pen) (m:Int) (h:0<m):∃k:Nat,fv p m=(k:Int)/\(k:Int)<m:=by
 have h0:=A7 p h
 have h1:=y0 p h
 exact⟨(fv p m).toNat,by omega,by omega⟩
theorem wa (ns:List Int) (lo hi:Option Int):cutD (ns.map D.int) lo hi=(bD ns lo hi).map D.int:=cK _ _ _ _
theorem dJ {X:Type} (xs:List X) (lo hi:Option Int):(bD xs lo hi).length<=xs.length:=by
 unfold bD;rw[List.length_take,List.length_drop];omega
section
variable {env:En} {h:Hh}
@[simp] theorem Ij {β:Type} {m:En->Hh->R β}:up m env h=noR (m env h):=Eq.trans rfl rfl
@[simp] theorem zw {β γ:Type} {x:Xc} {f:β->Hh->R γ}:(R.err x h:R β).bind f=.err x h:=Eq.trans rfl rfl
@[simp] theorem FP {x:Str}:kg x env h=.err ⟨x,[]⟩ h:=Eq.trans rfl rfl
theorem Cw {mb:MS} {mr:MF} {fl:Fl} {h':Hh} (e:mb env h=.ok fl h'):qw mb mr env h=.ok fl h':=by unfold qw;rw[e]
theorem Cg {mb:MS} {mr:MF} {x:Xc} {d:D} (w:Wf h) (e:mb env h=.err x h) (c:bx.contains x.cls=true) (r:mr [.exc x.cls x.fs] h=.ok d h):qw mb mr env h=.ok (.rt d) h:=by
 unfold qw
 rw[e]
 have w':(h.take h.length).all (mQ h.length)=true:=by rw[List.take_length];exact w
 show(if (bx.contains x.cls&&(h.take h.length).all (mQ h.length))=true then _ else _)=_
 rw[c,w',List.take_length,r]
 rfl
end
noncomputable def itm:D->Bool
 | .int _=>true
 | .bl _=>true
 | .non=>true
 | .str _=>true
 | .tup _=>true
 | .frl _=>true
 | .edic=>true
 | _=>false
noncomputable def isI:D->Bool
 | .int _=>true
 | _=>false
noncomputable def b8:D->Int
 | .int i=>i
 | _=>0
noncomputable def inR (a b:Int):D->Bool
 | .int i=>decide (a<=i/\i<=b)
 | _=>false
theorem iU {a b:Int} {d:D} (e:inR a b d=true):isI d=true:=by cases d<;>first | rfl | (simp[inR] at e)
theorem gX {d:D} (e:isI d=true):d=.int (b8 d):=by cases d<;>first | rfl | (simp[isI] at e)
theorem kJ:∀{ds:List D},ds.all isI=true->ds=(ds.map b8).map D.int
 | [],_=>rfl
 | d::ds,e=>by
  simp only[List.all_cons,Bool.and_eq_true] at e
  rw[List.map_cons,List.map_cons,<- kJ e.2,<- gX e.1]
theorem xH {d:D} {h:Hh} (k:itm d=true):cw [d] h=.ok (.bl (isI d)) h:=by
 cases d<;>first | (exact absurd k Bool.false_ne_true) | rfl
theorem n6 {a b:Int} {d:D} {h:Hh} (k:itm d=true):a_ [d,.int a,.int b] h=.ok (.bl (inR a b d)) h:=by
 cases d with
 | int i=>rw[xc];rfl
 | _=>first | (exact absurd k Bool.false_ne_true) | rfl
theorem Br {xs:List D} {h:Hh}:dNe (.frl xs) (.frl []) h=.ok (.bl (!xs.isEmpty)) h:=by cases xs<;>rfl
theorem D9 {xs:List D} {h:Hh}:dEq (.frl xs) (.frl []) h=.ok (.bl xs.isEmpty) h:=by cases xs<;>rfl
theorem oW {d:D} {h:Hh} (k:itm d=true) (n:∀ds,d≠.tup ds):fA "tuple" d h=.ok (.bl false) h:=by
 cases d<;>first | (exact absurd k Bool.false_ne_true) | exact absurd rfl (n _) | rfl
noncomputable def RA (e:D):Prop:=∀h,∃p,toPy 11 h e=some p/\p.bulk<=100
noncomputable def RB (e:D):Prop:=∃p,ji 11 e=some p/\p.bulk<=100
noncomputable def RX (d:D):Prop:=∀h,∃s,cb [d] h=.ok (.str s) h
theorem gW {f:D->Option PyData} {n:Nat}:∀{ds:List D},(∀e∈ds,∃p,f e=some p/\p.bulk<=n)->∃ps,cF f ds=some ps/\PyData.bulkAll ps<=(n+1)*ds.length
 | [],_=>⟨[],rfl,by simp[PyData.bulkAll]⟩
 | d::ds,k=>by
  obtain⟨p,e,b⟩:=k d List.mem_cons_self
  obtain⟨ps,e2,b2⟩:=gW (ds:=ds) fun x hx=>k x (List.mem_cons_of_mem _ hx)
  refine⟨p::ps,by simp[cF,e,e2],?_⟩
  rw[PyData.bulkAll,List.length_cons,Nat.mul_add]
  omega
theorem Fj {ds:List D} (hl:ds.length<=60) (k:∀e∈ds,RA e):RX (.tup ds):=by
 intro h
 obtain⟨ps,e,b⟩:=gW fun x hx=>k x hx h
 have e1:toPy 12 h (.tup ds)=some (.tuple ps):=by
  show(cF (toPy 11 h) ds).map PyData.tuple=_
  rw[e];rfl
 have e2:PyData.bulk (.tuple ps)<=8000:=by rw[PyData.bulk];omega
 exact⟨_,gu (show hZ (.tup ds) h=.ok (.str (PyData.tuple ps).shown) h from by delta hZ;rw[e1];exact if_pos e2)⟩
theorem Hb {ds:List D} (hl:ds.length<=60) (k:∀e∈ds,RA e):RX (.frl ds):=by
 intro h
 obtain⟨ps,e,b⟩:=gW fun x hx=>k x hx h
 have e1:toPy 12 h (.frl ds)=some (.list ps):=by
  show(cF (toPy 11 h) ds).map PyData.list=_
  rw[e];rfl
 have e2:PyData.bulk (.list ps)<=8000:=by rw[PyData.bulk];omega
 exact⟨_,gu (show hZ (.frl ds) h=.ok (.str (PyData.list ps).shown) h from by delta hZ;rw[e1];exact if_pos e2)⟩
theorem G7 {ds:List D} (hl:ds.length<=60) (k:∀e∈ds,RB e):RX (.tup ds):=by
 intro h
 obtain⟨ps,e,b⟩:=gW fun x hx=>k x hx
 have e1:ji 12 (.tup ds)=some (.tuple ps):=by
  show(cF (ji 11) ds).map PyData.tuple=_
  rw[e];rfl
 have e2:PyData.bulk (.tuple ps)<=8000:=by rw[PyData.bulk];omega
 have e3:pH [.tup ds] h=.ok (.str (PyData.tuple ps).shown) h:=show wC (.tup ds) h=_ from by delta wC;rw[e1];exact if_pos e2
 have hR:hZ (.tup ds) h=.bad\/∃s,hZ (.tup ds) h=.ok (.str s) h:=by
  delta hZ
  cases toPy 12 h (.tup ds) with
  | none=>exact .inl rfl
  | some p=>
   by_cases z2:p.bulk<=8000
   ·exact .inr ⟨_,if_pos z2⟩
   ·exact .inl (if_neg z2)
 rcases hR with e | ⟨s,e⟩
 ·refine⟨_,Eq.trans ?_ e3⟩
  have e':mE [.tup ds] h=.bad:=e
  delta cb;rw[e']
 ·exact⟨s,gu e⟩
theorem pv {i:Int} (s:sml i=true):RA (.int i):=fun h=>⟨.int i,by show(if sml i=true then some (PyData.int i) else none)=_;rw[if_pos s],by simp[PyData.bulk]⟩
theorem Dl {i:Int} (s:sml i=true):RB (.int i):=⟨.int i,by show(if sml i=true then some (PyData.int i) else none)=_;rw[if_pos s],by simp[PyData.bulk]⟩
noncomputable def iL (e:D):Prop:=itm e=true/\(RA e\/RB e)
theorem eA {i:Int} (s:sml i=true):iL (.int i):=⟨rfl,.inl (pv s)⟩
theorem qg {b:Bool}:iL (.bl b):=⟨rfl,.inl fun h=>⟨.bool b,rfl,by simp[PyData.bulk]⟩⟩
theorem u9:iL .non:=⟨rfl,.inl fun h=>⟨.none,rfl,by simp[PyData.bulk]⟩⟩
theorem xb:iL (.str "0"):=⟨rfl,.inl fun h=>⟨.str "0", by kernel_rfl,by decide +kernel⟩⟩
theorem rA:iL .edic:=⟨rfl,.inr ⟨.dict [],rfl,by decide +kernel⟩⟩
theorem xI:iL (.tup [.int 0]):=⟨rfl,.inl fun h=>⟨.tuple [.int 0],by kernel_rfl,by decide +kernel⟩⟩
theorem rj:iL (.frl [.int 0]):=⟨rfl,.inl fun h=>⟨.list [.int 0],by kernel_rfl,by decide +kernel⟩⟩
structure Th (d:D):Prop where
 it:itm d=true
 its:∀ds,d=.tup ds->(∀e∈ds,itm e=true)/\ds.length<=60
 rx:RX d
theorem jz {od:D} {xs ys:List Int} (o:iL od) (hx:∀x∈xs,sml x=true) (hy:∀x∈ys,sml x=true) (hl:xs.length+ys.length<=50):Th (.tup (xs.map D.int++od::ys.map D.int)):=by
 have ml:(xs.map D.int++od::ys.map D.int).length<=60:=by simp;omega
 have mm:∀e∈xs.map D.int++od::ys.map D.int,(∃i,e=.int i/\sml i=true)\/e=od:=by
  intro e he
  rcases List.mem_append.mp he with he | he
  ·obtain⟨i,hi,rfl⟩:=List.mem_map.mp he;exact .inl ⟨i,rfl,hx i hi⟩
  ·rcases List.mem_cons.mp he with he | he
   ·exact .inr he
   ·obtain⟨i,hi,rfl⟩:=List.mem_map.mp he;exact .inl ⟨i,rfl,hy i hi⟩
 refine⟨rfl,fun ds e=>?_,?_⟩
 ·cases e
  refine⟨fun e he=>?_,ml⟩
  rcases mm e he with⟨i,rfl,_⟩ | rfl
  ·rfl
  ·exact o.1
 ·rcases o.2 with a | b
  ·refine Fj ml fun e he=>?_
   rcases mm e he with⟨i,rfl,s⟩ | rfl
   ·exact pv s
   ·exact a
  ·refine G7 ml fun e he=>?_
   rcases mm e he with⟨i,rfl,s⟩ | rfl
   ·exact Dl s
   ·exact b
theorem cD {xs:List Int} (hx:∀x∈xs,sml x=true) (hl:xs.length<=60):Th (.tup (xs.map D.int)):=by
 refine⟨rfl,fun ds e=>?_,Fj (by simpa using hl) fun e he=>?_⟩
 ·cases e
  exact⟨fun e he=>by obtain⟨i,_,rfl⟩:=List.mem_map.mp he;rfl,by simpa using hl⟩
 ·obtain⟨i,hi,rfl⟩:=List.mem_map.mp he
  exact pv (hx i hi)
theorem sL {xs:List Int} (hx:∀x∈xs,sml x=true) (hl:xs.length<=60):Th (.frl (xs.map D.int)):=by
 refine⟨rfl,fun ds e=>(nomatch e),Hb (by simpa using hl) fun e he=>?_⟩
 obtain⟨i,hi,rfl⟩:=List.mem_map.mp he
 exact pv (hx i hi)
theorem mM {te:ME} {ee:D->En} (G:Pen->Hh) (P:D->Prop) (st:∀x p,∃d p',te (ee x) (G p)=.ok d (G p')/\P d):∀(xs:List D) (p:Pen),∃ys p',cQ tt1 te ee xs (G p)=.ok ys (G p')/\(∀y∈ys,P y)/\ys.length=xs.length
 | [],p=>⟨[],p,rfl,by simp,rfl⟩
 | x::xs,p=>by
  obtain⟨d,p1,e,q⟩:=st x p
  obtain⟨ys,p2,e2,q2,l⟩:=mM G P st xs p1
  refine⟨d::ys,p2,?_,?_,by simp[l]⟩
  ·rw[cQ,EG,bC,if_pos rfl,e,bC,e2];rfl
  ·intro y hy
   rcases List.mem_cons.mp hy with rfl | hy
   ·exact q
   ·exact q2 y hy
noncomputable abbrev TRw:D:=.tup [.str "row"]
theorem G9 {h:Hh}:bb [.exc "NoRow" []] h=.ok TRw h:=by kernel_rfl
theorem oh (k:Nat) (h:Hh):∀xs ys:List Int,eqL (eqD (k+1) h) (xs.map D.int) (ys.map D.int)=some (decide (xs=ys))
 | [],[]=>rfl
 | [],y::ys=>rfl
 | x::xs,[]=>rfl
 | x::xs,y::ys=>by
  have ih:=oh k h xs ys
  have e1:eqD (k+1) h (.int x) (.int y)=some (x == y):=rfl
  simp only[List.map_cons,eqL,e1,ih]
  by_cases a:x=y<;>by_cases b:xs=ys<;>simp[a,b]
end FC
namespace FC
open PySem L2 L2.FE L2.ST
theorem DU {a b:Int} {d:D} {h:Hh} (k:itm d=true) (c:inR a b d=true):bO [d,.int a,.int b] h=.ok .non h:=by simp[bO,bf,n6 k,c]
structure Sub (m:Nat) (S:List Int):Prop where
 up:S.Pairwise (· < ·)
 inn:∀x∈S,0<=x/\x<(m:Int)
noncomputable def subs:Nat->List (List Int)
 | 0=>[[]]
 | m+1=>subs m++(subs m).map (·++[(m:Int)])
theorem Sub.mem:∀{m:Nat} {S:List Int},Sub m S->S∈subs m
 | 0,[],_=>by simp[subs]
 | 0,x::r,s=>by have:=s.inn x (by simp);omega
 | m+1,S,s=>by
  by_cases z:((m:Nat):Int)∈S
  ·obtain⟨a,b,e⟩:=List.append_of_mem z
   have hb:b=[]:=by
    cases b with
    | nil=>rfl
    | cons y b=>
     have up:=s.up
     rw[e] at up
     have:=(List.pairwise_append.mp up).2.1
     have h1:=(List.pairwise_cons.mp this).1 y (by simp)
     have h2:=s.inn y (by rw[e];simp)
     omega
   subst hb
   have sa:Sub m a:=⟨by have:=s.up;rw[e] at this;exact(List.pairwise_append.mp this).1,fun x hx=>by
    have h1:=s.inn x (by rw[e];simp[hx])
    have up:=s.up
    rw[e] at up
    have h2:=(List.pairwise_append.mp up).2.2 x hx (m:Int) (by simp)
    omega⟩
   rw[subs,e]
   exact List.mem_append_right _ (List.mem_map.mpr ⟨a,sa.mem,rfl⟩)
  ·rw[subs]
   refine List.mem_append_left _ (Sub.mem (m:=m) ⟨s.up,fun x hx=>?_⟩)
   have h1:=s.inn x hx
   have:x≠(m:Int):=fun e=>z (e ▸ hx)
   omega
theorem Sub.len {m:Nat} {S:List Int} (s:Sub m S):S.length<=m:=by
 have key:∀(m:Nat),∀T∈subs m,T.length<=m:=by
  intro m
  induction m with
  | zero=>intro T h;simp[subs] at h;subst h;simp
  | succ m ih=>
   intro T h
   rcases List.mem_append.mp h with h | h
   ·have:=ih T h;omega
   ·obtain⟨U,hU,rfl⟩:=List.mem_map.mp h
    have:=ih U hU
    simp;omega
 exact key m S s.mem
noncomputable def GB:MS:=(aG (cM (bL (aE df (ag a_ (aa (ah 3) (aa (ah 2) (aa (aw dn (ah 0) (cC (.int 2))) ak)))))) (bg (cC (.bl false))) br) (bh 2 (aw (bE az) (ah 3) (cC (.int 1)))))
noncomputable def sgB (m:Int):Int->List D->Bool
 | _,[]=>true
 | l,d::ds=>inR l m d&&sgB m (b8 d+1) ds
theorem qd {n:Nat} {es:List D} {h:Hh}:∀(ds:List D) (l:Int) (s:Option D),(∀d∈ds,itm d=true)->∃l' s',(sgB ((n:Int) - 2) l ds=true->dI (gN 3) GB ds [some (.int n),some (.tup es),some (.int l),s] h=.ok (.nx [some (.int n),some (.tup es),some (.int l'),s']) h)/\(sgB ((n:Int) - 2) l ds=false->dI (gN 3) GB ds [some (.int n),some (.tup es),some (.int l),s] h=.ok (.rt (.bl false)) h)
 | [],l,s,_=>⟨l,s,fun _=>rfl,fun z=>nomatch z⟩
 | d::ds,l,s,k=>by
  obtain⟨l',s',e1,e2⟩:=qd (n:=n) (es:=es) (h:=h) ds (b8 d+1) (some d) (fun x hx=>k x (List.mem_cons_of_mem _ hx))
  have w:=n6 (a:=l) (b:=(n:Int) - 2) (h:=h) (k d List.mem_cons_self)
  have b1:inR l ((n:Int) - 2) d=true->GB [some (.int n),some (.tup es),some (.int l),some d] h=.ok (.nx [some (.int n),some (.tup es),some (.int (b8 d+1)),some d]) h:=fun c=>by
   have ei:=gX (iU c)
   rw[ei] at w c ⊢
   rw[c] at w
   generalize b8 d=v at *
   have hv:b8 (D.int v)=v:=rfl
   rw[hv]
   simp[GB,w]
  have b2:inR l ((n:Int) - 2) d=false->GB [some (.int n),some (.tup es),some (.int l),some d] h=.ok (.rt (.bl false)) h:=fun c=>by simp[GB,w,c]
  refine⟨l',s',fun z=>?_,fun z=>?_⟩
  ·unfold sgB at z
   rw[Bool.and_eq_true] at z
   rw[gx]
   simp only[wu,bC,List.set,b1 z.1,qH,e1 z.2]
  ·rw[gx]
   simp only[wu,bC,List.set]
   cases c:inR l ((n:Int) - 2) d with
   | false=>rw[b2 c];simp
   | true=>
    unfold sgB at z
    rw[c,Bool.true_and] at z
    simp only[b1 c,bC,qH,e2 z]
noncomputable def stB (n:Nat):D->Bool
 | .tup ds=>sgB ((n:Int) - 2) 0 ds
 | _=>false
theorem sY {a b i:Int} (h:a<=i/\i<=b):inR a b (.int i)=true:=decide_eq_true h
noncomputable abbrev XS:Xc:=⟨"NoSet", []⟩
theorem D7:eN=cA 4 (aG (eY (ag bO (aa (up (ah 0)) (aa (up (cC (.int 1))) (aa (up (cC (.int 12))) ak))))) (aG (up (cM (bL (aE df (cUn (fA "tuple") (ah 1)))) (bg (cC (.bl false))) br)) (aG (up (bh 2 (cC (.int 0)))) (aG (up (fC (di (ah 1)) (gN 3) GB)) (up (bg (cC (.bl true)))))))):=rfl
theorem xT {n:Nat} {d:D} {h:Hh} (h1:1<=n) (hn:n<=12) (t:Th d):eN [.int n,d] h=.ok (.bl (stB n d)) h:=by
 have nn:=DU (a:=1) (b:=12) (d:=.int (n:Int)) (h:=h) rfl (sY (by omega))
 rw[D7]
 by_cases nt:∀ds,d≠.tup ds
 ·have e1:=oW (h:=h) t.it nt
  have e2:stB n d=false:=by cases d<;>first | rfl | exact absurd rfl (nt _)
  rw[e2]
  simp[bf,up,nn,e1]
 ·obtain⟨ds,rfl⟩:∃ds,d=.tup ds:=Classical.byContradiction fun z=>nt fun ds e=>z ⟨ds,e⟩
  obtain⟨k,kl⟩:=t.its ds rfl
  obtain⟨l',s',q1,q2⟩:=qd (n:=n) (es:=ds) (h:=h) ds 0 none k
  have c4:ds.length<=1000000:=by omega
  show _=R.ok (D.bl (sgB ((n:Int) - 2) 0 ds)) h
  cases c:sgB ((n:Int) - 2) 0 ds with
  | true=>simp[bf,up,nn,c4,q1 c]
  | false=>simp[bf,up,nn,c4,q2 c]
theorem G3 {n:Nat} {d:D} {h:Hh} (h1:1<=n) (hn:n<=12) (t:Th d) (c:stB n d=false):cu [.int n,d] h=.err XS h:=by
 simp[cu,bf,up,xT h1 hn t,c]
theorem xn {m:Int}:∀{ds:List D} {l:Int},0<=l->sgB m l ds=true->∀e∈ds,inR l m e=true
 | [],_,_,_,e,h=>by cases h
 | d::ds,l,l0,s,e,h=>by
  unfold sgB at s
  rw[Bool.and_eq_true] at s
  rcases List.mem_cons.mp h with rfl | h
  ·exact s.1
  ·have ei:=gX (iU s.1)
   have s1:=s.1
   rw[ei] at s1
   have s1:=of_decide_eq_true s1
   have:=xn (by omega) s.2 e h
   have ee:=gX (iU this)
   rw[ee] at this ⊢
   have:=of_decide_eq_true this
   exact sY (by omega)
theorem lI {n:Nat}:∀{S:List Int} {l:Int},S.Pairwise (· < ·)->(∀x∈S,l<=x/\x<=(n:Int) - 2)->sgB ((n:Int) - 2) l (S.map D.int)=true
 | [],_,_,_=>rfl
 | x::S,l,p,h=>by
  obtain⟨a,b⟩:=List.pairwise_cons.mp p
  rw[List.map_cons]
  unfold sgB
  rw[Bool.and_eq_true]
  exact⟨sY (h x List.mem_cons_self),lI b fun y hy=>⟨by have:=a y hy;show x+1<=y;omega,(h y (List.mem_cons_of_mem _ hy)).2⟩⟩
theorem yY {n:Nat} {S:List Int} (hn:n<=12) (s:Sub (n - 1) S):Th (.tup (S.map D.int)):=cD (fun x hx=>by have:=s.inn x hx;exact dO this.1 (by omega)) (by have:=s.len;omega)
theorem GH {n:Nat} {S:List Int} {h:Hh} (h1:1<=n) (hn:n<=12) (s:Sub (n - 1) S):cu [.int n,.tup (S.map D.int)] h=.ok .non h:=by
 have c:stB n (.tup (S.map D.int))=true:=lI s.up fun x hx=>by have:=s.inn x hx;omega
 simp[cu,bf,up,xT h1 hn (yY hn s),c]
theorem EV:dF=cA 4 (aG (eY (ag bN (aa (ah 0) (aa (cC (.int 1)) (aa (cC (.int 12)) ak))))) (aG (cM (bL (aE df (cUn (fA "tuple") (ah 1)))) (bg (cC (.bl false))) br) (aG (bh 2 (cC (.int 0))) (aG (fC (di (ah 1)) (gN 3) GB) (bg (cC (.bl true))))))):=rfl
theorem DJ {n:Nat} {d:D} {h:Hh} (h1:1<=n) (hn:n<=12) (t:Th d):dF [.int n,d] h=.ok (.bl (stB n d)) h:=by
 have nn:=yz (i:=(n:Int)) (a:=1) (b:=12) (h:=h) (by omega)
 rw[EV]
 by_cases nt:∀ds,d≠.tup ds
 ·have e1:=oW (h:=h) t.it nt
  have e2:stB n d=false:=by cases d<;>first | rfl | exact absurd rfl (nt _)
  rw[e2]
  simp[bf,nn,e1]
 ·obtain⟨ds,rfl⟩:∃ds,d=.tup ds:=Classical.byContradiction fun z=>nt fun ds e=>z ⟨ds,e⟩
  obtain⟨k,kl⟩:=t.its ds rfl
  obtain⟨l',s',q1,q2⟩:=qd (n:=n) (es:=ds) (h:=h) ds 0 none k
  have c4:ds.length<=1000000:=by omega
  show _=R.ok (D.bl (sgB ((n:Int) - 2) 0 ds)) h
  cases c:sgB ((n:Int) - 2) 0 ds with
  | true=>simp[bf,nn,c4,q1 c]
  | false=>simp[bf,nn,c4,q2 c]
theorem t8 {m:Int}:∀{ns:List Int} {l:Int},sgB m l (ns.map D.int)=true->ns.Pairwise (· < ·)/\∀x∈ns,l<=x/\x<=m
 | [],_,_=>⟨.nil,by simp⟩
 | x::r,l,h=>by
  rw[List.map_cons] at h
  unfold sgB at h
  rw[Bool.and_eq_true] at h
  have a:l<=x/\x<=m:=of_decide_eq_true h.1
  obtain⟨u,v⟩:=t8 (l:=x+1) h.2
  exact⟨List.pairwise_cons.mpr ⟨fun y hy=>by have:=v y hy;omega,u⟩,fun y hy=>by
   rcases List.mem_cons.mp hy with rfl | hy
   ·exact a
   ·have:=v y hy;omega⟩
theorem zI {m l:Int}:∀{ds:List D},sgB m l ds=true->ds=(ds.map b8).map D.int:=fun{ds} h=>by
 refine kJ ?_
 induction ds generalizing l with
 | nil=>rfl
 | cons d ds ih=>
  unfold sgB at h
  rw[Bool.and_eq_true] at h
  simp only[List.all_cons,Bool.and_eq_true]
  exact⟨iU h.1,ih h.2⟩
theorem Dx {n:Nat} {d:D} (h:stB n d=true):∃S,d=.tup (S.map D.int)/\Sub (n - 1) S:=by
 cases d with
 | tup ds=>
  have h:sgB ((n:Int) - 2) 0 ds=true:=h
  have e:=zI h
  rw[e] at h
  obtain⟨u,v⟩:=t8 h
  exact⟨ds.map b8,by rw[<- e],u,fun x hx=>by have:=v x hx;omega⟩
 | _=>cases h
theorem yb:∀{ns:List Int},ns.Nodup->udd ns=ns
 | [],_=>rfl
 | x::r,h=>by
  obtain⟨a,b⟩:=List.nodup_cons.mp h
  unfold udd
  rw[if_neg (by simpa using a),yb b]
theorem DH (ns:List Int):ns=sortI (udd ns)↔ns.Pairwise (· < ·):=by
 constructor
 ·intro e
  have nd:(sortI (udd ns)).Nodup:=(sortI_perm _).nodup_iff.mpr (qp ns)
  have so:=eg (udd ns)
  rw[<- e] at nd so
  have q:ns.Pairwise fun a b=>a<=b/\a≠b:=List.pairwise_and_iff.mpr ⟨so,nd⟩
  exact q.imp fun h=>by omega
 ·intro h
  rw[yb (h.imp fun h=>by omega)]
  exact(gI (sortI_perm ns) (eg ns) (h.imp fun h=>by omega)).symm
theorem xx {d:D} {h:Hh} (k:itm d=true):bP [d] h=.ok (.bl (isI d)) h:=by
 cases d<;>first | (exact absurd k Bool.false_ne_true) | rfl
theorem Fy {h:Hh} {xs ys:List Int}:dEq (.frl (xs.map D.int)) (.frl (ys.map D.int)) h=.ok (.bl (decide (xs=ys))) h:=by
 have:eqD eqN h (.frl (xs.map D.int)) (.frl (ys.map D.int))=some (decide (xs=ys)):=by
  show(if (xs.map D.int).length=(ys.map D.int).length then eqL (eqD (10+1) h) (xs.map D.int) (ys.map D.int) else some false)=_
  rw[List.length_map,List.length_map,oh]
  by_cases e:xs=ys
  ·subst e;simp
  ·by_cases l:xs.length=ys.length
   ·rw[if_pos l]
   ·rw[if_neg l,decide_eq_false e]
 simp only[dEq,this]
theorem jw {X:Type} {p:X->Bool}:∀{l:List X},(l.filter p).isEmpty=l.all fun x=>!p x
 | []=>rfl
 | x::l=>by
  rw[List.filter_cons,List.all_cons]
  cases e:p x with
  | true=>simp
  | false=>simpa using jw (l:=l)
theorem AJ {ns:List Int} {h:Hh} (hl:ns.length<64):lM az [.tup (ns.map D.int)] h=.ok (.frl ((sortI (udd ns)).map D.int)) h:=by
 unfold lM
 dsimp only
 rw[gm]
 dsimp only
 rw[if_pos hl]
 rfl
theorem AL {n:Nat} {d:D} {h:Hh} (h1:1<=n) (hn:n<=12) (t:Th d):ck [.int n,d] h=.ok (.bl (stB n d)) h:=by
 by_cases nt:∀ds,d≠.tup ds
 ·have e1:=oW (h:=h) t.it nt
  have e2:stB n d=false:=by cases d<;>first | rfl | exact absurd rfl (nt _)
  rw[e2]
  simp[ck,bf,e1]
 ·obtain⟨ds,rfl⟩:∃ds,d=.tup ds:=Classical.byContradiction fun z=>nt fun ds e=>z ⟨ds,e⟩
  obtain⟨k,kl⟩:=t.its ds rfl
  have c4:ds.length<=1000000:=by omega
  have c1:cQ (bL (aE df (ag bP (aa (ah 0) ak)))) (ah 0) (fun d=>[some d]) ds h=.ok (ds.filter fun d=>!isI d) h:=by
   have:=comp_map (h:=h) (tt:=bL (aE df (ag bP (aa (ah 0) ak)))) (te:=ah 0) (ee:=fun d=>[some d]) (fun d:D=>d) (fun d=>!isI d) (fun d=>d) ds (fun x hx=>⟨by simp[xx (k x hx)],fun _=>by simp⟩)
   simpa using this
  show _=R.ok (D.bl (sgB ((n:Int) - 2) 0 ds)) h
  by_cases ai:ds.all isI=true
  ·have e:=kJ ai
   have fe:(ds.filter fun d=>!isI d).isEmpty=true:=by rw[jw];simpa using ai
   generalize hns:ds.map b8=ns at e
   subst e
   have hl:ns.length<64:=by rw[List.length_map] at kl;omega
   have z1:ns.length<=1000000:=by omega
   have c2:cQ (bL (aE asB (iy dLe dLt (cC (.int 0)) (ah 0) (aw dn (ah 1) (cC (.int 1)))))) (ah 0) (fun d=>[some d,some (.int n)]) (ns.map D.int) h=.ok ((ns.filter fun x=>!decide (0<=x/\x<(n:Int) - 1)).map D.int) h:=
    comp_map D.int _ D.int ns (fun x hx=>⟨by by_cases z:(0:Int)<=x<;>simp[z],fun _=>by simp⟩)
   have su:=AJ (h:=h) hl
   have ef:=Fy (h:=h) (xs:=ns) (ys:=sortI (udd ns))
   have cond:sgB ((n:Int) - 2) 0 (ns.map D.int)=((ns.filter fun x=>!decide (0<=x/\x<(n:Int) - 1)).isEmpty&&decide (ns=sortI (udd ns))):=by
    rw[jw]
    simp only[Bool.not_not]
    rw[Bool.eq_iff_iff,Bool.and_eq_true,List.all_eq_true,decide_eq_true_eq,DH]
    constructor
    ·intro q
     obtain⟨u,v⟩:=t8 q
     exact⟨fun x hx=>by have:=v x hx;simp;omega,u⟩
    ·rintro⟨u,v⟩
     exact lI v fun x hx=>by have:=u x hx;simp at this;omega
   have nn:dNe (.frl ((ns.map D.int).filter fun d=>!isI d)) (.frl []) h=.ok (.bl false) h:=by rw[Br,fe];rfl
   have en:dEq (.frl ((ns.filter fun x=>!decide (0<=x/\x<(n:Int) - 1)).map D.int)) (.frl []) h=.ok (.bl (ns.filter fun x=>!decide (0<=x/\x<(n:Int) - 1)).isEmpty) h:=by
    rw[D9];simp
   have fl1:((ns.map D.int).filter fun d=>!isI d).length<=1000000:=Nat.le_trans (List.length_filter_le _ _) (by rw[List.length_map];exact z1)
   have fl2:((ns.filter fun x=>!decide (0<=x/\x<(n:Int) - 1)).map D.int).length<=1000000:=by rw[List.length_map];exact Nat.le_trans (List.length_filter_le _ _) z1
   rw[cond]
   generalize (ns.map D.int).filter (fun d=>!isI d)=F1 at *
   generalize (ns.filter fun x=>!decide (0<=x/\x<(n:Int) - 1)).isEmpty=b1 at *
   generalize (ns.filter fun x=>!decide (0<=x/\x<(n:Int) - 1)).map D.int=F2 at *
   generalize decide (ns=sortI (udd ns))=b2 at *
   generalize (sortI (udd ns)).map D.int=F3 at *
   have z3:(ns.map D.int).length<=1000000:=by rw[List.length_map];exact z1
   generalize ns.map D.int=NS at *
   cases b1<;>simp[ck,bf,c1,c2,nn,en,su,ef,z3]
  ·have ai:ds.all isI=false:=by simpa using ai
   have fe:(ds.filter fun d=>!isI d).isEmpty=false:=by rw[jw];simpa using ai
   have nn:dNe (.frl (ds.filter fun d=>!isI d)) (.frl []) h=.ok (.bl true) h:=by rw[Br,fe];rfl
   have e2:sgB ((n:Int) - 2) 0 ds=false:=by
    cases c:sgB ((n:Int) - 2) 0 ds with
    | false=>rfl
    | true=>
     have q:=xn (by omega) c
     have:ds.all isI=true:=List.all_eq_true.mpr fun d hd=>iU (q d hd)
     rw[this] at ai;cases ai
   rw[e2]
   simp[ck,bf,c1,nn,c4]
noncomputable def szP (a:Int):List Int->Int->List Int
 | [],n=>[n - a]
 | x::r,n=>(x+1 - a)::szP (x+1) r n
theorem uE:∀(S:List Int) (a n:Int),((a::S.map (· + 1)).zip (S.map (· + 1)++[n])).map (fun p=>p.2 - p.1)=szP a S n
 | [],a,n=>rfl
 | x::r,a,n=>by
  rw[szP,<- uE r (x+1) n]
  rfl
theorem vd:∀(S:List Int) (a n:Int),(szP a S n).sum=n - a
 | [],a,n=>by simp[szP]
 | x::r,a,n=>by rw[szP,List.sum_cons,vd];omega
theorem By:∀(S:List Int) (a n:Int),S.Pairwise (· < ·)->(∀x∈S,a<=x+1/\x+1<=n)->a<=n->∀z∈szP a S n,0<=z
 | [],a,n,_,_,l=>by simp[szP];omega
 | x::r,a,n,p,h,l=>by
  intro z hz
  have hx:=h x (by simp)
  rw[szP] at hz
  rcases List.mem_cons.mp hz with rfl | hz
  ·omega
  ·refine By r (x+1) n (List.pairwise_cons.mp p).2 (fun y hy=>?_) hx.2 z hz
   have:=(List.pairwise_cons.mp p).1 y hy
   have:=h y (by simp[hy])
   omega
theorem uz:∀(S:List Int) (a n:Int),(szP a S n).length=S.length+1
 | [],a,n=>rfl
 | x::r,a,n=>by rw[szP,List.length_cons,uz];rfl
theorem lr:∀(l:List Int),(∀x∈l,0<=x)->∀x∈l,x<=l.sum
 | [],_,x,h=>by simp at h
 | y::r,h,x,m=>by
  have h0:0<=r.sum:=by
   have:∀l:List Int,(∀x∈l,0<=x)->0<=l.sum:=by
    intro l;induction l with
    | nil=>simp
    | cons a l ih=>intro h;rw[List.sum_cons];have:=h a (by simp);have:=ih fun x hx=>h x (by simp[hx]);omega
   exact this r fun x hx=>h x (by simp[hx])
  rw[List.sum_cons]
  rcases List.mem_cons.mp m with rfl | m
  ·omega
  ·have:=lr r (fun x hx=>h x (by simp[hx])) x m
   have:=h y (by simp)
   omega
theorem mL:∀xs ys:List Int,gf (xs.map D.int) (ys.map D.int)=(xs.zip ys).map fun p=>D.tup [.int p.1,.int p.2]
 | [],_=>by simp[gf]
 | _::_,[]=>by simp[gf]
 | x::xs,y::ys=>by simp[gf,mL xs ys]
theorem zW {h:Hh} (xs ys:List Int):cQ (unp tt1) (unp (aw dn (ah 1) (ah 0))) (fun d=>[some d]) (gf (xs.map D.int) (ys.map D.int)) h=.ok (((xs.zip ys).map fun p=>p.2 - p.1).map D.int) h:=by
 rw[mL,tB (fun(p:Int × Int)=>D.tup [.int p.1,.int p.2]) (fun p=>D.int (p.2 - p.1)) (xs.zip ys) _ (fun p _=>by simp) (fun p _=>by simp),List.map_map]
 rfl
theorem xa {n:Nat} {S:List Int} {h:Hh} (h1:1<=n) (hn:n<=12) (s:Sub (n - 1) S):cI [.int n,.tup (S.map D.int)] h=.ok (.tup ((szP 0 S n).map D.int)) h:=by
 have c1:cQ tt1 (aw (bE az) (ah 0) (cC (.int 1))) (fun d=>[some d]) (S.map D.int) h=.ok ((S.map (· + 1)).map D.int) h:=by
  rw[lh D.int (fun x=>D.int (x+1)) S (fun x _=>by simp),List.map_map];rfl
 have sl:=s.len
 have z1:S.length<=1000000:=by omega
 have z2:1+S.length<=1000000:=by omega
 have z3:S.length+1<=1000000:=by omega
 have m1:D.int 0::(S.map (· + 1)).map D.int=(0::S.map (· + 1)).map D.int:=rfl
 have m2:cutD ((0::S.map (· + 1)).map D.int) (some 1) none=(S.map (· + 1)).map D.int:=by
  rw[cK];exact congrArg _ (wL _ 1)
 have m3:(S.map (· + 1)).map D.int++[D.int (n:Int)]=(S.map (· + 1)++[(n:Int)]).map D.int:=by simp
 have c2:=zW (h:=h) (0::S.map (· + 1)) (S.map (· + 1)++[(n:Int)])
 rw[uE] at c2
 have z4:(gf ((0::S.map (· + 1)).map D.int) ((S.map (· + 1)++[(n:Int)]).map D.int)).length<=1000000:=by rw[mL];simp;omega
 have l1:((S.map (· + 1)).map D.int).length=S.length:=by simp
 generalize hA:(S.map (· + 1)).map D.int=A at c1 m1 m2 m3 l1
 generalize hB:(0::S.map (· + 1)).map D.int=B at m1 m2 c2 z4
 generalize hC:(S.map (· + 1)++[(n:Int)]).map D.int=C at m3 c2 z4
 simp[cI,bf,up,GH (h:=h) h1 hn s,c1,z1,z2,z3,z4,m1,m2,m3,c2,l1]
noncomputable def lsF (S:List Int):List Int × Int->Nat->List Int × Int:=fun s i=>if S.any (· == (i:Int)) then (s.1++[s.2],1) else (s.1,s.2+1)
noncomputable def lwS (n:Nat) (S:List Int):List Int × Int:=(List.range (n - 1)).foldl (lsF S) ([],1)
theorem DE:∀n,n<13->1<=n->(subs (n - 1)).all (fun S=>decide ((lwS n S).1++[(lwS n S).2]=szP 0 S n))=true:=by decide +kernel
theorem Fh {n:Nat} {S:List Int} (h1:1<=n) (hn:n<=12) (s:Sub (n - 1) S):(lwS n S).1++[(lwS n S).2]=szP 0 S n:=of_decide_eq_true (List.all_eq_true.mp (DE n (by omega) h1) S s.mem)
theorem qE {xs:List D} {x:D} {h:Hh}:ixK (xs++[x]) (-1) h=.ok x h:=by
 unfold ixK
 have:atI (xs++[x]) (-1)=some x:=by
  unfold atI
  have:ixN (xs++[x]).length (-1)=some xs.length:=by
   unfold ixN;simp;omega
  rw[this];simp
 rw[this]
noncomputable def BLs:MS:=(aG (cM (aE asB (aw (dIn false) (ah 3) (ah 1))) (eY (eG cE (ah 2) (aa (cC (.int 0)) ak))) br)
  (jG f_ (ah 2) (cUn kh (cC (.int 1))) (aw (bE az) (aw dIx (ah 2) (cUn kh (cC (.int 1)))) (cC (.int 1)))))
theorem qR {h:Hh} {xs:List D} {x v:D}:f_ (.ref h.length) (.int (-1)) v (h++[.lst (xs++[x])])=.ok () (h++[.lst (xs++[v])]):=by
 have:ixN (xs++[x]).length (-1)=some xs.length:=by unfold ixN;simp;omega
 rw[kW fZ this]
 simp
theorem uq {h:Hh} {xs:List D} {x:D}:dIx (.ref h.length) (.int (-1)) (h++[.lst (xs++[x])])=.ok x (h++[.lst (xs++[x])]):=by
 rw[nJ fZ,qE]
theorem ye {n:Nat} {S:List Int} {h:Hh} (h1:1<=n) (hn:n<=12) (w:Wf h):cP [.int n,.tup (S.map D.int)] h=.ok (.tup (((lwS n S).1++[(lwS n S).2]).map D.int)) h:=by
 obtain⟨e,q⟩:=AO (tg:=gN 3) (body:=BLs) (n - 1) (fun(s:(List Int × Int) × Option D)=>[some (.int n),some (.tup (S.map D.int)),some (.ref h.length),s.2]) (fun s=>h++[.lst (s.1.1.map D.int++[.int s.1.2])]) (fun s i=>(lsF S s.1 i,some (.int i))) (fun i s=>s.1.1.length<=i/\s.1=(List.range i).foldl (lsF S) ([],1)) (([],1),none) ⟨Nat.le_refl _,rfl⟩ (fun i s hi ⟨hs,hf⟩=>⟨⟨by
   unfold lsF;split
   ·simp;exact hs
   ·exact Nat.le_succ_of_le hs,by rw[List.range_succ,List.foldl_append,<- hf];rfl⟩,.inl (by
   obtain⟨⟨a,b⟩,y⟩:=s
   dsimp only at hs ⊢
   have z:(a.map D.int).length+1<1000000:=by rw[List.length_map];omega
   have i0:=uq (h:=h) (xs:=a.map D.int) (x:=.int b)
   have s0:=qR (h:=h) (xs:=a.map D.int) (x:=.int b) (v:=.int (b+1))
   have i1:=uq (h:=h) (xs:=a.map D.int++[.int b]) (x:=.int 0)
   have s1:=qR (h:=h) (xs:=a.map D.int++[.int b]) (x:=.int 0) (v:=.int 1)
   have al:(a.map D.int).length+1<1000000:=z
   unfold lsF
   by_cases c:(S.any fun x=>x == (i:Int))=true
   ·rw[if_pos c]
    dsimp only
    rw[List.map_append]
    generalize a.map D.int=A at *
    simp only[List.append_assoc,List.cons_append,List.nil_append] at i1 s1
    simp[BLs,c,i1,s1,al]
   ·rw[if_neg c]
    have c':(S.any fun x=>x == (i:Int))=false:=by rw[Bool.not_eq_true] at c;exact c
    dsimp only
    generalize a.map D.int=A at *
    simp[BLs,c',i0,s0])⟩)
 have fin:((List.range (n - 1)).foldl (fun(s:(List Int × Int) × Option D) i=>(lsF S s.1 i,some (D.int i))) (([],1),none)).1=lwS n S:=q.2
 have ql:=q.1
 generalize hq:(List.range (n - 1)).foldl (fun(s:(List Int × Int) × Option D) i=>(lsF S s.1 i,some (D.int i))) (([],1),none)=s9 at *
 obtain⟨ab,y⟩:=s9
 dsimp only at fin e ql
 rw[fin] at e ql
 generalize lwS n S=ab at *
 obtain⟨a,b⟩:=ab
 dsimp only at e ql ⊢
 have z1:((n:Int) - 1).natAbs<=1000000:=by omega
 have z2:((n:Int) - 1).toNat=n - 1:=by omega
 have z3:n - 1<=1000000:=by omega
 have ex:dj h (.tup ((a++[b]).map D.int)) (h++[.lst (a.map D.int++[.int b])])=.ok (.tup ((a++[b]).map D.int)) h:=gk w (by simp)
 have z4:(a.map D.int++[D.int b]).length<=1000000:=by simp;omega
 rw[List.map_append,List.map_cons,List.map_nil] at ex
 rw[List.map_append,List.map_cons,List.map_nil]
 have ml:cP=fun ds h=>((cA 4 (aG (bh 2 (ag (bK qx) (aa (cC (.int 1)) ak))) (aG (fC (kI k9 (aa (aw dn (ah 0) (cC (.int 1))) ak)) (gN 3) BLs) (bg (ag cq (aa (ah 2) ak)))))) ds h).bind (dj h):=rfl
 rw[ml]
 generalize a.map D.int++[D.int b]=L at *
 simp only[List.map_nil,List.nil_append] at e
 simp[bf,z1,z2,z3,z4,e,ex]
noncomputable abbrev TSt:D:=.tup [.str "set"]
theorem HA {h:Hh}:bb [.exc "NoSet" []] h=.ok TSt h:=by kernel_rfl
noncomputable def TB:MS:=(bg (cIf (up (aE asB (aw dEq (ah 0) (cC (.int 0))))) (ag cI (aa (up (ah 1)) (aa (up (ah 2)) ak))) (ag dS (aa (up (ah 2)) ak))))
theorem uw:aL=cA 4 (qw TB bb):=rfl
theorem rV {d0 d1 d2:D} {h:Hh} {x:Xc} {r:D} (wf:Wf h) (e:TB [some d0,some d1,some d2,none] h=.err x h) (c:bx.contains x.cls=true) (q:bb [.exc x.cls x.fs] h=.ok r h):aL [d0,d1,d2] h=.ok r h:=by
 have q:=Cg (mr:=bb) wf e c q
 rw[uw];simp[bf,q]
theorem uP {d0 d1 d2 r:D} {h:Hh} (e:TB [some d0,some d1,some d2,none] h=.ok (.rt r) h):aL [d0,d1,d2] h=.ok r h:=by
 have q:=Cw (mr:=bb) e
 rw[uw];simp[bf,q]
theorem zm {n:Nat} {d:D} {h:Hh} (wf:Wf h) (h1:1<=n) (hn:n<=12) (t:Th d) (c:stB n d=false):aL [.int 0,.int n,d] h=.ok TSt h:=by
 have s:cI [.int n,d] h=.err XS h:=by simp[cI,bf,up,G3 h1 hn t c]
 exact rV (x:=XS) wf (by simp[TB,up,s]) (by decide) HA
theorem vH {n:Nat} {S:List Int} {h:Hh} (h1:1<=n) (hn:n<=12) (s:Sub (n - 1) S):aL [.int 0,.int n,.tup (S.map D.int)] h=.ok (.tup ((szP 0 S n).map D.int)) h:=
 uP (by simp[TB,up,xa (h:=h) h1 hn s])
noncomputable def gzB:D->Bool
 | .tup ds=>!ds.isEmpty&&ds.all (fun d=>isI d&&decide (1<=b8 d))&&decide ((ds.map b8).sum<=12)
 | _=>false
noncomputable def BZ:MS:=(cM (ir (bL (aE df (ag cw (aa (ah 1) ak)))) (aE asB (aw dLt (ah 1) (cC (.int 1))))) (bg (cC (.bl false))) br)
theorem EA:cO=cA 2 (aG (cM (ir (bL (aE df (cUn (fA "tuple") (ah 0)))) (aE asB (aw dEq (ag jT (aa (ah 0) ak)) (cC (.int 0))))) (bg (cC (.bl false))) br)
  (aG (fC (di (ah 0)) (gN 1) BZ) (bg (aw dLe (ag d_ (aa (ah 0) ak)) (cC (.int 12)))))):=rfl
theorem vf {es:List D} {h:Hh}:∀(ds:List D) (s:Option D),(∀d∈ds,itm d=true)->∃s',(ds.all (fun d=>isI d&&decide (1<=b8 d))=true->dI (gN 1) BZ ds [some (.tup es),s] h=.ok (.nx [some (.tup es),s']) h)/\(ds.all (fun d=>isI d&&decide (1<=b8 d))=false->dI (gN 1) BZ ds [some (.tup es),s] h=.ok (.rt (.bl false)) h)
 | [],s,_=>⟨s,fun _=>rfl,fun z=>nomatch z⟩
 | d::ds,s,k=>by
  obtain⟨s',e1,e2⟩:=vf (es:=es) (h:=h) ds (some d) (fun x hx=>k x (List.mem_cons_of_mem _ hx))
  have w:=xH (h:=h) (k d List.mem_cons_self)
  have b1:(isI d&&decide (1<=b8 d))=true->BZ [some (.tup es),some d] h=.ok (.nx [some (.tup es),some d]) h:=fun c=>by
   rw[Bool.and_eq_true] at c
   have ei:=gX c.1
   have c2:=of_decide_eq_true c.2
   rw[c.1] at w
   generalize b8 d=v at *
   subst ei
   have:¬ v<1:=by omega
   simp[BZ,w,this]
  have b2:(isI d&&decide (1<=b8 d))=false->BZ [some (.tup es),some d] h=.ok (.rt (.bl false)) h:=fun c=>by
   cases ci:isI d with
   | false=>rw[ci] at w;simp[BZ,w]
   | true=>
    rw[ci] at w c
    have ei:=gX ci
    have c2:b8 d<1:=by simpa using c
    generalize b8 d=v at *
    subst ei
    simp[BZ,w,c2]
  refine⟨s',fun z=>?_,fun z=>?_⟩
  ·rw[List.all_cons,Bool.and_eq_true] at z
   rw[gx]
   simp only[wu,bC,List.set,b1 z.1,qH,e1 z.2]
  ·rw[gx]
   simp only[wu,bC,List.set]
   cases c:(isI d&&decide (1<=b8 d)) with
   | false=>rw[b2 c];simp
   | true=>
    rw[List.all_cons,c,Bool.true_and] at z
    simp only[b1 c,bC,qH,e2 z]
theorem uU {d:D} {h:Hh} (t:Th d):cO [d] h=.ok (.bl (gzB d)) h:=by
 rw[EA]
 by_cases nt:∀ds,d≠.tup ds
 ·have e1:=oW (h:=h) t.it nt
  have e2:gzB d=false:=by cases d<;>first | rfl | exact absurd rfl (nt _)
  rw[e2]
  simp[bf,e1]
 ·obtain⟨ds,rfl⟩:∃ds,d=.tup ds:=Classical.byContradiction fun z=>nt fun ds e=>z ⟨ds,e⟩
  obtain⟨k,kl⟩:=t.its ds rfl
  by_cases em:ds=[]
  ·subst em;simp[bf,gzB]
  ·have c0:ds.length≠0:=fun z=>em (List.eq_nil_of_length_eq_zero z)
   have c4:ds.length<=1000000:=by omega
   obtain⟨s',q1,q2⟩:=vf (es:=ds) (h:=h) ds none k
   have c5:ds.isEmpty=false:=by cases ds with
    | nil=>exact absurd rfl em
    | cons _ _=>rfl
   show _=R.ok (D.bl (!ds.isEmpty&&ds.all (fun d=>isI d&&decide (1<=b8 d))&&decide ((ds.map b8).sum<=12))) h
   rw[c5]
   cases c:ds.all (fun d=>isI d&&decide (1<=b8 d)) with
   | false=>simp[bf,c0,em,c4,q2 c]
   | true=>
    have ai:ds.all isI=true:=List.all_eq_true.mpr fun d hd=>by
     have:=List.all_eq_true.mp c d hd
     rw[Bool.and_eq_true] at this;exact this.1
    have e:=kJ ai
    have q:=q1 c
    have su:d_ [.tup ds] h=.ok (.int (ds.map b8).sum) h:=by
     have:=qo (ns:=ds.map b8) (h:=h)
     rw[<- e] at this;exact this
    simp[bf,c0,em,c4,q,su]
noncomputable abbrev XR:Xc:=⟨"NoRow", []⟩
theorem zy {d:D} {h:Hh} (wf:Wf h) (t:Th d) (c:gzB d=false):aL [.int 1,.int 0,d] h=.ok TRw h:=by
 have s:dS [d] h=.err XR h:=by simp[dS,bf,up,uU t,c]
 exact rV (x:=XR) wf (by simp[TB,up,s]) (by decide) G9
noncomputable def ndF:Int × List Int->Int->Int × List Int:=fun s z=>(s.1+z,s.2++[s.1+z - 1])
noncomputable def ndL (zs:List Int):Int × List Int:=zs.foldl ndF (0,[])
theorem ym:∀(zs:List Int) (n:Int) (L:List Int),zs.foldl ndF (n,L)=(n+zs.sum,L++(List.range zs.length).map fun i=>n+(zs.take (i+1)).sum - 1)
 | [],n,L=>by simp
 | z::r,n,L=>by
  rw[List.foldl_cons,show ndF (n,L) z=(n+z,L++[n+z - 1]) from rfl,ym r (n+z) (L++[n+z - 1]),List.length_cons,List.range_succ_eq_map,List.sum_cons]
  refine Prod.ext (by show n+z+r.sum=n+(z+r.sum);omega) ?_
  simp[Int.add_assoc]
noncomputable def ndE (zs:List Int):List Int:=(List.range (zs.length - 1)).map fun i=>(zs.take (i+1)).sum - 1
theorem EN {zs:List Int} (h:zs≠[]):(ndL zs).1=zs.sum/\(ndL zs).2.dropLast=ndE zs:=by
 unfold ndL
 rw[ym]
 refine⟨by simp,?_⟩
 have l:0<zs.length:=List.length_pos_iff.mpr h
 simp only[List.nil_append,Int.zero_add]
 obtain⟨k,e⟩:∃k,zs.length=k+1:=⟨zs.length - 1,by omega⟩
 unfold ndE
 rw[e,List.range_succ,List.map_append]
 simp
noncomputable def BN:MS:=(aG (Ah 2 rG (ah 3)) (eY (eG cE (ah 1) (aa (aw dn (ah 2) (cC (.int 1))) ak))))
theorem za {X:Type} (xs:List X):bD xs none (some (-1))=xs.dropLast:=by
 unfold bD
 rw[HT.lY]
 have:HT.sIx xs.length xs.length (some (-1))=xs.length - 1:=by
  unfold HT.sIx
  simp
  omega
 rw[this,List.dropLast_eq_take]
 simp
theorem B8 {n:Nat} {ds:List D} {lo hi:Option Int} {h:Hh} (e:aI h n=some ds):tP az (.ref n) lo hi h=.ok (.frl (cutD ds lo hi)) h:=by delta tP;dsimp only;rw[e];rfl
theorem AE {zs:List Int} {h:Hh} (w:Wf h) (t:Th (.tup (zs.map D.int))) (hz:zs≠[]) (hl:zs.length<=60) (c:gzB (.tup (zs.map D.int))=true):dS [.tup (zs.map D.int)] h=.ok (.tup [.int zs.sum,.tup ((ndE zs).map D.int)]) h:=by
 obtain⟨e,q⟩:=qQ (tg:=gN 3) (body:=BN) (fun(s:(Int × List Int) × Option D)=>[some (.tup (zs.map D.int)),some (.ref h.length),some (.int s.1.1),s.2]) (fun s=>h++[.lst (s.1.2.map D.int)]) D.int (fun s z=>(ndF s.1 z,some (.int z))) (fun r s=>s.1.2.length+r.length<=60/\r.foldl ndF s.1=ndL zs) (fun s x r ⟨i1,i2⟩=>⟨⟨by
   rw[List.length_cons] at i1
   show(s.1.2++[s.1.1+x - 1]).length+r.length<=60
   rw[List.length_append,List.length_singleton];omega,i2⟩,.inl (by
   obtain⟨⟨n,L⟩,y⟩:=s
   dsimp only at i1 ⊢
   rw[List.length_cons] at i1
   have z:(L.map D.int).length<1000000:=by rw[List.length_map];omega
   unfold ndF
   dsimp only
   rw[List.map_append]
   generalize L.map D.int=LD at *
   simp[BN,z])⟩) zs ((0,[]),none) ⟨by simp;exact hl,rfl⟩
 have fin:=q.2
 have ql:=q.1
 generalize zs.foldl (fun(s:(Int × List Int) × Option D) z=>(ndF s.1 z,some (D.int z))) ((0,[]),none)=s9 at *
 obtain⟨⟨n,L⟩,y⟩:=s9
 obtain⟨n1,n2⟩:=EN hz
 have fin:(n,L)=ndL zs:=fin
 rw[<- fin] at n1 n2
 dsimp only at e ql n1 n2
 subst n1
 have m1:cutD (L.map D.int) none (some (-1))=(ndE zs).map D.int:=by rw[cK,za,n2]
 have ex:dj h (.tup [.int zs.sum,.tup ((ndE zs).map D.int)]) (h++[.lst (L.map D.int)])=.ok (.tup [.int zs.sum,.tup ((ndE zs).map D.int)]) h:=gk w (by simp)
 have z1:(zs.map D.int).length<=1000000:=by rw[List.length_map];omega
 have z2:((ndE zs).map D.int).length<=1000000:=by unfold ndE;simp;omega
 have zg:=uU (h:=h) t
 rw[c] at zg
 have sb:dS=fun ds h=>((cA 4 (aG (cM (up (bL (aE df (ag cO (aa (ah 0) ak))))) (kg "NoRow") br) (aG (up (bh 1 (ag (bK qx) ak))) (aG (up (bh 2 (cC (.int 0)))) (aG (up (fC (di (ah 0)) (gN 3) BN)) (up (bg (ag bB (aa (ah 2) (aa (ag cq (aa (bU az (ah 1) bA (cH (cUn kh (cC (.int 1))))) ak)) ak)))))))))) ds h).bind (dj h):=rfl
 rw[sb]
 simp only[List.map_nil] at e
 generalize zs.map D.int=Z at *
 generalize (ndE zs).map D.int=N at *
 generalize zs.sum=S at *
 generalize L.map D.int=LD at *
 have ct:=B8 (n:=h.length) (lo:=none) (hi:=some (-1)) (h:=h++[.lst LD]) fZ
 rw[m1] at ct
 simp[bf,up,zg,z1,z2,e,ct,ex]
theorem vp {zs:List Int} {h:Hh} (w:Wf h) (t:Th (.tup (zs.map D.int))) (hz:zs≠[]) (hl:zs.length<=60) (c:gzB (.tup (zs.map D.int))=true):aL [.int 1,.int 0,.tup (zs.map D.int)] h=.ok (.tup [.int zs.sum,.tup ((ndE zs).map D.int)]) h:=
 uP (by simp[TB,up,AE w t hz hl c])
noncomputable def CW:MT:=(oz (aE asB (aw dLt (ag d_ (aa (ah 1) ak)) (cC (.int 12)))) (ir (aE asB (aw dEq (ah 1) (ag (bK az) ak))) (aE asB (aw dGt (ag ay (aa (ah 0) (aa (cC (.int 6)) ak))) (cC (.int 0))))))
noncomputable def BW:MS:=(eY (eG cE (ah 1) (aa (aw (bE az) (cC (.int 1)) (ag ay (aa (ah 0) (aa (ag nM (aa (cC (.int 4)) (aa (aw dn (cC (.int 12)) (ag d_ (aa (ah 1) ak))) ak))) ak)))) ak)))
structure Szs (zs:List Int):Prop where
 one:∀x∈zs,1<=x
 sum:zs.sum<=12
theorem Szs.len:∀{zs:List Int},(∀x∈zs,1<=x)->(zs.length:Int)<=zs.sum
 | [],_=>by simp
 | x::r,h=>by
  have:=Szs.len (zs:=r) fun y hy=>h y (List.mem_cons_of_mem _ hy)
  have:=h x List.mem_cons_self
  rw[List.sum_cons,List.length_cons];omega
theorem AR {n:Nat} {ds:List D} {h:Hh} (e:aI h n=some ds):dEq (.ref n) (.frl []) h=.ok (.bl ds.isEmpty) h:=by
 have:eqD eqN h (.ref n) (.frl [])=some ds.isEmpty:=by
  rw[show eqN=11+1 from rfl,eqD]
  simp only[vw,e]
  cases ds<;>rfl
 simp only[dEq,this]
noncomputable abbrev EW (H:Hh):En:=[some (.ref H.length),some (.ref (H.length+1)),none,none,none,none,none]
noncomputable abbrev GW (H:Hh) (p:Pen) (zs:List Int):Hh:=H++[.lst (c_ p),.lst (zs.map D.int)]
theorem cw_ok {H:Hh} {p:Pen} {zs:List Int}:∃b p',CW (EW H) (GW H p zs)=.ok b (GW H p' zs)/\(b=true->zs.sum<12)/\(b=false->zs=[]->12<=zs.sum):=by
 have su:=yj (n:=H.length+1) (ns:=zs) (h:=GW H p zs) fJ
 have el:=AR (n:=H.length+1) (ds:=zs.map D.int) (h:=GW H p zs) fJ
 by_cases c:zs.sum<12
 ·cases zs with
  | nil=>exact⟨true,p,by
    simp only[List.map_nil,List.isEmpty_nil] at el
    simp[CW,su,el],fun _=>c,fun z=>nomatch z⟩
  | cons x r=>
   have dr:=eU (p:=p) (m:=6) (h:=H) (t:=[.lst ((x::r).map D.int)]) (by decide)
   rw[show((x::r).map D.int).isEmpty=false from rfl] at el
   generalize (x::r).sum=S at *
   generalize hX:(x::r).map D.int=XS at *
   refine⟨decide (fv p 6 > 0),eV p 6,?_,fun _=>c,fun _ z=>nomatch z⟩
   simp only[GW,hX] at su el ⊢
   simp[CW,su,c,el,dr]
 ·exact⟨false,p,by simp[CW,su,c],fun z=>(nomatch z),fun _ _=>by omega⟩
theorem Ez {H:Hh} {p:Pen} {zs:List Int} (hs:zs.sum<12) (hl:zs.length<=12) (h0:0<=zs.sum):∃z p',BW (EW H) (GW H p zs)=.ok (.nx (EW H)) (GW H p' (zs++[z]))/\1<=z/\z<=12 - zs.sum:=by
 have su:=yj (n:=H.length+1) (ns:=zs) (h:=GW H p zs) fJ
 have mn:min 4 (12 - zs.sum)<=12 - zs.sum/\0<min 4 (12 - zs.sum)/\min 4 (12 - zs.sum)<=4:=by omega
 have dr:=eU (p:=p) (m:=min 4 (12 - zs.sum)) (h:=H) (t:=[.lst (zs.map D.int)]) ⟨mn.2.1,by omega⟩
 obtain⟨k,ek,hk⟩:=nR p (min 4 (12 - zs.sum)) mn.2.1
 rw[ek] at dr
 refine⟨1+(k:Int),eV p (min 4 (12 - zs.sum)),?_,by omega,by omega⟩
 have z:(zs.map D.int).length<1000000:=by rw[List.length_map];omega
 have ap:∀(v:D) (q:Pen),cE (.ref (H.length+1)) [v] (H++[.lst (c_ q),.lst (zs.map D.int)])=.ok .non (H++[.lst (c_ q),.lst (zs.map D.int++[v])]):=fun v q=>by rw[wb,if_pos z]
 simp only[GW,EW] at su ⊢
 rw[List.map_append]
 generalize zs.map D.int=Z at *
 generalize zs.sum=S at *
 generalize hm:min 4 (12 - S)=M at *
 have m2:∀G:Hh,nM [.int 4,.int (12 - S)] G=.ok (.int M) G:=fun G=>by rw[<- hm];simp
 simp[BW,su,m2,dr,ap]
theorem BF {H:Hh}:∀(k:Nat) (p:Pen) (zs:List Int),(12 - zs.sum).toNat<=k->Szs zs->∃zs' p',iI CW BW (k+1) (EW H) (GW H p zs)=.ok (.nx (EW H)) (GW H p' zs')/\Szs zs'/\zs'≠[]
 | k,p,zs,hk,s=>by
  have l:=Szs.len s.one
  have h2:=s.sum
  obtain⟨b,p1,e,c1,c2⟩:=cw_ok (H:=H) (p:=p) (zs:=zs)
  rw[iI,e,bC]
  cases b with
  | false=>exact⟨zs,p1,by rw[if_neg Bool.false_ne_true],s,fun z=>by have:=c2 rfl z;subst z;simp at this⟩
  | true=>
   rw[if_pos rfl]
   have hs:=c1 rfl
   obtain⟨z,p2,e2,z1,z2⟩:=Ez (H:=H) (p:=p1) (zs:=zs) hs (by omega) (by omega)
   rw[e2,bC]
   have s':Szs (zs++[z]):=⟨fun x hx=>by
    rcases List.mem_append.mp hx with h | h
    ·exact s.one x h
    ·rw[List.mem_singleton] at h;subst h;exact z1,by rw[List.sum_append];simp;omega⟩
   have sm:(zs++[z]).sum=zs.sum+z:=by rw[List.sum_append];simp
   match k,hk with
   | 0,hk=>omega
   | k+1,hk=>exact BF k p2 (zs++[z]) (by omega) s'
noncomputable def R1:MS:=(bh 1 (ag (bK qx) ak))
noncomputable def R2:MS:=(o9 64 (oz (aE asB (aw dLt (ag d_ (aa (ah 1) ak)) (cC (.int 12)))) (ir (aE asB (aw dEq (ah 1) (ag (bK az) ak))) (aE asB (aw dGt (ag ay (aa (ah 0) (aa (cC (.int 6)) ak))) (cC (.int 0)))))) (eY (eG cE (ah 1) (aa (aw (bE az) (cC (.int 1)) (ag ay (aa (ah 0) (aa (ag nM (aa (cC (.int 4)) (aa (aw dn (cC (.int 12)) (ag d_ (aa (ah 1) ak))) ak))) ak)))) ak))))
noncomputable def R3:MS:=(bh 1 (ag cq (aa (ah 1) ak)))
noncomputable def R4:MS:=(bh 2 (dh az (kI tQ (aa (cC (.int 1)) (aa (ag jT (aa (ah 1) ak)) ak))) [1] tt1 (aw dn (ag d_ (aa (bU az (ah 1) bA (cH (ah 0))) ak)) (cC (.int 1)))))
noncomputable def R5:MS:=(cM (aE asB (aw dNe (ag cb (aa (ag aL (aa (cC (.int 1)) (aa (cC (.int 0)) (aa (ah 1) ak)))) ak)) (ag cb (aa (ag bB (aa (ag d_ (aa (ah 1) ak)) (aa (ag cq (aa (ah 2) ak)) ak))) ak)))) (bg (cC (.bl false))) br)
noncomputable def R6:MS:=(wM 3 4 (aa (ag ay (aa (ah 0) (aa (ag jT (aa (ah 1) ak)) ak))) (aa (ag ay (aa (ah 0) (aa (cC (.int 10)) ak))) ak)))
noncomputable def R7:MS:=(bh 5 (aw dIx (ag (bK az) (aa (cC (.int 0)) (aa (cUn kh (cC (.int 1))) (aa (cC (.bl true)) (aa (cC .non) (aa (cC (.str "1")) (aa (ag (bK az) (aa (cC (.int 1)) ak)) (aa (cC .edic) (aa (ag bB (aa (cC (.int 1)) ak)) (aa (cC (.int 13)) (aa (aw tq (cC (.int 10)) (cC (.int 30))) ak))))))))))) (ah 4)))
noncomputable def R8:MS:=(bh 6 (ag (bK az) (aa (aw (bE az) (aw (bE az) (bU az (ah 1) bA (cH (ah 3))) (ag bB (aa (ah 5) ak))) (bU az (ah 1) (cH (aw (bE az) (ah 3) (cC (.int 1)))) bA)) (aa (ag (dList az) (aa (ah 1) ak)) (aa (aw (bE az) (ah 1) (ag bB (aa (aw dn (cC (.int 13)) (ag d_ (aa (ah 1) ak))) ak))) (aa (ag bB ak) (aa (cC .non) (aa (cC (.int 12)) (aa (aw (oB az) (ag bB (aa (cC (.int 1)) ak)) (cC (.int 13))) ak)))))))))
noncomputable def R9:MS:=(bg (aw dEq (dh az (di (ah 6)) [] tt1 (ag aL (aa (cC (.int 1)) (aa (cC (.int 0)) (aa (ah 0) ak))))) (aw (nr az) (ag (bK az) (aa (ag bB (aa (cC (.str "row")) ak)) ak)) (cC (.int 7)))))
theorem Ex:a9=fun ds h=>((cA 7 (aG R1 (aG R2 (aG R3 (aG R4 (aG R5 (aG R6 (aG R7 (aG R8 (R9)))))))))) ds h).bind (dj h):=rfl
theorem Fi:R2=o9 64 CW BW:=rfl
theorem xD {zs:List Int} (s:Szs zs):Th (.tup (zs.map D.int)):=by
 have l:=Szs.len s.one
 have h2:=s.sum
 refine cD (fun x hx=>?_) (by omega)
 have:∀{zs:List Int},(∀x∈zs,1<=x)->∀x∈zs,x<=zs.sum:=by
  intro zs
  induction zs with
  | nil=>intro _ x h;cases h
  | cons y r ih=>
   intro h x hx
   have a:=Szs.len (zs:=r) fun z hz=>h z (List.mem_cons_of_mem _ hz)
   rw[List.sum_cons]
   rcases List.mem_cons.mp hx with rfl | hx
   ·omega
   ·have:=ih (fun z hz=>h z (List.mem_cons_of_mem _ hz)) x hx
    have:=h y List.mem_cons_self
    omega
 have a:=this s.one x hx
 have b:=s.one x hx
 exact dO (by omega) (by omega)
theorem i4 (zs:List Int):(zs.map D.int).map b8=zs:=by
 rw[List.map_map];simp[Function.comp_def,b8]
theorem Dv {zs:List Int} (s:Szs zs) (h:zs≠[]):gzB (.tup (zs.map D.int))=true:=by
 show(!(zs.map D.int).isEmpty&&(zs.map D.int).all (fun d=>isI d&&decide (1<=b8 d))&&decide (((zs.map D.int).map b8).sum<=12))=true
 rw[i4,Bool.and_eq_true,Bool.and_eq_true]
 refine⟨⟨?_,?_⟩,decide_eq_true s.sum⟩
 ·cases zs with
  | nil=>exact absurd rfl h
  | cons _ _=>rfl
 ·rw[List.all_eq_true]
  intro d hd
  obtain⟨x,hx,rfl⟩:=List.mem_map.mp hd
  simp[isI,b8,s.one x hx]
noncomputable def zds:List D:=[.int 0,.int (-1),.bl true,.non,.str "1", .frl [.int 1],.edic,.tup [.int 1],.int 13,.int (10 ^ 30)]
theorem yC:iL (.str "1"):=⟨rfl,.inl fun h=>⟨.str "1", by kernel_rfl,by decide +kernel⟩⟩
theorem yr:iL (.tup [.int 1]):=⟨rfl,.inl fun h=>⟨.tuple [.int 1],by kernel_rfl,by decide +kernel⟩⟩
theorem xE:iL (.frl [.int 1]):=⟨rfl,.inl fun h=>⟨.list [.int 1],by kernel_rfl,by decide +kernel⟩⟩
theorem zM:∀d∈zds,iL d/\(isI d=true->1<=b8 d->13<=b8 d):=by
 intro d hd
 simp only[zds,List.mem_cons,List.not_mem_nil,or_false] at hd
 rcases hd with rfl | rfl | rfl | rfl | rfl | rfl | rfl | rfl | rfl | rfl
 ·exact⟨eA (by decide +kernel),fun _ h=>absurd h (by decide)⟩
 ·exact⟨eA (by decide +kernel),fun _ h=>absurd h (by decide)⟩
 ·exact⟨qg,fun z=>nomatch z⟩
 ·exact⟨u9,fun z=>nomatch z⟩
 ·exact⟨yC,fun z=>nomatch z⟩
 ·exact⟨xE,fun z=>nomatch z⟩
 ·exact⟨rA,fun z=>nomatch z⟩
 ·exact⟨yr,fun z=>nomatch z⟩
 ·exact⟨eA (by decide +kernel),fun _ _=>by decide⟩
 ·exact⟨eA (by decide +kernel),fun _ _=>by decide⟩
theorem jR {zs:List Int} (h:∀x∈zs,1<=x):0<=zs.sum:=by have:=Szs.len h;omega
theorem AW {xs ys:List Int} {od:D} (hx:∀x∈xs,1<=x) (hy:∀x∈ys,1<=x) (ho:isI od=true->1<=b8 od->13<=b8 od):gzB (.tup (xs.map D.int++od::ys.map D.int))=false:=by
 cases c:gzB (.tup (xs.map D.int++od::ys.map D.int)) with
 | false=>rfl
 | true=>
  exfalso
  have c:(!(xs.map D.int++od::ys.map D.int).isEmpty&&(xs.map D.int++od::ys.map D.int).all (fun d=>isI d&&decide (1<=b8 d))&&decide (((xs.map D.int++od::ys.map D.int).map b8).sum<=12))=true:=c
  rw[Bool.and_eq_true,Bool.and_eq_true,List.all_eq_true] at c
  have a:=c.1.2 od (by simp)
  rw[Bool.and_eq_true] at a
  have b:=ho a.1 (of_decide_eq_true a.2)
  have s:=of_decide_eq_true c.2
  rw[List.map_append,List.map_cons,i4,i4,List.sum_append,List.sum_cons] at s
  have:=jR hx
  have:=jR hy
  omega
theorem vg {zs:List Int} (s:Szs zs) (lo hi:Option Int):∀x∈bD zs lo hi,1<=x:=fun x hx=>s.one x (List.mem_of_mem_drop (List.mem_of_mem_take hx))
theorem A4 {zs:List Int} (s:Szs zs):∀x∈zs,sml x=true:=by
 have t:=(xD s)
 intro x hx
 have a:=s.one x hx
 have:∀{zs:List Int},(∀x∈zs,1<=x)->∀x∈zs,x<=zs.sum:=by
  intro zs
  induction zs with
  | nil=>intro _ x h;cases h
  | cons y r ih=>
   intro h x hx
   have a:=Szs.len (zs:=r) fun z hz=>h z (List.mem_cons_of_mem _ hz)
   rw[List.sum_cons]
   rcases List.mem_cons.mp hx with rfl | hx
   ·omega
   ·have:=ih (fun z hz=>h z (List.mem_cons_of_mem _ hz)) x hx
    have:=h y List.mem_cons_self
    omega
 have b:=this s.one x hx
 have c:=s.sum
 exact dO (by omega) (by omega)
theorem ne7 {h:Hh}:dEq (.frl [TRw,TRw,TRw,TRw,TRw,TRw,TRw]) (.frl [TRw,TRw,TRw,TRw,TRw,TRw,TRw]) h=.ok (.bl true) h:=by kernel_rfl
theorem Dp {a:Int} {xs:List Int} {h:Hh} (ha:sml a=true) (hs:∀x∈xs,sml x=true) (hl:xs.length<=60):∃s,cb [.tup [.int a,.tup (xs.map D.int)]] h=.ok (.str s) h:=by
 have e1:toPy 12 h (.tup [.int a,.tup (xs.map D.int)])=some (.tuple [.int a,.tuple (xs.map PyData.int)]):=by
  show(cF (toPy 11 h) [.int a,.tup (xs.map D.int)]).map PyData.tuple=_
  have x1:toPy 11 h (.int a)=some (.int a):=by show(if sml a=true then some (PyData.int a) else none)=_;rw[if_pos ha]
  have x2:toPy 11 h (.tup (xs.map D.int))=some (.tuple (xs.map PyData.int)):=by
   show(cF (toPy (9+1) h) (xs.map D.int)).map PyData.tuple=_
   rw[iD hs];rfl
  simp[cF,x1,x2]
 have e2:PyData.bulk (.tuple [.int a,.tuple (xs.map PyData.int)])<=8000:=by
  simp only[PyData.bulk,PyData.bulkAll,j5];omega
 exact⟨_,gu (show hZ (.tup [.int a,.tup (xs.map D.int)]) h=.ok (.str (PyData.tuple [.int a,.tuple (xs.map PyData.int)]).shown) h from by delta hZ;rw[e1];exact if_pos e2)⟩
theorem Dh {zs:List Int} (s:Szs zs):∀x∈ndE zs,sml x=true:=by
 intro x hx
 obtain⟨i,hi,rfl⟩:=List.mem_map.mp hx
 have a:=List.take_append_drop (i+1) zs
 have b:(zs.take (i+1)).sum+(zs.drop (i+1)).sum=zs.sum:=by rw[<- List.sum_append,a]
 have c:=jR fun x hx=>s.one x (List.mem_of_mem_take (i:=i+1) hx)
 have d:=jR fun x hx=>s.one x (List.mem_of_mem_drop (i:=i+1) hx)
 have e:=s.sum
 exact g6 (by omega) (by omega)
section
variable {H:Hh} {p:Pen} {zs:List Int}
noncomputable abbrev EZ (H:Hh) (zs:List Int) (y2 y3 y4 y5 y6:Option D):En:=[some (.ref H.length),some (.tup (zs.map D.int)),y2,y3,y4,y5,y6]
theorem D_:R1 [some (.ref H.length),none,none,none,none,none,none] (H++[.lst (c_ p)])=.ok (.nx (EW H)) (GW H p []):=by
 simp[R1]
theorem E3:∃zs p',R2 (EW H) (GW H p [])=.ok (.nx (EW H)) (GW H p' zs)/\Szs zs/\zs≠[]:=by
 obtain⟨zs,p',e,s,n⟩:=BF (H:=H) 63 p [] (by decide) ⟨by simp,by simp⟩
 exact⟨zs,p',by rw[Fi];exact e,s,n⟩
theorem Ed (s:Szs zs):R3 (EW H) (GW H p zs)=.ok (.nx (EZ H zs none none none none none)) (GW H p zs):=by
 have l:=Szs.len s.one
 have h2:=s.sum
 have z:(zs.map D.int).length<=1000000:=by rw[List.length_map];omega
 simp only[EZ,GW,EW]
 generalize zs.map D.int=Z at *
 simp[R3,z]
theorem EX (s:Szs zs) (hz:zs≠[]):R4 (EZ H zs none none none none none) (GW H p zs)=.ok (.nx (EZ H zs (some (.frl ((ndE zs).map D.int))) none none none none)) (GW H p zs):=by
 have l:=Szs.len s.one
 have h2:=s.sum
 have l0:0<zs.length:=List.length_pos_iff.mpr hz
 have c:∀G:Hh,cQ tt1 (aw dn (ag d_ (aa (bU az (ah 1) bA (cH (ah 0))) ak)) (cC (.int 1))) (fun d=>[some d,some (.tup (zs.map D.int))]) (b0 1 (zs.length - 1)) G=.ok ((ndE zs).map D.int) G:=fun G=>by
  have:=lh (h:=G) (te:=aw dn (ag d_ (aa (bU az (ah 1) bA (cH (ah 0))) ak)) (cC (.int 1))) (ee:=fun d=>[some d,some (.tup (zs.map D.int))]) (fun(i:Nat)=>D.int (1+i)) (fun i=>D.int ((zs.take (i+1)).sum - 1)) (List.range (zs.length - 1)) (fun i _=>by
   have ct:cutD (zs.map D.int) none (some (1+(i:Int)))=(zs.take (i+1)).map D.int:=by
    rw[cK,show(1:Int)+(i:Int)=((i+1:Nat):Int) by omega,Al]
   have su:=qo (ns:=zs.take (i+1)) (h:=G)
   generalize (zs.take (i+1)).map D.int=T at *
   simp[ct,su])
  have e:((List.range (zs.length - 1)).map fun i=>D.int ((zs.take (i+1)).sum - 1))=(ndE zs).map D.int:=by unfold ndE;rw[List.map_map];rfl
  rw[e] at this
  exact this
 have z1:(zs.map D.int).length<=1000000:=by rw[List.length_map];omega
 have z2:zs.length<=1000000:=by omega
 have z3:((zs.length:Int) - 1).toNat=zs.length - 1:=by omega
 have z4:zs.length - 1<=1000000:=by omega
 have z5:((zs.map D.int).length:Int)=zs.length:=by simp
 have c:=c (GW H p zs)
 simp only[EZ,GW] at c ⊢
 generalize (ndE zs).map D.int=N at *
 generalize zs.map D.int=Z at *
 simp[R4,z5,z2,z3,z4,c]
theorem Ey (w:Wf H) (s:Szs zs) (hz:zs≠[]) {y3 y4 y5 y6:Option D}:R5 (EZ H zs (some (.frl ((ndE zs).map D.int))) y3 y4 y5 y6) (GW H p zs)=.ok (.nx (EZ H zs (some (.frl ((ndE zs).map D.int))) y3 y4 y5 y6)) (GW H p zs):=by
 have l:=Szs.len s.one
 have h2:=s.sum
 have w2:Wf (GW H p zs):=by
  have a:=lQ w p
  have b:=a.app (o:=.lst (zs.map D.int)) (by
   show dk _ _=true
   exact jH fun d hd=>by obtain⟨x,_,rfl⟩:=List.mem_map.mp hd;rfl)
  simpa using b
 have tl:=vp (h:=GW H p zs) w2 (xD s) hz (by omega) (Dv s hz)
 obtain⟨t,rp⟩:=Dp (a:=zs.sum) (xs:=ndE zs) (h:=GW H p zs) (dO (jR s.one) (by omega)) (Dh s) (by unfold ndE;simp;omega)
 have su:=qo (ns:=zs) (h:=GW H p zs)
 have z2:((ndE zs).map D.int).length<=1000000:=by unfold ndE;simp;omega
 simp only[EZ,GW] at *
 generalize (ndE zs).map D.int=N at *
 generalize zs.map D.int=Z at *
 generalize zs.sum=S at *
 simp[R5,tl,su,z2,rp]
theorem D0 (s:Szs zs) (hz:zs≠[]) {y2 y5 y6:Option D}:∃(a b:Nat) (p':Pen),R6 (EZ H zs y2 none none y5 y6) (GW H p zs)=.ok (.nx (EZ H zs y2 (some (.int a)) (some (.int b)) y5 y6)) (GW H p' zs)/\a<zs.length/\b<10:=by
 have l0:0<zs.length:=List.length_pos_iff.mpr hz
 have l:=Szs.len s.one
 have h2:=s.sum
 obtain⟨a,ea,ha⟩:=nR p (zs.length:Int) (by omega)
 obtain⟨b,eb,hb⟩:=nR (eV p (zs.length:Int)) 10 (by decide)
 have d1:=eU (p:=p) (m:=(zs.length:Int)) (h:=H) (t:=[.lst (zs.map D.int)]) ⟨by omega,by omega⟩
 have d2:=eU (p:=eV p (zs.length:Int)) (m:=10) (h:=H) (t:=[.lst (zs.map D.int)]) (by decide)
 rw[ea] at d1
 rw[eb] at d2
 refine⟨a,b,eV (eV p (zs.length:Int)) 10,?_,by omega,by omega⟩
 have z5:((zs.map D.int).length:Int)=zs.length:=by simp
 simp only[EZ,GW] at *
 generalize zs.map D.int=Z at *
 generalize (zs.length:Int)=L at *
 simp[R6,z5,d1,d2]
theorem EO {b:Nat} (hb:b<10) {y2 y3 y6:Option D} {G:Hh}:∃od,R7 (EZ H zs y2 y3 (some (.int b)) none y6) G=.ok (.nx (EZ H zs y2 y3 (some (.int b)) (some od) y6)) G/\iL od/\(isI od=true->1<=b8 od->13<=b8 od):=by
 have hu:b<zds.length:=hb
 obtain⟨o1,o2⟩:=zM _ (List.getElem_mem hu)
 have ix:ixK [.int 0,.int (-1),.bl true,.non,.str "1", .frl [.int 1],.edic,.tup [.int 1],.int 13,.int (10 ^ 30)] (b:Int) G=.ok zds[b] G:=i7 (ds:=zds) rfl (List.getElem?_eq_getElem hu)
 generalize zds[b]=od at *
 refine⟨od,?_,o1,o2⟩
 have s10:sml 10=true:=by decide +kernel
 generalize hX:(10:Int) ^ 30=X30 at ix
 generalize zs.map D.int=Z at *
 simp[R7,s10,hX,ix]
noncomputable def sev (zs:List Int) (a:Nat) (od:D):List D:=[.tup ((bD zs none (some (a:Int))).map D.int++od::(bD zs (some ((a:Int)+1)) none).map D.int),.frl (zs.map D.int),.tup ((zs++[13 - zs.sum]).map D.int),.tup [],.non,.int 12,.tup (List.replicate 13 (D.int 1))]
theorem DV (s:Szs zs) {a:Nat} {od:D} {y2 y4:Option D} {G:Hh}:R8 (EZ H zs y2 (some (.int a)) y4 (some od) none) G=.ok (.nx (EZ H zs y2 (some (.int a)) y4 (some od) (some (.frl (sev zs a od))))) G:=by
 have l:=Szs.len s.one
 have h2:=s.sum
 have l1:=dJ zs none (some (a:Int))
 have l3:=dJ zs (some ((a:Int)+1)) none
 have k1:cutD (zs.map D.int) none (some (a:Int))=(bD zs none (some (a:Int))).map D.int:=cK _ _ _ _
 have k2:cutD (zs.map D.int) (some ((a:Int)+1)) none=(bD zs (some ((a:Int)+1)) none).map D.int:=cK _ _ _ _
 have m1:((bD zs none (some (a:Int))).map D.int).length<=12:=by rw[List.length_map];omega
 have m2:((bD zs (some ((a:Int)+1)) none).map D.int).length<=12:=by rw[List.length_map];omega
 have su:=qo (ns:=zs) (h:=G)
 have m3:(zs.map D.int).length<=12:=by rw[List.length_map];omega
 have mu:oB az (.tup [.int 1]) (.int 13) G=.ok (.tup (List.replicate 13 (D.int 1))) G:=rfl
 unfold sev
 rw[List.map_append]
 simp only[EZ]
 generalize (bD zs none (some (a:Int))).map D.int=M1 at *
 generalize (bD zs (some ((a:Int)+1)) none).map D.int=M2 at *
 generalize zs.map D.int=Z at *
 generalize zs.sum=S at *
 have z1:M1.length+1<=1000000:=by omega
 have z2:M1.length+1+M2.length<=1000000:=by omega
 have z3:Z.length<=1000000:=by omega
 have z4:Z.length+1<=1000000:=by omega
 simp[R8,k1,k2,z1,z2,z3,z4,su,mu]
theorem AV (s:Szs zs) {a:Nat} {od:D} (o1:iL od) (o2:isI od=true->1<=b8 od->13<=b8 od):∀d∈sev zs a od,Th d/\gzB d=false:=by
 have l:=Szs.len s.one
 have h2:=s.sum
 have sm:=A4 s
 have l1:=dJ zs none (some (a:Int))
 have l3:=dJ zs (some ((a:Int)+1)) none
 intro d hd
 simp only[sev,List.mem_cons,List.not_mem_nil,or_false] at hd
 rcases hd with rfl | rfl | rfl | rfl | rfl | rfl | rfl
 ·exact⟨jz o1 (fun x hx=>sm x (List.mem_of_mem_drop (List.mem_of_mem_take hx))) (fun x hx=>sm x (List.mem_of_mem_drop (List.mem_of_mem_take hx))) (by omega),AW (vg s _ _) (vg s _ _) o2⟩
 ·exact⟨sL sm (by omega),rfl⟩
 ·refine⟨cD (fun x hx=>?_) (by simp;omega),?_⟩
  ·rcases List.mem_append.mp hx with h | h
   ·exact sm x h
   ·rw[List.mem_singleton] at h
    have:=jR s.one
    exact dO (by omega) (by omega)
  ·have:gzB (.tup ((zs++[13 - zs.sum]).map D.int))=(!((zs++[13 - zs.sum]).map D.int).isEmpty&&((zs++[13 - zs.sum]).map D.int).all (fun d=>isI d&&decide (1<=b8 d))&&decide ((((zs++[13 - zs.sum]).map D.int).map b8).sum<=12)):=rfl
   rw[this,i4,List.sum_append]
   have:decide (zs.sum + [13 - zs.sum].sum<=12)=false:=decide_eq_false (by simp;omega)
   rw[this,Bool.and_false]
 ·exact⟨cD (xs:=[]) (by simp) (by simp),rfl⟩
 ·exact⟨⟨rfl,fun ds e=>(nomatch e),fun h=>⟨_,rfl⟩⟩,rfl⟩
 ·exact⟨⟨rfl,fun ds e=>(nomatch e),fun h=>⟨_,rfl⟩⟩,rfl⟩
 ·exact⟨cD (xs:=List.replicate 13 1) (by intro x hx;rw[List.eq_of_mem_replicate hx];decide +kernel) (by simp),by decide +kernel⟩
theorem Fx {G:Hh} (wf:Wf G) {L:List D} (hl:L.length=7) (h:∀d∈L,Th d/\gzB d=false) {y2 y3 y4 y5:Option D}:R9 (EZ H zs y2 y3 y4 y5 (some (.frl L))) G=.ok (.rt (.bl true)) G:=by
 have c:cQ tt1 (ag aL (aa (cC (.int 1)) (aa (cC (.int 0)) (aa (ah 0) ak)))) (fun d=>[some d]) L G=.ok [TRw,TRw,TRw,TRw,TRw,TRw,TRw] G:=by
  have:=lh (h:=G) (te:=ag aL (aa (cC (.int 1)) (aa (cC (.int 0)) (aa (ah 0) ak)))) (ee:=fun d=>[some d]) (fun d:D=>d) (fun _=>TRw) L (fun d hd=>by
   obtain⟨a,b⟩:=h d hd
   have:=zy (h:=G) wf a b
   simp[this])
  rw[List.map_const',hl] at this
  simpa using this
 have mu:nr az (.frl [TRw]) (.int 7) G=.ok (.frl [TRw,TRw,TRw,TRw,TRw,TRw,TRw]) G:=rfl
 have z:L.length<=1000000:=by omega
 have n7:=ne7 (h:=G)
 generalize zs.map D.int=Z at *
 simp[R9,c,z,mu,n7]
theorem wt (w:Wf H):∃p',a9 [.ref H.length] (H++[.lst (c_ p)])=.ok (.bl true) (H++[.lst (c_ p')]):=by
 obtain⟨zs,p1,e2,s,hz⟩:=E3 (H:=H) (p:=p)
 obtain⟨a,b,p2,e6,ha,hb⟩:=D0 (H:=H) (p:=p1) s hz (y2:=some (.frl ((ndE zs).map D.int))) (y5:=none) (y6:=none)
 obtain⟨od,e7,o1,o2⟩:=EO (H:=H) (zs:=zs) hb (y2:=some (.frl ((ndE zs).map D.int))) (y3:=some (.int a)) (y6:=none) (G:=GW H p2 zs)
 have e1:=D_ (H:=H) (p:=p)
 have e3:=Ed (H:=H) (p:=p1) s
 have e4:=EX (H:=H) (p:=p1) s hz
 have e5:=Ey (H:=H) (p:=p1) w s hz (y3:=none) (y4:=none) (y5:=none) (y6:=none)
 have e8:=DV (H:=H) s (a:=a) (od:=od) (y2:=some (.frl ((ndE zs).map D.int))) (y4:=some (.int b)) (G:=GW H p2 zs)
 have w2:Wf (GW H p2 zs):=by
  have a:=lQ w p2
  have b:=a.app (o:=.lst (zs.map D.int)) (by
   show dk _ _=true
   exact jH fun d hd=>by obtain⟨x,_,rfl⟩:=List.mem_map.mp hd;rfl)
  simpa using b
 have e9:=Fx (H:=H) (zs:=zs) w2 (L:=sev zs a od) rfl (AV s o1 o2) (y2:=some (.frl ((ndE zs).map D.int))) (y3:=some (.int a)) (y4:=some (.int b)) (y5:=some od)
 have ex:dj (H++[.lst (c_ p)]) (.bl true) (GW H p2 zs)=.ok (.bl true) (H++[.lst (c_ p2)]):=by
  have:=gk (h:=H++[.lst (c_ p2)]) (t:=[.lst (zs.map D.int)]) (d:=.bl true) (lQ w p2) rfl
  rw[show dj (H++[.lst (c_ p)])=dj (H++[.lst (c_ p2)]) by unfold dj;simp]
  simpa using this
 refine⟨p2,?_⟩
 rw[Ex]
 simp only[EZ,EW] at *
 generalize GW H p2 zs=G2 at *
 generalize GW H p1 zs=G1 at *
 generalize GW H p []=G0 at *
 generalize (ndE zs).map D.int=N at *
 generalize zs.map D.int=Z at *
 generalize sev zs a od=SV at *
 simp[bf,e1,e2,e3,e4,e5,e6,e7,e8,e9,ex]
end
theorem pU {h:Hh} {p:Pen} {m:Int} (hm:0<m/\m<=10 ^ 20):∃(v:Nat) (p':Pen),(v:Int)<m/\ay [.ref h.length,.int m] (h++[.lst (c_ p)])=.ok (.int v) (h++[.lst (c_ p')]):=by
 obtain⟨v,ev,bv⟩:=nR p m hm.1
 have d:=eU (p:=p) (h:=h) (t:=[]) (m:=m) hm
 rw[ev] at d
 exact⟨v,_,bv,d⟩
theorem fG {X:Type} {xs:List X} {lo hi:Option Int} {x:X} (hx:x∈bD xs lo hi):x∈xs:=List.mem_of_mem_drop (List.mem_of_mem_take hx)
theorem A_ {d:D} (i:itm d=true) (nt:∀ds,d≠.tup ds) (r:RX d):Th d:=⟨i,fun ds e=>absurd e (nt ds),r⟩
theorem nK {X:Type} {tt:MT} {te:ME} {ee:D->En} (enc:X->D) (G:Pen->Hh) (st:∀x p,∃b p',tt (ee (enc x)) (G p)=.ok b (G p')/\te (ee (enc x)) (G p')=.ok (enc x) (G p')) :
  ∀(xs:List X) (p:Pen),∃(ys:List X) (p':Pen),cQ tt te ee (xs.map enc) (G p)=.ok (ys.map enc) (G p')/\ys.Sublist xs
 | [],p=>⟨[],p,rfl,.slnil⟩
 | x::xs,p=>by
  obtain⟨b,p1,e1,e2⟩:=st x p
  obtain⟨ys,p2,e3,s⟩:=nK enc G st xs p1
  rw[List.map_cons,cQ,e1,bC]
  cases b with
  | false=>exact⟨ys,p2,by rw[if_neg Bool.false_ne_true,e3],s.cons _⟩
  | true=>exact⟨x::ys,p2,by rw[if_pos rfl,e2,bC,e3,bC];rfl,s.cons₂ _⟩
theorem AM (m:Nat):Sub m ((List.range m).map fun(i:Nat)=>(i:Int)):=by
 refine⟨?_,fun x hx=>?_⟩
 ·rw[List.pairwise_map]
  exact List.pairwise_lt_range.imp fun h=>by omega
 ·obtain⟨i,hi,rfl⟩:=List.mem_map.mp hx
  have:=List.mem_range.mp hi
  omega
theorem Sub.sub {m:Nat} {S T:List Int} (s:Sub m S) (h:T.Sublist S):Sub m T:=⟨s.up.sublist h,fun x hx=>s.inn x (h.subset hx)⟩
theorem CG {n:Nat} {p:Pen} {h t:Hh} (h1:1<=n) (hn:n<=12):∃T p',Sub (n - 1) T/\cU [.ref h.length,.int n] (h++.lst (c_ p)::t)=.ok (.tup (T.map D.int)) (h++.lst (c_ p')::t):=by
 obtain⟨k,ek,hk⟩:=nR p 3 (by decide)
 obtain⟨a,b,ha,hb,ix⟩:∃a b:Int,0<a/\a<=10/\∀H:Hh,ixK [.frl [.int 2,.int 1],.frl [.int 4,.int 1],.frl [.int 4,.int 3]] (k:Int) H=.ok (.frl [.int a,.int b]) H:=by
  match k,hk with
  | 0,_=>exact⟨2,1,by decide,by decide,fun _=>rfl⟩
  | 1,_=>exact⟨4,1,by decide,by decide,fun _=>rfl⟩
  | 2,_=>exact⟨4,3,by decide,by decide,fun _=>rfl⟩
 have hab:0<a/\a<=10 ^ 20:=by omega
 obtain⟨ys,p',q,sub⟩:=nK (tt:=aE asB (aw dLt (ag ay (aa (ah 1) (aa (aw dIx (ah 2) (cC (.int 0))) ak))) (aw dIx (ah 2) (cC (.int 1))))) (te:=ah 0) (ee:=fun d=>[some d,some (.ref h.length),some (.frl [.int a,.int b])]) (fun(i:Nat)=>D.int i) (fun p=>h++.lst (c_ p)::t)
  (fun x p=>⟨decide (fv p a<b),eV p a,by
   have:=eU (p:=p) (h:=h) (t:=t) hab
   simp[this],by simp⟩) (List.range (n - 1)) (eV p 3)
 rw[<- j2] at q
 have z1:((n:Int) - 1).natAbs<=1000000:=by omega
 have z2:((n:Int) - 1).toNat=n - 1:=by omega
 have z3:n - 1<=1000000:=by omega
 refine⟨ys.map fun(i:Nat)=>(i:Int),p',(AM (n - 1)).sub (sub.map _),?_⟩
 have d3:=eU (p:=p) (h:=h) (t:=t) (m:=3) (by decide)
 rw[ek] at d3
 have mm:(ys.map fun(i:Nat)=>(i:Int)).map D.int=ys.map fun(i:Nat)=>D.int i:=by rw[List.map_map];rfl
 rw[mm]
 simp[cU,bf,d3,ix,z1,z2,z3,q]
theorem ix6 {l:List D} {w:Nat} (hw:w<l.length):∃x,x∈l/\∀H:Hh,ixK l (w:Int) H=.ok x H:=
 ⟨l[w],List.getElem_mem _,fun H=>i7 rfl (List.getElem?_eq_getElem hw)⟩
noncomputable def ods (n:Int):List D:=[.int (n - 1),.int (-1),.bl true,.bl false,.non,.str "0", .frl [.int 0],.edic,.tup [.int 0],.int (10 ^ 30),.int 0,.int n]
theorem zT {n:Int} (h1:1<=n) (h2:n<=20):∀d∈ods n,iL d:=by
 intro d hd
 simp only[ods,List.mem_cons,List.not_mem_nil,or_false] at hd
 rcases hd with rfl | rfl | rfl | rfl | rfl | rfl | rfl | rfl | rfl | rfl | rfl | rfl
 ·exact eA (dO (by omega) (by omega))
 ·exact eA (by decide +kernel)
 ·exact qg
 ·exact qg
 ·exact u9
 ·exact xb
 ·exact rj
 ·exact rA
 ·exact xI
 ·exact eA (by decide +kernel)
 ·exact eA (by decide +kernel)
 ·exact eA (dO (by omega) (by omega))
theorem Dz {n:Nat} {S:List Int} {p:Pen} {h:Hh} (h1:1<=n) (hn:n<=12) (s:Sub (n - 1) S):∃d p',cn [.ref h.length,.int n,.tup (S.map D.int)] (h++[.lst (c_ p)])=.ok d (h++[.lst (c_ p')])/\Th d:=by
 have sl:=s.len
 obtain⟨wy,p1,hw,d7⟩:=pU (h:=h) (p:=p) (m:=7) (by decide)
 obtain⟨sp,p2,hs,ds⟩:=pU (h:=h) (p:=p1) (m:=(S.length:Int)+1) (by omega)
 obtain⟨u,p3,hu,d12⟩:=pU (h:=h) (p:=p2) (m:=12) (by decide)
 have hu':u<(ods n).length:=by show u<12;omega
 have oo:=zT (n:=(n:Int)) (by omega) (by omega) _ (List.getElem_mem hu')
 have ix:∀H:Hh,ixK [.int ((n:Int) - 1),.int (-1),.bl true,.bl false,.non,.str "0", .frl [.int 0],.edic,.tup [.int 0],.int (10 ^ 30),.int 0,.int n] (u:Int) H=.ok (ods n)[u] H:=fun H=>i7 (ds:=ods n) rfl (List.getElem?_eq_getElem hu')
 generalize (ods n)[u]=od at *
 have sm:∀x∈S,sml x=true:=fun x hx=>by have:=s.inn x hx;exact dO this.1 (by omega)
 have l1:=dJ S none (some (sp:Int))
 have l2:=dJ S (some (sp:Int)) none
 have l3:=dJ S (some ((sp:Int)+1)) none
 have l4:=dJ S (some (-1)) none
 have l5:=dJ S (some 1) none
 obtain⟨X,hx,ixw⟩:=ix6 (w:=wy) (l:=[.tup ((bD S none (some (sp:Int))).map D.int++od::(bD S (some ((sp:Int)+1)) none).map D.int),.tup ((bD S none (some (sp:Int))).map D.int++od::(bD S (some ((sp:Int)+1)) none).map D.int),.tup ((bD S none (some (sp:Int))).map D.int++od::(bD S (some (sp:Int)) none).map D.int),.tup (S.map D.int).reverse,.frl (S.map D.int),.tup (S.map D.int++(bD S (some (-1)) none).map D.int),.tup ((bD S (some 1) none).map D.int)]) (by show wy<7;omega)
 have good:Th X:=by
  have bent:Th (.tup ((bD S none (some (sp:Int))).map D.int++od::(bD S (some ((sp:Int)+1)) none).map D.int)):=jz oo (fun x hx=>sm x (fG hx)) (fun x hx=>sm x (fG hx)) (by omega)
  simp only[List.mem_cons,List.not_mem_nil,or_false] at hx
  rcases hx with rfl | rfl | rfl | rfl | rfl | rfl | rfl
  ·exact bent
  ·exact bent
  ·exact jz oo (fun x hx=>sm x (fG hx)) (fun x hx=>sm x (fG hx)) (by omega)
  ·rw[<- List.map_reverse];exact cD (fun x hx=>sm x (List.mem_reverse.mp hx)) (by rw[List.length_reverse];omega)
  ·exact sL sm (by omega)
  ·rw[<- List.map_append]
   exact cD (fun x hx=>by
    rcases List.mem_append.mp hx with h | h
    ·exact sm x h
    ·exact sm x (fG h)) (by rw[List.length_append];omega)
  ·exact cD (fun x hx=>sm x (fG hx)) (by omega)
 refine⟨X,p3,?_,good⟩
 have k1:cutD (S.map D.int) none (some (sp:Int))=(bD S none (some (sp:Int))).map D.int:=cK _ _ _ _
 have k2:cutD (S.map D.int) (some ((sp:Int)+1)) none=(bD S (some ((sp:Int)+1)) none).map D.int:=cK _ _ _ _
 have k3:cutD (S.map D.int) (some (sp:Int)) none=(bD S (some (sp:Int)) none).map D.int:=cK _ _ _ _
 have k4:cutD (S.map D.int) (some (-1)) none=(bD S (some (-1)) none).map D.int:=cK _ _ _ _
 have k5:cutD (S.map D.int) (some 1) none=(bD S (some 1) none).map D.int:=cK _ _ _ _
 have m1:((bD S none (some (sp:Int))).map D.int).length<=12:=by rw[List.length_map];omega
 have m2:((bD S (some ((sp:Int)+1)) none).map D.int).length<=12:=by rw[List.length_map];omega
 have m3:((bD S (some (sp:Int)) none).map D.int).length<=12:=by rw[List.length_map];omega
 have m4:((bD S (some (-1)) none).map D.int).length<=12:=by rw[List.length_map];omega
 have s10:sml 10=true:=by decide +kernel
 have lX:(S.map D.int).length=S.length:=by simp
 generalize hX:(10:Int) ^ 30=X30 at ix
 generalize (bD S none (some (sp:Int))).map D.int=M1 at *
 generalize (bD S (some ((sp:Int)+1)) none).map D.int=M2 at *
 generalize (bD S (some (sp:Int)) none).map D.int=M3 at *
 generalize (bD S (some (-1)) none).map D.int=M4 at *
 generalize (bD S (some 1) none).map D.int=M5 at *
 have lX3:(S.map D.int).length<=12:=by rw[lX];omega
 generalize hSL:(S.length:Int)=SL at *
 have lX2:((S.map D.int).length:Int)=SL:=by rw[lX,hSL]
 generalize S.map D.int=SD at *
 have z1:M1.length+1<=1000000:=by omega
 have z2:M1.length+1+M2.length<=1000000:=by omega
 have z3:M1.length+1+M3.length<=1000000:=by omega
 have z4:SD.length+M4.length<=1000000:=by omega
 have z5:SD.length<=1000000:=by omega
 simp[cn,bf,d7,lX2,ds,d12,s10,hX,ix,k1,k2,k3,k4,k5,z1,z2,z3,z4,z5,ixw]
end FC
namespace FC
open PySem L2 L2.FE
noncomputable def B0:MS:=(aG (bh 7 (ag cb (aa (ah 6) ak))) (aG (bh 8 (ag dF (aa (ah 3) (aa (ah 6) ak)))) (aG (cM (ir (bL (aE df (cUn (fA "bool") (ah 8)))) (aE asB (aw dNe (ah 8) (ag ck (aa (ah 3) (aa (ah 6) ak)))))) (bg (cC (.bl false))) br) (aG (bh 9 (cIf (aE df (ah 8)) (ag cP (aa (ah 3) (aa (ah 6) ak))) (ag bB (aa (cC (.str "set")) ak)))) (cM (ir (aE asB (aw dNe (ag cb (aa (ag aL (aa (cC (.int 0)) (aa (ah 3) (aa (ah 6) ak)))) ak)) (ag cb (aa (ah 9) ak)))) (aE asB (aw dNe (ag cb (aa (ah 6) ak)) (ah 7)))) (bg (cC (.bl false))) br)))))
noncomputable def B1:MS:=(aG (bh 2 (ag bT (aa (ah 1) ak))) (aG (bh 3 (aw (bE az) (cC (.int 1)) (ag ay (aa (ah 2) (aa (cC (.int 12)) ak))))) (aG (bh 4 (ag cU (aa (ah 2) (aa (ah 3) ak)))) (aG (bh 5 (ag (bK az) (aa (ah 4) (aa (ag bB ak) (aa (cC .non) (aa (cC (.int 0)) (aa (cC (.bl true)) (aa (cC (.str "0")) (aa (ag (bK az) ak) (aa (cC .edic) (aa (ag bB (aa (cC (.int 0)) ak)) (aa (ag bB (aa (cC (.int 1)) ak)) (aa (ag bB (aa (cC (.bl true)) ak)) (aa (ag bB (aa (cC (.int 0)) (aa (cC (.int 0)) ak))) (aa (ag bB (aa (cC (.int 1)) (aa (cC (.int 0)) ak))) (aa (ag bB (aa (ag (bK az) (aa (cC (.int 0)) ak)) ak)) ak)))))))))))))))) (aG (fC (di (aw (bE az) (aw (bE az) (ah 5) (ag (bK az) (aa (ag gw (aa (aw dn (ah 3) (cC (.int 1))) ak)) (aa (ag gw (aa (ah 3) ak)) ak)))) (dh az (kI k9 (aa (cC (.int 8)) ak)) [2,3,4] tt1 (ag cn (aa (ah 1) (aa (ah 2) (aa (ah 3) ak))))))) (gN 6) B0) (cM (bL (aE df (ag a9 (aa (ah 2) ak)))) (bg (cC (.bl false))) br))))))
theorem zc:lH=fun ds h=>((cA 10 (aG (fC (di (aw (bE az) (ag (bK az) (aa (ag bG (aa (ah 0) (aa (cC (.int 0)) ak))) ak)) (bU az (ah 0) (cH (cC (.int 1))) (cH (cC (.int 4)))))) (gN 1) B1) (bg (cC (.bl true))))) ds h).bind (dj h):=rfl
noncomputable def xo:Prop:=∀(ns:List Int) (c:Int) (y2 y3 y4 y5 y6 y7 y8 y9:Option D) (h:Hh),Wf h->Ok (B1 [some (.scr (ns.map D.int)),some (.int c),y2,y3,y4,y5,y6,y7,y8,y9] h) fun fl h2=>∃z2 z3 z4 z5 z6 z7 z8 z9,fl=.nx [some (.scr (ns.map D.int)),some (.int c),z2,z3,z4,z5,z6,z7,z8,z9]/\Wf h2
theorem Cr (step:xo) (ns:List Int) (hl:ns.length<=63):∃h,lH [.scr (ns.map D.int)] []=.ok (.bl true) h:=by
 have key:Ok (dI (gN 1) B1 (((ns.headD 0)::bD ns (some 1) (some 4)).map D.int) [some (.scr (ns.map D.int)),none,none,none,none,none,none,none,none,none] []) fun fl h2=>(∃e,fl=.nx e)/\Wf h2:=by
  refine oQ D.int (fun e h=>(∃y1 y2 y3 y4 y5 y6 y7 y8 y9,e=[some (.scr (ns.map D.int)),y1,y2,y3,y4,y5,y6,y7,y8,y9])/\Wf h) _ _ _ ⟨⟨_,_,_,_,_,_,_,_,_,rfl⟩,Wf.nil⟩ (fun x e h _ ⟨⟨y1,y2,y3,y4,y5,y6,y7,y8,y9,e1⟩,w⟩=>?_) (fun e h ⟨_,w⟩=>⟨⟨_,rfl⟩,w⟩)
  subst e1
  simp only[wu,bC,List.set]
  refine(step ns x y2 y3 y4 y5 y6 y7 y8 y9 h w).mono fun fl h2 ⟨z2,z3,z4,z5,z6,z7,z8,z9,e2,w2⟩=>?_
  subst e2
  exact⟨⟨_,_,_,_,_,_,_,_,_,rfl⟩,w2⟩
 obtain⟨fl,h2,e,⟨e',rfl⟩,w⟩:=key
 have cl:=dJ ns (some 1) (some 4)
 have c1:1+(bD ns (some 1) (some 4)).length<=1000000:=by omega
 have ex:dj [] (.bl true) h2=.ok (.bl true) []:=by
  have:=gk (h:=[]) (t:=h2) (d:=.bl true) Wf.nil rfl
  simpa using this
 refine⟨[],?_⟩
 have e2:dI (gN 1) B1 (D.int (ns.headD 0)::(bD ns (some 1) (some 4)).map D.int) [some (.scr (ns.map D.int)),none,none,none,none,none,none,none,none,none] []=.ok (.nx e') h2:=e
 rw[zc]
 simp[bf,wa,c1,e2,ex,-List.headD_eq_head?_getD]
noncomputable def S1:MS:=(bh 2 (ag bT (aa (ah 1) ak)))
noncomputable def S2:MS:=(bh 3 (aw (bE az) (cC (.int 1)) (ag ay (aa (ah 2) (aa (cC (.int 12)) ak)))))
noncomputable def S3:MS:=(bh 4 (ag cU (aa (ah 2) (aa (ah 3) ak))))
noncomputable def S4:MS:=(bh 5 (ag (bK az) (aa (ah 4) (aa (ag bB ak) (aa (cC .non) (aa (cC (.int 0)) (aa (cC (.bl true)) (aa (cC (.str "0")) (aa (ag (bK az) ak) (aa (cC .edic) (aa (ag bB (aa (cC (.int 0)) ak)) (aa (ag bB (aa (cC (.int 1)) ak)) (aa (ag bB (aa (cC (.bl true)) ak)) (aa (ag bB (aa (cC (.int 0)) (aa (cC (.int 0)) ak))) (aa (ag bB (aa (cC (.int 1)) (aa (cC (.int 0)) ak))) (aa (ag bB (aa (ag (bK az) (aa (cC (.int 0)) ak)) ak)) ak))))))))))))))))
noncomputable def S5:MS:=(fC (di (aw (bE az) (aw (bE az) (ah 5) (ag (bK az) (aa (ag gw (aa (aw dn (ah 3) (cC (.int 1))) ak)) (aa (ag gw (aa (ah 3) ak)) ak)))) (dh az (kI k9 (aa (cC (.int 8)) ak)) [2,3,4] tt1 (ag cn (aa (ah 1) (aa (ah 2) (aa (ah 3) ak))))))) (gN 6) B0)
noncomputable def S6:MS:=(cM (bL (aE df (ag a9 (aa (ah 2) ak)))) (bg (cC (.bl false))) br)
theorem El:B1=aG S1 (aG S2 (aG S3 (aG S4 (aG S5 (S6))))):=rfl
end FC
namespace FC
open PySem L2 L2.FE L2.ST
theorem Ck {h:Hh}:cb [TSt] h=.ok (.str "('set',)") h:=by kernel_rfl
theorem CZ {n:Nat} {S:List Int} (h1:1<=n) (hn:n<=12) (s:Sub (n - 1) S):∀x∈szP 0 S n,sml x=true:=by
 intro x hx
 have h0:=By S 0 (n:Int) s.up (fun y hy=>by have:=s.inn y hy;omega) (by omega)
 have a:=h0 x hx
 have b:=lr (szP 0 S n) h0 x hx
 rw[vd] at b
 exact dO a (by omega)
theorem Ej {n:Nat} {d:D} {G:Hh} {e0 e1 e2 e4 e5 y7 y8 y9:Option D} (wf:Wf G) (h1:1<=n) (hn:n<=12) (t:Th d):∃z7 z8 z9,B0 [e0,e1,e2,some (.int n),e4,e5,some d,y7,y8,y9] G=.ok (.nx [e0,e1,e2,some (.int n),e4,e5,some d,z7,z8,z9]) G:=by
 obtain⟨r,rx⟩:=t.rx G
 have sg:=DJ (h:=G) h1 hn t
 have lg:=AL (h:=G) h1 hn t
 cases c:stB n d with
 | true=>
  rw[c] at sg lg
  obtain⟨S,rfl,s⟩:=Dx c
  have ls:=ye (S:=S) (h:=G) h1 hn wf
  rw[Fh h1 hn s] at ls
  have tl:=vH (h:=G) h1 hn s
  have rp:=gu (Ai (h:=G) (CZ h1 hn s) (by rw[uz];have:=s.len;omega))
  refine⟨some (.str r),some (.bl true),some (.tup ((szP 0 S n).map D.int)),?_⟩
  generalize (szP 0 S n).map D.int=L at *
  generalize S.map D.int=SD at *
  simp[B0,rx,sg,lg,ls,tl,rp]
 | false=>
  rw[c] at sg lg
  have tl:=zm (h:=G) wf h1 hn t c
  have rp:=Ck (h:=G)
  refine⟨some (.str r),some (.bl false),some TSt,?_⟩
  simp[B0,rx,sg,lg,tl,rp]
theorem xN {n:Nat} {G:Hh} {e0 e1 e2 e4 e5:Option D} (wf:Wf G) (h1:1<=n) (hn:n<=12):∀(L:List D),(∀d∈L,Th d)->∀y6 y7 y8 y9,∃z6 z7 z8 z9,dI (gN 6) B0 L [e0,e1,e2,some (.int n),e4,e5,y6,y7,y8,y9] G=.ok (.nx [e0,e1,e2,some (.int n),e4,e5,z6,z7,z8,z9]) G
 | [],_,y6,y7,y8,y9=>⟨y6,y7,y8,y9,rfl⟩
 | d::L,h,y6,y7,y8,y9=>by
  obtain⟨z7,z8,z9,e⟩:=Ej (e0:=e0) (e1:=e1) (e2:=e2) (e4:=e4) (e5:=e5) (y7:=y7) (y8:=y8) (y9:=y9) wf h1 hn (h d List.mem_cons_self)
  obtain⟨w6,w7,w8,w9,q⟩:=xN (e0:=e0) (e1:=e1) (e2:=e2) (e4:=e4) (e5:=e5) wf h1 hn L (fun x hx=>h x (List.mem_cons_of_mem _ hx)) (some d) z7 z8 z9
  refine⟨w6,w7,w8,w9,?_⟩
  rw[gx]
  simp only[wu,bC,List.set,e,qH,q]
noncomputable def ths (S:List Int):List D:=[.tup (S.map D.int),.tup [],.non,.int 0,.bl true,.str "0", .frl [],.edic,.tup [.int 0],.tup [.int 1],.tup [.bl true],.tup [.int 0,.int 0],.tup [.int 1,.int 0],.tup [.frl [.int 0]]]
theorem DC {n:Nat} {S:List Int} (hn:n<=12) (s:Sub (n - 1) S):∀d∈ths S,Th d:=by
 intro d hd
 have fl:∀{d:D},itm d=true->(∀ds,d≠.tup ds)->RX d->Th d:=A_
 simp only[ths,List.mem_cons,List.not_mem_nil,or_false] at hd
 rcases hd with rfl | rfl | rfl | rfl | rfl | rfl | rfl | rfl | rfl | rfl | rfl | rfl | rfl | rfl
 ·exact yY hn s
 ·exact cD (xs:=[]) (by simp) (by simp)
 ·exact fl rfl (fun ds e=>by cases e) (fun h=>⟨_,rfl⟩)
 ·exact fl rfl (fun ds e=>by cases e) (fun h=>⟨_,rfl⟩)
 ·exact fl rfl (fun ds e=>by cases e) (fun h=>⟨_,rfl⟩)
 ·exact fl rfl (fun ds e=>by cases e) (fun h=>⟨"'0'", by kernel_rfl⟩)
 ·exact sL (xs:=[]) (by simp) (by simp)
 ·exact fl rfl (fun ds e=>by cases e) (fun h=>⟨"{}", by kernel_rfl⟩)
 ·exact cD (xs:=[0]) (by simp;decide +kernel) (by simp)
 ·exact cD (xs:=[1]) (by simp;decide +kernel) (by simp)
 ·exact jz (xs:=[]) (ys:=[]) (od:=.bl true) qg (by simp) (by simp) (by simp)
 ·exact cD (xs:=[0,0]) (by simp;decide +kernel) (by simp)
 ·exact cD (xs:=[1,0]) (by simp;exact⟨by decide +kernel,by decide +kernel⟩) (by simp)
 ·exact jz (xs:=[]) (ys:=[]) (od:=.frl [.int 0]) rj (by simp) (by simp) (by simp)
theorem xY (k:Nat) (hk:k<=12):Th (.tup (b0 0 k)):=by
 have e:b0 0 k=((List.range k).map fun(i:Nat)=>(i:Int)).map D.int:=by rw[j2,List.map_map];rfl
 rw[e]
 exact cD (fun x hx=>by
  obtain⟨i,hi,rfl⟩:=List.mem_map.mp hx
  have:=List.mem_range.mp hi
  exact dO (by omega) (by omega)) (by simp;omega)
theorem Fc {S:List Int} {e0 e1 e2 e3 y5 y6 y7 y8 y9:Option D} {G:Hh}:S4 [e0,e1,e2,e3,some (.tup (S.map D.int)),y5,y6,y7,y8,y9] G=.ok (.nx [e0,e1,e2,e3,some (.tup (S.map D.int)),some (.frl (ths S)),y6,y7,y8,y9]) G:=by
 unfold ths
 generalize S.map D.int=SD
 simp[S4]
theorem EY {n:Nat} {S:List Int} {H:Hh} {p:Pen} {e0 e1 y6 y7 y8 y9:Option D} (w:Wf H) (h1:1<=n) (hn:n<=12) (s:Sub (n - 1) S):∃z6 z7 z8 z9 p',S5 [e0,e1,some (.ref H.length),some (.int n),some (.tup (S.map D.int)),some (.frl (ths S)),y6,y7,y8,y9] (H++[.lst (c_ p)])=.ok (.nx [e0,e1,some (.ref H.length),some (.int n),some (.tup (S.map D.int)),some (.frl (ths S)),z6,z7,z8,z9]) (H++[.lst (c_ p')]):=by
 obtain⟨ys,p',q,ht,hl⟩:=mM (te:=ag cn (aa (ah 1) (aa (ah 2) (aa (ah 3) ak)))) (ee:=fun d=>[some d,some (.ref H.length),some (.int n),some (.tup (S.map D.int))]) (fun p=>H++[.lst (c_ p)]) Th (fun x p=>by
  obtain⟨d,p',e,t⟩:=Dz (p:=p) (h:=H) h1 hn s
  refine⟨d,p',?_,t⟩
  generalize S.map D.int=SD at *
  simp[e]) (b0 0 8) p
 have hl8:ys.length=8:=by rw[hl];rfl
 obtain⟨z6,z7,z8,z9,e⟩:=xN (n:=n) (e0:=e0) (e1:=e1) (e2:=some (.ref H.length)) (e4:=some (.tup (S.map D.int))) (e5:=some (.frl (ths S))) (lQ w p') h1 hn (ths S++[.tup (b0 0 (n - 1)),.tup (b0 0 n)]++ys) (fun d hd=>by
  rcases List.mem_append.mp hd with hd | hd
  ·rcases List.mem_append.mp hd with hd | hd
   ·exact DC hn s d hd
   ·simp at hd
    rcases hd with rfl | rfl
    ·exact xY (n - 1) (by omega)
    ·exact xY n hn
  ·exact ht d hd) y6 y7 y8 y9
 refine⟨z6,z7,z8,z9,p',?_⟩
 have tl:(ths S).length=14:=rfl
 have z1:((n:Int) - 1).natAbs<=1000000:=by omega
 have z2:((n:Int) - 1).toNat=n - 1:=by omega
 have z3:n - 1<=1000000:=by omega
 have z4:n<=1000000:=by omega
 generalize hT:ths S=T at *
 generalize S.map D.int=SD at *
 generalize hI1:b0 0 (n - 1)=I1 at *
 generalize hI2:b0 0 n=I2 at *
 simp only[List.append_assoc,List.cons_append,List.nil_append] at e
 simp[S5,z1,z2,z3,z4,tl,hI1,hI2,q,hl8,e]
theorem step:xo:=by
 intro ns c y2 y3 y4 y5 y6 y7 y8 y9 H w
 rw[El]
 obtain⟨k,ek,hk⟩:=nR (qN c) 12 (by decide)
 have d1:=eU (p:=qN c) (h:=H) (t:=[]) (m:=12) (by decide)
 rw[ek] at d1
 obtain⟨S,p2,s,e3⟩:=CG (n:=k+1) (p:=eV (qN c) 12) (h:=H) (t:=[]) (by omega) (by omega)
 obtain⟨z6,z7,z8,z9,p3,e5⟩:=EY (n:=k+1) (S:=S) (p:=p2) (e0:=some (.scr (ns.map D.int))) (e1:=some (.int c)) (y6:=y6) (y7:=y7) (y8:=y8) (y9:=y9) w (by omega) (by omega) s
 obtain⟨p4,e6⟩:=wt (H:=H) (p:=p3) w
 have e4:=Fc (S:=S) (e0:=some (.scr (ns.map D.int))) (e1:=some (.int c)) (e2:=some (.ref H.length)) (e3:=some (.int ((k+1:Nat):Int))) (y5:=y5) (y6:=y6) (y7:=y7) (y8:=y8) (y9:=y9) (G:=H++[.lst (c_ p2)])
 have kk:(1:Int)+(k:Int)=((k+1:Nat):Int):=by omega
 refine⟨.nx [some (.scr (ns.map D.int)),some (.int c),some (.ref H.length),some (.int ((k+1:Nat):Int)),some (.tup (S.map D.int)),some (.frl (ths S)),z6,z7,z8,z9],H++[.lst (c_ p4)],?_,_,_,_,_,_,_,_,_,rfl,lQ w p4⟩
 generalize S.map D.int=SD at *
 generalize ths S=T at *
 generalize hN:((k+1:Nat):Int)=N at *
 simp only[Ff,S1,S2,S3,S6]
 simp[d1,kk,e3,e4,e5,e6]
theorem CK (ns:List Int) (hl:ns.length<=63):∃h,lH [.scr (ns.map D.int)] []=.ok (.bl true) h:=Cr step ns hl
end FC
open PySem PySem.W PyProof.Rows
local macro_rules | `(tactic| o_head $H)=>`(tactic| (refine holds_open (q:=FC.Q) (loose:=[]) (Xt:=(fun s=>xlAt FC.Q [] s&&recOk (RowW.records (OpenRow.toRowW (OpenLaw.row PySem.Challenge.rw_fallcounts_k31_what_is_a_set))) s)) (XP:=XL FC.Q []) (Yf:=Hook.obs $H) (Ya:=Hook.val $H) (YP:=Hook.says $H) (N:=5008) (L2.FE.wK (by decide) (by kernel_rfl) (fun _=>by kernel_rfl) FC.Ee FC.Fb (fun w os=>by kernel_rfl)) (Hook.of $H) (Hook.keeps $H) (fun s e=>xl_of s (Bool.and_eq_true_iff.mp e).1) XL.keeps (by rfl) (by rfl) (by rfl) (fun s e=>recFacts_of (Bool.and_eq_true_iff.mp e).2) (by rfl) (by first | assumption | decide +kernel) (by decide +kernel) ⟨rfl,rfl,rfl,rfl,rfl,by decide +kernel⟩ ?hw ?hc))
set_option maxRecDepth 100000 in
set_option maxHeartbeats 0 in
theorem PySem.Challenge.cw_fallcounts_k31_what_is_a_set_holds : PySem.Challenge.rw_fallcounts_k31_what_is_a_set.Holds := by
 w_on;o_law;k_head;w_witness2
 k_fill
 refine FC.walk (l:=PySem.Challenge.rw_fallcounts_k31_what_is_a_set) rfl rfl (fun w h Y=>by first | exact PySem.W.kIn_of Y | exact PySem.W.km_in_of Y) FC.CK ?F
 case F=>
  intro w mg fa h KX G hmg
  have T:FC.Text (L2.KOf KX):=by
   dsimp only[L2.KOf]
   refine' ⟨?eL,?eZ,?gE,?gB,?iE,?gJ,?iJ,?gG,?dU,?iQ,?dX,?gQ,?fS,?eJ,?eI,?fX,?iM,?gb,?ll,?gD,?cZ,?xV,?cls,?jV,?gL,?gc,?sW,?xO,?fL,?x9,?sM,?yp,?zt,?pw,?tj,?xr,?lB,?yl,?oM,?xq,?cG⟩
   (case eL=>refine' L2.FE.bM ?a ?l ?c ?k;(case a=>k_is);(case l=>k_is);(case c=>k_is);(case k=>k_is))
   (case eZ=>refine' L2.FE.bM ?a ?l ?c ?k;(case a=>k_is);(case l=>k_is);(case c=>k_is);(case k=>k_is))
   (case gE=>refine' L2.FE.bM ?a ?l ?c ?k;(case a=>k_is);(case l=>k_is);(case c=>k_is);(case k=>k_is))
   (case gB=>refine' L2.FE.bM ?a ?l ?c ?k;(case a=>k_is);(case l=>k_is);(case c=>k_is);(case k=>k_is))
   (case iE=>refine' L2.FE.bM ?a ?l ?c ?k;(case a=>k_is);(case l=>k_is);(case c=>k_is);(case k=>k_is))
   (case gJ=>refine' L2.FE.bM ?a ?l ?c ?k;(case a=>k_is);(case l=>k_is);(case c=>k_is);(case k=>k_is))
   (case iJ=>refine' L2.FE.bM ?a ?l ?c ?k;(case a=>k_is);(case l=>k_is);(case c=>k_is);(case k=>k_is))
   (case gG=>refine' L2.FE.bM ?a ?l ?c ?k;(case a=>k_is);(case l=>k_is);(case c=>k_is);(case k=>k_is))
   (case dU=>refine' L2.FE.bM ?a ?l ?c ?k;(case a=>k_is);(case l=>k_is);(case c=>k_is);(case k=>k_is))
   (case iQ=>refine' L2.FE.bM ?a ?l ?c ?k;(case a=>k_is);(case l=>k_is);(case c=>k_is);(case k=>k_is))
   (case dX=>refine' L2.FE.bM ?a ?l ?c ?k;(case a=>k_is);(case l=>k_is);(case c=>k_is);(case k=>k_is))
   (case gQ=>refine' L2.FE.bM ?a ?l ?c ?k;(case a=>k_is);(case l=>k_is);(case c=>k_is);(case k=>k_is))
   (case fS=>refine' L2.FE.bM ?a ?l ?c ?k;(case a=>k_is);(case l=>k_is);(case c=>k_is);(case k=>k_is))
   (case eJ=>refine' L2.FE.bM ?a ?l ?c ?k;(case a=>k_is);(case l=>k_is);(case c=>k_is);(case k=>k_is))
   (case eI=>refine' L2.FE.bM ?a ?l ?c ?k;(case a=>k_is);(case l=>k_is);(case c=>k_is);(case k=>k_is))
   (case fX=>refine' L2.FE.bM ?a ?l ?c ?k;(case a=>k_is);(case l=>k_is);(case c=>k_is);(case k=>k_is))
   (case iM=>refine' L2.FE.bM ?a ?l ?c ?k;(case a=>k_is);(case l=>k_is);(case c=>k_is);(case k=>k_is))
   (case gb=>refine' L2.FE.bM ?a ?l ?c ?k;(case a=>k_is);(case l=>k_is);(case c=>k_is);(case k=>k_is))
   (case ll=>refine' L2.FE.bM ?a ?l ?c ?k;(case a=>k_is);(case l=>k_is);(case c=>k_is);(case k=>k_is))
   (case gD=>refine' L2.FE.bM ?a ?l ?c ?k;(case a=>k_is);(case l=>k_is);(case c=>k_is);(case k=>k_is))
   (case cZ=>refine' L2.FE.bM ?a ?l ?c ?k;(case a=>k_is);(case l=>k_is);(case c=>k_is);(case k=>k_is))
   (case xV=>refine' L2.FE.bM ?a ?l ?c ?k;(case a=>k_is);(case l=>k_is);(case c=>k_is);(case k=>k_is))
   (case cls=>refine' L2.Cv ?e0 ?e1 ?e2 ?e3 ?e4 ?e5 ?e6 ?e7 ?c;(case e0=>k_is);(case e1=>k_is);(case e2=>k_is);(case e3=>k_is);(case e4=>k_is);(case e5=>k_is);(case e6=>k_is);(case e7=>k_is);(case c=>kernel_rfl))
   (case jV=>refine' L2.uC ?a ?b ?l ?c ?k ?o FC.tH FC.sj FC.sA FC.t4 (by decide);(case a=>k_is);(case b=>k_is);(case l=>k_is);(case c=>k_is);(case k=>k_is);(case o=>kernel_rfl))
   (case gL=>refine' L2.uC ?a ?b ?l ?c ?k ?o FC.pM FC.ng FC.oR FC.pN (by decide);(case a=>k_is);(case b=>k_is);(case l=>k_is);(case c=>k_is);(case k=>k_is);(case o=>kernel_rfl))
   (case gc=>k_is)
   (case sW=>k_is)
   (case xO=>k_is)
   (case fL=>k_is)
   (case x9=>k_is)
   (case sM=>k_is)
   (case yp=>k_is)
   (case zt=>k_is)
   (case pw=>k_is)
   (case tj=>k_is)
   (case xr=>k_is)
   (case lB=>k_is)
   (case yl=>k_is)
   (case oM=>k_is)
   (case xq=>k_is)
   (case cG=>exact⟨_,rfl⟩)
  exact FC.all_mk KX G hmg T
