import PyProof.Rows.All
import Wide.All
import OpenK.AllK
import Wide.FinOn
import Lean
import KE.KNestM
import PyProof.EqAt
import PyProof.EqKinds
import PyProof.TupleCall
import PyProof.EnumMake
import PyProof.Draws
import KE.KDictList
import KE.KTryMore
import KE.KEqDict
import PyProof.ExcInit
import PyProof.InstStoreFacts
import KE.KSortTup
import PySem.Challenge.RW_fallcounts_k35_sets_refused
set_option Elab.async false
set_option linter.all false
set_option maxRecDepth 100000
set_option maxHeartbeats 8000000
namespace L2.FE
open PySem PySem.W PySem.Calls
noncomputable def E6:List Obj->BT->Nat->Option BT
 | [],t,_=>some t
 | o::r,t,n=>match ((t.ins n o).get n).isSome with
  | true=>E6 r (t.ins n o) (n+1)
  | false=>none
theorem vH {life:Life}:∀{r:List Obj} {t T:BT} {n:Nat} {a:Array Obj},E6 r t n=some T->absHeap t n life=⟨a,life⟩->absHeap T (n+r.length) life=⟨a++r.toArray,life⟩
 | [],t,T,n,a,h,e=>by cases h;simpa using e
 | o::r,t,T,n,a,h,e=>by
  unfold E6 at h
  cases g:((t.ins n o).get n).isSome with
  | false=>rw[g] at h;cases h
  | true=>
   rw[g] at h
   have x:absHeap (t.ins n o) (n+1) life=⟨a.push o,life⟩:=by rw[absHeap_ins g,e];rfl
   have:=vH h x
   rw[List.length_cons,show n+(r.length+1)=n+1+r.length by omega,this]
   simp
noncomputable def za (p:Program) (w:World) (n₀:Nat) (ann:Option Value):Nat->SharedT->Thread->Option SharedT
 | 0,_,_=>none
 | n+1,s,t=>match through t with
  | true=>some s
  | false=>match PySem.W.Fast.tw6613529449190102663 n₀ ann t with
   | false=>none
   | true=>match PySem.W.Fast.tw10156331382660048174 (PySem.W.Fast.tw11892475500146522536 PySem.W.Fast.tw14364793385576792824) p w s t with
    | some (s',t')=>za p w n₀ ann n s' t'
    | none=>none
theorem vT {p:Program} {w:World} {n₀:Nat} {ann:Option Value}:∀{n:Nat} {s r:SharedT} {t:Thread},za p w n₀ ann n s t=some r->topRun treeTable p w n₀ ann n s.abs t=some r.abs
 | 0,_,_,_,h=>by cases h
 | n+1,s,r,t,h=>by
  unfold za at h
  unfold topRun
  cases ht:through t with
  | true=>rw[ht] at h;cases h;rfl
  | false=>
   rw[ht,<- PySem.W.Fast.te6613529449190102663] at h
   cases hk:stepOk n₀ ann t with
   | false=>simp only[hk] at h;cases h
   | true=>
    simp only[hk] at h
    rw[<- PySem.W.Fast.te10156331382660048174,<- PySem.W.Fast.te11892475500146522536,<- PySem.W.Fast.te14364793385576792824] at h
    cases hs:stepT (denote treeTable) p w s t with
    | none=>rw[hs] at h;cases h
    | some x=>obtain⟨s₂,t₂⟩:=x;rw[hs] at h;rw[stepT_spec hs];exact vT h
noncomputable def rG (p:Program) (w:World) (N:Nat) (os:OsState):Option SharedT:=
 match (boot_heap w.params).isNs mainGlobals with
 | true=>(E6 (boot_heap w.params).objs.toList .nil 0).bind fun T=>za p w (boot_heap w.params).objs.size ((boot_heap w.params).nsMap mainGlobals (Str.ofString "__annotations__")) N ⟨T,(boot_heap w.params).objs.size,(boot_heap w.params).life,#[],boot_drawn,boot_toks,os⟩ (topStub p)
 | false=>none
noncomputable def BC (p:Program) (w:World) (s₁:Shared):Bool:=staticsOk (PySem.W.Fast.tw5923862056798008813 p.main.body) (boot_heap w.params) s₁.heap&&namesBound p s₁.heap&&gensDone s₁&&laidKept (boot_heap w.params) s₁.heap
theorem z_ {p q:Program} {loose:List Str} {Xt:Shared->Bool} {α:Type} {Yf:Shared->α} {Ya:World->α} {N:Nat} (hN:Nat.ble 600 N=true) (e:opening p=plainProg p.main.scope.names) (f:∀s,fenceModules? p s=some s)
  (h1:∀(w:World) (os:OsState),(rG p w N os).map (fun s=>BC p w s.abs)=some true)
  (h2:∀(w:World) (os:OsState),(rG p w N os).map (fun s=>PySem.W.Fast.tw4187177175401517315 q loose (PySem.W.Fast.tw5923862056798008813 p.main.body) Xt true s.abs)=some (openGood q loose))
  (h3:∀(w:World) (os:OsState),(rG p w N os).map (fun s=>Yf s.abs)=some (Ya w)):LeftO p q loose Xt Yf Ya N:=fun w=>by
 obtain⟨s,hs,e'⟩:=Option.map_eq_some_iff.mp (boot_open e hN f w)
 obtain⟨H,gs,d,k,os⟩:=s
 obtain⟨rfl,rfl,rfl,rfl⟩:H=boot_heap w.params/\gs=_/\d=boot_drawn/\k=boot_toks:=by simpa using e'
 obtain⟨r,hr,l1⟩:=Option.map_eq_some_iff.mp (h1 w os)
 obtain⟨r2,hr2,l2⟩:=Option.map_eq_some_iff.mp (h2 w os)
 obtain⟨r3,hr3,l3⟩:=Option.map_eq_some_iff.mp (h3 w os)
 obtain rfl:r=r2:=Option.some.inj (hr.symm.trans hr2)
 obtain rfl:r=r3:=Option.some.inj (hr.symm.trans hr3)
 unfold BC at l1
 rw[<- PySem.W.Fast.te5923862056798008813] at l1
 rw[<- PySem.W.Fast.te4187177175401517315,<- PySem.W.Fast.te5923862056798008813] at l2
 unfold rG at hr
 cases hn:(boot_heap w.params).isNs mainGlobals with
 | false=>rw[hn] at hr;cases hr
 | true=>
  rw[hn] at hr
  obtain⟨T,hT,hr⟩:=Option.bind_eq_some_iff.mp hr
  have z:=vH (life:=(boot_heap w.params).life) (n:=0) (a:=#[]) hT rfl
  have z':absHeap T (boot_heap w.params).objs.size (boot_heap w.params).life=boot_heap w.params:=by
   rw[Nat.zero_add,Array.length_toList] at z
   rw[z]
   simp
  have hr:=vT hr
  have st:(SharedT.mk T (boot_heap w.params).objs.size (boot_heap w.params).life #[] boot_drawn boot_toks os).abs=⟨boot_heap w.params,#[],boot_drawn,boot_toks,os⟩:=by
   show Shared.mk _ _ _ _ _=_
   rw[z']
  rw[st] at hr
  unfold openEnds
  rw[hs]
  show Option.map _ (topFrom treeTable p w N _)=_
  have t:topFrom treeTable p w N ⟨boot_heap w.params,#[],boot_drawn,boot_toks,os⟩=some r.abs:=by
   unfold topFrom
   dsimp only
   rw[hn]
   rw[hr]
   show(match staticsOk (importedModules p.main.body) (boot_heap w.params) r.abs.heap&&namesBound p r.abs.heap&&gensDone r.abs&&laidKept (boot_heap w.params) r.abs.heap with | true=>_ | false=>_)=_
   rw[l1]
  rw[t]
  show some (openSeen q loose (importedModules p.main.body) Xt true r.abs,Yf r.abs)=_
  rw[l2,l3]
noncomputable def viewOf (p:Program) (keep:List Nat):Program:={ p with main:={ p.main with body:=keep.filterMap fun i=>p.main.body[i]? } }
end L2.FE
section
open PySem PySem.W PyProof.Rows
noncomputable def FC.Q:Program:=L2.FE.viewOf PySem.Challenge.pw_fallcounts_k35_sets_refused [1,2,3,4,5,6,7,8,10,11,12,13,15,17,18,19,20,21,22,24,25,26,27,28,29,30,31,32,33,34,35,36,37,38,39,40,42,43,44,45,46,47,48,49,50,51,52,53,54,55]
theorem FC.J_:∀(w:World) (os:OsState),(L2.FE.rG PySem.Challenge.pw_fallcounts_k35_sets_refused w 6104 os).map (fun s=>L2.FE.BC PySem.Challenge.pw_fallcounts_k35_sets_refused w s.abs)=some true:=fun w os=>by kernel_rfl
theorem FC.Jk:∀(w:World) (os:OsState),(L2.FE.rG PySem.Challenge.pw_fallcounts_k35_sets_refused w 6104 os).map (fun s=>PySem.W.Fast.tw4187177175401517315 FC.Q [] (PySem.W.Fast.tw5923862056798008813 PySem.Challenge.pw_fallcounts_k35_sets_refused.main.body) (fun s=>xlAt FC.Q [] s&&recOk (RowW.records (OpenRow.toRowW (OpenLaw.row PySem.Challenge.rw_fallcounts_k35_sets_refused))) s) true s.abs)=some (openGood FC.Q []):=fun w os=>by kernel_rfl
end
namespace L2
open PySem PySem.Spec PyProof.Rows
noncomputable abbrev Key:=Sum Int Str
noncomputable def Gf:Key->Value->Bool
 | .inl k,v=>Value.isInt k v
 | .inr x,v=>Value.isStrOf x v
noncomputable def KU (w:World):Key->Int
 | .inl k=>hashInt k
 | .inr x=>hashStr w x
theorem cI:∀{k:Key} {v:Value},Gf k v=true->(∃i t,k=Sum.inl i/\v=Value.int i t)\/(∃x t,k=Sum.inr x/\v=Value.str x t)
 | .inl i,v,h=>by
  obtain⟨t,e⟩:=Value.isInt_shape (k:=i) (v:=v) h
  exact .inl ⟨i,t,rfl,e⟩
 | .inr x,v,h=>by
  obtain⟨t,e⟩:=Value.isStrOf_shape (x:=x) (v:=v) h
  exact .inr ⟨x,t,rfl,e⟩
theorem Hz (a b:Int):decide ((Sum.inl a:Key)=Sum.inl b)=(a == b):=by
 by_cases e:a=b
 ·subst e;simp
 ·have h:¬ (Sum.inl a:Key)=Sum.inl b:=fun q=>e (Sum.inl.inj q)
  rw[decide_eq_false h]
  exact(beq_eq_false_iff_ne.mpr e).symm
theorem Hu (a b:Str):decide ((Sum.inr a:Key)=Sum.inr b)=decide (a=b):=by
 by_cases e:a=b
 ·subst e;simp
 ·have h:¬ (Sum.inr a:Key)=Sum.inr b:=fun q=>e (Sum.inr.inj q)
  rw[decide_eq_false h,decide_eq_false e]
theorem G0 (a:Int) (b:Str):decide ((Sum.inl a:Key)=Sum.inr b)=false:=decide_eq_false (fun q=>nomatch q)
theorem HE (a:Str) (b:Int):decide ((Sum.inr a:Key)=Sum.inl b)=false:=decide_eq_false (fun q=>nomatch q)
noncomputable def tF (prog:Program) (w:World):PySem.KeyKind prog w Key where
 is:=Gf
 hash:=KU w
 inj:=fun v a b ha hb=>by
  rcases cI ha with⟨i,t,rfl,rfl⟩ | ⟨x,t,rfl,rfl⟩
  ·rcases cI hb with⟨j,u,rfl,e⟩ | ⟨y,u,rfl,e⟩
   ·injection e with e1 _;rw[e1]
   ·exact nomatch e
  ·rcases cI hb with⟨j,u,rfl,e⟩ | ⟨y,u,rfl,e⟩
   ·exact nomatch e
   ·injection e with e1 _;rw[e1]
 byValue:=fun k v h=>by
   rcases cI h with⟨i,t,rfl,rfl⟩ | ⟨x,t,rfl,rfl⟩<;>rfl
 pyHash:=fun hv h=>by
  rcases cI hv with⟨i,t,rfl,rfl⟩ | ⟨x,t,rfl,rfl⟩
  ·exact wpAny_pyHash_int h
  ·exact wpAny_pyHash_str h
 eqBool:=fun hu hv h=>by
  rcases cI hu with⟨i,t,rfl,rfl⟩ | ⟨x,t,rfl,rfl⟩
  ·rcases cI hv with⟨j,u,rfl,rfl⟩ | ⟨y,u,rfl,rfl⟩
   ·rw[Hz] at h;exact wpAny_eqBool_int h
   ·rw[G0] at h;exact SeqAt.EqAt.int_str i t y u _ _ _ _ h
  ·rcases cI hv with⟨j,u,rfl,rfl⟩ | ⟨y,u,rfl,rfl⟩
   ·rw[HE] at h;exact SeqAt.EqAt.str_int x t j u _ _ _ _ h
   ·rw[Hu] at h;exact wpAny_eqBool_str h
 «strs»:=fun k x t v h=>by
  rcases cI h with⟨i,u,rfl,e⟩ | ⟨y,u,rfl,e⟩
  ·exact nomatch e
  ·injection e with e1 _
   subst e1
   cases v<;>rfl
inductive V where
 | non | bl (b:Bool) | int (i:Int) | str (x:Str) | byt (b:Array UInt8) | flt (b:UInt64) | ref (a:Addr) | ty (n:String)
 deriving DecidableEq
noncomputable def RelV:V->Value->Prop
 | .non,u=>u=Value.none
 | .bl b,u=>u=Value.bool b
 | .int i,u=>∃t,u=Value.int i t
 | .str x,u=>∃t,u=Value.str x t
 | .byt b,u=>∃t,u=Value.bytes b t
 | .flt b,u=>∃t,u=Value.float b t
 | .ref a,u=>u=Value.ref a
 | .ty n,u=>u=Value.type n
noncomputable abbrev Vals:List V->List Value->Prop:=Paired RelV
theorem Vals.length {xs:List V} {us:List Value} (r:Vals xs us):xs.length=us.length:=Paired.length r
theorem Vals.get:∀{xs:List V} {us:List Value} {i:Nat} {x:V},Vals xs us->xs[i]?=some x->∃u,us[i]?=some u/\RelV x u
 | _,_,_,_,.nil,e=>by simp at e
 | _,_,0,_,.cons r _,e=>by simp at e;subst e;exact⟨_,rfl,r⟩
 | _,_,i+1,x,.cons _ t,e=>by
  obtain⟨u,h1,h2⟩:=Vals.get (i:=i) (x:=x) t (by simpa using e)
  exact⟨u,by simpa using h1,h2⟩
theorem Vals.set {x:V} {u:Value} (r:RelV x u):∀{xs:List V} {us:List Value} (i:Nat),Vals xs us->Vals (xs.set i x) (us.set i u)
 | _,_,_,.nil=>.nil
 | _,_,0,.cons _ t=>.cons r t
 | _,_,i+1,.cons q t=>.cons q (Vals.set r i t)
theorem Vals.append:∀{xs ys:List V} {us ws:List Value},Vals xs us->Vals ys ws->Vals (xs++ys) (us++ws)
 | _,_,_,_,.nil,s=>s
 | _,_,_,_,.cons r t,s=>.cons r (Vals.append t s)
theorem Vals.take:∀{xs:List V} {us:List Value} (n:Nat),Vals xs us->Vals (xs.take n) (us.take n)
 | _,_,0,_=>.nil
 | _,_,_+1,.nil=>.nil
 | _,_,n+1,.cons r t=>.cons r (Vals.take n t)
theorem Vals.drop:∀{xs:List V} {us:List Value} (n:Nat),Vals xs us->Vals (xs.drop n) (us.drop n)
 | _,_,0,r=>r
 | _,_,_+1,.nil=>.nil
 | _,_,n+1,.cons _ t=>Vals.drop n t
noncomputable def HA:Option V->Option Value->Prop
 | some v,some u=>RelV v u
 | none,none=>True
 | _,_=>False
noncomputable def KV {κ:Type}:List (κ × V)->List (κ × Value)->Prop:=Paired fun(p:κ × V) (q:κ × Value)=>p.1=q.1/\RelV p.2 q.2
noncomputable def kV:Key->V
 | .inl i=>.int i
 | .inr x=>.str x
inductive HO where
 | lst (xs:List V)
 | tup (xs:List V)
 | dK (kvs:List (Key × V)) | dT (kvs:List (List Key × V))
 | set (S:Int->Bool) (n:Nat)
 | ins (C dx:Addr) (fs:List (Str × V))
 | own (x:Addr)
 | xd (fs:List (Str × V))
 | met (f x:Addr)
 | rng (lo hi:Int)
 | frz (o:Obj) (u:HO)
 | tbl (ps:Array Value)
 | ext (φ:Heap->Prop)
noncomputable abbrev Hp:=Addr->Option HO
noncomputable def upd (H:Hp) (a:Addr) (o:HO):Hp:=fun b=>if b=a then some o else H b
theorem aZ {H:Hp} {a:Addr} {o:HO}:upd H a o a=some o:=by unfold upd;rw[if_pos rfl]
theorem aD {H:Hp} {a b:Addr} {o:HO} (h:b≠a):upd H a o b=H b:=by unfold upd;rw[if_neg h]
theorem D1 {H:Hp} {a:Addr} {o u:HO}:upd (upd H a o) a u=upd H a u:=by
 funext b;unfold upd;split<;>rfl
theorem aP {H:Hp} {a b:Addr} {o:HO} (h:H a=some o) (h':H b=none):a≠b:=by
 intro e;subst e;rw[h] at h';cases h'
noncomputable def pW (h:Heap) (a:Addr) (its:Array Value):Prop:=∃o,h.get? a=some o/\(o.cls=.type "tuple" /\ ∃n,o.data=.seq its n)/\o.dict=none
theorem pW.tup {h:Heap} {a:Addr} {its:Array Value} (x:pW h a its):IsTup h a its:=let ⟨o,e,⟨c,n,d⟩,_⟩:=x;⟨o,e,c,n,d⟩
theorem pW.new (h:Heap) (its:Array Value):pW (h.push { cls:=.type "tuple", data:=.seq its }) h.objs.size its:=⟨_,Heap.get?_push_size _ rfl,⟨rfl,_,rfl⟩,rfl⟩
section
variable (P:Program) (w:World)
noncomputable def cF (H:Hp) (h:Heap) (a:Addr):HO->Prop
 | .lst xs=>xs.length<=sizeLine/\∃(its:List Value) (n:Nat),Vals xs its/\h.get? a=some { cls:=.type "list", data:=.seq its.toArray n }
 | .tup xs=>xs.length<=sizeLine/\∃its:List Value,Vals xs its/\pW h a its.toArray
 | .dK kvs=>kvs.length<=sizeLine/\(a == sysModules)=false/\∃vs,KV kvs vs/\h.DictOf (tF P w) a vs
 | .dT kvs=>kvs.length<=sizeLine/\(a == sysModules)=false/\∃xs:List (List Key × Addr × Value),
   Paired (fun(p:List Key × V) (q:List Key × Addr × Value)=>p.1=q.1/\H q.2.1=some (.tup (p.1.map kV))/\RelV p.2 q.2.2) kvs xs ∧
   ∃o es ep,h.get? a=some o/\o.ExactDict/\o.data=.dict es ep/\es.toList=xs.map (entryOfKey (tupleKind (tF P w)))/\(xs.map (·.1)).Nodup
 | .set S n=>h.SetOf (intKind P w) a S n
 | .ins C dx fs=>H dx=some (.own a)/\fs.length<=1000/\dx≠a/\h.get? a=some (PySem.W.instObj C dx) ∧
   ∃mA,h.Ns1 dx mA/\(∀f,HA (fs.lookup f) (mA f))/\PySem.Within mA (fs.map (·.1))
 | .own _=>∃o,h.get? a=some o
 | .xd fs=>∃mA,h.Ns1 a mA/\∀f,HA (fs.lookup f) (mA f)
 | .rng lo hi=>∃t u v,h.get? a=some { cls:=.type "range", data:=.fields #[.int lo t,.int hi u,.int 1 v] }
 | .frz o u=>h.get? a=some o/\cF H h a u
 | .tbl ps=>h.get? a=some { cls:=.none,data:=.fields ps }
 | .met f x=>h.get? a=some (PySem.W.methodObj (.ref f) (.ref x))
 | .ext φ=>φ h/\(∃o,h.get? a=some o)/\∀h1 h2:Heap,φ h1->(∀o,h1.get? a=some o->h2.get? a=some o)->φ h2
noncomputable def HOk (H:Hp) (h:Heap):Prop:=∀a o,H a=some o->cF P w H h a o
end
section
variable {P:Program} {w:World} {H H':Hp} {h h':Heap} {a:Addr} {o:HO}
theorem cF.lt (x:cF P w H h a o):a<h.objs.size:=by
 cases o with
 | lst xs=>obtain⟨_,_,_,_,e⟩:=x;exact Heap.lt_size e
 | tup xs=>obtain⟨_,_,_,_,e,_⟩:=x;exact Heap.lt_size e
 | dK kvs=>obtain⟨_,_,_,_,o,_,_,e,_⟩:=x;exact Heap.lt_size e
 | dT kvs=>obtain⟨_,_,_,_,o,_,_,e,_⟩:=x;exact Heap.lt_size e
 | set S n=>obtain⟨o,_,_,_,e,_⟩:=x;exact Heap.lt_size e
 | ins C dx fs=>obtain⟨_,_,_,e,_⟩:=x;exact Heap.lt_size e
 | own y=>obtain⟨_,e⟩:=x;exact Heap.lt_size e
 | xd fs=>obtain⟨_,⟨_,_,_,e,_⟩,_⟩:=x;exact Heap.lt_size e
 | rng lo hi=>obtain⟨_,_,_,e⟩:=x;exact Heap.lt_size e
 | frz ob u=>obtain⟨e,_⟩:=x;exact Heap.lt_size e
 | tbl ps=>exact Heap.lt_size (show h.get? a=some _ from x)
 | met f y=>exact Heap.lt_size (show h.get? a=some _ from x)
 | ext φ=>obtain⟨_,⟨_,e⟩,_⟩:=x;exact Heap.lt_size e
theorem Paired.sH {α β:Type} {F G:α->β->Prop}:∀{l₁:List α} {l₂:List β},Paired F l₁ l₂->(∀a b,F a b->G a b)->Paired G l₁ l₂
 | _,_,.nil,_=>.nil
 | _,_,.cons r t,f=>.cons (f _ _ r) (Paired.sH t f)
theorem cF.kr (x:cF P w H h a o) (k:∀b u,(b=a\/H b=some (.own a))->h.get? b=some u->h'.get? b=some u)
  (ho:∀b,H b=some (.own a)->H' b=some (.own a)) (ht:∀b xs,H b=some (.tup xs)->H' b=some (.tup xs)):cF P w H' h' a o:=by
 induction o with
 | lst xs=>obtain⟨z,its,n,r,e⟩:=x;exact⟨z,its,n,r,k _ _ (.inl rfl) e⟩
 | tup xs=>obtain⟨z,its,r,ob,e,c⟩:=x;exact⟨z,its,r,ob,k _ _ (.inl rfl) e,c⟩
 | dK kvs=>obtain⟨z,y,vs,r,ob,es,ep,e,c⟩:=x;exact⟨z,y,vs,r,ob,es,ep,k _ _ (.inl rfl) e,c⟩
 | dT kvs=>
  obtain⟨z,y,xs,r,ob,es,ep,e,c⟩:=x
  exact⟨z,y,xs,Paired.sH r fun p q z=>⟨z.1,ht _ _ z.2.1,z.2.2⟩,ob,es,ep,k _ _ (.inl rfl) e,c⟩
 | set S n=>obtain⟨ob,es,ep,t,e,c⟩:=x;exact⟨ob,es,ep,t,k _ _ (.inl rfl) e,c⟩
 | ins C dx fs=>
  obtain⟨d,z,ne,e,mA,⟨od,es,ep,e2,c⟩,r⟩:=x
  exact⟨ho _ d,z,ne,k _ _ (.inl rfl) e,mA,⟨od,es,ep,k _ _ (.inr d) e2,c⟩,r⟩
 | own y=>obtain⟨ob,e⟩:=x;exact⟨ob,k _ _ (.inl rfl) e⟩
 | xd fs=>obtain⟨mA,⟨od,es,ep,e,c⟩,r⟩:=x;exact⟨mA,⟨od,es,ep,k _ _ (.inl rfl) e,c⟩,r⟩
 | rng lo hi=>obtain⟨t,u,v,e⟩:=x;exact⟨t,u,v,k _ _ (.inl rfl) e⟩
 | frz ob u ih=>obtain⟨e,q⟩:=x;exact⟨k _ _ (.inl rfl) e,ih q⟩
 | tbl ps=>
  have e:h.get? a=some { cls:=.none,data:=.fields ps }:=x
  show h'.get? a=some { cls:=.none,data:=.fields ps }
  exact k a _ (.inl rfl) e
 | met f y=>
  have e:h.get? a=some (PySem.W.methodObj (.ref f) (.ref y)):=x
  show h'.get? a=some (PySem.W.methodObj (.ref f) (.ref y))
  exact k a _ (.inl rfl) e
 | ext φ=>obtain⟨p,⟨o,e⟩,st⟩:=x;exact⟨st _ _ p fun o q=>k _ _ (.inl rfl) q,⟨o,k _ _ (.inl rfl) e⟩,st⟩
theorem HOk.lt (x:HOk P w H h) (e:H a=some o):a<h.objs.size:=(x a o e).lt
theorem HOk.fresh (x:HOk P w H h) (e:h.objs.size<=a):H a=none:=by
 cases q:H a with
 | none=>rfl
 | some u=>exact absurd (Nat.lt_of_lt_of_le (x.lt q) e) (Nat.lt_irrefl _)
theorem HOk.kept (x:HOk P w H h) (k:∀b u,h.get? b=some u->h'.get? b=some u):HOk P w H h':=fun a o e=>
 (x a o e).kr (fun b u _ q=>k b u q) (fun _ q=>q) fun _ _ q=>q
theorem HOk.laid (x:HOk P w H h) (k:∀b u,h.get? b=some u->h'.get? b=some u) (hp:h.objs.size<=a) (new:cF P w (upd H a o) h' a o):HOk P w (upd H a o) h':=fun b u e=>by
 have hn:=x.fresh hp
 by_cases hb:b=a
 ·subst hb;rw[aZ] at e;cases e;exact new
 ·rw[aD hb] at e
  exact(x b u e).kr (fun c v _ q=>k c v q) (fun c q=>by rw[aD (aP q hn)];exact q) fun c xs q=>by rw[aD (aP q hn)];exact q
end
noncomputable def Rd (H:Hp) (a:Addr) (u:HO):Prop:=H a=some u\/∃o,H a=some (.frz o u)
theorem Rd.ok {P:Program} {w:World} {H:Hp} {h:Heap} {a:Addr} {u:HO} (r:Rd H a u) (x:HOk P w H h):cF P w H h a u:=by
 rcases r with r | ⟨o,r⟩
 ·exact x a u r
 ·obtain⟨_,q⟩:=x a _ r
  exact q
noncomputable def Mut:Option HO->Prop
 | some (.lst _)=>True
 | some (.dK _)=>True
 | some (.dT _)=>True
 | some (.set _ _)=>True
 | some (.ins _ _ _)=>True
 | some (.ext _)=>True
 | _=>False
section
variable {P:Program} {w:World} {H:Hp} {h h':Heap} {x e:Addr} {o':HO}
theorem HOk.write (ok:HOk P w H h) (mu:Mut (H x)) (he:e=x\/H e=some (.own x)) (k:∀b u,b≠e->h.get? b=some u->h'.get? b=some u) (heo:∃u,h'.get? e=some u)
  (new:cF P w (upd H x o') h' x o'):HOk P w (upd H x o') h':=fun b u q=>by
 have nown:∀c y,H c=some (.own y)->c≠x:=fun c y r z=>by subst z;rw[r] at mu;exact mu
 have ntup:∀c xs,H c=some (.tup xs)->c≠x:=fun c xs r z=>by subst z;rw[r] at mu;exact mu
 by_cases hb:b=x
 ·subst hb;rw[aZ] at q;cases q;exact new
 ·rw[aD hb] at q
  by_cases hbe:b=e
  ·have q':H b=some (.own x):=by
    rcases he with z | z
    ·exact absurd (hbe.trans z) hb
    ·rw[hbe];exact z
   rw[q] at q';cases q'
   obtain⟨v,hv⟩:=heo
   exact⟨v,by rw[hbe];exact hv⟩
  ·refine(ok b u q).kr (fun c v hc r=>k c v ?_ r) (fun c r=>by rw[aD (nown c b r)];exact r) fun c xs r=>by rw[aD (ntup c xs r)];exact r
   rcases hc with rfl | hc
   ·exact hbe
   ·rintro rfl
    rcases he with z | z
    ·exact nown c b hc z
    ·rw[hc] at z;cases z;exact hb rfl
end
structure Un (fs ex:List Addr) (H H':Hp) (h h':Heap):Prop where
 keep:∀b o,h.get? b=some o->H b=none->b∉fs->b∉ex->h'.get? b=some o
 slot:∀b o,h.get? b=some o->H b=none->b∈fs->b∉ex->∃sl,h'.get? b=some { o with slots:=sl }
 free:∀b o,h.get? b=some o->H b=none->b∉ex->H' b=none
 there:∀b o,h.get? b=some o->b∉ex->∃o',h'.get? b=some o'
 mM:∀b xs,H b=some (.tup xs)->H' b=some (.tup xs)
 lK:∀b o u,H b=some (.frz o u)->H' b=some (.frz o u)
 m8:∀b ps,H b=some (.tbl ps)->∃more,H' b=some (.tbl (ps++more))
section
variable {fs fs' ex ex':List Addr} {H H1 H2:Hp} {h h1 h2 h':Heap} {a x e:Addr} {o:HO}
theorem Un.any (u:Un fs ex H H1 h h1) {b:Addr} {ob:Obj} (q:h.get? b=some ob) (n:H b=none) (hx:b∉ex):∃sl,h1.get? b=some { ob with slots:=sl }:=by
 by_cases hb:b∈fs
 ·exact u.slot b ob q n hb hx
 ·exact⟨ob.slots,u.keep b ob q n hb hx⟩
theorem Un.kept (k:∀b u,h.get? b=some u->h'.get? b=some u):Un fs ex H H h h':=
 ⟨fun b ob q _ _ _=>k b ob q,fun b ob q _ _ _=>⟨ob.slots,k b ob q⟩,fun _ _ _ n _=>n,fun b ob q _=>⟨ob,k b ob q⟩,fun _ _ q=>q,fun _ _ _ q=>q,fun _ ps q=>⟨#[],by rw[q];simp⟩⟩
theorem Un.refl:Un fs ex H H h h:=Un.kept fun _ _ q=>q
theorem Un.laid (k:∀b u,h.get? b=some u->h'.get? b=some u) (hp:h.objs.size<=a) (hn:H a=none):Un fs ex H (upd H a o) h h' where
 keep:=fun b u q _ _ _=>k b u q
 slot:=fun b u q _ _ _=>⟨u.slots,k b u q⟩
 free:=fun b u q n _=>by rw[aD (Nat.ne_of_lt (Nat.lt_of_lt_of_le (Heap.lt_size q) hp))];exact n
 there:=fun b u q _=>⟨u,k b u q⟩
 mM:=fun b xs q=>by rw[aD (aP q hn)];exact q
 lK:=fun b u xs q=>by rw[aD (aP q hn)];exact q
 m8:=fun b ps q=>⟨#[],by rw[aD (aP q hn),q];simp⟩
theorem Un.write (mu:Mut (H x)) (he:e=x\/H e=some (.own x)) (k:∀b u,b≠e->h.get? b=some u->h'.get? b=some u) (heo:∃u,h'.get? e=some u):Un fs ex H (upd H x o) h h':=by
 have hx:∀b,H b=none->b≠x:=fun b n z=>by subst z;rw[n] at mu;exact mu
 have hb:∀b,H b=none->b≠e:=fun b n z=>by
  subst z
  rcases he with r | r
  ·exact hx b n r
  ·rw[n] at r;cases r
 have hm:∀b u,H b=some u->¬ Mut (some u)->b≠x:=fun b u q nm z=>by subst z;rw[q] at mu;exact nm mu
 refine⟨fun b u q n _ _=>k b u (hb b n) q,fun b u q n _ _=>⟨u.slots,k b u (hb b n) q⟩,fun b u q n _=>by rw[aD (hx b n)];exact n,fun b u q _=>?_,
  fun b xs q=>by rw[aD (hm b _ q fun z=>z)];exact q,fun b u xs q=>by rw[aD (hm b _ q fun z=>z)];exact q,fun b ps q=>⟨#[],by rw[aD (hm b _ q fun z=>z),q];simp⟩⟩
 by_cases hbe:b=e
 ·subst hbe;exact heo
 ·exact⟨u,k b u hbe q⟩
end
noncomputable def trk (h:Heap) (H:Hp):List Addr:=(List.range h.objs.size).filter fun a=>(H a).isSome
noncomputable def qr (h:Heap) (H:Hp):Heap:=PySem.W.hideAll h (trk h H)
theorem Ac (h:Heap) (H:Hp):(qr h H).objs.size=h.objs.size:=PySem.W.hideAll_size _ _
theorem C5 {h:Heap} {H:Hp} {b:Addr} {o:Obj} (e:h.get? b=some o) (n:H b=none):(qr h H).get? b=some o:=
 PySem.W.hideAll_get _ e fun hm=>by
  have q:(H b).isSome=true:=(List.mem_filter.mp hm).2
  rw[n] at q;simp at q
theorem Ec {h:Heap} {H:Hp} {b:Addr} {o:Obj} (e:(qr h H).get? b=some o):h.get? b=some o/\H b=none:=by
 have e':h.get? b=some o:=PySem.W.of_hideAll (trk h H) e
 refine⟨e',?_⟩
 cases q:H b with
 | none=>rfl
 | some x=>
  have hm:b∈trk h H:=List.mem_filter.mpr ⟨List.mem_range.mpr (Heap.lt_size e'),by simp[q]⟩
  have z:(qr h H).get? b=none:=PySem.W.hideAll_none (trk h H) hm
  rw[z] at e;cases e
structure Mod (K:PySem.W.Frag) (mg:Str->Option Value) (base:Heap):Prop where
 kin:K.In base
 glob:base.Ns mainGlobals mg
 blt:∃mb,base.Ns builtinsNs mb/\∀x:Str,x≠"__name__" -> mb x=bootBuiltins x
 nolimit:base.NoLimit
structure Cx where
 prog:Program
 w:World
 K:PySem.W.Frag
 mg:Str->Option Value
 base:Heap
 A:Around
 N:List Str
 aF:Shared
 aL:Hp
 env:Env
 outer:List Env
 stack:List Env
 ex:List Addr
 fn:Str->Bool
 calm:Bool
 pn:List (Addr × Obj)
 xe:Value->Shared->Prop
noncomputable def frs (l:List Env):List Addr:=l.filterMap (·.frame)
noncomputable abbrev Cx.fs (X:Cx):List Addr:=frs X.outer
noncomputable def Vis (sc:Scope) (x:Str):Prop:=sc.names.lookup x=some .local\/sc.names.lookup x=some .cell\/sc.names.lookup x=some .free
noncomputable def Loc (sc:Scope) (x:Str):Prop:=sc.names.lookup x=some .local\/sc.names.lookup x=some .cell
noncomputable def Look (env:Env) (h:Heap) (m:Str->Option Value) (x:Str) (u:Value):Prop:=
 (env.kindOf x=some .local/\m x=some u)\/((env.kindOf x=some .cell\/env.kindOf x=some .free)/\∃c,env.cells.lookup x=some c/\h.IsCell c (some u))
structure Cx.Ok (X:Cx):Prop where
 mod:Mod X.K X.mg X.base
 kind:X.env.scope.kind=.function
 glob:X.env.globals=mainGlobals
 blt:X.env.builtins=builtinsNs
 above:X.aF.heap.objs.size<=X.env.locals
 inj:∀x y c,X.env.cells.lookup x=some c->X.env.cells.lookup y=some c->x=y
 has:∀x,(X.env.kindOf x=some .cell\/X.env.kindOf x=some .free)->∃c,X.env.cells.lookup x=some c
 cab:∀x c,X.fn x=true->X.env.cells.lookup x=some c->X.aF.heap.objs.size<=c
 hd:X.calm=true->X.A.handled=none
 frames:X.A.frames=some X.stack
 stk:X.stack=X.outer\/(X.stack=X.env::X.outer/\X.env.frame=some X.env.locals)
 exf:∀b∈X.ex,b≠X.env.locals/\∀x c,X.env.cells.lookup x=some c->c≠b
 bs:∀b o,X.base.get? b=some o->X.aF.heap.get? b=some o/\X.aL b=none
 bsz:X.base.objs.size<=X.aF.heap.objs.size
 qA:∀b o,X.base.get? b=some o->b∉X.ex
 vj:∀b∈X.ex,b∉X.fs
 jQ:X.aF.heap.FunFrames X.base X.outer
 frf:∀b∈X.fs,X.aL b=none
structure Inv (X:Cx) (pins:List (Addr × Obj)) (σ:List (Option V)) (H:Hp) (s:Shared):Prop where
 ok:X.Ok
 os:s.os=X.aF.os
 bare:AllBare s.gens
 base:Un X.fs X.ex X.aL H X.aF.heap s.heap
 loc:∃m,s.heap.Ns X.env.locals m/\∀(i:Nat) (x:Str) (v:V),X.N[i]?=some x->σ[i]?=some (some v)->Vis X.env.scope x->∃u,RelV v u/\Look X.env s.heap m x u
 cell:∀x c,X.env.cells.lookup x=some c->∃v,s.heap.IsCell c v
 free:H X.env.locals=none
 dR:∀x c,X.env.cells.lookup x=some c->H c=none
 pin:∀p∈X.pn++pins,s.heap.get? p.1=some p.2/\H p.1=none/\p.1≠X.env.locals/\p.1∉X.fs/\∀v,p.2.data≠.cell v
 hok:HOk X.prog X.w H s.heap
 len:σ.length=X.N.length
section
variable {X:Cx} {pins:List (Addr × Obj)} {σ:List (Option V)} {H H':Hp} {s:Shared} {h':Heap}
theorem Cx.Ok.La (ok:X.Ok) {b:Addr} {o:Obj} (e:X.base.get? b=some o):b∉X.fs:=fun hb=>by
 have:=(ok.jQ.mem hb).1
 rw[e] at this;cases this
theorem Inv.bs (I:Inv X pins σ H s):∀b o,X.base.get? b=some o->s.heap.get? b=some o/\H b=none:=fun b o e=>
 ⟨I.base.keep b o (I.ok.bs b o e).1 (I.ok.bs b o e).2 (I.ok.La e) (I.ok.qA b o e),I.base.free b o (I.ok.bs b o e).1 (I.ok.bs b o e).2 (I.ok.qA b o e)⟩
theorem Inv.bk (I:Inv X pins σ H s):∀b o,X.base.get? b=some o->s.heap.get? b=some o:=fun b o e=>(I.bs b o e).1
theorem Inv.mod (I:Inv X pins σ H s):Mod X.K X.mg X.base:=I.ok.mod
theorem Inv.kIn (I:Inv X pins σ H s):X.K.In s.heap:=I.ok.mod.kin.keeps I.bk
theorem Inv.lt (I:Inv X pins σ H s):X.env.locals<s.heap.objs.size:=let ⟨_,hn,_⟩:=I.loc;hn.lt
theorem Inv.sz (I:Inv X pins σ H s):X.aF.heap.objs.size<=s.heap.objs.size:=Nat.le_trans I.ok.above (Nat.le_of_lt I.lt)
theorem Inv.HI (I:Inv X pins σ H s) {a:Addr} (h:s.heap.objs.size<=a):a∉X.fs:=fun hb=>by
 obtain⟨_,o,ho,_⟩:=I.ok.jQ.mem hb
 exact absurd (Nat.lt_of_lt_of_le (Heap.lt_size ho) (Nat.le_trans I.sz h)) (Nat.lt_irrefl _)
theorem Inv.cne (I:Inv X pins σ H s):∀x c,X.env.cells.lookup x=some c->c≠X.env.locals:=fun x c e z=>by
 obtain⟨v,o,ho,hd⟩:=I.cell x c e
 obtain⟨m,⟨o',es,ep,ho',hd',_⟩,_⟩:=I.loc
 rw[z,ho'] at ho;cases ho;rw[hd'] at hd;cases hd
theorem Inv.jQ (I:Inv X pins σ H s):s.heap.FunFrames X.base X.outer:=by
 have all:∀(l:List Env),(∀b∈frs l,b∈X.fs)->X.aF.heap.FunFrames X.base l->s.heap.FunFrames X.base l:=by
  intro l
  induction l with
  | nil=>intro _ _;trivial
  | cons env r ih=>
   intro hs hl
   obtain⟨hk,⟨L,o,hf,hn,ho,hd⟩,hr⟩:=hl
   have hL:L∈X.fs:=hs L (by unfold frs;rw[List.filterMap_cons,hf];exact List.mem_cons_self)
   obtain⟨sl,e⟩:=I.base.slot L o ho (I.ok.frf L hL) hL fun z=>I.ok.vj L z hL
   exact⟨hk,⟨L,_,hf,hn,e,hd⟩,ih (fun b hb=>hs b (by unfold frs;rw[List.filterMap_cons,hf];exact List.mem_cons_of_mem _ hb)) hr⟩
 exact all X.outer (fun _ hb=>hb) I.ok.jQ
theorem Inv.stack (I:Inv X pins σ H s):s.heap.FunFrames X.base X.stack:=by
 rcases I.ok.stk with e | ⟨e,hf⟩
 ·rw[e];exact I.jQ
 ·rw[e]
  obtain⟨m,hn,_⟩:=I.loc
  refine .cons (by rw[I.ok.kind];decide) hf hn ?_ I.jQ
  exact Heap.get?_none_of_le (Nat.le_trans I.ok.bsz I.ok.above)
theorem Inv.gQ (I:Inv X pins σ H s):∀b∈frs X.stack,b∈X.env.locals::X.fs:=fun b hb=>by
 rcases I.ok.stk with e | ⟨e,hf⟩
 ·rw[e] at hb;exact List.mem_cons_of_mem _ hb
 ·rw[e] at hb
  unfold frs at hb
  rw[List.filterMap_cons,hf] at hb
  exact hb
theorem Inv.oH (I:Inv X pins σ H s):∀b∈frs X.stack,H b=none:=fun b hb=>by
 rcases List.mem_cons.mp (I.gQ b hb) with e | hb
 ·rw[e];exact I.free
 ·obtain⟨_,o,ho,_⟩:=I.ok.jQ.mem hb
  exact I.base.free b o ho (I.ok.frf b hb) fun z=>I.ok.vj b z hb
theorem Inv.step {g':Array GenState} {t':Nat} {d':Drawn} {ch:List Addr} (I:Inv X pins σ H s)
  (hch:∀b∈ch,(b∈X.ex\/X.aF.heap.objs.size<=b)/\b≠X.env.locals/\(∀x c,X.env.cells.lookup x=some c->c≠b)/\∀p∈X.pn++pins,p.1≠b)
  (keep:∀b o,b≠X.env.locals->b∉X.fs->b∉ch->s.heap.get? b=some o->H b=none->h'.get? b=some o)
  (slot:∀b o,b≠X.env.locals->b∈X.fs->b∉ch->s.heap.get? b=some o->H b=none->∃sl,h'.get? b=some { o with slots:=sl }) (free:∀b o,b∉ch->s.heap.get? b=some o->H b=none->H' b=none)
  (there:∀b o,b∉ch->s.heap.get? b=some o->∃o',h'.get? b=some o')
  (mM:∀b xs,H b=some (.tup xs)->H' b=some (.tup xs)) (lK:∀b o u,H b=some (.frz o u)->H' b=some (.frz o u)) (m8:∀b ps,H b=some (.tbl ps)->∃more,H' b=some (.tbl (ps++more)))
  (ns:∀m,s.heap.Ns X.env.locals m->h'.Ns X.env.locals m) (hok:HOk X.prog X.w H' h') (hg:AllBare g') :
  Inv X pins σ H' { s with heap:=h',gens:=g',drawn:=d',toks:=t' }:=by
 have neL:∀b o,X.aF.heap.get? b=some o->b≠X.env.locals:=fun b o e=>Nat.ne_of_lt (Nat.lt_of_lt_of_le (Heap.lt_size e) I.ok.above)
 have neC:∀b o,X.aF.heap.get? b=some o->b∉X.ex->b∉ch:=fun b o e hx hb=>by
  rcases(hch b hb).1 with z | z
  ·exact hx z
  ·exact absurd (Nat.lt_of_lt_of_le (Heap.lt_size e) z) (Nat.lt_irrefl _)
 have cellK:∀x c,X.env.cells.lookup x=some c->∀v,s.heap.IsCell c v->h'.IsCell c v:=fun x c e v ⟨o,ho,hd⟩=>by
  have nch:c∉ch:=fun z=>(hch c z).2.2.1 x c e rfl
  by_cases hc:c∈X.fs
  ·obtain⟨sl,q⟩:=slot c o (I.cne x c e) hc nch ho (I.dR x c e)
   exact⟨_,q,hd⟩
  ·exact⟨o,keep c o (I.cne x c e) hc nch ho (I.dR x c e),hd⟩
 refine⟨I.ok,I.os,hg,⟨fun b o e n hb hx=>?_,fun b o e n hb hx=>?_,fun b o e n hx=>?_,fun b o e hx=>?_,fun b xs e=>mM b xs (I.base.mM b xs e),fun b o xs e=>lK b o xs (I.base.lK b o xs e),fun b ps e=>?_⟩,?_,fun x c e=>?_,?_,fun x c e=>?_,fun p hp=>?_,hok,I.len⟩
 ·exact keep b o (neL b o e) hb (neC b o e hx) (I.base.keep b o e n hb hx) (I.base.free b o e n hx)
 ·obtain⟨sl,e1⟩:=I.base.slot b o e n hb hx
  obtain⟨sl',e2⟩:=slot b _ (neL b o e) hb (neC b o e hx) e1 (I.base.free b o e n hx)
  exact⟨sl',e2⟩
 ·obtain⟨o',e1⟩:=I.base.there b o e hx
  exact free b o' (neC b o e hx) e1 (I.base.free b o e n hx)
 ·obtain⟨o',e1⟩:=I.base.there b o e hx
  exact there b o' (neC b o e hx) e1
 ·obtain⟨m1,e1⟩:=I.base.m8 b ps e
  obtain⟨m2,e2⟩:=m8 b _ e1
  exact⟨m1++m2,by rw[e2,Array.append_assoc]⟩
 ·obtain⟨m,hn,hl⟩:=I.loc
  refine⟨m,ns m hn,fun i x v e1 e2 e3=>?_⟩
  obtain⟨u,r,l⟩:=hl i x v e1 e2 e3
  refine⟨u,r,?_⟩
  rcases l with l | ⟨k,c,e,z⟩
  ·exact .inl l
  ·exact .inr ⟨k,c,e,cellK x c e _ z⟩
 ·obtain⟨v,z⟩:=I.cell x c e
  exact⟨v,cellK x c e v z⟩
 ·obtain⟨m,⟨o,_,_,ho,_⟩,_⟩:=I.loc
  exact free _ o (fun z=>(hch _ z).2.1 rfl) ho I.free
 ·obtain⟨v,o,ho,hd⟩:=I.cell x c e
  exact free c o (fun z=>(hch c z).2.2.1 x c e rfl) ho (I.dR x c e)
 ·obtain⟨e,n,ne,nf,d⟩:=I.pin p hp
  have nch:p.1∉ch:=fun z=>(hch p.1 z).2.2.2 p hp rfl
  exact⟨keep p.1 p.2 ne nf nch e n,free p.1 p.2 nch e n,ne,nf,d⟩
theorem Inv.un {t':Nat} (I:Inv X pins σ H s) (u:Un X.fs [] H H' s.heap h') (hok:HOk X.prog X.w H' h'):Inv X pins σ H' { s with heap:=h',toks:=t' }:=by
 obtain⟨m,⟨o,es,ep,ho,r⟩,_⟩:=id I.loc
 obtain⟨sl,hL⟩:=u.any ho I.free (by simp)
 exact I.step (g':=s.gens) (d':=s.drawn) (ch:=[]) (fun _ z=>nomatch z) (fun b o _ hb _ e n=>u.keep b o e n hb (by simp)) (fun b o _ hb _ e n=>u.slot b o e n hb (by simp)) (fun b o _ e n=>u.free b o e n (by simp)) (fun b o _ e=>u.there b o e (by simp)) u.mM u.lK u.m8 (fun m' hm=>by
  obtain⟨o',es',ep',ho',r'⟩:=hm
  rw[ho] at ho';cases ho'
  exact⟨_,es',ep',hL,r'⟩) hok I.bare
theorem Inv.call {g':Array GenState} {t':Nat} {d':Drawn} {ch:List Addr} (I:Inv X pins σ H s) (u:Un (frs X.stack) ch H H' s.heap h') (hok:HOk X.prog X.w H' h') (hg:AllBare g')
  (hch:∀b∈ch,(b∈X.ex\/X.aF.heap.objs.size<=b)/\b≠X.env.locals/\(∀x c,X.env.cells.lookup x=some c->c≠b)/\∀p∈X.pn++pins,p.1≠b) :
  Inv X pins σ H' { s with heap:=h',gens:=g',drawn:=d',toks:=t' }:=by
 obtain⟨m,⟨o,es,ep,ho,r⟩,_⟩:=id I.loc
 obtain⟨sl,hL⟩:=u.any ho I.free fun z=>(hch _ z).2.1 rfl
 exact I.step (ch:=ch) hch (fun b o hL hb hc e n=>u.keep b o e n (fun z=>(List.mem_cons.mp (I.gQ b z)).elim hL hb) hc) (fun b o _ _ hc e n=>u.any e n hc) (fun b o hc e n=>u.free b o e n hc) (fun b o hc e=>u.there b o e hc) u.mM u.lK u.m8 (fun m' hm=>by
  obtain⟨o',es',ep',ho',r'⟩:=hm
  rw[ho] at ho';cases ho'
  exact⟨_,es',ep',hL,r'⟩) hok hg
theorem Inv.turned {t':Nat} {it:Addr} (I:Inv X pins σ H s) (k:∀b o,b≠it->s.heap.get? b=some o->h'.get? b=some o) (hn:H it=none) (hL:it≠X.env.locals)
  (h1:it∈X.ex\/X.aF.heap.objs.size<=it) (h2:∀x c,X.env.cells.lookup x=some c->c≠it) (h3:∀p∈X.pn++pins,p.1≠it):Inv X pins σ H { s with heap:=h',toks:=t' }:=by
 have nit:∀b u,H b=some u->b≠it:=fun b u e z=>by rw[z,hn] at e;cases e
 refine I.step (g':=s.gens) (d':=s.drawn) (ch:=[it]) (fun b hb=>?_) (fun b o _ _ hc e _=>k b o (fun z=>hc (by simp[z])) e) (fun b o _ _ hc e _=>⟨o.slots,k b o (fun z=>hc (by simp[z])) e⟩) (fun _ _ _ _ n=>n)
  (fun b o hc e=>⟨o,k b o (fun z=>hc (by simp[z])) e⟩) (fun _ _ e=>e) (fun _ _ _ e=>e) (fun b ps e=>⟨#[],by rw[e];simp⟩) (fun m hm=>?_) (fun b u e=>?_) I.bare
 ·have e:b=it:=by simpa using hb
  subst e
  exact⟨h1,hL,h2,h3⟩
 ·obtain⟨o,es,ep,ho,r⟩:=hm
  exact⟨o,es,ep,k _ o (Ne.symm hL) ho,r⟩
 ·refine(I.hok b u e).kr (fun c v hc q=>k c v ?_ q) (fun _ q=>q) fun _ _ q=>q
  rcases hc with z | z
  ·rw[z];exact nit b u e
  ·exact nit c _ z
theorem Inv.tok (I:Inv X pins σ H s) (t:Nat):Inv X pins σ H { s with toks:=t }:=I.un (h':=s.heap) (t':=t) Un.refl I.hok
theorem Inv.kept {t':Nat} (I:Inv X pins σ H s) (k:∀b u,s.heap.get? b=some u->h'.get? b=some u):Inv X pins σ H { s with heap:=h',toks:=t' }:=I.un (Un.kept k) (I.hok.kept k)
theorem Inv.laid {a:Addr} {o:HO} {t':Nat} (I:Inv X pins σ H s) (k:∀b u,s.heap.get? b=some u->h'.get? b=some u) (hp:s.heap.objs.size<=a) (new:cF X.prog X.w (upd H a o) h' a o) :
  Inv X pins σ (upd H a o) { s with heap:=h',toks:=t' }:=I.un (Un.laid k hp (I.hok.fresh hp)) (I.hok.laid k hp new)
theorem Inv.write {x e:Addr} {o:HO} {t':Nat} (I:Inv X pins σ H s) (mu:Mut (H x)) (he:e=x\/H e=some (.own x)) (k:∀b u,b≠e->s.heap.get? b=some u->h'.get? b=some u) (heo:∃u,h'.get? e=some u)
  (new:cF X.prog X.w (upd H x o) h' x o):Inv X pins σ (upd H x o) { s with heap:=h',toks:=t' }:=I.un (Un.write mu he k heo) (I.hok.write mu he k heo new)
theorem Inv.lM {pins':List (Addr × Obj)} (I:Inv X pins σ H s) (h:∀p∈pins',s.heap.get? p.1=some p.2/\H p.1=none/\p.1≠X.env.locals/\p.1∉X.fs/\∀v,p.2.data≠.cell v):Inv X pins' σ H s:=
 ⟨I.ok,I.os,I.bare,I.base,I.loc,I.cell,I.free,I.dR,fun p hp=>(List.mem_append.mp hp).elim (fun z=>I.pin p (List.mem_append_left _ z)) (h p),I.hok,I.len⟩
theorem vV {N:List Str} (hN:N.Nodup) {i j:Nat} {x:Str} (a:N[i]?=some x) (b:N[j]?=some x):i=j:=by
 obtain⟨h1,e1⟩:=List.getElem?_eq_some_iff.mp a
 obtain⟨h2,e2⟩:=List.getElem?_eq_some_iff.mp b
 exact(List.getElem_inj hN).mp (e1.trans e2.symm)
theorem Az {M:Model} {A:Around} {E:Value->Shared->Prop} {i:Nat} {x:Str} {v:V} {u:Value} {Q:Unit->Shared->Prop} (I:Inv X pins σ H s) (hN:X.N.Nodup) (hi:X.N[i]?=some x) (hx:Loc X.env.scope x) (r:RelV v u)
  (h:∀s',Inv X pins (σ.set i (some v)) H s'->(∃a,Heap.SameBut a s.heap s'.heap/\(a=X.env.locals\/X.env.cells.lookup x=some a))->Q () s') (hf:X.fn x=true\/X.env.scope.names.lookup x=some .local:=by first | exact .inl rfl | exact .inr rfl | assumption):wpAny M A (storeName X.env x u) Q E s:=by
 obtain⟨m,hn,hl⟩:=id I.loc
 have hcls:(X.env.scope.kind == .class || (X.env.scope.kind == .module&&X.env.locals != X.env.globals))=false:=by rw[I.ok.kind];rfl
 have hiσ:i<σ.length:=by rw[I.len];exact(List.getElem?_eq_some_iff.mp hi).1
 have cne:=I.cne
 have tracked:∀{a:Addr} {h':Heap},(∃o,s.heap.get? a=some o/\H a=none)->Heap.SameBut a s.heap h'->HOk X.prog X.w H h':=fun{a h'} ha hs b ob e=>by
  obtain⟨_,_,hfree⟩:=ha
  refine(I.hok b ob e).kr (fun c w' hc q=>(hs.2 c ?_).trans q) (fun _ q=>q) fun _ _ q=>q
  rintro rfl
  rcases hc with rfl | hc
  ·rw[hfree] at e;cases e
  ·rw[hfree] at hc;cases hc
 rcases hx with hk | hk
 ·refine wpAny_storeName_local hk hn (fun h' hn' hs=>?_) hcls
  obtain⟨oL,_,_,hoL,_⟩:=id hn
  refine h _ ⟨I.ok,I.os,I.bare,⟨fun b o e n hb hx=>?_,fun b o e n hb hx=>?_,I.base.free,fun b o e hx=>?_,I.base.mM,I.base.lK,I.base.m8⟩,⟨_,hn',fun j y v' e1 e2 e3=>?_⟩,fun y c e=>?_,I.free,I.dR,fun p hp=>?_,tracked ⟨oL,hoL,I.free⟩ hs,by simpa using I.len⟩ ⟨_,hs,.inl rfl⟩
  ·exact(hs.2 b (Nat.ne_of_lt (Nat.lt_of_lt_of_le (Heap.lt_size e) I.ok.above))).trans (I.base.keep b o e n hb hx)
  ·obtain⟨sl,e1⟩:=I.base.slot b o e n hb hx
   exact⟨sl,(hs.2 b (Nat.ne_of_lt (Nat.lt_of_lt_of_le (Heap.lt_size e) I.ok.above))).trans e1⟩
  ·obtain⟨o',e1⟩:=I.base.there b o e hx
   exact⟨o',(hs.2 b (Nat.ne_of_lt (Nat.lt_of_lt_of_le (Heap.lt_size e) I.ok.above))).trans e1⟩
  ·by_cases hj:j=i
   ·subst hj
    rw[hi] at e1;cases e1
    rw[List.getElem?_set_self hiσ] at e2
    cases e2
    exact⟨u,r,.inl ⟨hk,by simp⟩⟩
   ·rw[List.getElem?_set_ne (Ne.symm hj)] at e2
    obtain⟨u',r',q⟩:=hl j y v' e1 e2 e3
    refine⟨u',r',?_⟩
    rcases q with⟨k,e⟩ | ⟨k,c,e,z⟩
    ·refine .inl ⟨k,?_⟩
     have:y≠x:=fun e=>hj (vV hN e1 (e ▸ hi))
     simp[this,e]
    ·exact .inr ⟨k,c,e,z.sameBut hs (cne y c e)⟩
  ·obtain⟨w',z⟩:=I.cell y c e
   exact⟨w',z.sameBut hs (cne y c e)⟩
  ·obtain⟨e,n,ne,nf,d⟩:=I.pin p hp
   exact⟨(hs.2 p.1 ne).trans e,n,ne,nf,d⟩
 ·have hfn:X.fn x=true:=by
   rcases hf with z | z
   ·exact z
   ·rw[z] at hk;cases hk
  obtain⟨c,hc⟩:=I.ok.has x (.inl hk)
  obtain⟨w',z⟩:=I.cell x c hc
  refine wpAny_storeName_cell I.ok.kind hk hc z (fun h' hc' hs=>?_)
  obtain⟨oc,hoc,hocd⟩:=id z
  refine h { s with heap:=h' } ⟨I.ok,I.os,I.bare,⟨fun b o e n hb hx=>?_,fun b o e n hb hx=>?_,I.base.free,fun b o e hx=>?_,I.base.mM,I.base.lK,I.base.m8⟩,⟨m,hn.sameBut hs (Ne.symm (cne x c hc)),fun j y v' e1 e2 e3=>?_⟩,fun y c' e=>?_,I.free,I.dR,fun p hp=>?_,tracked ⟨oc,hoc,I.dR x c hc⟩ hs,by simpa using I.len⟩ ⟨c,hs,.inr hc⟩
  ·exact(hs.2 b (Nat.ne_of_lt (Nat.lt_of_lt_of_le (Heap.lt_size e) (I.ok.cab x c hfn hc)))).trans (I.base.keep b o e n hb hx)
  ·obtain⟨sl,e1⟩:=I.base.slot b o e n hb hx
   exact⟨sl,(hs.2 b (Nat.ne_of_lt (Nat.lt_of_lt_of_le (Heap.lt_size e) (I.ok.cab x c hfn hc)))).trans e1⟩
  ·obtain⟨o',e1⟩:=I.base.there b o e hx
   exact⟨o',(hs.2 b (Nat.ne_of_lt (Nat.lt_of_lt_of_le (Heap.lt_size e) (I.ok.cab x c hfn hc)))).trans e1⟩
  ·by_cases hj:j=i
   ·subst hj
    rw[hi] at e1;cases e1
    rw[List.getElem?_set_self hiσ] at e2
    cases e2
    exact⟨u,r,.inr ⟨.inl hk,c,hc,hc'⟩⟩
   ·rw[List.getElem?_set_ne (Ne.symm hj)] at e2
    obtain⟨u',r',q⟩:=hl j y v' e1 e2 e3
    refine⟨u',r',?_⟩
    rcases q with q | ⟨k,c',e,z'⟩
    ·exact .inl q
    ·refine .inr ⟨k,c',e,z'.sameBut hs ?_⟩
     rintro rfl
     exact hj (vV hN e1 (I.ok.inj _ _ _ e hc ▸ hi))
  ·by_cases hcc:c'=c
   ·subst hcc;exact⟨_,hc'⟩
   ·obtain⟨w2,z2⟩:=I.cell y c' e
    exact⟨w2,z2.sameBut hs hcc⟩
  ·obtain⟨e,n,ne,nf,d⟩:=I.pin p hp
   refine⟨(hs.2 p.1 ?_).trans e,n,ne,nf,d⟩
   intro q
   rw[q,hoc] at e
   have q':oc=p.2:=Option.some.inj e
   exact d w' (by rw[<- q'];exact hocd)
theorem fJ {M:Model} {A:Around} {E:Value->Shared->Prop} {i:Nat} {x:Str} {v:V} {u:Value} {Q:Unit->Shared->Prop} (I:Inv X pins σ H s) (hN:X.N.Nodup) (hi:X.N[i]?=some x) (hx:Loc X.env.scope x) (r:RelV v u)
  (h:∀s',Inv X pins (σ.set i (some v)) H s'->Q () s') (hf:X.fn x=true\/X.env.scope.names.lookup x=some .local:=by first | exact .inl rfl | exact .inr rfl | assumption):wpAny M A (storeName X.env x u) Q E s:=
 Az I hN hi hx r (fun s' I' _=>h s' I') hf
theorem Inv.sy {s':Shared} {ch:List Addr} (I:Inv X pins σ H s) (ho:s'.os=s.os) (u:Un (frs X.stack) ch H H' s.heap s'.heap) (hok:HOk X.prog X.w H' s'.heap) (hg:AllBare s'.gens)
  (hch:∀b∈ch,(b∈X.ex\/X.aF.heap.objs.size<=b)/\b≠X.env.locals/\(∀x c,X.env.cells.lookup x=some c->c≠b)/\∀p∈X.pn++pins,p.1≠b):Inv X pins σ H' s':=by
 obtain⟨h',g',d',t',o'⟩:=s'
 have e:o'=s.os:=ho
 subst e
 exact I.call (g':=g') (t':=t') (d':=d') u hok hg hch
end
noncomputable abbrev XK:=Value->Option Addr->Hp->Prop
noncomputable abbrev St:=List (Option V)
noncomputable abbrev VK:=V->Hp->Prop
noncomputable abbrev TE:=St->Hp->VK->Prop
noncomputable abbrev TT:=St->Hp->(Bool->Hp->Prop)->Prop
noncomputable abbrev TA:=St->Hp->(List V->Hp->Prop)->Prop
structure Ends where
 nx:St->Hp->Prop
 rt:VK
 bk:St->Hp->Prop:=fun _ _=>False
 ct:St->Hp->Prop:=fun _ _=>False
noncomputable abbrev TS:=Ends->St->Hp->Prop
noncomputable def EP (X:Cx) (pins:List (Addr × Obj)) (σ:St) (Q:VK) (u:Value) (s':Shared):Prop:=∃v H',Inv X pins σ H' s'/\RelV v u/\Q v H'
noncomputable def TP (X:Cx) (pins:List (Addr × Obj)) (σ:St) (Q:Bool->Hp->Prop) (b:Bool) (s':Shared):Prop:=∃H',Inv X pins σ H' s'/\Q b H'
noncomputable def AP (X:Cx) (pins:List (Addr × Obj)) (σ:St) (Q:List V->Hp->Prop) (us:List Value) (s':Shared):Prop:=∃vs H',Inv X pins σ H' s'/\Vals vs us/\Q vs H'
noncomputable def SP (X:Cx) (pins:List (Addr × Obj)) (D:Ends) (f:Flow) (s':Shared):Prop:=
 match f with
 | .next=>∃σ' H',Inv X pins σ' H' s'/\D.nx σ' H'
 | .brk=>∃σ' H',Inv X pins σ' H' s'/\D.bk σ' H'
 | .cont=>∃σ' H',Inv X pins σ' H' s'/\D.ct σ' H'
 | .ret u=>∃v σ' H',Inv X pins σ' H' s'/\RelV v u/\D.rt v H'
noncomputable def PE (X:Cx) (e:Expr) (t:TE):Prop:=
 ∀(pins:List (Addr × Obj)) (s:Shared) (σ:St) (H:Hp) (Q:VK),Inv X pins σ H s->t σ H Q->wpAny (model X.prog X.w) X.A (eval e X.env) (EP X pins σ Q) X.xe s
noncomputable def PT (X:Cx) (e:Expr) (t:TT):Prop:=
 ∀(pins:List (Addr × Obj)) (s:Shared) (σ:St) (H:Hp) (Q:Bool->Hp->Prop),Inv X pins σ H s->t σ H Q->wpAny (model X.prog X.w) X.A (isTrue e X.env (eval e X.env)) (TP X pins σ Q) X.xe s
noncomputable def PW (X:Cx) (e:Expr) (t:TT):Prop:=
 ∀(whole:Sem Value) (pins:List (Addr × Obj)) (s:Shared) (σ:St) (H:Hp) (Q:Bool->Hp->Prop),Inv X pins σ H s->t σ H Q->wpAny (model X.prog X.w) X.A (isTrue e X.env whole) (TP X pins σ Q) X.xe s
theorem PW.pt {X:Cx} {e:Expr} {t:TT} (h:PW X e t):PT X e t:=h _
noncomputable def PA (X:Cx) (es:List Expr) (t:TA):Prop:=
 ∀(pos:Pos) (pins:List (Addr × Obj)) (s:Shared) (σ:St) (H:Hp) (Q:List V->Hp->Prop),Inv X pins σ H s->t σ H Q->wpAny (model X.prog X.w) X.A (spliced (backTo pos (starEach es X.env))) (AP X pins σ Q) X.xe s
noncomputable def PS (X:Cx) (st:Stmt) (t:TS):Prop:=
 ∀(pins:List (Addr × Obj)) (s:Shared) (σ:St) (H:Hp) (D:Ends),Inv X pins σ H s->t D σ H->wpAny (model X.prog X.w) X.A (exec st X.env) (SP X pins D) X.xe s
noncomputable def PSs (X:Cx) (st:List Stmt) (t:TS):Prop:=
 ∀(pins:List (Addr × Obj)) (s:Shared) (σ:St) (H:Hp) (D:Ends),Inv X pins σ H s->t D σ H->wpAny (model X.prog X.w) X.A (execs st X.env) (SP X pins D) X.xe s
theorem thn {α:Type} {t:Sem α} {Q Q':α->Shared->Prop} {M:Model} {A:Around} {E:Value->Shared->Prop} {s:Shared} (h:wpAny M A t Q E s) (hQ:∀a s,Q a s->Q' a s):wpAny M A t Q' E s:=wpAny_mono h hQ fun _ _ x=>x
section
variable {X:Cx}
noncomputable def L_ (i:Nat):TE:=fun σ H Q=>∃v,σ[i]?=some (some v)/\Q v H
noncomputable def tC (v:V):TE:=fun _ H Q=>Q v H
theorem Ds {i:Nat} {x:Str} {pos:Pos} (hN:X.N[i]?=some x) (hv:Vis X.env.scope x) (hd:(x == ("__debug__" : Str))=false:=by decide) (hcd:(x == ("__classdict__" : Str))=false:=by decide):PE X (.Name x pos) (L_ i):=by
 intro pins s σ H Q I h
 obtain⟨v,e,h⟩:=h
 obtain⟨m,hn,hl⟩:=I.loc
 obtain⟨u,r,l⟩:=hl i x v hN e hv
 have fin:EP X pins σ Q u s:=⟨v,H,I,r,h⟩
 rcases l with⟨hk,hm⟩ | ⟨hk,c,hc,hcell⟩
 ·exact wpAny_Name (wpAny_loadName_local I.ok.kind hk hn hm fin) hd
 ·rcases hk with hk | hk
  ·exact wpAny_Name (wpAny_loadName_cell I.ok.kind hk hc hcell fin) hd
  ·exact wpAny_Name (wpAny_loadName_free I.ok.kind hk hc hcell fin hcd) hd
theorem HX {i j pos}:PE X (.Constant (.int i) j pos) (tC (.int i)):=fun _ _ _ H _ I h=>wpAny_Constant_int ⟨.int i,H,I.tok _,⟨_,rfl⟩,h⟩
theorem Jf {b j pos}:PE X (.Constant (.bool b) j pos) (tC (.bl b)):=fun _ _ _ H _ I h=>Constant_bool ⟨.bl b,H,I,rfl,h⟩
theorem G8 {j pos}:PE X (.Constant .none j pos) (tC .non):=fun _ _ _ H _ I h=>Constant_none ⟨.non,H,I,rfl,h⟩
theorem Ib {x j pos}:PE X (.Constant (.str x) j pos) (tC (.str x)):=fun _ _ _ H _ I h=>Calls.Constant_str ⟨.str x,H,I.tok _,⟨_,rfl⟩,h⟩
noncomputable def Gl (X:Cx) (x:Str):Prop:=X.env.kindOf x=some .globalImplicit
theorem kh {E:Value->Shared->Prop} {pins:List (Addr × Obj)} {s:Shared} {σ:St} {H:Hp} {x:Str} {u:Value} {pos:Pos} {Q:Value->Shared->Prop} (I:Inv X pins σ H s) (hg:Gl X x) (hm:X.mg x=some u) (h:Q u s)
  (hd:(x == ("__debug__" : Str))=false:=by decide):wpAny (model X.prog X.w) X.A (eval (.Name x pos) X.env) Q E s:=
 Calls.Name_function_global I.ok.kind hg (Calls.loadGlobal_global (by rw[I.ok.glob];exact I.mod.glob.keeps I.bk) hm h) hd
theorem mG {E:Value->Shared->Prop} {pins:List (Addr × Obj)} {s:Shared} {σ:St} {H:Hp} {x:Str} {u:Value} {pos:Pos} {Q:Value->Shared->Prop} (I:Inv X pins σ H s) (hg:Gl X x) (hm:X.mg x=none) (hv:bootBuiltins x=some u) (h:Q u s)
  (hn:x≠"__name__" := by decide) (hd:(x == ("__debug__" : Str))=false:=by decide):wpAny (model X.prog X.w) X.A (eval (.Name x pos) X.env) Q E s:=by
 obtain⟨mb,h1,h2⟩:=I.mod.blt
 exact Calls.Name_function_global I.ok.kind hg (Calls.loadGlobal_builtin (by rw[I.ok.glob];exact I.mod.glob.keeps I.bk) hm (by rw[I.ok.blt];exact h1.keeps I.bk) ((h2 x hn).trans hv) h) hd
theorem zk {x:Str} {v:V} {u:Value} {pos:Pos} (hg:Gl X x) (hm:X.mg x=some u) (r:RelV v u) (hd:(x == ("__debug__" : Str))=false:=by decide):PE X (.Name x pos) (tC v):=
 fun _ _ _ H _ I h=>kh I hg hm ⟨v,H,I,r,h⟩ hd
theorem yQ {x:Str} {v:V} {u:Value} {pos:Pos} (hg:Gl X x) (hm:X.mg x=none) (hv:bootBuiltins x=some u) (r:RelV v u) (hn:x≠"__name__" := by decide) (hd:(x == ("__debug__" : Str))=false:=by decide):PE X (.Name x pos) (tC v):=
 fun _ _ _ H _ I h=>mG I hg hm hv ⟨v,H,I,r,h⟩ hn hd
variable {a b:Expr} {ta tb:TE} {pos:Pos}
variable {tA tB':TT} {rest:List Expr}
noncomputable def LC (t u:TT):TT:=fun σ H Q=>t σ H fun c H1=>if c=true then u σ H1 Q else Q false H1
noncomputable def tOr (t u:TT):TT:=fun σ H Q=>t σ H fun c H1=>if c=true then Q true H1 else u σ H1 Q
noncomputable def Ln (t:TT):TT:=fun σ H Q=>t σ H fun c H1=>Q (!c) H1
theorem pw_and1 (ha:PT X a tA):PW X (.BoolOp .And [a] pos) tA:=by
 intro wh pins s σ H Q I h
 refine isTrue_and (thn (ha pins s σ H Q I h) fun c s1 e=>?_)
 cases c with
 | true=>exact isTrue_and_nil e
 | false=>exact e
theorem pw_or1 (ha:PT X a tA):PW X (.BoolOp .Or [a] pos) tA:=by
 intro wh pins s σ H Q I h
 refine isTrue_or (thn (ha pins s σ H Q I h) fun c s1 e=>?_)
 cases c with
 | false=>exact isTrue_or_nil e
 | true=>exact e
theorem pw_and (ha:PT X a tA) (hb:PW X (.BoolOp .And (b::rest) pos) tB'):PW X (.BoolOp .And (a::b::rest) pos) (LC tA tB'):=by
 intro wh pins s σ H Q I h
 refine isTrue_and (thn (ha pins s σ H _ I h) fun c s1 ⟨H1,I1,q1⟩=>?_)
 cases c with
 | true=>exact hb wh pins s1 σ H1 Q I1 q1
 | false=>exact⟨H1,I1,q1⟩
theorem pw_or (ha:PT X a tA) (hb:PW X (.BoolOp .Or (b::rest) pos) tB'):PW X (.BoolOp .Or (a::b::rest) pos) (tOr tA tB'):=by
 intro wh pins s σ H Q I h
 refine isTrue_or (thn (ha pins s σ H _ I h) fun c s1 ⟨H1,I1,q1⟩=>?_)
 cases c with
 | true=>exact⟨H1,I1,q1⟩
 | false=>exact hb wh pins s1 σ H1 Q I1 q1
theorem HY (ha:PT X a tA):PT X (.UnaryOp .Not a pos) (Ln tA):=by
 intro pins s σ H Q I h
 exact isTrue_not (ha pins s σ H (fun c H1=>Q (!c) H1) I h)
noncomputable def JQ (ta tb:TE):TE:=fun σ H Q=>ta σ H fun x H1=>∃c,x=.bl c/\if c=true then tb σ H1 Q else Q (.bl false) H1
noncomputable def Kh (ta:TE):TE:=fun σ H Q=>ta σ H fun x H1=>∃c,x=.bl c/\Q (.bl (!c)) H1
theorem Hj {op} {t:TE} (h:PE X a t):PE X (.BoolOp op [a] pos) t:=fun pins s σ H Q I hw=>BoolOp_one (h pins s σ H Q I hw)
theorem G7 (ha:PE X a ta) (hb:PE X (.BoolOp .And (b::rest) pos) tb):PE X (.BoolOp .And (a::b::rest) pos) (JQ ta tb):=by
 intro pins s σ H Q I h
 refine BoolOp_and (thn (ha pins s σ H _ I h) fun v s1 ⟨x,H1,I1,r1,q1⟩=>?_)
 obtain⟨c,rfl,q1⟩:=q1
 cases r1
 refine wpAny_truthy_bool ?_
 cases c with
 | true=>exact hb pins s1 σ H1 Q I1 q1
 | false=>exact⟨.bl false,H1,I1,rfl,q1⟩
theorem GP (ha:PE X a ta):PE X (.UnaryOp .Not a pos) (Kh ta):=by
 intro pins s σ H Q I h
 refine UnaryOp_ (thn (ha pins s σ H _ I h) fun v s1 ⟨x,H1,I1,r1,q1⟩=>?_)
 obtain⟨c,rfl,q1⟩:=q1
 cases r1
 exact not_of (wpAny_truthy_bool ⟨.bl (!c),H1,I1,rfl,q1⟩)
noncomputable def tIf (t:TT) (ta tb:TE):TE:=fun σ H Q=>t σ H fun c H1=>if c=true then ta σ H1 Q else tb σ H1 Q
theorem Cn {c:Expr} (hc:PT X c tA) (ha:PE X a ta) (hb:PE X b tb):PE X (.IfExp c a b pos) (tIf tA ta tb):=by
 intro pins s σ H Q I h
 refine wpAny_IfExp (thn (hc pins s σ H _ I h) fun d s1 ⟨H1,I1,q1⟩=>?_)
 cases d with
 | true=>exact ha pins s1 σ H1 Q I1 q1
 | false=>exact hb pins s1 σ H1 Q I1 q1
end
noncomputable def SqL (K:PySem.W.Frag) (H:Hp) (a:Addr) (xs:List V):Prop:=
 Rd H a (.lst xs) ∨
  ∃(o:Obj) (its:Array Value) (n:Nat),K.lookup a=some o/\o.cls=.type "list" /\ o.dict=none/\o.data=.seq its n/\its.size<=sizeLine/\Vals xs its.toList
noncomputable def SqT (K:PySem.W.Frag) (H:Hp) (a:Addr) (xs:List V):Prop:=
 Rd H a (.tup xs) ∨
  ∃(o:Obj) (its:Array Value) (n:Nat),K.lookup a=some o/\o.cls=.type "tuple" /\ o.data=.seq its n/\its.size<=sizeLine/\Vals xs its.toList
noncomputable def KQ:Value->Option V
 | .none=>some .non
 | .bool b=>some (.bl b)
 | .int i _=>some (.int i)
 | .str x _=>some (.str x)
 | .bytes b _=>some (.byt b)
 | .float b _=>some (.flt b)
 | .ref a=>some (.ref a)
 | .type n=>some (.ty n)
 | _=>none
theorem RelV.abs {x:V} {u:Value} (r:RelV x u):KQ u=some x:=by
 cases x with
 | non=>cases r;rfl
 | bl _=>cases r;rfl
 | int _=>obtain⟨t,rfl⟩:=r;rfl
 | str _=>obtain⟨t,rfl⟩:=r;rfl
 | byt _=>obtain⟨t,rfl⟩:=r;rfl
 | flt _=>obtain⟨t,rfl⟩:=r;rfl
 | ref _=>cases r;rfl
 | ty _=>cases r;rfl
theorem RelV.inj {x y:V} {u:Value} (r:RelV x u) (q:RelV y u):x=y:=Option.some.inj (r.abs.symm.trans q.abs)
theorem Vals.inj:∀{xs ys:List V} {us:List Value},Vals xs us->Vals ys us->xs=ys
 | _,_,_,.nil,.nil=>rfl
 | _,_,_,.cons r t,.cons r' t'=>by rw[r.inj r',Vals.inj t t']
section
variable {X:Cx} {pins:List (Addr × Obj)} {σ:St} {H:Hp} {s:Shared} {a:Addr} {xs ys:List V}
theorem SqL.of {K:PySem.W.Frag} (h:H a=some (.lst xs)):SqL K H a xs:=.inl (.inl h)
theorem SqT.of {K:PySem.W.Frag} (h:H a=some (.tup xs)):SqT K H a xs:=.inl (.inl h)
theorem Inv.list (I:Inv X pins σ H s) (h:SqL X.K H a xs):∃its:List Value,Vals xs its/\PlainL s.heap a its.toArray/\xs.length<=sizeLine:=by
 rcases h with h | ⟨o,its,n,hk,hc,hd,hs,hz,r⟩
 ·obtain⟨z,its,n,r,e⟩:=h.ok I.hok
  exact⟨its,r,⟨_,n,e,rfl,rfl,rfl⟩,z⟩
 ·refine⟨its.toList,r,⟨o,n,I.kIn a o hk,hc,hd,by simpa using hs⟩,?_⟩
  have e:=r.length
  simp only[Array.length_toList] at e
  omega
theorem Inv.tuple (I:Inv X pins σ H s) (h:SqT X.K H a xs):∃its:List Value,Vals xs its/\IsTup s.heap a its.toArray/\xs.length<=sizeLine:=by
 rcases h with h | ⟨o,its,n,hk,hc,hs,hz,r⟩
 ·obtain⟨z,its,r,p⟩:=h.ok I.hok
  exact⟨its,r,p.tup,z⟩
 ·refine⟨its.toList,r,⟨o,I.kIn a o hk,hc,n,by simpa using hs⟩,?_⟩
  have e:=r.length
  simp only[Array.length_toList] at e
  omega
theorem Inv.pQ (I:Inv X pins σ H s) (h:SqL X.K H a xs) (h':SqL X.K H a ys):xs=ys:=by
 obtain⟨its,r,⟨o,n,e,_,_,d⟩,_⟩:=I.list h
 obtain⟨its',r',⟨o',n',e',_,_,d'⟩,_⟩:=I.list h'
 rw[e] at e';cases e'
 rw[d] at d'
 injection d' with d1 _
 have:its=its':=by simpa using congrArg Array.toList d1
 subst this
 exact r.inj r'
theorem Inv.mZ (I:Inv X pins σ H s) (h:SqT X.K H a xs) (h':SqT X.K H a ys):xs=ys:=by
 obtain⟨its,r,⟨o,e,_,n,d⟩,_⟩:=I.tuple h
 obtain⟨its',r',⟨o',e',_,n',d'⟩,_⟩:=I.tuple h'
 rw[e] at e';cases e'
 rw[d] at d'
 injection d' with d1 _
 have:its=its':=by simpa using congrArg Array.toList d1
 subst this
 exact r.inj r'
end
noncomputable abbrev Cx.nq (X:Cx) (E:Value->Shared->Prop):Cx:={ X with xe:=E }
noncomputable abbrev Cx.nox (X:Cx):Cx:=X.nq fun _ _=>False
theorem Cx.Ok.nq {X:Cx} (ok:X.Ok) (E:Value->Shared->Prop):(X.nq E).Ok:=
 ⟨ok.mod,ok.kind,ok.glob,ok.blt,ok.above,ok.inj,ok.has,ok.cab,ok.hd,ok.frames,ok.stk,ok.exf,ok.bs,ok.bsz,ok.qA,ok.vj,ok.jQ,ok.frf⟩
theorem Cx.Ok.gw {X:Cx} {E:Value->Shared->Prop} (ok:(X.nq E).Ok):X.Ok:=
 ⟨ok.mod,ok.kind,ok.glob,ok.blt,ok.above,ok.inj,ok.has,ok.cab,ok.hd,ok.frames,ok.stk,ok.exf,ok.bs,ok.bsz,ok.qA,ok.vj,ok.jQ,ok.frf⟩
section
variable {X:Cx} {pins:List (Addr × Obj)} {σ:St} {H:Hp} {s:Shared} {E:Value->Shared->Prop}
theorem Inv.nq (I:Inv X pins σ H s) (E:Value->Shared->Prop):Inv (X.nq E) pins σ H s:=⟨I.ok.nq E,I.os,I.bare,I.base,I.loc,I.cell,I.free,I.dR,I.pin,I.hok,I.len⟩
theorem Inv.gw (I:Inv (X.nq E) pins σ H s):Inv X pins σ H s:=⟨I.ok.gw,I.os,I.bare,I.base,I.loc,I.cell,I.free,I.dR,I.pin,I.hok,I.len⟩
theorem SP.gw {D:Ends} {f:Flow} {s':Shared} (h:SP (X.nq E) pins D f s'):SP X pins D f s':=by
 cases f with
 | next=>obtain⟨σ',H',I,q⟩:=h;exact⟨σ',H',I.gw,q⟩
 | brk=>obtain⟨σ',H',I,q⟩:=h;exact⟨σ',H',I.gw,q⟩
 | cont=>obtain⟨σ',H',I,q⟩:=h;exact⟨σ',H',I.gw,q⟩
 | ret u=>obtain⟨v,σ',H',I,r,q⟩:=h;exact⟨v,σ',H',I.gw,r,q⟩
theorem PE.nox {e:Expr} {t:TE} (h:PE X.nox e t):PE X e t:=fun pins s σ H Q I hw=>
 wpAny_mono (h pins s σ H Q (I.nq _) hw) (fun _ _ ⟨v,H',I',r,q⟩=>⟨v,H',I'.gw,r,q⟩) fun _ _ z=>False.elim z
theorem PT.nox {e:Expr} {t:TT} (h:PT X.nox e t):PT X e t:=fun pins s σ H Q I hw=>
 wpAny_mono (h pins s σ H Q (I.nq _) hw) (fun _ _ ⟨H',I',q⟩=>⟨H',I'.gw,q⟩) fun _ _ z=>False.elim z
theorem PSs.nox {st:List Stmt} {t:TS} (h:PSs X.nox st t):PSs X st t:=fun pins s σ H D I hw=>
 wpAny_mono (h pins s σ H D (I.nq _) hw) (fun _ _ q=>q.gw) fun _ _ z=>False.elim z
end
section
variable {X:Cx} {st:Stmt} {rest:List Stmt} {t u:TS} {e:Expr} {te:TE} {pos:Pos}
noncomputable def I_:TS:=fun D σ H=>D.nx σ H
noncomputable def LZ (t u:TS):TS:=fun D σ H=>t { D with nx:=u D } σ H
theorem D6:PSs X [] I_:=fun _ _ σ H _ I h=>wpAny_execs_nil ⟨σ,H,I,h⟩
theorem Dp (h1:PS X st t) (h2:PSs X rest u):PSs X (st::rest) (LZ t u):=by
 intro pins s σ H D I h
 refine wpAny_execs_cons (thn (h1 pins s σ H { D with nx:=u D } I h) fun f s1 q=>?_)
 cases f with
 | next=>
  obtain⟨σ',H',I',q⟩:=q
  exact h2 pins s1 σ' H' D I' q
 | ret v=>exact q
 | brk=>exact q
 | cont=>exact q
theorem yN (h1:PS X st t):PSs X [st] t:=by
 intro pins s σ H D I h
 refine wpAny_execs_cons (thn (h1 pins s σ H D I h) fun f s1 q=>?_)
 cases f with
 | next=>exact wpAny_execs_nil q
 | ret v=>exact q
 | brk=>exact q
 | cont=>exact q
noncomputable def Hl:TS:=fun D σ H=>D.bk σ H
theorem Bi:PS X (.Break pos) Hl:=fun _ _ σ H _ I h=>wpAny_Break ⟨σ,H,I,h⟩
theorem Inv.quiet {pins:List (Addr × Obj)} {σ:St} {H:Hp} {s:Shared} (I:Inv X pins σ H s):interactive X.env=false:=by simp[interactive,I.ok.kind]
noncomputable def Jb (te:TE):TS:=fun D σ H=>te σ H fun _ H1=>D.nx σ H1
theorem EJ (he:PE X e te) (hs:swapsWith e none pos.line X.env=pure false:=by rfl):PS X (.Expr e pos) (Jb te):=by
 intro pins s σ H D I h
 exact wpAny_Expr_any (thn (he pins s σ H _ I h) fun v s1 ⟨x,H1,I1,r1,q1⟩=>⟨σ,H1,I1,q1⟩) I.quiet hs
noncomputable def L6 (te:TE):TS:=fun D σ H=>te σ H D.rt
theorem DL (he:PE X e te):PS X (.Return (some e) pos) (L6 te):=by
 intro pins s σ H D I h
 exact wpAny_Return_some (thn (he pins s σ H _ I h) fun v s1 ⟨x,H1,I1,r1,q1⟩=>⟨x,σ,H1,I1,r1,q1⟩)
noncomputable def K_ (c:TT) (t u:TS):TS:=fun D σ H=>c σ H fun b H1=>if b=true then t D σ H1 else u D σ H1
theorem IM {c:Expr} {a b:List Stmt} {tc:TT} (hc:PT X c tc) (ha:PSs X a t) (hb:PSs X b u):PS X (.If c a b pos) (K_ tc t u):=by
 intro pins s σ H D I h
 refine wpAny_If (thn (hc pins s σ H _ I h) fun d s1 ⟨H1,I1,q1⟩=>?_)
 cases d with
 | true=>exact ha pins s1 σ H1 D I1 q1
 | false=>exact hb pins s1 σ H1 D I1 q1
noncomputable def GW:TS:=fun _ _ _=>False
theorem cK:PS X st GW:=fun _ _ _ _ _ _ h=>h.elim
end
noncomputable abbrev TG:=V->St->Hp->(St->Hp->Prop)->Prop
noncomputable abbrev TGs:=List V->St->Hp->(St->Hp->Prop)->Prop
noncomputable def PG (X:Cx) (target:Expr) (t:TG):Prop:=
 ∀(pins:List (Addr × Obj)) (s:Shared) (σ:St) (H:Hp) (v:V) (u:Value) (Q:St->Hp->Prop),Inv X pins σ H s->RelV v u->t v σ H Q →
  wpAny (model X.prog X.w) X.A (assign target X.env u) (fun _ s'=>∃σ' H',Inv X pins σ' H' s'/\Q σ' H') X.xe s
noncomputable def PGs (X:Cx) (ts:List Expr) (t:TGs):Prop:=
 ∀(pins:List (Addr × Obj)) (s:Shared) (σ:St) (H:Hp) (vs:List V) (us:List Value) (Q:St->Hp->Prop),Inv X pins σ H s->Vals vs us->t vs σ H Q →
  wpAny (model X.prog X.w) X.A (assignInOrder ((assignEach ts X.env).map (·.2)) us) (fun _ s'=>∃σ' H',Inv X pins σ' H' s'/\Q σ' H') X.xe s
noncomputable abbrev Ba:=V->V->V->Hp->(Hp->Prop)->Prop
noncomputable def Ht (X:Cx) (t:Ba):Prop:=
 ∀(pins:List (Addr × Obj)) (s:Shared) (σ:St) (H:Hp) (o i v:V) (ov iv u:Value) (Q:Hp->Prop),Inv X pins σ H s->RelV o ov->RelV i iv->RelV v u->t o i v H Q →
  wpAny (model X.prog X.w) X.A (setItem ov iv u) (fun _ s'=>∃H',Inv X pins σ H' s'/\Q H') X.xe s
noncomputable abbrev TIp:=V->V->Hp->VK->Prop
noncomputable def PIp (X:Cx) (op:Operator) (t:TIp):Prop:=
 ∀(pins:List (Addr × Obj)) (s:Shared) (σ:St) (H:Hp) (x y:V) (v u:Value) (Q:VK),Inv X pins σ H s->RelV x v->RelV y u->t x y H Q →
  wpAny (model X.prog X.w) X.A (inplaceOp op v u) (EP X pins σ Q) X.xe s
section
variable {X:Cx} {pos:Pos}
noncomputable def fG (i:Nat):TG:=fun v σ H Q=>Q (σ.set i (some v)) H
theorem bR {i:Nat} {x:Str} (hN:X.N.Nodup) (hi:X.N[i]?=some x) (hx:Loc X.env.scope x) (hf:X.fn x=true\/X.env.scope.names.lookup x=some .local:=by first | exact .inl rfl | exact .inr rfl | assumption):PG X (.Name x pos) (fG i):=by
 intro pins s σ H v u Q I r h
 exact wpAny_assign_Name (fJ I hN hi hx r (fun s' I'=>⟨_,H,I',h⟩) hf)
noncomputable def Im:TGs:=fun vs σ H Q=>vs=[]/\Q σ H
noncomputable def sj (t:TG) (u:TGs):TGs:=fun vs σ H Q=>∃v r,vs=v::r/\t v σ H fun σ' H'=>u r σ' H' Q
theorem sI:PGs X [] Im:=by
 intro pins s σ H vs us Q I r h
 obtain⟨e,h⟩:=h
 subst e
 cases r
 exact assignInOrder_nil ⟨σ,H,I,h⟩
theorem gy {e:Expr} {es:List Expr} {t:TG} {u:TGs} (h1:PG X e t) (h2:PGs X es u)
  (hs:(assignEach (e::es) X.env).map (·.2)=assign e X.env::(assignEach es X.env).map (·.2):=by rfl):PGs X (e::es) (sj t u):=by
 intro pins s σ H vs us Q I r h
 obtain⟨v,vr,e1,h⟩:=h
 subst e1
 cases r with
 | cons r rr=>
  rw[hs]
  refine assignInOrder_cons (thn (h1 pins s σ H _ _ _ I r h) fun _ s1 ⟨σ1,H1,I1,q1⟩=>?_)
  exact h2 pins s1 σ1 H1 _ _ Q I1 rr q1
noncomputable def HQ (K:PySem.W.Frag) (n:Nat) (t:TGs):TG:=fun v σ H Q=>∃a xs,v=.ref a/\SqT K H a xs/\xs.length=n/\t xs σ H Q
theorem xl {es:List Expr} {k:Nat} {t:TGs} {n:Nat} (hc:X.calm=true) (h:PGs X es t)
  (hn:(assignEach es X.env).length=n:=by rfl) (hst:(assignEach es X.env).findIdx? (·.1)=none:=by rfl):PG X (.Tuple es k pos) (HQ X.K n t):=by
 intro pins s σ H v u Q I r hw
 obtain⟨a,xs,e1,hq,hl,hw⟩:=hw
 subst e1
 cases r
 obtain⟨its,rv,ht,hz⟩:=I.tuple hq
 refine assign_Tuple_tuple (I.ok.hd hc) ht (by simp[hn,<- hl,rv.length]) hst fun h' hx=>?_
 have I1:Inv X pins σ H { s with heap:=h' }:=I.kept (t':=s.toks) fun b o e=>hx b o (Nat.ne_of_lt (Heap.lt_size e)) e
 exact h pins _ σ H xs _ Q I1 (by simpa using rv) hw
noncomputable def Lf (to ti:TE) (t:Ba):TG:=fun v σ H Q=>to σ H fun o H1=>ti σ H1 fun i H2=>t o i v H2 fun H3=>Q σ H3
theorem Hf {o i:Expr} {to ti:TE} {t:Ba} (ho:PE X o to) (hi:PE X i ti) (hs:Ht X t)
  (ha:∀v,assign (.Subscript o i pos) X.env v=(do
   let ov ← holding [v] (eval o X.env)
   let iv ← holding [v,ov] (eval i X.env)
   standAt pos
   holding [v,ov,iv] (setItem ov iv v)
   release [v,ov,iv] []):=by intro _;rfl):PG X (.Subscript o i pos) (Lf to ti t):=by
 intro pins s σ H v u Q I r h
 rw[ha]
 refine wpAny_bind (wpAny_holding (thn (ho pins s σ H _ I h) fun ov s1 ⟨x,H1,I1,r1,q1⟩=>?_))
 refine wpAny_bind (wpAny_holding (thn (hi pins s1 σ H1 _ I1 q1) fun iv s2 ⟨y,H2,I2,r2,q2⟩=>?_))
 refine wpAny_bind (wpAny_standAt (wpAny_bind (wpAny_holding (thn (hs pins s2 σ H2 x y v ov iv u _ I2 r1 r2 r q2) fun _ s3 ⟨H3,I3,q3⟩=>?_))))
 exact wpAny_release ⟨σ,H3,I3,q3⟩
noncomputable def FH (te:TE) (g:TG):TS:=fun D σ H=>te σ H fun x H1=>g x σ H1 D.nx
theorem xo {tg e:Expr} {te:TE} {g:TG} (he:PE X e te) (hg:PG X tg g) (hs:swapsWithSole [tg] e pos.line X.env=pure false:=by rfl) (hw:swappedStores [tg] e X.env=pure none:=by rfl)
  (h1:(assignEach [tg] X.env).map (·.2)=[assign tg X.env]:=by rfl):PS X (.Assign [tg] e pos) (FH te g):=by
 intro pins s σ H D I h
 refine wpAny_Assign_stores (thn (he pins s σ H _ I h) fun v s1 ⟨x,H1,I1,r1,q1⟩=>?_) hs hw
 rw[h1]
 exact thn (hg pins s1 σ H1 x v _ I1 r1 q1) fun _ s2 q=>q
theorem HF {i:Nat} {x:Str} {e:Expr} {te:TE} {pos':Pos} (hN:X.N.Nodup) (hi:X.N[i]?=some x) (hx:Loc X.env.scope x) (he:PE X e te) (hs:swapsWith e (some (.Name x pos')) pos.line X.env=pure false:=by rfl) (hf:X.fn x=true\/X.env.scope.names.lookup x=some .local:=by first | exact .inl rfl | exact .inr rfl | assumption) :
  PS X (.Assign [.Name x pos'] e pos) (FH te (fG i)):=by
 intro pins s σ H D I h
 refine wpAny_Assign_Name (thn (he pins s σ H _ I h) fun v s1 ⟨y,H1,I1,r1,q1⟩=>?_) hs
 exact fJ I1 hN hi hx r1 (fun s2 I2=>⟨_,H1,I2,q1⟩) hf
noncomputable def KH (i j:Nat) (ta:TA):TS:=fun D σ H=>ta σ H fun vs H1=>∃v w,vs=[v,w]/\D.nx ((σ.set i (some v)).set j (some w)) H1
theorem H0 {i j:Nat} {x y:Str} {a b:Expr} {ta:TA} {px py pt:Pos} {kt k2 pt2} (hc:X.calm=true) (hN:X.N.Nodup) (hi:X.N[i]?=some x) (hj:X.N[j]?=some y) (hij:i≠j)
  (hx:X.env.scope.names.lookup x=some .local) (hy:X.env.scope.names.lookup y=some .local) (ha:PA X [a,b] ta)
  (hw:swappedStores [.Tuple [.Name x px,.Name y py] kt pt] (.Tuple [a,b] k2 pt2) X.env=pure (some [x,y]))
  (hs:swapsWithSole [.Tuple [.Name x px,.Name y py] kt pt] (.Tuple [a,b] k2 pt2) pos.line X.env=pure false:=by rfl) :
  PS X (.Assign [.Tuple [.Name x px,.Name y py] kt pt] (.Tuple [a,b] k2 pt2) pos) (KH i j ta):=by
 intro pins s σ H D I h
 rw[exec_Assign_arm]
 refine wpAny_bind (wpAny_standAt ?_)
 rw[hs]
 refine wpAny_bind (wpAny_pure ?_)
 rw[if_neg (by decide)]
 refine wpAny_bind (Tuple_ (thn (ha _ pins s σ H _ I h) fun us s1 ⟨vs,H1,I1,r1,q1⟩=>?_))
 obtain⟨v,w,e1,q1⟩:=q1
 subst e1
 obtain⟨u1,u2,rfl,rv,rw'⟩:∃u1 u2,us=[u1,u2]/\RelV v u1/\RelV w u2:=by
  cases r1 with
  | cons p q=>
   cases q with
   | cons p' q'=>
    cases q'
    exact⟨_,_,rfl,p,p'⟩
 refine wpAny_newObj_type ?_ (by show 2<=sizeLine;decide)
 have I2:Inv X pins σ H1 { s1 with heap:=s1.heap.push { cls:=.type "tuple", data:=.seq [u1,u2].toArray } }:=I1.kept (t':=s1.toks) fun b o e=>Heap.get?_push_of_some _ e
 rw[hw]
 refine wpAny_bind (wpAny_pure ?_)
 show wpAny (model X.prog X.w) X.A (do rule "assign.swapped-stores"; let items ← unpackItems (.ref s1.heap.objs.size) 2 none;assignInOrder [fun v=>bindName X.env y v,fun v=>bindName X.env x v] items.reverse;pure Flow.next) _ _ _
 refine wpAny_bind (wpAny_rule (wpAny_bind (unpackItems_tuple (items:=#[u1,u2]) (I.ok.hd hc) (IsTup.new s1.heap _) fun h' hx'=>?_)))
 have I3:=I2.kept (h':=h') (t':=s1.toks) fun b o e=>hx' b o (Nat.ne_of_lt (Heap.lt_size e)) e
 show wpAny _ _ (assignInOrder [fun v=>bindName X.env y v,fun v=>bindName X.env x v] [u2,u1] >>= fun _=>pure Flow.next) _ _ _
 refine wpAny_bind (assignInOrder_cons (wpAny_bindName (fJ I3 hN hj (.inl hy) rw' (fun s2 I4=>?_) (.inr hy))))
 refine assignInOrder_cons (wpAny_bindName (fJ I4 hN hi (.inl hx) rv (fun s3 I5=>assignInOrder_nil (wpAny_pure ?_)) (.inr hx)))
 rw[List.set_comm _ _ (Ne.symm hij)] at I5
 exact⟨_,H1,I5,q1⟩
noncomputable def KY (i:Nat) (te:TE) (ti:TIp):TS:=fun D σ H=>∃x,σ[i]?=some (some x)/\te σ H fun y H1=>ti x y H1 fun z H2=>D.nx (σ.set i (some z)) H2
theorem IE {i:Nat} {x:Str} {e:Expr} {te:TE} {op:Operator} {ti:TIp} {pos':Pos} (hN:X.N.Nodup) (hi:X.N[i]?=some x) (hx:Loc X.env.scope x) (he:PE X e te) (ho:PIp X op ti) (hf:X.fn x=true\/X.env.scope.names.lookup x=some .local:=by first | exact .inl rfl | exact .inr rfl | assumption) :
  PS X (.AugAssign (.Name x pos') op e pos) (KY i te ti):=by
 intro pins s σ H D I h
 obtain⟨v,e1,h⟩:=h
 obtain⟨m,hn,hl⟩:=I.loc
 have vis:Vis X.env.scope x:=by rcases hx with k | k;exact .inl k;exact .inr (.inl k)
 obtain⟨u,r,l⟩:=hl i x v hi e1 vis
 refine wpAny_AugAssign_Name ?_
 have go:wpAny (model X.prog X.w) X.A (eval e X.env) (fun w s₂=>wpAny (model X.prog X.w) X.A (inplaceOp op u w) (fun r s₃=>wpAny (model X.prog X.w) X.A (storeName X.env x r) (fun _=>SP X pins D .next) X.xe s₃) X.xe s₂) X.xe s:=by
  refine thn (he pins s σ H _ I h) fun w s1 ⟨y,H1,I1,r1,q1⟩=>?_
  refine thn (ho pins s1 σ H1 v y u w _ I1 r r1 q1) fun z s2 ⟨zv,H2,I2,r2,q2⟩=>?_
  exact fJ I2 hN hi hx r2 (fun s3 I3=>⟨_,H2,I3,q2⟩) hf
 rcases l with⟨hk,hm⟩ | ⟨hk,c,hc,hcell⟩
 ·exact wpAny_loadName_local I.ok.kind hk hn hm go
 ·rcases hk with hk | hk
  ·exact wpAny_loadName_cell I.ok.kind hk hc hcell go
  ·rcases hx with k | k
   ·have:X.env.scope.names.lookup x=some .free:=hk
    rw[k] at this;cases this
   ·have:X.env.scope.names.lookup x=some .free:=hk
    rw[k] at this;cases this
noncomputable def ipI (f:Int->Int->Int):TIp:=fun x y H Q=>∃i j,x=.int i/\y=.int j/\Q (.int (f i j)) H
theorem Bc:PIp X .Sub (ipI fun i j=>i - j):=by
 intro pins s σ H x y v u Q I r1 r2 h
 obtain⟨i,j,e1,e2,q⟩:=h
 subst e1;subst e2
 obtain⟨t,rfl⟩:=r1
 obtain⟨t',rfl⟩:=r2
 exact isub_int ⟨.int _,H,I.tok _,⟨_,rfl⟩,q⟩
end
structure It where
 go:Nat->Hp->Prop
 yld:Nat->Hp->V->Hp->Prop
 stop:Nat->Hp->Prop
noncomputable def n_ (X:Cx) (pins:List (Addr × Obj)) (H:Hp) (b:Addr):Prop:=
 H b=none/\b≠X.env.locals/\b∉X.fs/\(b∈X.ex\/X.aF.heap.objs.size<=b)/\(∀x c,X.env.cells.lookup x=some c->c≠b)/\∀p∈X.pn++pins,p.1≠b
theorem Inv.D4 {X:Cx} {pins:List (Addr × Obj)} {σ:St} {H H':Hp} {s:Shared} {b:Addr} (I:Inv X pins σ H s) (hb:s.heap.objs.size<=b) (hn:H' b=none):n_ X pins H' b:=by
 refine⟨hn,Nat.ne_of_gt (Nat.lt_of_lt_of_le I.lt hb),I.HI hb,.inr (Nat.le_trans I.sz hb),fun x c e z=>?_,fun p hp z=>?_⟩
 ·obtain⟨v,q⟩:=I.cell x c e
  exact absurd (Nat.lt_of_lt_of_le q.lt (by rw[z];exact hb)) (Nat.lt_irrefl _)
 ·exact absurd (Nat.lt_of_lt_of_le (Heap.lt_size (I.pin p hp).1) (by rw[z];exact hb)) (Nat.lt_irrefl _)
structure Turn (P:Program) (w:World) (K:PySem.W.Frag) (tg:Expr) (J:It) (fp:List Addr) (it:Addr) (tn:Nat->Heap->Prop):Prop where
 mem:it∈fp
 obj:∀i h,tn i h->∀b∈fp,∃o,h.get? b=some o/\∀v,o.data≠.cell v
 keep:∀i h h',tn i h->(∀b∈fp,∀o,h.get? b=some o->h'.get? b=some o)->tn i h'
 item:∀(X:Cx),X.prog=P->X.w=w->X.K=K->X.calm=true->∀(i:Nat) (pins:List (Addr × Obj)) (s:Shared) (σ:St) (H:Hp) (E:Value->Shared->Prop),Inv X pins σ H s->(∀b∈fp,n_ X pins H b)->tn i s.heap->J.go i H →
  wpAny (model P w) X.A (pyNext (.ref it)) (fun r s1=>∃u,r=some u ∧
   wpAny (model P w) X.A (letOwnedTupleGo tg (.ref it) u) (fun _ s2=>∃x H',Inv X pins σ H' s2/\RelV x u/\J.yld i H x H'/\tn (i+1) s2.heap/\∀b∈fp,H' b=none) E s1) E s
 done:∀(X:Cx),X.prog=P->X.w=w->X.K=K->X.calm=true->∀(i:Nat) (pins:List (Addr × Obj)) (s:Shared) (σ:St) (H:Hp) (E:Value->Shared->Prop),Inv X pins σ H s->(∀b∈fp,n_ X pins H b)->tn i s.heap->J.stop i H →
  wpAny (model P w) X.A (pyNext (.ref it)) (fun r s1=>r=none/\Inv X pins σ H s1) E s
 self:∀(A:Around) (i:Nat) (s:Shared) (Q:Value->Shared->Prop) (E:Value->Shared->Prop),tn i s.heap->Q (.ref it) s->wpAny (model P w) A (pyIter (.ref it)) Q E s
noncomputable abbrev TI:=St->Hp->(It->Hp->Prop)->Prop
noncomputable def PIE (X:Cx) (pins:List (Addr × Obj)) (σ:St) (tg:Expr) (R:It->Hp->Prop) (itv:Value) (s2:Shared):Prop:=
 ∃(it:Addr) (fp:List Addr) (tn:Nat->Heap->Prop) (J:It) (H':Hp),itv=.ref it/\Inv X pins σ H' s2/\Turn X.prog X.w X.K tg J fp it tn/\tn 0 s2.heap/\(∀b∈fp,n_ X pins H' b)/\R J H'
noncomputable def PI (X:Cx) (tg iter:Expr) (wi:TI):Prop:=
 ∀(pins:List (Addr × Obj)) (s:Shared) (σ:St) (H:Hp) (R:It->Hp->Prop),Inv X pins σ H s->wi σ H R →
  wpAny (model X.prog X.w) X.A (eval iter X.env) (fun v s1=>wpAny (model X.prog X.w) X.A (pyIter v) (PIE X pins σ tg R) X.xe s1) X.xe s
theorem A9 {M:Model} {A:Around} {E:Value->Shared->Prop} {s:Shared} {tg:Expr} {it:Addr} {u:Value} {o:Obj} {n:String} {vs:Array Value} {Q:Unit->Shared->Prop} (ho:s.heap.get? it=some o) (hc:o.cls=.type n) (hd:o.data=.fields vs)
  (hn:["enumerate", "zip", "dict_itemiterator", "dict_reverseitemiterator", "odict_iterator", "itertools.zip_longest", "itertools.pairwise"].contains n=false) (hQ:Q () s):wpAny M A (letOwnedTupleGo tg (.ref it) u) Q E s:=by
 unfold letOwnedTupleGo
 cases tg<;>first
  | exact wpAny_pure hQ
  | (cases u<;>first
    | exact wpAny_pure hQ
    | (refine wpAny_bind (wpAny_load ho ?_)
       rw[hc,hd]
       show wpAny M A (if (["enumerate", "zip", "dict_itemiterator", "dict_reverseitemiterator", "odict_iterator", "itertools.zip_longest", "itertools.pairwise"].contains n&&vs[0]? == some (rawInt _))=true then _ else _) Q E s
       rw[if_neg (by intro h;rw[hn,Bool.false_and] at h;cases h)]
       exact wpAny_pure hQ))
noncomputable def Itl (K:PySem.W.Frag) (a:Addr):It:=
 ⟨fun i H=>∃xs x,SqL K H a xs/\xs[i]?=some x,fun i H x H'=>H'=H/\∀xs,SqL K H a xs->xs[i]?=some x,fun i H=>∃xs,SqL K H a xs/\xs.length<=i⟩
noncomputable def Itt (K:PySem.W.Frag) (a:Addr):It:=
 ⟨fun i H=>∃xs x,SqT K H a xs/\xs[i]?=some x,fun i H x H'=>H'=H/\∀xs,SqT K H a xs->xs[i]?=some x,fun i H=>∃xs,SqT K H a xs/\xs.length<=i⟩
noncomputable def Itr (lo:Int) (n:Nat):It:=⟨fun i _=>i<n,fun i H x H'=>H'=H/\x=.int (lo+i),fun i _=>n<=i⟩
theorem zX {P:Program} {w:World} {K:PySem.W.Frag} {tg:Expr} (a it:Addr):Turn P w K tg (Itl K a) [it] it (fun i h=>h.IsListIter it a i) where
 mem:=by simp
 obj:=fun i h st b hb=>by
  have e:b=it:=by simpa using hb
  subst e
  obtain⟨o,e,c,d⟩:=st
  exact⟨o,e,fun v z=>by rw[d] at z;cases z⟩
 keep:=fun i h h' st k=>st.at fun o e=>k it (by simp) o e
 item:=by
  intro X hP hw hK hc i pins s σ H E I hf st hg
  subst hP hw hK
  obtain⟨xs,x,hq,hx⟩:=hg
  obtain⟨its,rv,p,hz⟩:=I.list hq
  obtain⟨u,hu,ru⟩:=rv.get hx
  obtain⟨f0,f1,f2,f3,f4,f5⟩:=hf it (by simp)
  refine wpAny_pyNext_list_item st p.isList (x:=u) (by simpa using hu) fun h' st' sb=>?_
  have I1:Inv X pins σ H { s with heap:=h' }:=I.turned (t':=s.toks) (fun b o hb e=>(sb.2 b hb).trans e) f0 f1 f3 f4 f5
  obtain⟨o,e,c,d⟩:=id st'
  exact⟨u,rfl,A9 (s:={ s with heap:=h' }) e c d (by decide) ⟨x,H,I1,ru,⟨rfl,fun ys hy=>by rw[I.pQ hy hq];exact hx⟩,st',fun b hb=>(hf b hb).1⟩⟩
 done:=by
  intro X hP hw hK hc i pins s σ H E I hf st hg
  subst hP hw hK
  obtain⟨xs,hq,hx⟩:=hg
  obtain⟨its,rv,p,hz⟩:=I.list hq
  obtain⟨f0,f1,f2,f3,f4,f5⟩:=hf it (by simp)
  have hl:=rv.length
  exact wpAny_pyNext_list_end (I.ok.hd hc) st p.isList (by simp;omega) fun h' eb=>⟨rfl,I.turned (t':=s.toks) (fun b o hb e=>eb b o hb e) f0 f1 f3 f4 f5⟩
 self:=fun _ _ _ _ _ st h=>wpAny_pyIter_listiter st h
theorem xn {P:Program} {w:World} {K:PySem.W.Frag} {tg:Expr} (a it:Addr):Turn P w K tg (Itt K a) [it] it (fun i h=>h.IsTupleIter it a i) where
 mem:=by simp
 obj:=fun i h st b hb=>by
  have e:b=it:=by simpa using hb
  subst e
  obtain⟨o,e,c,d⟩:=st
  exact⟨o,e,fun v z=>by rw[d] at z;cases z⟩
 keep:=fun i h h' st k=>st.at fun o e=>k it (by simp) o e
 item:=by
  intro X hP hw hK hc i pins s σ H E I hf st hg
  subst hP hw hK
  obtain⟨xs,x,hq,hx⟩:=hg
  obtain⟨its,rv,p,hz⟩:=I.tuple hq
  obtain⟨u,hu,ru⟩:=rv.get hx
  obtain⟨f0,f1,f2,f3,f4,f5⟩:=hf it (by simp)
  refine wpAny_pyNext_tuple_item st (show s.heap.IsTuple a its.toArray from p) (x:=u) (by simpa using hu) fun h' st' sb=>?_
  have I1:Inv X pins σ H { s with heap:=h' }:=I.turned (t':=s.toks) (fun b o hb e=>(sb.2 b hb).trans e) f0 f1 f3 f4 f5
  obtain⟨o,e,c,d⟩:=id st'
  exact⟨u,rfl,A9 (s:={ s with heap:=h' }) e c d (by decide) ⟨x,H,I1,ru,⟨rfl,fun ys hy=>by rw[I.mZ hy hq];exact hx⟩,st',fun b hb=>(hf b hb).1⟩⟩
 done:=by
  intro X hP hw hK hc i pins s σ H E I hf st hg
  subst hP hw hK
  obtain⟨xs,hq,hx⟩:=hg
  obtain⟨its,rv,p,hz⟩:=I.tuple hq
  obtain⟨f0,f1,f2,f3,f4,f5⟩:=hf it (by simp)
  have hl:=rv.length
  exact wpAny_pyNext_tuple_end (I.ok.hd hc) st (show s.heap.IsTuple a its.toArray from p) (by simp;omega) fun h' eb=>⟨rfl,I.turned (t':=s.toks) (fun b o hb e=>eb b o hb e) f0 f1 f3 f4 f5⟩
 self:=fun _ _ _ _ _ st h=>wpAny_pyIter_tupleiter st h
theorem xT {P:Program} {w:World} {K:PySem.W.Frag} {tg:Expr} (it:Addr) (lo:Int) (n:Nat):Turn P w K tg (Itr lo n) [it] it (fun i h=>IsRangeIter h it (lo+(i:Nat)*1) ((n:Int) - (i:Nat)) 1) where
 mem:=by simp
 obj:=fun i h st b hb=>by
  have e:b=it:=by simpa using hb
  subst e
  exact⟨_,st,fun v z=>by
   have z':Data.fields _=Data.cell v:=z
   cases z'⟩
 keep:=fun i h h' st k=>k it (by simp) _ st
 item:=by
  intro X hP hw hK hc i pins s σ H E I hf st hg
  subst hP hw hK
  obtain⟨f0,f1,f2,f3,f4,f5⟩:=hf it (by simp)
  have W:=Walks.range (prog:=X.prog) (w:=X.w) (I.ok.hd hc) it lo 1 n
  refine W.item i s _ _ hg st fun v h' tk hv st' kk=>?_
  obtain⟨t,rfl⟩:=hv
  have I1:Inv X pins σ H { s with heap:=h',toks:=tk }:=I.turned (fun b o hb e=>kk b o (by simpa using hb) e) f0 f1 f3 f4 f5
  refine⟨_,rfl,A9 (s:={ s with heap:=h',toks:=tk }) (n:="range_iterator") st' rfl rfl (by decide) ⟨.int (lo+i),H,I1,⟨t,?_⟩,⟨rfl,rfl⟩,st',fun b hb=>(hf b hb).1⟩⟩
  rw[Int.mul_one]
 done:=by
  intro X hP hw hK hc i pins s σ H E I hf st hg
  subst hP hw hK
  obtain⟨f0,f1,f2,f3,f4,f5⟩:=hf it (by simp)
  exact wpAny_pyNext_range_end (I.ok.hd hc) st (by have:n<=i:=hg;omega) fun h' eb=>⟨rfl,I.turned (t':=s.toks) (fun b o hb e=>eb b o hb e) f0 f1 f3 f4 f5⟩
 self:=fun _ _ _ _ _ st h=>wpAny_pyIter_rangeiter st h
section
variable {X:Cx} {tg:Expr}
theorem we {pins:List (Addr × Obj)} {σ:St} {H:Hp} {s:Shared} {R:It->Hp->Prop} {E:Value->Shared->Prop} {lo hi:Int} {t u v:Tok} {tk:Nat} (I:Inv X pins σ H s) (h1:-(2 ^ 62)<=lo) (h2:lo<2 ^ 62) (h3:-(2 ^ 62)<=hi) (h4:hi<2 ^ 62)
  (q:R (Itr lo (hi - lo).toNat) H):wpAny (model X.prog X.w) X.A (pyIter (.ref s.heap.objs.size)) (PIE X pins σ tg R) E { s with heap:=s.heap.push { cls:=.type "range", data:=.fields #[.int lo t,.int hi u,.int 1 v] },toks:=tk }:=by
 refine wpAny_pyIter_range (IsRange.new ..) (small_one h1 h2 h3 h4) ?_
 have I1:Inv X pins σ H { s with heap:=s.heap.push { cls:=.type "range", data:=.fields #[.int lo t,.int hi u,.int 1 v] },toks:=tk }:=I.kept fun b o e=>Heap.get?_push_of_some _ e
 refine⟨(s.heap.push { cls:=.type "range", data:=.fields #[.int lo t,.int hi u,.int 1 v] }).objs.size,[(s.heap.push { cls:=.type "range", data:=.fields #[.int lo t,.int hi u,.int 1 v] }).objs.size],_,_,H,rfl,
  I1.kept (t':=tk) fun b o e=>Heap.get?_push_of_some _ e,xT _ lo (hi - lo).toNat,?_,fun b hb=>?_,q⟩
 ·have e1:lo+((0:Nat):Int)*1=lo:=by simp
  have e2:(((hi - lo).toNat:Nat):Int) - ((0:Nat):Int)=Builtin.Range.rangeSize lo hi 1:=by rw[rangeSize_one];split<;>omega
  show IsRangeIter _ _ (lo+((0:Nat):Int)*1) ((((hi - lo).toNat:Nat):Int) - ((0:Nat):Int)) 1
  rw[e1,e2]
  exact Heap.get?_push_size _ rfl
 ·have e:b=(s.heap.push { cls:=.type "range", data:=.fields #[.int lo t,.int hi u,.int 1 v] }).objs.size:=by simpa using hb
  subst e
  exact I1.D4 (Nat.le_refl _) (I1.hok.fresh (Nat.le_refl _))
noncomputable def JW (ta:TA):TI:=fun σ H R=>ta σ H fun vs H1=>∃j:Int,vs=[.int j]/\-(2 ^ 62)<=j/\j<2 ^ 62/\R (Itr 0 j.toNat) H1
noncomputable def Ju (ta:TA):TI:=fun σ H R=>ta σ H fun vs H1=>∃i j:Int,vs=[.int i,.int j]/\(-(2 ^ 62)<=i/\i<2 ^ 62/\-(2 ^ 62)<=j/\j<2 ^ 62)/\R (Itr i (j - i).toNat) H1
theorem zL {a:Expr} {ta:TA} {p pos:Pos} (hg:Gl X "range") (hm:X.mg "range" = none) (ha:PA X [a] ta) (hs:starEach [a] X.env=[(false,eval a X.env)]:=by rfl):PI X tg (.Call (.Name "range" p) [a] [] pos) (JW ta):=by
 intro pins s σ H R I h
 refine Call_ (mG I hg hm boot_range (PyProof.Rows.callWith_type1 (thn (ha pos pins s σ H _ I h) fun us s1 ⟨vs,H1,I1,r1,q1⟩=>?_) hs rfl))
 obtain⟨j,e,q1,q2,q⟩:=q1
 subst e
 cases r1 with
 | cons r rr=>
  cases rr
  obtain⟨t,rfl⟩:=r
  exact call_range_1 (we I1 (by omega) (by omega) q1 q2 (by simpa using q))
theorem zN {a b:Expr} {ta:TA} {p pos:Pos} (hg:Gl X "range") (hm:X.mg "range" = none) (ha:PA X [a,b] ta) (hs:starEach [a,b] X.env=[(false,eval a X.env),(false,eval b X.env)]:=by rfl) (hs2:starEach [b] X.env=[(false,eval b X.env)]:=by rfl) :
  PI X tg (.Call (.Name "range" p) [a,b] [] pos) (Ju ta):=by
 intro pins s σ H R I h
 refine Call_ (mG I hg hm boot_range (PyProof.Rows.callWith_type1 (thn (ha pos pins s σ H _ I h) fun us s1 ⟨vs,H1,I1,r1,q1⟩=>?_) (by rw[hs,hs2]) (by rw[hs2];rfl)))
 obtain⟨i,j,e,⟨q1,q2,q3,q4⟩,q⟩:=q1
 subst e
 cases r1 with
 | cons r rr=>
  cases rr with
  | cons r' rr=>
   cases rr
   obtain⟨t,rfl⟩:=r
   obtain⟨t',rfl⟩:=r'
   exact call_range_2 (we I1 q1 q2 q3 q4 q)
noncomputable def Lz (wi:TI) (g:TG) (tb:TS):TS:=fun D σ H=>wi σ H fun J H1=>∃W:Nat->Nat->St->Hp->Prop,(∃m,W 0 m σ H1)/\∀i m σ H,W i m σ H →
 (J.stop i H/\D.nx σ H)\/(J.go i H/\∃N:St->Hp->Prop,(∀σ' H',N σ' H'->∃m',m'<m/\W (i+1) m' σ' H')/\∀x H',J.yld i H x H'->g x σ H' fun σ2 H2=>tb { D with nx:=N,ct:=N,bk:=D.nx } σ2 H2)
noncomputable def j9 (fp:List Addr) (h:Heap):List (Addr × Obj):=fp.filterMap fun b=>(h.get? b).map fun o=>(b,o)
theorem dJ {fp:List Addr} {h:Heap} {b:Addr} {o:Obj} (hb:b∈fp) (e:h.get? b=some o):(b,o)∈j9 fp h:=List.mem_filterMap.mpr ⟨b,hb,by rw[e];rfl⟩
theorem Ap {fp:List Addr} {h:Heap} {p:Addr × Obj} (hp:p∈j9 fp h):p.1∈fp/\h.get? p.1=some p.2:=by
 obtain⟨b,hb,e⟩:=List.mem_filterMap.mp hp
 cases q:h.get? b with
 | none=>rw[q] at e;cases e
 | some o=>
  rw[q] at e
  have e':(b,o)=p:=Option.some.inj e
  subst e'
  exact⟨hb,q⟩
theorem Inv.pinned {pins:List (Addr × Obj)} {σ:St} {H:Hp} {s:Shared} {fp:List Addr} (I:Inv X pins σ H s) (hf:∀b∈fp,n_ X pins H b) (ho:∀b∈fp,∃o,s.heap.get? b=some o/\∀v,o.data≠.cell v):Inv X (pins++j9 fp s.heap) σ H s:=
 I.lM fun p hp=>(List.mem_append.mp hp).elim (fun z=>I.pin p (List.mem_append_right _ z)) fun z=>by
  obtain⟨hb,e⟩:=Ap z
  obtain⟨f0,f1,f2,_⟩:=hf p.1 hb
  obtain⟨o,e',d⟩:=ho p.1 hb
  rw[e] at e';cases e'
  exact⟨e,f0,f1,f2,d⟩
theorem Inv.iw {pins pl:List (Addr × Obj)} {σ:St} {H:Hp} {s:Shared} (I:Inv X (pins++pl) σ H s):Inv X pins σ H s:=I.lM fun p hp=>I.pin p (List.mem_append_right _ (List.mem_append_left _ hp))
theorem Ia {iter:Expr} {body:List Stmt} {wi:TI} {g:TG} {tb:TS} {pos:Pos} (hp:PassesOwn (model X.prog X.w) X.A X.env X.xe) (hc:X.calm=true) (hi:PI X tg iter wi) (hg:PG X tg g) (hb:PSs X body tb)
  (hs:∀x,foldedSetIterable iter X.env x=pure x:=by intro _;rfl):PS X (.For tg iter body [] pos) (Lz wi g tb):=by
 intro pins s σ H D I h
 refine wpAny_For (thn (hi pins s σ H _ I h) fun v s1 h1=>thn h1 fun itv s2 h2=>?_) hs
 obtain⟨it,fp,tn,J,H2,e,I2,T,st2,f2,W,⟨m0,w0⟩,turn⟩:=h2
 subst e
 -- what stays true of the iterator's objects through the loop
 have stat:∀{H':Hp},(∀b∈fp,H' b=none)->∀b∈fp,n_ X pins H' b:=fun hn b hb=>⟨hn b hb,(f2 b hb).2⟩
 refine codeAny_forLoop_any (fun n s'=>∃i σ' H',Inv X pins σ' H' s'/\tn i s'.heap/\(∀b∈fp,H' b=none)/\W i n σ' H') ?_ m0 ⟨0,σ,H2,I2,st2,fun b hb=>(f2 b hb).1,w0⟩
 rintro n s3 ⟨i,σ3,H3,I3,st3,fr3,w3⟩
 rcases turn i n σ3 H3 w3 with⟨stop,qn⟩ | ⟨go,N,hN,step⟩
 ·refine wpAny_passesOwn hp (thn (T.done X rfl rfl rfl hc i pins s3 σ3 H3 X.xe I3 (stat fr3) st3 stop) fun r s4 ⟨hr,I4⟩=>?_)
  subst hr
  exact wpAny_execs_nil ⟨σ3,H3,I4,qn⟩
 ·refine wpAny_passesOwn hp (thn (T.item X rfl rfl rfl hc i pins s3 σ3 H3 X.xe I3 (stat fr3) st3 go) fun r s4 ⟨u,hr,h4⟩=>?_)
  subst hr
  refine wpAny_passesOwn hp (thn h4 fun _ s5 ⟨x,H5,I5,r5,y5,st5,fr5⟩=>?_)
  have I5':=I5.pinned (stat fr5) (T.obj _ _ st5)
  refine wpAny_passesOwn hp (thn (hg _ s5 σ3 H5 x u _ I5' r5 (step x H5 y5)) fun _ s6 ⟨σ6,H6,I6,q6⟩=>?_)
  refine wpAny_passesOwn hp (thn (hb _ s6 σ6 H6 _ I6 q6) fun f s7 q7=>?_)
  have again:∀{σ7:St} {H7:Hp},Inv X (pins++j9 fp s5.heap) σ7 H7 s7->N σ7 H7->∃m,m<n/\∃i σ' H',Inv X pins σ' H' s7/\tn i s7.heap/\(∀b∈fp,H' b=none)/\W i m σ' H':=fun{σ7 H7} I7 n7=>by
   obtain⟨m',hm,w7⟩:=hN σ7 H7 n7
   refine⟨m',hm,i+1,σ7,H7,I7.iw,T.keep _ _ _ st5 fun b hb o e=>(I7.pin (b,o) (List.mem_append_right _ (List.mem_append_right _ (dJ hb e)))).1,fun b hb=>?_,w7⟩
   obtain⟨o,e,d⟩:=T.obj _ _ st5 b hb
   exact(I7.pin (b,o) (List.mem_append_right _ (List.mem_append_right _ (dJ hb e)))).2.1
  cases f with
  | next=>obtain⟨σ7,H7,I7,n7⟩:=q7;exact again I7 n7
  | cont=>obtain⟨σ7,H7,I7,n7⟩:=q7;exact again I7 n7
  | brk=>obtain⟨σ7,H7,I7,q7⟩:=q7;exact⟨σ7,H7,I7.iw,q7⟩
  | ret v=>obtain⟨x7,σ7,H7,I7,r7,q7⟩:=q7;exact⟨x7,σ7,H7,I7.iw,r7,q7⟩
end
noncomputable abbrev R2:=V->V->Hp->VK->Prop
noncomputable def OpR (X:Cx) (f:Value->Value->Sem Value) (r:R2):Prop:=
 ∀(pins:List (Addr × Obj)) (s:Shared) (σ:St) (H:Hp) (x y:V) (v u:Value) (Q:VK),Inv X pins σ H s->RelV x v->RelV y u->r x y H Q →
  wpAny (model X.prog X.w) X.A (f v u) (EP X pins σ Q) X.xe s
noncomputable def UnR (X:Cx) (f:Value->Sem Value) (r:V->Hp->VK->Prop):Prop:=
 ∀(pins:List (Addr × Obj)) (s:Shared) (σ:St) (H:Hp) (x:V) (v:Value) (Q:VK),Inv X pins σ H s->RelV x v->r x H Q →
  wpAny (model X.prog X.w) X.A (f v) (EP X pins σ Q) X.xe s
noncomputable def bp (X:Cx) (f:Value) (r:List V->Hp->VK->Prop):Prop:=
 ∀(pins:List (Addr × Obj)) (s:Shared) (σ:St) (H:Hp) (xs:List V) (us:List Value) (Q:VK),Inv X pins σ H s->Vals xs us->r xs H Q →
  wpAny (model X.prog X.w) X.A (call f us) (EP X pins σ Q) X.xe s
noncomputable def KW (X:Cx) (r:V->Hp->(Bool->Hp->Prop)->Prop):Prop:=
 ∀(pins:List (Addr × Obj)) (s:Shared) (σ:St) (H:Hp) (x:V) (v:Value) (Q:Bool->Hp->Prop),Inv X pins σ H s->RelV x v->r x H Q →
  wpAny (model X.prog X.w) X.A (truthy v) (TP X pins σ Q) X.xe s
noncomputable def tOp (r:R2) (ta tb:TE):TE:=fun σ H Q=>ta σ H fun x H1=>tb σ H1 fun y H2=>r x y H2 Q
noncomputable def tUn (r:V->Hp->VK->Prop) (ta:TE):TE:=fun σ H Q=>ta σ H fun x H1=>r x H1 Q
noncomputable def rI (C:Int->Int->Prop) (g:Int->Int->V):R2:=fun x y H Q=>∃i j,x=.int i/\y=.int j/\C i j/\Q (g i j) H
noncomputable def rI0 (g:Int->Int->V):R2:=fun x y H Q=>∃i j,x=.int i/\y=.int j/\Q (g i j) H
noncomputable def rU (g:Int->V):V->Hp->VK->Prop:=fun x H Q=>∃i,x=.int i/\Q (g i) H
section
variable {X:Cx} {a b c:Expr} {ta tb tc:TE} {pos:Pos}
theorem HD (ha:PE X a ta) (hb:PE X b tb) {pins:List (Addr × Obj)} {s:Shared} {σ:St} {H:Hp} {R:V->V->Hp->Prop} (I:Inv X pins σ H s)
  (h:ta σ H fun x H1=>tb σ H1 fun y H2=>R x y H2) {Q:Value->Shared->Prop} {f:Value->Value->Sem Value}
  (hf:∀v u s2 x y H2,Inv X pins σ H2 s2->RelV x v->RelV y u->R x y H2->wpAny (model X.prog X.w) X.A (f v u) Q X.xe s2) :
  wpAny (model X.prog X.w) X.A (eval a X.env) (fun v s₁=>wpAny (model X.prog X.w) X.A (eval b X.env) (fun u s₂=>wpAny (model X.prog X.w) X.A (f v u) Q X.xe s₂) X.xe s₁) X.xe s:=by
 refine thn (ha pins s σ H _ I h) fun v s1 ⟨x,H1,I1,r1,q1⟩=>?_
 refine thn (hb pins s1 σ H1 _ I1 q1) fun u s2 ⟨y,H2,I2,r2,q2⟩=>?_
 exact hf v u s2 x y H2 I2 r1 r2 q2
theorem JF {op:Operator} {r:R2} (ho:OpR X (binaryOp op) r) (ha:PE X a ta) (hb:PE X b tb):PE X (.BinOp a op b pos) (tOp r ta tb):=by
 intro pins s σ H Q I h
 exact wpAny_BinOp (HD ha hb I h fun v u s2 x y H2 I2 rx ry q=>ho pins s2 σ H2 x y v u Q I2 rx ry q)
theorem JH {op:UnaryOp} {r:V->Hp->VK->Prop} (ho:UnR X (unaryOp op) r) (ha:PE X a ta):PE X (.UnaryOp op a pos) (tUn r ta):=by
 intro pins s σ H Q I h
 exact UnaryOp_ (thn (ha pins s σ H _ I h) fun v s1 ⟨x,H1,I1,r1,q1⟩=>ho pins s1 σ H1 x v Q I1 r1 q1)
theorem opI {f:Value->Value->Sem Value} {C:Int->Int->Prop} {g:Int->Int->Int}
  (rule:∀(i j:Int) (t u:Tok) (s:Shared) (Q:Value->Shared->Prop) (E:Value->Shared->Prop),C i j->Q (.int (g i j) s.toks) { s with toks:=s.toks+1 }->wpAny (model X.prog X.w) X.A (f (.int i t) (.int j u)) Q E s) :
  OpR X f (rI C fun i j=>.int (g i j)):=by
 intro pins s σ H x y v u Q I rx ry h
 obtain⟨i,j,rfl,rfl,hc,q⟩:=h
 obtain⟨t,rfl⟩:=rx
 obtain⟨t',rfl⟩:=ry
 exact rule i j t t' s _ _ hc ⟨.int (g i j),H,I.tok _,⟨_,rfl⟩,q⟩
theorem J0 {f:Value->Value->Sem Value} {g:Int->Int->Int}
  (rule:∀(i j:Int) (t u:Tok) (s:Shared) (Q:Value->Shared->Prop) (E:Value->Shared->Prop),Q (.int (g i j) s.toks) { s with toks:=s.toks+1 }->wpAny (model X.prog X.w) X.A (f (.int i t) (.int j u)) Q E s) :
  OpR X f (rI0 fun i j=>.int (g i j)):=by
 intro pins s σ H x y v u Q I rx ry h
 obtain⟨i,j,rfl,rfl,q⟩:=h
 obtain⟨t,rfl⟩:=rx
 obtain⟨t',rfl⟩:=ry
 exact rule i j t t' s _ _ ⟨.int (g i j),H,I.tok _,⟨_,rfl⟩,q⟩
theorem ES {f:Value->Value->Sem Value} {g:Int->Int->Bool}
  (rule:∀(i j:Int) (t u:Tok) (s:Shared) (Q:Value->Shared->Prop) (E:Value->Shared->Prop),Q (.bool (g i j)) s->wpAny (model X.prog X.w) X.A (f (.int i t) (.int j u)) Q E s) :
  OpR X f (rI0 fun i j=>.bl (g i j)):=by
 intro pins s σ H x y v u Q I rx ry h
 obtain⟨i,j,rfl,rfl,q⟩:=h
 obtain⟨t,rfl⟩:=rx
 obtain⟨t',rfl⟩:=ry
 exact rule i j t t' s _ _ ⟨.bl (g i j),H,I,rfl,q⟩
theorem GZ:OpR X (binaryOp .Add) (rI0 fun i j=>.int (i+j)):=J0 fun _ _ _ _ _ _ _ q=>add_int q
theorem bZ:OpR X (binaryOp .Sub) (rI0 fun i j=>.int (i - j)):=J0 fun _ _ _ _ _ _ _ q=>sub_int q
theorem kI:OpR X (binaryOp .Mod) (rI (fun _ j=>0<j) fun i j=>.int (i % j)):=opI fun i j _ _ _ _ _ hc q=>by
 have h1:(0:Int)<j:=hc
 exact mod_int' (by omega) (by rw[Int.fmod_eq_emod_of_nonneg i (by omega)];exact q)
theorem unI {f:Value->Sem Value} {g:Int->Int}
  (rule:∀(i:Int) (t:Tok) (s:Shared) (Q:Value->Shared->Prop) (E:Value->Shared->Prop),Q (.int (g i) s.toks) { s with toks:=s.toks+1 }->wpAny (model X.prog X.w) X.A (f (.int i t)) Q E s) :
  UnR X f (rU fun i=>.int (g i)):=by
 intro pins s σ H x v Q I rx h
 obtain⟨i,rfl,q⟩:=h
 obtain⟨t,rfl⟩:=rx
 exact rule i t s _ _ ⟨.int (g i),H,I.tok _,⟨_,rfl⟩,q⟩
theorem jV:UnR X (unaryOp .USub) (rU fun i=>.int (-i)):=unI fun _ _ _ _ _ q=>neg_int q
end
section
variable {X:Cx} {a b c:Expr} {ta tb tc:TE} {pos:Pos}
theorem rY:OpR X (compareOp .Lt) (rI0 fun i j=>.bl (decide (i<j))):=ES fun _ _ _ _ _ _ _ q=>lt_int q
theorem Gw:OpR X (compareOp .LtE) (rI0 fun i j=>.bl (decide (i<=j))):=ES fun _ _ _ _ _ _ _ q=>le_int q
theorem DF:OpR X (compareOp .Gt) (rI0 fun i j=>.bl (decide (j<i))):=ES fun _ _ _ _ _ _ _ q=>gt_int q
theorem Je:OpR X (compareOp .GtE) (rI0 fun i j=>.bl (decide (j<=i))):=ES fun _ _ _ _ _ _ _ q=>ge_int q
theorem bT (b:Expr) {op:CmpOp} (h:op≠.In:=by decide) (h2:op≠.NotIn:=by decide):behindInMarks op b=false:=by
 have e1:(op == CmpOp.In)=false:=by cases op<;>first | rfl | exact absurd rfl h
 have e2:(op == CmpOp.NotIn)=false:=by cases op<;>first | rfl | exact absurd rfl h2
 cases b<;>simp[behindInMarks,e1,e2]
theorem EH {op:CmpOp} {r:R2} (ho:OpR X (compareOp op) r) (ha:PE X a ta) (hb:PE X b tb) (hm:behindInMarks op b=false):PE X (.Compare a [op] [b] pos) (tOp r ta tb):=by
 intro pins s σ H Q I h
 exact wpAny_Compare1 (HD ha hb I h fun v u s2 x y H2 I2 rx ry q=>ho pins s2 σ H2 x y v u Q I2 rx ry q) hm
noncomputable def Gp (t:TE):TT:=fun σ H Q=>t σ H fun x H'=>∃k,x=.bl k/\Q k H'
theorem E_ {op:CmpOp} {r:R2} (ho:OpR X (compareOp op) r) (ha:PE X a ta) (hb:PE X b tb) (hm:behindInMarks op b=false):PT X (.Compare a [op] [b] pos) (Gp (tOp r ta tb)):=by
 intro pins s σ H Q I h
 refine wpAny_isTrue_Compare1 (thn (ha pins s σ H _ I h) fun v s1 ⟨x,H1,I1,r1,q1⟩=>thn (hb pins s1 σ H1 _ I1 q1) fun u s2 ⟨y,H2,I2,r2,q2⟩=>
  thn (ho pins s2 σ H2 x y v u _ I2 r1 r2 q2) fun c s3 ⟨z,H3,I3,r3,k,e,q3⟩=>?_) hm
 subst e
 cases r3
 exact wpAny_truthy_bool ⟨H3,I3,q3⟩
noncomputable def Bu (r r':R2) (ta tb tc:TE):TE:=fun σ H Q=>ta σ H fun x H1=>tb σ H1 fun y H2=>r x y H2 fun z H3=>∃k,z=.bl k ∧
 (if k=true then tc σ H3 fun w' H4=>r' y w' H4 Q else Q (.bl false) H3)
theorem Cc {op op':CmpOp} {r r':R2} (ho:OpR X (compareOp op) r) (ho':OpR X (compareOp op') r') (ha:PE X a ta) (hb:PE X b tb) (hc:PE X c tc)
  (hm:lastMarks [op,op'] [b,c]=false:=by with_unfolding_all rfl):PE X (.Compare a [op,op'] [b,c] pos) (Bu r r' ta tb tc):=by
 intro pins s σ H Q I h
 refine Compare_chain (thn (ha pins s σ H _ I h) fun v s1 ⟨x,H1,I1,r1,q1⟩=>chain_link (thn (hb pins s1 σ H1 _ I1 q1) fun u s2 ⟨y,H2,I2,r2,q2⟩=>
  thn (ho pins s2 σ H2 x y v u _ I2 r1 r2 q2) fun d s3 ⟨z,H3,I3,r3,k,e,q3⟩=>?_)) hm
 subst e
 cases r3
 refine wpAny_truthy_bool ?_
 cases k with
 | false=>exact ite_ff ⟨.bl false,H3,I3,rfl,q3⟩
 | true=>exact ite_tt (chain_last (thn (hc pins s3 σ H3 _ I3 q3) fun w' s4 ⟨z',H4,I4,r4,q4⟩=>ho' pins s4 σ H4 y z' u w' Q I4 r2 r4 q4))
noncomputable def Fq (K:PySem.W.Frag) (x:V) (H:Hp) (k:Bool):Prop:=
 match x with
 | .non=>k=false
 | .bl b=>k=b
 | .int i=>k=(i != 0)
 | .str y=>y.length<=sizeLine/\k=((y.length:Int) != 0)
 | .byt y=>y.size<=sizeLine/\k=((y.size:Int) != 0)
 | .ref p=>(∃xs,SqL K H p xs/\k = !xs.isEmpty)\/(∃xs,SqT K H p xs/\k = !xs.isEmpty)\/∃kvs,H p=some (.dK kvs)/\k = !kvs.isEmpty
 | _=>False
theorem wW {κ:Type} {kvs:List (κ × V)} {vs:List (κ × Value)} (r:KV kvs vs):(!vs.isEmpty) = !kvs.isEmpty:=by
 cases r<;>rfl
theorem pT {xs:List V} {its:List Value} (r:Vals xs its):(!its.toArray.isEmpty) = !xs.isEmpty:=by
 cases r<;>simp
theorem kN:(sizeLine:Nat)<2 ^ 63:=by rw[sizeLine_eq];decide
theorem Io:KW X (fun x H Q=>∃k,Fq X.K x H k/\Q k H):=by
 intro pins s σ H x v Q I rx h
 obtain⟨k,e,q⟩:=h
 have hl:=kN
 have hs:sizeLine=16777216:=sizeLine_eq
 cases x with
 | non=>
  cases rx
  have e':k=false:=e
  subst e'
  exact truthy_none ⟨H,I,q⟩
 | bl b=>
  cases rx
  have e':k=b:=e
  subst e'
  exact wpAny_truthy_bool ⟨H,I,q⟩
 | int i=>
  obtain⟨t,rfl⟩:=rx
  have e':k=(i != 0):=e
  subst e'
  exact PySem.P.truthy_int ⟨H,I,q⟩
 | str y=>
  obtain⟨t,rfl⟩:=rx
  obtain⟨hy,e'⟩:y.length<=sizeLine/\k=((y.length:Int) != 0):=e
  subst e'
  exact PySem.P.truthy_str (by omega) ⟨H,I.tok _,q⟩
 | byt y=>
  obtain⟨t,rfl⟩:=rx
  obtain⟨hy,e'⟩:y.size<=sizeLine/\k=((y.size:Int) != 0):=e
  subst e'
  exact PySem.W.truthy_bytes (by omega) ⟨H,I.tok _,q⟩
 | ref p=>
  cases rx
  have e':(∃xs,SqL X.K H p xs/\k = !xs.isEmpty)\/(∃xs,SqT X.K H p xs/\k = !xs.isEmpty)\/∃kvs,H p=some (.dK kvs)/\k = !kvs.isEmpty:=e
  rcases e' with⟨xs,hx,e'⟩ | ⟨xs,hx,e'⟩ | ⟨kvs,hx,e'⟩
  ·subst e'
   obtain⟨its,r,pl,hz⟩:=I.list hx
   have hlen:=r.length
   exact wpAny_truthy_list pl.isList (by simp only[List.size_toArray];omega) ⟨H,I.tok _,by rw[pT r];exact q⟩
  ·subst e'
   obtain⟨its,r,pl,hz⟩:=I.tuple hx
   have hlen:=r.length
   exact truthy_tuple pl (by simp only[List.size_toArray];omega) ⟨H,I.tok _,by rw[pT r];exact q⟩
  ·subst e'
   obtain⟨hz,hS,vs,r,m⟩:kvs.length<=sizeLine/\(p == sysModules)=false/\∃vs,KV kvs vs/\s.heap.DictOf (tF X.prog X.w) p vs:=I.hok p _ hx
   have hlen:kvs.length=vs.length:=Paired.length r
   exact wpAny_truthy_dict hS m (by omega) ⟨H,I.tok _,by rw[wW r];exact q⟩
 | _=>exact(show False from e).elim
theorem Bo (ha:PE X a ta) (he:∀whole,isTrue a X.env whole=(do let v ← whole;standAt a.pos;holding [v] (truthy v))) :
  PT X a (fun σ H Q=>ta σ H fun x H'=>∃k,Fq X.K x H' k/\Q k H'):=by
 intro pins s σ H Q I h
 exact isTrue_plain (thn (ha pins s σ H _ I h) fun v s1 ⟨x,H1,I1,r1,q1⟩=>Io pins s1 σ H1 x v Q I1 r1 q1) (he _)
theorem xw:OpR X (binaryOp .Add) (fun x y H Q=>∃i j,x=.str i/\y=.str j/\i.length+j.length<=sizeLine/\Q (.str (i++j)) H):=by
 intro pins s σ H x y v u Q I rx ry h
 obtain⟨i,j,rfl,rfl,hz,q⟩:=h
 obtain⟨t,rfl⟩:=rx
 obtain⟨t',rfl⟩:=ry
 exact add_str (fun t' tk=>⟨.str (i++j),H,I.tok _,⟨_,rfl⟩,q⟩) hz
theorem vals1 {x:V} {us:List Value} (r:Vals [x] us):∃u,us=[u]/\RelV x u:=by
 cases r with
 | cons r1 r2=>cases r2;exact⟨_,rfl,r1⟩
theorem vals2 {x y:V} {us:List Value} (r:Vals [x,y] us):∃u w',us=[u,w']/\RelV x u/\RelV y w':=by
 cases r with
 | cons r1 r2=>
  cases r2 with
  | cons r3 r4=>cases r4;exact⟨_,_,rfl,r1,r3⟩
theorem rE (hc:X.calm=true):bp X (.builtin "max") (fun xs H Q=>∃i j,xs=[.int i,.int j]/\Q (.int (if j > i then j else i)) H):=by
 intro pins s σ H xs us Q I r h
 obtain⟨i,j,rfl,q⟩:=h
 obtain⟨u,w',rfl,⟨t,rfl⟩,⟨t',rfl⟩⟩:=vals2 r
 refine max_two_ints (I.ok.hd hc) fun h' tk k=>⟨_,H,I.kept k,?_,q⟩
 by_cases hj:j > i
 ·rw[if_pos hj,if_pos hj];exact⟨_,rfl⟩
 ·rw[if_neg hj,if_neg hj];exact⟨_,rfl⟩
theorem zG:bp X (.type "int") (fun xs H Q=>(∃i,xs=[.int i]/\Q (.int i) H)\/∃k,xs=[.bl k]/\Q (.int (if k then 1 else 0)) H):=by
 intro pins s σ H xs us Q I r h
 rcases h with⟨i,rfl,q⟩ | ⟨k,rfl,q⟩
 ·obtain⟨u,rfl,t,rfl⟩:=vals1 r
  exact call_int_int ⟨.int i,H,I,⟨_,rfl⟩,q⟩
 ·obtain⟨u,rfl,r1⟩:=vals1 r
  cases r1
  exact call_int_bool ⟨.int (if k then 1 else 0),H,I.tok _,⟨_,rfl⟩,q⟩
end
structure G9 (h:Heap) (x dx C:Addr) (mA:Str->Option Value):Prop where
 obj:h.get? x=some (PySem.W.instObj C dx)
 ns:h.Ns1 dx mA
 ne:dx≠x
theorem Ax {h:Heap} {dx:Addr} {mA:Str->Option Value} (n:h.Ns1 dx mA):∃od,h.get? dx=some od/\∀name,PySem.W.lookIn name od=some (mA name):=by
 obtain⟨o,es,ep,ho,hd,hk,_,hm⟩:=n
 refine⟨o,ho,fun name=>?_⟩
 have e:=hm name
 unfold nsFind findBy at e
 rw[<- Array.find?_toList] at e
 unfold PySem.W.lookIn
 rw[hd]
 dsimp only
 split
 ·rename_i y q
  rw[q] at e
  exact congrArg some e
 ·rename_i q
  rw[q] at e
  have a:es.toList.any (·.refKey)=false:=by
   rw[List.any_eq_false]
   intro y hy
   obtain⟨z,t,hkey⟩:=hk y (Array.mem_toList_iff.mp hy)
   simp[DictEntry.refKey,hkey]
  have a':¬ es.toList.any (·.refKey)=true:=by rw[a];exact Bool.false_ne_true
  rw[if_neg a']
  exact congrArg some e
theorem G9.look {h:Heap} {x dx C:Addr} {mA:Str->Option Value} (I:G9 h x dx C mA):∃od,PySem.W.InstAt h x (PySem.W.instObj C dx) C (some od)/\∀name,PySem.W.lookIn name od=some (mA name):=
 let ⟨od,ho,hl⟩:=Ax I.ns
 ⟨od,⟨I.obj,rfl,rfl,ho⟩,hl⟩
section
variable {P:Program} {w:World} {H H':Hp} {h h':Heap} {a C dx:Addr} {fs fs':List (Str × V)}
theorem ED (hok:HOk P w H h) (e:H a=some (.ins C dx fs)):∃mA,G9 h a dx C mA/\(∀f,HA (fs.lookup f) (mA f))/\PySem.Within mA (fs.map (·.1))/\fs.length<=1000/\H dx=some (.own a):=by
 obtain⟨d,z,ne,ob,mA,n,r,q⟩:=(show cF P w H h a (.ins C dx fs) from hok a _ e)
 exact⟨mA,⟨ob,n,ne⟩,r,q,z,d⟩
end
structure Cls (K:PySem.W.Frag) (C:Addr):Prop where
 pg:PySem.W.plainGet K C Str.empty=true
 hd:PySem.W.hasDictIn K C=true
 po:PySem.W.plainOver K C=true
 sa:PySem.W.findIn K (.ref C) "__setattr__" = some (some (.builtin "object.__setattr__"))
theorem Cls.get {K:PySem.W.Frag} {C:Addr} (c:Cls K C) (f:Str):PySem.W.plainGet K C f=true:=c.pg
section
variable {X:Cx} {pins:List (Addr × Obj)} {σ:St} {H:Hp} {s:Shared} {a C dx:Addr} {fs:List (Str × V)} {f:Str} {v:V} {A:Around} {E:Value->Shared->Prop}
theorem Fe {prog:Program} {w:World} {env:Env} {e:Expr} {f:Str} {pos:Pos} {s:Shared} {Q:Value->Shared->Prop} (hb:attributeBase e f env (eval e env)=eval e env)
  (h:wpAny (model prog w) A (eval e env) (fun o s₁=>wpAny (model prog w) A (getAttr o f true) Q E s₁) E s):wpAny (model prog w) A (eval (.Attribute e f pos) env) Q E s:=
 Attribute_any_ h (by rw[arm_eval_Attribute,hb])
end
section
variable {X:Cx} {pins:List (Addr × Obj)} {σ:St} {H:Hp} {s:Shared} {A:Around} {E:Value->Shared->Prop} {Q:Value->Shared->Prop} {c:Value} {b:Bool}
inductive lg (K:PySem.W.Frag) (H:Hp):V->Value->Prop where
 | non:lg K H .non (.type "NoneType")
 | bl (x:Bool):lg K H (.bl x) (.type "bool")
 | int (i:Int):lg K H (.int i) (.type "int")
 | str (x:Str):lg K H (.str x) (.type "str")
 | flt (x:UInt64):lg K H (.flt x) (.type "float")
 | lst {a:Addr} {xs:List V} (e:H a=some (.lst xs)):lg K H (.ref a) (.type "list")
 | frz {a:Addr} {o:Obj} {xs:List V} (e:H a=some (.frz o (.lst xs))):lg K H (.ref a) (.type "list")
 | tup {a:Addr} {xs:List V} (e:H a=some (.tup xs)):lg K H (.ref a) (.type "tuple")
 | gk {a:Addr} {o:Obj} {kvs:List (Key × V)} (e:H a=some (.frz o (.dK kvs))):lg K H (.ref a) (.type "dict")
 | dK {a:Addr} {kvs:List (Key × V)} (e:H a=some (.dK kvs)):lg K H (.ref a) (.type "dict")
 | dT {a:Addr} {kvs:List (List Key × V)} (e:H a=some (.dT kvs)):lg K H (.ref a) (.type "dict")
 | ins {a C dx:Addr} {fs:List (Str × V)} (e:H a=some (.ins C dx fs)) (cl:Cls K C) (ha:PySem.W.findIn K (.ref C) "__class__" = some (some (.builtin "object.__class__")))
   (hn:PySem.W.specialIn K (.builtin "object.__class__") "__get__" = some (some (.builtin "getset_descriptor.__get__"))) (htk:PySem.W.takesIn K (.builtin "object.__class__")=some true)
   (hm:PySem.W.mroIn K C (.type "object")=some true):lg K H (.ref a) (.ref C)
theorem zT {x:V} {u t:Value} (I:Inv X pins σ H s) (rx:RelV x u) (ty:lg X.K H x t) (e:PySem.W.kitOne X.K t c=some b) (h:∀tk,Q (.bool b) { s with toks:=tk }) :
  wpAny (model X.prog X.w) A (call (.builtin "isinstance") [u,c]) Q E s:=by
 cases ty with
 | non=>cases (show u=Value.none from rx);exact PySem.W.kia_one PySem.W.kitx_none I.kIn True.intro e (fun z=>nomatch z) h
 | bl y=>cases (show u=Value.bool y from rx);exact PySem.W.kia_one PySem.W.kitx_bool I.kIn True.intro e (fun z=>nomatch z) h
 | int i=>obtain⟨t,q⟩:=(show ∃t,u=Value.int i t from rx);cases q;exact PySem.W.kia_one PySem.W.kitx_int I.kIn True.intro e (fun z=>nomatch z) h
 | str y=>obtain⟨t,q⟩:=(show ∃t,u=Value.str y t from rx);cases q;exact PySem.W.kia_one PySem.W.kitx_str I.kIn True.intro e (fun z=>nomatch z) h
 | flt y=>obtain⟨t,q⟩:=(show ∃t,u=Value.float y t from rx);cases q;exact PySem.W.kia_one PySem.W.kitx_float I.kIn True.intro e (fun z=>nomatch z) h
 | @lst a xs ea=>
  cases (show u=Value.ref a from rx)
  obtain⟨_,_,n,_,h1⟩:=(show cF X.prog X.w H s.heap a (.lst xs) from I.hok a _ ea)
  exact PySem.W.kia_one PySem.W.kitx_list I.kIn ⟨_,h1,rfl⟩ e (fun z=>nomatch z) h
 | @frz a ob xs ea=>
  cases (show u=Value.ref a from rx)
  obtain⟨_,_,_,n,_,h1⟩:=(show cF X.prog X.w H s.heap a (.frz ob (.lst xs)) from I.hok a _ ea)
  exact PySem.W.kia_one PySem.W.kitx_list I.kIn ⟨_,h1,rfl⟩ e (fun z=>nomatch z) h
 | @tup a xs ea=>
  cases (show u=Value.ref a from rx)
  obtain⟨_,_,_,p⟩:=(show cF X.prog X.w H s.heap a (.tup xs) from I.hok a _ ea)
  obtain⟨o,h1,⟨h2,_⟩,_⟩:=p
  exact PySem.W.kia_one PySem.W.kitx_tuple I.kIn ⟨o,h1,h2⟩ e (fun z=>nomatch z) h
 | @gk a ob kvs ea=>
  cases (show u=Value.ref a from rx)
  obtain⟨_,_,_,vs,_,p⟩:=(show cF X.prog X.w H s.heap a (.frz ob (.dK kvs)) from I.hok a _ ea)
  obtain⟨o,es,ep,h1,h2,_⟩:=p
  exact PySem.W.kia_one PySem.W.kitx_dict I.kIn ⟨o,h1,h2.1⟩ e (fun z=>nomatch z) h
 | @dK a kvs ea=>
  cases (show u=Value.ref a from rx)
  obtain⟨_,_,vs,_,p⟩:=(show cF X.prog X.w H s.heap a (.dK kvs) from I.hok a _ ea)
  obtain⟨o,es,ep,h1,h2,_⟩:=p
  exact PySem.W.kia_one PySem.W.kitx_dict I.kIn ⟨o,h1,h2.1⟩ e (fun z=>nomatch z) h
 | @dT a kvs ea=>
  cases (show u=Value.ref a from rx)
  obtain⟨_,_,xs,_,o,es,ep,h1,h2,_⟩:=(show cF X.prog X.w H s.heap a (.dT kvs) from I.hok a _ ea)
  exact PySem.W.kia_one PySem.W.kitx_dict I.kIn ⟨o,h1,h2.1⟩ e (fun z=>nomatch z) h
 | @ins a C dx fs ea cl ha hn htk hm=>
  cases (show u=Value.ref a from rx)
  obtain⟨mA,O,_⟩:=ED I.hok ea
  obtain⟨od,J,_⟩:=O.look
  exact PySem.W.kia_one (PySem.W.kitx_own (cl.get _) cl.hd ha hn htk hm) I.kIn J e (fun z=>nomatch z) h
end
structure dw (k:Nat) (A:Around):Prop where
 hd:A.handled=none
 dp:A.depth+3*k+5<recursionLimit
 un:A.units+16*k+200<cLine
 gd:A.guards=some []
theorem dw.mono {j k:Nat} {A:Around} (r:dw k A) (h:j<=k):dw j A:=⟨r.hd,by have:=r.dp;omega,by have:=r.un;omega,r.gd⟩
theorem dw.deeper {k:Nat} {A:Around} (r:dw (k+1) A) (env:Env):dw k (A.deeper env):=
 ⟨r.hd,by have:=r.dp;show A.depth+1+3*k+5<_;omega,by have:=r.un;show A.units+3+16*k+200<_;omega,r.gd⟩
theorem dw.depth {k:Nat} {A:Around} (r:dw k A):A.depth<recursionLimit:=by have:=r.dp;omega
theorem dw.units {k:Nat} {A:Around} (r:dw k A):A.units+64<cLine:=by have:=r.un;omega
noncomputable def IZ:TA:=fun _ H Q=>Q [] H
noncomputable def GC (ta:TE) (tr:TA):TA:=fun σ H Q=>ta σ H fun x H1=>tr σ H1 fun xs H2=>Q (x::xs) H2
section
variable {X:Cx} {e:Expr} {es:List Expr} {te:TE} {t:TA} {pos:Pos}
theorem k6:PA X [] IZ:=fun _ _ _ _ H Q I h=>Calls.spliced_nil ⟨[],H,I,.nil,h⟩
theorem fD (ha:PE X e te) (hr:PA X es t) (hs:starEach (e::es) X.env=(false,eval e X.env)::starEach es X.env:=by rfl):PA X (e::es) (GC te t):=by
 intro pos pins s σ H Q I h
 rw[hs]
 show wpAny _ _ (spliced ((false,eval e X.env)::backTo pos (starEach es X.env))) _ _ s
 refine Calls.spliced_cons (thn (ha pins s σ H _ I h) fun u s1 ⟨x,H1,I1,r1,q1⟩=>?_)
 exact thn (hr pos pins s1 σ H1 _ I1 q1) fun us s2 ⟨xs,H2,I2,r2,q2⟩=>⟨x::xs,H2,I2,.cons r1 r2,q2⟩
noncomputable def LQ (t:TA):TE:=fun σ H Q=>t σ H fun xs H1=>xs.length<=sizeLine/\∀p,H1 p=none->Q (.ref p) (upd H1 p (.tup xs))
noncomputable def KG (t:TA):TE:=fun σ H Q=>t σ H fun xs H1=>xs.length<=sizeLine/\∀p,H1 p=none->Q (.ref p) (upd H1 p (.lst xs))
theorem Hg {x1} (h:PA X es t):PE X (.Tuple es x1 pos) (LQ t):=by
 intro pins s σ H Q I hq
 refine wpAny_Tuple_spliced (thn (h pos pins s σ H _ I hq) fun us s1 ⟨xs,H1,I1,r,z,q⟩=>⟨by rw[<- r.length];exact z,?_⟩)
 have hf:H1 s1.heap.objs.size=none:=I1.hok.fresh (Nat.le_refl _)
 refine⟨.ref s1.heap.objs.size,upd H1 s1.heap.objs.size (.tup xs),I1.laid (t':=s1.toks) (fun b u e=>Heap.get?_push_of_some _ e) (Nat.le_refl _) ?_,rfl,q _ hf⟩
 exact⟨z,us,r,⟨_,Heap.get?_push_size _ rfl,⟨rfl,_,rfl⟩,rfl⟩⟩
theorem HS (h:PA X es t):PE X (.List es pos) (KG t):=by
 intro pins s σ H Q I hq
 refine wpAny_List_spliced (thn (h pos pins s σ H _ I hq) fun us s1 ⟨xs,H1,I1,r,z,q⟩=>⟨by rw[<- r.length];exact z,?_⟩)
 have hf:H1 s1.heap.objs.size=none:=I1.hok.fresh (Nat.le_refl _)
 refine⟨.ref s1.heap.objs.size,upd H1 s1.heap.objs.size (.lst xs),I1.laid (t':=s1.toks) (fun b u e=>Heap.get?_push_of_some _ e) (Nat.le_refl _) ?_,rfl,q _ hf⟩
 exact⟨z,us,0,r,Heap.get?_push_size _ rfl⟩
end
noncomputable abbrev Sp:=List V->Hp->VK->XK->Prop
noncomputable abbrev CXT:=List Env->Hp->Shared->XK->Value->Shared->Prop
structure xP (P:Program) (w:World) (K:PySem.W.Frag) (mg:Str->Option Value) (base:Heap) (A:Around) (outer:List Env) (s:Shared) (H:Hp):Prop where
 frames:A.frames=some outer
 mod:Mod K mg base
 bs:∀b o,base.get? b=some o->s.heap.get? b=some o/\H b=none
 bsz:base.objs.size<=s.heap.objs.size
 jQ:s.heap.FunFrames base outer
 frf:∀b∈frs outer,H b=none
 hok:HOk P w H s.heap
 bare:AllBare s.gens
noncomputable def CE (outer:List Env) (P:Program) (w:World) (H:Hp) (s:Shared) (Q:VK) (u:Value) (s':Shared):Prop:=
 ∃v H',s'.os=s.os/\AllBare s'.gens/\Un (frs outer) [] H H' s.heap s'.heap/\HOk P w H' s'.heap/\RelV v u/\Q v H'
noncomputable def CR (CX:CXT) (outer:List Env) (P:Program) (w:World) (H:Hp) (s:Shared) (Q:VK) (E:XK) (r:Result) (s':Shared):Prop:=
 match r with
 | .ok (.ret u)=>CE outer P w H s Q u s'
 | .ok _=>False
 | .error e=>CX outer H s E e s'
structure dA (P:Program) (w:World) (K:PySem.W.Frag) (mg:Str->Option Value) (base:Heap) (CX:CXT) (k:Nat) (f:Addr) (fd:FuncData) (ps:List Str) (sp:Sp):Prop where
 len:∀vs H Q E,sp vs H Q E->vs.length=ps.length
 run:∀(A:Around) (outer:List Env) (s:Shared) (H:Hp) (args:Args) (us:List Value) (vs:List V) (Q:VK) (E:XK),dw k A->xP P w K mg base A outer s H->BindsTo s fd args (ps.zip us)->Vals vs us->sp vs H Q E →
  codeAny (model P w) A (.call (.ref f) args) (CR CX outer P w H s Q E) s
theorem dA.mono {P:Program} {w:World} {K:PySem.W.Frag} {mg:Str->Option Value} {base:Heap} {CX:CXT} {j k:Nat} {f:Addr} {fd:FuncData} {ps:List Str} {sp:Sp} (F:dA P w K mg base CX j f fd ps sp) (h:j<=k) :
  dA P w K mg base CX k f fd ps sp:=⟨F.len,fun A outer s H args us vs Q E hr=>F.run A outer s H args us vs Q E (hr.mono h)⟩
theorem dA.imp {P:Program} {w:World} {K:PySem.W.Frag} {mg:Str->Option Value} {base:Heap} {CX:CXT} {k:Nat} {f:Addr} {fd:FuncData} {ps:List Str} {sp sp':Sp} (F:dA P w K mg base CX k f fd ps sp)
  (h:∀vs H Q E,sp' vs H Q E->sp vs H Q E):dA P w K mg base CX k f fd ps sp':=
 ⟨fun vs H Q E q=>F.len vs H Q E (h _ _ _ _ q),fun A outer s H args us vs Q E hr he hb hv hs=>F.run A outer s H args us vs Q E hr he hb hv (h _ _ _ _ hs)⟩
section
variable {X:Cx} {pins:List (Addr × Obj)} {σ:St} {H:Hp} {s s':Shared}
theorem Inv.GH (I:Inv X pins σ H s):xP X.prog X.w X.K X.mg X.base X.A X.stack s H:=
 ⟨I.ok.frames,I.ok.mod,I.bs,Nat.le_trans I.ok.bsz I.sz,I.stack,I.oH,I.hok,I.bare⟩
theorem Inv.after {Q:VK} {u:Value} (I:Inv X pins σ H s) (h:CE X.stack X.prog X.w H s Q u s'):EP X pins σ Q u s':=by
 obtain⟨v,H',os,bare,un,hok,r,q⟩:=h
 obtain⟨hh,g,d,t,os'⟩:=s'
 obtain rfl:os'=s.os:=os
 exact⟨v,H',I.call (h':=hh) (g':=g) (d':=d) (t':=t) (ch:=[]) un hok bare (fun b z=>absurd z (by simp)),r,q⟩
end
noncomputable def Gd (sp:Sp) (dvs:List V) (E:XK) (t:TA):TE:=fun σ H Q=>t σ H fun vs H1=>sp (vs++dvs) H1 Q E
noncomputable def Binds (K:PySem.W.Frag) (fd:FuncData) (ps:List Str) (ds:List Value):Prop:=
 ∀(s:Shared) (us:List Value),K.In s.heap->(us++ds).length=ps.length->BindsTo s fd ⟨us,[]⟩ (ps.zip (us++ds))
theorem Binds.all {K:PySem.W.Frag} {fd:FuncData} {ps:List Str} (h:∀us:List Value,us.length=ps.length->bindArgs fd ⟨us,[]⟩=pure (ps.zip us)):Binds K fd ps []:=fun s us _ hl=>by
 rw[List.append_nil] at hl ⊢
 exact .of_eq (h us hl)
noncomputable def Passes (CX:CXT) (X:Cx) (E:XK):Prop:=∀(pins:List (Addr × Obj)) (σ:St) (H:Hp) (s:Shared) (e:Value) (s':Shared),Inv X pins σ H s->CX X.stack H s E e s'->X.xe e s'
section
variable {X:Cx} {CX:CXT} {k:Nat} {f C:Addr} {fd:FuncData} {ps:List Str} {sp:Sp} {dvs:List V} {ds:List Value} {E:XK} {x m:Str} {p pos apos:Pos} {e o:Expr} {es:List Expr} {ta:TE} {t:TA}
theorem Cg {pins:List (Addr × Obj)} {σ:St} {H:Hp} {s:Shared} {Q:VK} {us:List Value} {vs:List V} (F:dA X.prog X.w X.K X.mg X.base CX k f fd ps sp) (hr:dw k X.A) (hb:Binds X.K fd ps ds) (hd:Vals dvs ds) (hx:Passes CX X E)
  (I:Inv X pins σ H s) (r:Vals vs us) (h:sp (vs++dvs) H Q E):wpAny (model X.prog X.w) X.A (call (.ref f) us) (EP X pins σ Q) X.xe s:=by
 have r2:Vals (vs++dvs) (us++ds):=r.append hd
 have hl:(us++ds).length=ps.length:=by rw[<- r2.length];exact F.len _ _ _ _ h
 refine wpAny_call (codeAny_mono (F.run X.A X.stack s H ⟨us,[]⟩ (us++ds) (vs++dvs) Q E hr I.GH (hb s us I.kIn hl) r2 h) fun r s' hq=>?_)
 cases r with
 | error e=>exact hx pins σ H s e s' I hq
 | ok fl=>
  cases fl with
  | ret u=>exact I.after hq
  | next=>exact False.elim hq
  | brk=>exact False.elim hq
  | cont=>exact False.elim hq
theorem yo (F:dA X.prog X.w X.K X.mg X.base CX k f fd ps sp) (hr:dw k X.A) (hg:Gl X x) (hm:X.mg x=some (.ref f)) (hk:PySem.W.keepIn X.K (.ref f)=true) (hb:Binds X.K fd ps ds) (hd:Vals dvs ds) (hx:Passes CX X E)
  (ha:PA X (e::es) t) (hdb:(x == ("__debug__" : Str))=false:=by decide) (he:starEach (e::es) X.env=(false,eval e X.env)::starEach es X.env:=by rfl) (hpl:(backTo pos (starEach es X.env)).any (·.1)=false:=by rfl) :
  PE X (.Call (.Name x p) (e::es) [] pos) (Gd sp dvs E t):=by
 intro pins s σ H Q I h
 refine wpAny_Call_Name_kw (kh I hg hm ?_ hdb)
 refine PySem.W.callWith_K (h₀:=X.base) I.ok.mod.kin hk (thn (ha pos pins s σ H _ I h) fun us s1 ⟨vs,H1,I1,r,q⟩=>⟨I1.kIn,?_⟩) he hpl
 exact Cg F hr hb hd hx I1 r q
end
structure aC (N P:List Str) (sc:Scope):Prop where
 kind:sc.kind=.function
 co:sc.isCoroutine=false
 gen:sc.isGenerator=false
 nd:N.Nodup
 pre:N.take P.length=P
 par:∀x∈P,sc.names.lookup x=some .local\/sc.names.lookup x=some .cell
 HG:∀y∈sc.names,y.2≠.free
theorem rO {kindOf:Str->Option NameKind} {x:Str}:∀{binds:List (Str × Value)} {m:Str->Option Value},(∀v,(x,v)∉binds)->bindL kindOf binds m x=m x
 | [],_,_=>rfl
 | (n,v)::r,m,h=>by
  unfold bindL
  rw[rO fun w hw=>h w (List.mem_cons_of_mem _ hw)]
  split
  ·have:x≠n:=by rintro rfl;exact h v List.mem_cons_self
   simp[this]
  ·rfl
theorem rF {kindOf:Str->Option NameKind} {x:Str}:∀{binds:List (Str × Value)} {m:Str->Option Value},(∀v,(x,v)∉binds)->bindC kindOf binds m x=m x
 | [],_,_=>rfl
 | (n,v)::r,m,h=>by
  unfold bindC
  rw[rF fun w hw=>h w (List.mem_cons_of_mem _ hw)]
  split
  ·rfl
  ·have:x≠n:=by rintro rfl;exact h v List.mem_cons_self
   simp[this]
theorem sd {kindOf:Str->Option NameKind} {x:Str} {v:Value}:∀{P:List Str} {vs:List Value} {i:Nat} {m:Str->Option Value},P.Nodup->P[i]?=some x->vs[i]?=some v->kindOf x=some .local →
  bindL kindOf (P.zip vs) m x=some v
 | [],_,_,_,_,h,_,_=>by simp at h
 | _::_,[],_,_,_,_,h,_=>by simp at h
 | p::P,w::vs,0,m,nd,h1,h2,hk=>by
  simp at h1 h2;subst h1;subst h2
  show bindL kindOf ((p,w)::P.zip vs) m p=_
  unfold bindL
  rw[rO fun v hv=>(List.nodup_cons.mp nd).1 (List.of_mem_zip hv).1,if_pos hk]
  simp
 | p::P,w::vs,i+1,m,nd,h1,h2,hk=>by
  show bindL kindOf ((p,w)::P.zip vs) m x=_
  unfold bindL
  exact sd (i:=i) (List.nodup_cons.mp nd).2 (by simpa using h1) (by simpa using h2) hk
theorem sC {kindOf:Str->Option NameKind} {x:Str} {v:Value}:∀{P:List Str} {vs:List Value} {i:Nat} {m:Str->Option Value},P.Nodup->P[i]?=some x->vs[i]?=some v->kindOf x≠some .local →
  bindC kindOf (P.zip vs) m x=some v
 | [],_,_,_,_,h,_,_=>by simp at h
 | _::_,[],_,_,_,_,h,_=>by simp at h
 | p::P,w::vs,0,m,nd,h1,h2,hk=>by
  simp at h1 h2;subst h1;subst h2
  show bindC kindOf ((p,w)::P.zip vs) m p=_
  unfold bindC
  rw[rF fun v hv=>(List.nodup_cons.mp nd).1 (List.of_mem_zip hv).1,if_neg hk]
  simp
 | p::P,w::vs,i+1,m,nd,h1,h2,hk=>by
  show bindC kindOf ((p,w)::P.zip vs) m x=_
  unfold bindC
  exact sC (i:=i) (List.nodup_cons.mp nd).2 (by simpa using h1) (by simpa using h2) hk
noncomputable def start (N:List Str) (vs:List V):St:=vs.map some++List.replicate (N.length - vs.length) none
noncomputable def gC (CX:CXT) (P:Program) (w:World) (K:PySem.W.Frag) (mg:Str->Option Value) (base:Heap) (N:List Str) (qual:Str) (scope:Scope) (f:Addr) (cd:Value) (A:Around) (outer:List Env) (s:Shared) (H:Hp) (E:XK):Cx where
 prog:=P
 w:=w
 K:=K
 mg:=mg
 base:=base
 A:=A.deeper (envOfC qual scope s.heap.objs.size f cd)
 N:=N
 aF:=s
 aL:=H
 env:=envOfC qual scope s.heap.objs.size f cd
 outer:=outer
 stack:=envOfC qual scope s.heap.objs.size f cd::outer
 ex:=[]
 calm:=true
 fn:=fun _=>true
 pn:=[]
 xe:=fun e s'=>wpAny (model P w) (A.deeper (envOfC qual scope s.heap.objs.size f cd)) (leaving (envOfC qual scope s.heap.objs.size f cd) e) (fun _ s''=>CX outer H s E e s'') (fun e' s''=>CX outer H s E e' s'') s'
theorem vN {sc:Scope} {n:Nat} {x:Str} (h:sc.names.lookup x=some .cell):∃c,(cellsFrom n sc.names []).lookup x=some c:=by
 have q:=PySem.W.cellsFrom_some sc.names n [] (.inl h)
 exact Option.isSome_iff_exists.mp q
theorem l_ {CX:CXT} {P:Program} {w:World} {K:PySem.W.Frag} {mg:Str->Option Value} {base:Heap} {N ps:List Str} {qual:Str} {scope:Scope} {f:Addr} {cd:Value} {A:Around} {outer:List Env} {s s1:Shared} {H:Hp} {E:XK} {us:List Value} {vs:List V}
  (S:aC N ps scope) (hd:A.handled=none) (e0:xP P w K mg base A outer s H) (hl:vs.length=ps.length) (r:Vals vs us)
  (x:InCallC s s.heap.objs.size (bindL (envOfC qual scope s.heap.objs.size f cd).kindOf (ps.zip us) fun _=>none) (cellsFrom (s.heap.objs.size+1) scope.names []) (bindC (envOfC qual scope s.heap.objs.size f cd).kindOf (ps.zip us) fun _=>none) s1) :
  Inv (gC CX P w K mg base N qual scope f cd A outer s H E) [] (start N vs) H s1:=by
 have hpl:ps.length<=N.length:=by have:=congrArg List.length S.pre;rw[List.length_take] at this;omega
 obtain⟨h1,tk,rfl,hk⟩:=x.done
 have noA:∀b:Addr,b∉(gC CX P w K mg base N qual scope f cd A outer s H E).ex:=fun b z=>absurd (show b∈([]:List Addr) from z) (by simp)
 refine⟨⟨e0.mod,S.kind,rfl,rfl,Nat.le_refl _,fun y z c h1 h2=>?_,fun y hy=>?_,fun y c _ h=>?_,fun _=>hd,Around.frames_deeper e0.frames,.inr ⟨rfl,rfl⟩,fun b z=>absurd z (noA b),e0.bs,e0.bsz,fun b _ _=>noA b,fun b z=>absurd z (noA b),e0.jQ,e0.frf⟩,
  rfl,e0.bare,Un.kept hk,⟨_,x.toInCall.ns,fun i y v h1 h2 h3=>?_⟩,fun y c h=>⟨_,x.cell y c h⟩,e0.hok.fresh (Nat.le_refl _),fun y c h=>?_,fun p hp=>absurd (show p∈([]:List (Addr × Obj)) from hp) (by simp),e0.hok.kept hk,?_⟩
 ·exact name_of_addr x.apart (PySem.mem_of_lookup h1) (PySem.mem_of_lookup h2)
 ·have hy:scope.names.lookup y=some .cell\/scope.names.lookup y=some .free:=hy
  rcases hy with hy | hy
  ·exact vN hy
  ·exact absurd rfl (S.HG _ (PySem.mem_of_lookup hy))
 ·exact Nat.le_of_lt (x.above y c (PySem.mem_of_lookup h))
 ·have hi:i<vs.length:=by
   unfold start at h2
   by_cases hi:i<vs.length
   ·exact hi
   ·rw[List.getElem?_append_right (by simpa using hi)] at h2
    rw[List.getElem?_replicate] at h2
    split at h2<;>cases h2
  have ha:vs[i]?=some v:=by
   unfold start at h2
   rw[List.getElem?_append_left (by simpa using hi),List.getElem?_map] at h2
   cases e:vs[i]? with
   | none=>rw[e] at h2;cases h2
   | some a=>rw[e] at h2;cases h2;rfl
  obtain⟨u,hu,rv⟩:=r.get ha
  have hp:ps[i]?=some y:=by
   rw[<- S.pre,List.getElem?_take_of_lt (by omega)];exact h1
  have ndP:ps.Nodup:=by rw[<- S.pre];exact S.nd.sublist (List.take_sublist _ _)
  refine⟨u,rv,?_⟩
  rcases S.par y (List.mem_of_getElem? hp) with k | k
  ·exact .inl ⟨k,sd ndP hp hu k⟩
  ·obtain⟨c,e⟩:=vN (n:=s.heap.objs.size+1) k
   refine .inr ⟨.inl k,c,e,?_⟩
   have q:=x.cell y c e
   rw[sC ndP hp hu (by show scope.names.lookup y≠_;rw[k];decide)] at q
   exact q
 ·exact e0.hok.fresh (Nat.le_of_lt (x.above y c (PySem.mem_of_lookup h)))
 ·unfold start
  show _=N.length
  rw[List.length_append,List.length_map,List.length_replicate]
  omega
theorem Gr {CX:CXT} {P:Program} {w:World} {K:PySem.W.Frag} {mg:Str->Option Value} {base:Heap} {k:Nat} {f:Addr} {name qual:Str} {params:Arguments} {body:List Stmt} {scope:Scope} {dV kV doc pm cdv ct oc:Value} {an od:Option Addr}
  {osl:Array (Option Value)} {N ps:List Str} {sp:Sp} (lk:K.lookup f=some ⟨oc,od,.func (PySem.W.fnOf name qual params body scope dV kV doc pm an cdv ct),osl⟩) (hcd:PySem.W.codeIn K cdv qual=true) (S:aC N ps scope)
  (len:∀vs H Q E,sp vs H Q E->vs.length=ps.length)
  (hbody:∀(A:Around) (outer:List Env) (s:Shared) (H:Hp) (vs:List V) (Q:VK) (E:XK),dw k (A.deeper (envOfC qual scope s.heap.objs.size f cdv))->sp vs H Q E →
   ∃t,PSs (gC CX P w K mg base N qual scope f cdv A outer s H E) body t/\t { nx:=fun _ H'=>Q .non H',rt:=Q } (start N vs) H) :
  dA P w K mg base CX (k+1) f (PySem.W.fnOf name qual params body scope dV kV doc pm an cdv ct) ps sp:=by
 refine⟨len,fun A outer s H args us vs Q E hr e0 hb r hsp=>?_⟩
 have hl:=len _ _ _ _ hsp
 have KX:K.In s.heap:=e0.mod.kin.keeps fun b o e=>(e0.bs b o e).1
 have lim:s.heap.NoLimit:=e0.mod.nolimit.keeps fun b o e=>(e0.bs b o e).1
 have hkind:∀y∈ps.zip us,scope.names.lookup y.1=some .local\/(scope.names.lookup y.1=some .cell/\((cellsFrom (s.heap.objs.size+1) scope.names []).lookup y.1).isSome=true):=fun⟨n,v⟩ hy=>by
  rcases S.par n (List.of_mem_zip hy).1 with q | q
  ·exact .inl q
  ·exact .inr ⟨q,PySem.W.cellsFrom_some _ _ _ (.inl q)⟩
 refine codeAny_call_function hr.depth (KX _ _ lk) rfl S.co S.gen rfl (PySem.W.codeRec_of KX hcd) (hb _ _ _ _ ?_)
 refine wpAny_newFunctionEnv_cells S.kind hkind fun env he s1 x=>?_
 subst he
 refine⟨lim.keeps x.toInCall.keep,codeAny_func ?_⟩
 obtain⟨t,ht,hq⟩:=hbody A outer s H vs Q E (hr.deeper _) hsp
 have I:Inv (gC CX P w K mg base N qual scope f cdv A outer s H E) [] (start N vs) H s1:=l_ S hr.hd e0 hl r x
 refine wpAny_mono (ht [] s1 (start N vs) H _ I hq) (fun fl s' hs=>?_) fun e s' hs=>hs
 have fin:∀{σ':St} {H':Hp} {v:V} {u:Value},Inv (gC CX P w K mg base N qual scope f cdv A outer s H E) [] σ' H' s'->RelV v u->Q v H'->CE outer P w H s Q u s':=
  fun{σ' H' v u} J rv q=>⟨v,H',J.os,J.bare,J.base,J.hok,rv,q⟩
 cases fl with
 | ret u=>
  obtain⟨v,σ',H',J,rv,q⟩:=hs
  exact fin J rv q
 | next=>
  obtain⟨σ',H',J,q⟩:=hs
  exact fin (v:=V.non) (u:=Value.none) J rfl q
 | brk=>
  obtain⟨_,_,_,q⟩:=hs
  exact False.elim q
 | cont=>
  obtain⟨_,_,_,q⟩:=hs
  exact False.elim q
section
variable {X:Cx} {x:Str} {p pos:Pos} {e:Expr} {es:List Expr} {t:TA} {id T:String} {r:List V->Hp->VK->Prop}
noncomputable def tCB (r:List V->Hp->VK->Prop) (t:TA):TE:=fun σ H Q=>t σ H fun vs H1=>r vs H1 Q
theorem lS (hc:bp X (.builtin id) r) (hg:Gl X x) (hm:X.mg x=none) (hv:bootBuiltins x=some (.builtin id)) (ha:PA X (e::es) t) (hn:x≠"__name__" := by decide) (hdb:(x == ("__debug__" : Str))=false:=by decide)
  (he:starEach (e::es) X.env=(false,eval e X.env)::starEach es X.env:=by rfl) (hpl:(backTo pos (starEach es X.env)).any (·.1)=false:=by rfl):PE X (.Call (.Name x p) (e::es) [] pos) (tCB r t):=by
 intro pins s σ H Q I h
 refine wpAny_Call_Name_kw (mG I hg hm hv ?_ hn hdb)
 exact PyProof.Rows.callWith_builtin1 (thn (ha pos pins s σ H _ I h) fun us s1 ⟨vs,H1,I1,r1,q1⟩=>hc pins s1 σ H1 vs us Q I1 r1 q1) he hpl
theorem mW (hc:bp X (.type T) r) (hg:Gl X x) (hm:X.mg x=none) (hv:bootBuiltins x=some (.type T)) (ha:PA X (e::es) t) (hn:x≠"__name__" := by decide) (hdb:(x == ("__debug__" : Str))=false:=by decide)
  (he:starEach (e::es) X.env=(false,eval e X.env)::starEach es X.env:=by rfl) (hpl:(backTo pos (starEach es X.env)).any (·.1)=false:=by rfl):PE X (.Call (.Name x p) (e::es) [] pos) (tCB r t):=by
 intro pins s σ H Q I h
 refine wpAny_Call_Name_kw (mG I hg hm hv ?_ hn hdb)
 exact PyProof.Rows.callWith_type1 (thn (ha pos pins s σ H _ I h) fun us s1 ⟨vs,H1,I1,r1,q1⟩=>hc pins s1 σ H1 vs us Q I1 r1 q1) he hpl
end
end L2
namespace HT
open PySem PyProof.Rows
section
variable {prog:Program} {w:World} {A:Around} {E:Value->Shared->Prop} {s:Shared}
theorem EK {t b:Addr} {vs ws:List Value} {Q:Value->Shared->Prop} (ht:IsTup s.heap t vs.toArray) (hb:IsTup s.heap b ws.toArray) (hv:vs≠[])
  (h1:ws=[]->Q (.ref t) s) (h2:ws≠[]->Q (.ref s.heap.objs.size) { s with heap:=s.heap.push { cls:=.type "tuple", data:=.seq (vs++ws).toArray } })
  (hsz:vs.length+ws.length<=sizeLine):wpAny (model prog w) A (binaryOp .Add (.ref t) (.ref b)) Q E s:=by
 obtain⟨⟨cls,dd,data,sl⟩,ho,hc,n,hd⟩:=id ht
 obtain⟨⟨cls2,dd2,data2,sl2⟩,ho2,hc2,n2,hd2⟩:=id hb
 simp only at hc hd hc2 hd2
 subst hc hd hc2 hd2
 have e:vs.toArray++ws.toArray=(vs++ws).toArray:=by simp
 by_cases hw:ws=[]
 ·exact concat_meets ⟨_,ho,rfl⟩ ⟨_,ho2,rfl⟩ noFill_tuple_add seq_tuple_add PySem.F.slot_tuple_add PySem.F.entry_tuple_add (PySem.F.args_tuple_add_2 _ _)
   (tuple_addW1 t b vs.toArray ws.toArray n n2 dd dd2 sl sl2 (by simpa using hv) (by simp[hw])) ⟨ho,ho2,h1 hw⟩
 ·refine concat_meets ⟨_,ho,rfl⟩ ⟨_,ho2,rfl⟩ noFill_tuple_add seq_tuple_add PySem.F.slot_tuple_add PySem.F.entry_tuple_add (PySem.F.args_tuple_add_2 _ _)
   (tuple_addW2 t b vs.toArray ws.toArray n n2 dd dd2 sl sl2 (by simpa using hv) (by simpa using hw) (by rw[List.size_toArray,List.size_toArray];exact hsz)) ⟨ho,ho2,?_⟩
  rw[e]
  exact h2 hw
noncomputable def sIx (n d:Nat):Option Int->Nat
 | none=>d
 | some v=>if v<0 then (v+(n:Int)).toNat else min v.toNat n
theorem vi (n d:Nat):sIx n d none=d:=rfl
theorem yX (n d k:Nat):sIx n d (some (k:Int))=min k n:=by
 show(if (k:Int)<0 then ((k:Int)+(n:Int)).toNat else min (k:Int).toNat n)=min k n
 rw[if_neg (by omega),Int.toNat_natCast]
theorem Ha (n d:Nat) (hd:d<=n) (o:Option Int):sIx n d o<=n:=by
 cases o with
 | none=>exact hd
 | some v=>
  show(if v<0 then (v+(n:Int)).toNat else min v.toNat n)<=n
  by_cases hv:v<0
  ·rw[if_pos hv];omega
  ·rw[if_neg hv];exact Nat.min_le_right _ _
theorem yj (v:Int) (n d:Nat):(if v<0 then max (v+(n:Int)) 0 else min v (n:Int))=((sIx n d (some v):Nat):Int):=by
 show(if v<0 then max (v+(n:Int)) 0 else min v (n:Int))=(((if v<0 then (v+(n:Int)).toNat else min v.toNat n):Nat):Int)
 by_cases hv:v<0
 ·simp only[if_pos hv];omega
 ·simp only[if_neg hv];omega
theorem xK (lo hi:Option Int) (n:Nat):Builtin.Slice.sliceAdjust lo hi 1 (n:Int)=(((sIx n 0 lo:Nat):Int),((sIx n n hi:Nat):Int)):=by
 have h1:¬ ((1:Int)<0):=by omega
 unfold Builtin.Slice.sliceAdjust
 simp only[h1,if_false]
 refine Prod.ext ?_ ?_
 ·cases lo with
  | none=>rfl
  | some v=>exact yj v n 0
 ·cases hi with
  | none=>rfl
  | some v=>exact yj v n n
theorem xB (i j:Nat):Builtin.Slice.slicePlaces (i:Int) (j:Int) 1=j - i:=by
 unfold Builtin.Slice.slicePlaces
 have h1:(1:Int) > 0:=by omega
 simp only[h1,if_true,Int.ediv_one]
 split<;>omega
theorem o_ {v:Value} {o:Option Int} {Q:Option Int->Shared->Prop} (p:IsPart v o) (h:Q o s):wpAny (model prog w) A (Builtin.Slice.slicePartIndex v) Q E s:=by
 cases p with
 | none=>exact slicePart_none h
 | int i t=>exact slicePart_int h
theorem iC {sl:Addr} {vl vu:Value} {lo hi:Option Int} {n:Nat} {Q:Int × Int × Nat->Shared->Prop} (hs:s.heap.IsSliceOf sl vl vu .none) (pl:IsPart vl lo) (pu:IsPart vu hi)
  (h:Q (((sIx n 0 lo:Nat):Int),1,sIx n n hi - sIx n 0 lo) s):wpAny (model prog w) A (Builtin.Slice.sliceApplied (.ref sl) (pure (n:Int))) Q E s:=by
 obtain⟨os,hos,hcs,hds⟩:=id hs
 unfold Builtin.Slice.sliceApplied Builtin.Slice.sliceFields
 refine wpAny_bind (wpAny_bind (wpAny_field hos hds (x:=vl) rfl (wpAny_bind (wpAny_field hos hds (x:=vu) rfl (wpAny_bind (wpAny_field hos hds (x:=.none) rfl (wpAny_pure ?_)))))))
 refine wpAny_bind (slicePart_none ?_)
 show wpAny _ _ (if ((1:Int) == 0)=true then _ else _) _ _ s
 rw[if_neg (by decide)]
 refine wpAny_bind (o_ pl (wpAny_bind (o_ pu (wpAny_bind (wpAny_pure ?_)))))
 show wpAny _ _ (match Builtin.Slice.sliceAdjust lo hi 1 (n:Int) with | (lo,hi)=>pure (lo,(1:Int),Builtin.Slice.slicePlaces lo hi 1)) _ _ s
 rw[xK lo hi n]
 show wpAny _ _ (pure (((sIx n 0 lo:Nat):Int),(1:Int),Builtin.Slice.slicePlaces ((sIx n 0 lo:Nat):Int) ((sIx n n hi:Nat):Int) 1)) _ _ s
 rw[xB]
 exact wpAny_pure h
theorem Bk (xs:Array Value) (i k:Nat):((List.range k).filterMap fun(m:Nat)=>xs[((i:Int)+(m:Int)*1).toNat]?).toArray=((xs.toList.drop i).take k).toArray:=by
 have e:(fun(m:Nat)=>xs[((i:Int)+(m:Int)*1).toNat]?)=fun m=>xs[i+m]?:=by
  funext m
  have:((i:Int)+(m:Int)*1).toNat=i+m:=by omega
  rw[this]
 rw[e]
 have:=pick_run xs i k
 rw[List.filterMap_map] at this
 have e2:((fun x=>xs[x]?) ∘ fun x=>i+x)=fun m=>xs[i+m]?:=rfl
 rw[e2] at this
 rw[this]
theorem lN {t sl:Addr} {items:Array Value} {vl vu:Value} {lo hi:Option Int} {Q:Value->Shared->Prop} (ht:IsTup s.heap t items) (hs:s.heap.IsSliceOf sl vl vu .none) (pl:IsPart vl lo) (pu:IsPart vu hi)
  (hw:¬ (sIx items.size 0 lo=0/\sIx items.size items.size hi=items.size))
  (h:Q (.ref s.heap.objs.size) { s with heap:=s.heap.push { cls:=.type "tuple", data:=.seq ((items.toList.drop (sIx items.size 0 lo)).take (sIx items.size items.size hi - sIx items.size 0 lo)).toArray } })
  (hsz:items.size<=sizeLine):wpAny (model prog w) A (getItem (.ref t) (.ref sl)) Q E s:=by
 have htake:sizeOk (.seq ((items.toList.drop (sIx items.size 0 lo)).take (sIx items.size items.size hi - sIx items.size 0 lo)).toArray):=by
  show((items.toList.drop (sIx items.size 0 lo)).take (sIx items.size items.size hi - sIx items.size 0 lo)).toArray.size<=sizeLine
  rw[List.size_toArray,List.length_take,List.length_drop,Array.length_toList]
  omega
 have hj:sIx items.size items.size hi<=items.size:=Ha _ _ (Nat.le_refl _) hi
 obtain⟨os,hos,hcs,hds⟩:=id hs
 have hTs:s.TypeIs (.ref sl) "slice" := ⟨os,hos,hcs⟩
 unfold getItem
 try with_reducible refine wpAny_holding ?_
 first | refine wpAny_bind (wpAny_pure ?_) | skip
 refine wpAny_bind (wpAny_sequenceKey ht.typeIs (by decide) ?_)
 refine wpAny_bind (wpAny_callSpecial?_slot (name:=Str.ofString "__getitem__") ht.typeIs PyProof.Rows.slot_tuple_getitem
  (wpAny_call_entry PyProof.Rows.slot_tuple_getitem ht.typeIs entry_tuple_getitem ?_ (args_tuple_getitem _ _)))
 show wpAny _ _ (Builtin.Tuple.tupleItemsOf (.ref t) >>= _) _ _ s
 refine wpAny_bind (tupleItemsOf_ ht ?_)
 refine wpAny_bind (wpAny_typeOf hTs ?_)
 rw[if_pos (by decide)]
 refine wpAny_bind (iC hs pl pu ?_)
 have hno:¬ ((((sIx items.size 0 lo:Nat):Int) == 0&&(1:Int) == 1&&(sIx items.size items.size hi - sIx items.size 0 lo) == items.size)=true):=by
  intro q
  rw[Bool.and_eq_true,Bool.and_eq_true] at q
  have q1:((sIx items.size 0 lo:Nat):Int)=0:=eq_of_beq q.1.1
  have q2:sIx items.size items.size hi - sIx items.size 0 lo=items.size:=eq_of_beq q.2
  exact hw ⟨by omega,by omega⟩
 show wpAny _ _ (if (((sIx items.size 0 lo:Nat):Int) == 0&&(1:Int) == 1&&(sIx items.size items.size hi - sIx items.size 0 lo) == items.size)=true then _ else _) _ _ s
 rw[if_neg hno,Bk]
 first
  | exact wpAny_bind (m:=Builtin.Tuple.tupleExact _) (wpAny_newObj_type (wpAny_pure ⟨_,rfl,wpAny_pure h⟩) htake)
  | exact wpAny_bind (m:=Builtin.Tuple.tupleExact _) (wpAny_newObj_type (wpAny_bind (wpAny_pure (wpAny_pure ⟨_,rfl,wpAny_pure h⟩))) htake)
  | exact wpAny_bind (wpAny_bind (m:=Builtin.Tuple.tupleExact _) (wpAny_newObj_type (wpAny_pure (wpAny_pure ⟨_,rfl,wpAny_pure h⟩)) htake))
  | exact wpAny_bind (wpAny_bind (m:=Builtin.Tuple.tupleExact _) (wpAny_newObj_type (wpAny_pure ⟨_,rfl,wpAny_pure h⟩) htake))
end
end HT
namespace L2
open PySem PySem.Spec PyProof.Rows
noncomputable abbrev TO:=St->Hp->(Option Int->Hp->Prop)->Prop
noncomputable def PO (X:Cx) (e:Option Expr) (t:TO):Prop:=
 ∀(pins:List (Addr × Obj)) (s:Shared) (σ:St) (H:Hp) (Q:Option Int->Hp->Prop),Inv X pins σ H s->t σ H Q →
  wpAny (model X.prog X.w) X.A (evalPart e X.env) (fun u s'=>∃o H',Inv X pins σ H' s'/\IsPart u o/\Q o H') X.xe s
noncomputable def Eg:TO:=fun _ H Q=>Q none H
noncomputable def JC (t:TE):TO:=fun σ H Q=>t σ H fun x H1=>∃i,x=.int i/\Q (some i) H1
section
variable {X:Cx} {e:Expr} {te:TE} {lo hi:Option Expr} {tl th:TO} {pos p2:Pos}
theorem Fd:PO X none Eg:=by
 intro pins s σ H Q I h
 rw[evalPart_none]
 exact wpAny_pure ⟨none,H,I,.none,h⟩
theorem Ej (h:PE X e te):PO X (some e) (JC te):=by
 intro pins s σ H Q I hw
 rw[evalPart_some]
 refine thn (h pins s σ H _ I hw) fun u s1 ⟨x,H1,I1,r1,q1⟩=>?_
 obtain⟨i,rfl,q⟩:=q1
 obtain⟨t,rfl⟩:=r1
 exact⟨some i,H1,I1,.int i t,q⟩
noncomputable def SlR (X:Cx) (r:V->Option Int->Option Int->Hp->VK->Prop):Prop:=
 ∀(pins:List (Addr × Obj)) (s:Shared) (σ:St) (H:Hp) (x:V) (v vl vu:Value) (lo hi:Option Int) (sl:Addr) (Q:VK),Inv X pins σ H s->RelV x v->s.heap.IsSliceOf sl vl vu .none->IsPart vl lo->IsPart vu hi->r x lo hi H Q →
  ∃T id,typeLookup (.type T) "__getitem__" = pure (some (.builtin id))/\s.TypeIs v T/\wpAny (model X.prog X.w) X.A (getItem v (.ref sl)) (EP X pins σ Q) X.xe s
theorem SlR.or {r r':V->Option Int->Option Int->Hp->VK->Prop} (h:SlR X r) (h':SlR X r'):SlR X (fun x lo hi H Q=>r x lo hi H Q\/r' x lo hi H Q):=by
 intro pins s σ H x v vl vu lo hi sl Q I rx hs pl pu q
 rcases q with q | q
 ·exact h pins s σ H x v vl vu lo hi sl Q I rx hs pl pu q
 ·exact h' pins s σ H x v vl vu lo hi sl Q I rx hs pl pu q
noncomputable def tSl (r:V->Option Int->Option Int->Hp->VK->Prop) (te:TE) (tl th:TO):TE:=fun σ H Q=>te σ H fun x H1=>tl σ H1 fun l H2=>th σ H2 fun u H3=>r x l u H3 Q
theorem C6 {r:V->Option Int->Option Int->Hp->VK->Prop} (hr:SlR X r) (he:PE X e te) (hl:PO X lo tl) (hu:PO X hi th):PE X (.Subscript e (.Slice lo hi none p2) pos) (tSl r te tl th):=by
 intro pins s σ H Q I h
 refine Subscript_ (thn (he pins s σ H _ I h) fun v s1 ⟨x,H1,I1,r1,q1⟩=>?_)
 refine wpAny_Slice (thn (hl pins s1 σ H1 _ I1 q1) fun vl s2 ⟨l,H2,I2,pl,q2⟩=>thn (hu pins s2 σ H2 _ I2 q2) fun vu s3 ⟨u,H3,I3,pu,q3⟩=>?_)
 rw[evalPart_none]
 refine wpAny_pure ?_
 have I4:Inv X pins σ H3 { s3 with heap:=s3.heap.push { cls:=.type "slice", data:=.fields #[vl,vu,.none] } }:=I3.kept (t':=s3.toks) fun b ob q=>Heap.get?_push_of_some _ q
 obtain⟨T,id,hT,ht,hg⟩:=hr pins { s3 with heap:=s3.heap.push { cls:=.type "slice", data:=.fields #[vl,vu,.none] } } σ H3 x v vl vu l u s3.heap.objs.size Q I4 r1 (Heap.IsSliceOf.new ..) pl pu q3
 show wpAny (model X.prog X.w) X.A (subscriptTail e (.Slice lo hi none p2) v (.ref s3.heap.objs.size)) (EP X pins σ Q) X.xe { s3 with heap:=s3.heap.push { cls:=.type "slice", data:=.fields #[vl,vu,.none] } }
 exact tail_any (ops:=[.ref s3.heap.objs.size,v]) ht hT hg (by with_unfolding_all rfl)
noncomputable def qw (xs:List V) (lo hi:Option Int):List V:=(xs.drop (HT.sIx xs.length 0 lo)).take (HT.sIx xs.length xs.length hi - HT.sIx xs.length 0 lo)
theorem ny (xs:List V) (lo hi:Option Int):(qw xs lo hi).length<=xs.length:=by
 unfold qw
 rw[List.length_take,List.length_drop]
 omega
noncomputable def LW (K:PySem.W.Frag):V->Option Int->Option Int->Hp->VK->Prop:=fun x lo hi H Q=>∃a xs,x=.ref a/\SqT K H a xs ∧
 ¬ (HT.sIx xs.length 0 lo=0/\HT.sIx xs.length xs.length hi=xs.length)/\∀p,H p=none->Q (.ref p) (upd H p (.tup (qw xs lo hi)))
theorem HJ:SlR X (LW X.K):=by
 intro pins s σ H x v vl vu lo hi sl Q I rx hs pl pu h
 obtain⟨a,xs,rfl,hx,hw,q⟩:=h
 cases rx
 obtain⟨its,r,ht,hz⟩:=I.tuple hx
 have hlen:its.toArray.size=xs.length:=by rw[List.size_toArray];exact r.length.symm
 refine⟨"tuple", _,PyProof.Rows.slot_tuple_getitem.lookup,ht.typeIs,?_⟩
 refine HT.lN ht hs pl pu (by rw[hlen];exact hw) ?_ (by rw[hlen];exact hz)
 rw[hlen]
 refine⟨.ref s.heap.objs.size,_,I.laid (t':=s.toks) (o:=.tup (qw xs lo hi)) (fun b ob q=>Heap.get?_push_of_some _ q) (Nat.le_refl _) ?_,rfl,q _ (I.hok.fresh (Nat.le_refl _))⟩
 exact⟨Nat.le_trans (ny xs lo hi) hz,_,(r.drop (HT.sIx xs.length 0 lo)).take (HT.sIx xs.length xs.length hi - HT.sIx xs.length 0 lo),pW.new _ _⟩
noncomputable def Gk (K:PySem.W.Frag):R2:=fun x y H Q=>∃a b xs ys,x=.ref a/\y=.ref b/\SqT K H a xs/\SqT K H b ys/\xs≠[]/\xs.length+ys.length<=sizeLine ∧
 (ys=[]->Q (.ref a) H)/\(ys≠[]->∀p,H p=none->Q (.ref p) (upd H p (.tup (xs++ys))))
theorem Vals.sD {xs:List V} {us:List Value} (r:Vals xs us):us=[]↔xs=[]:=by
 cases r with
 | nil=>simp
 | cons _ _=>simp
theorem EF:OpR X (binaryOp .Add) (Gk X.K):=by
 intro pins s σ H x y v u Q I rx ry h
 obtain⟨a,b,xs,ys,rfl,rfl,ha,hb,hx,hz,q1,q2⟩:=h
 cases rx
 cases ry
 obtain⟨its,r1,p1,_⟩:=I.tuple ha
 obtain⟨its2,r2,p2,_⟩:=I.tuple hb
 refine HT.EK p1 p2 (fun z=>hx (r1.sD.mp z)) (fun z=>⟨.ref a,H,I,rfl,q1 (r2.sD.mp z)⟩) (fun z=>?_) (by rw[<- r1.length,<- r2.length];exact hz)
 refine⟨.ref s.heap.objs.size,_,I.laid (t':=s.toks) (o:=.tup (xs++ys)) (fun b ob q=>Heap.get?_push_of_some _ q) (Nat.le_refl _) ?_,rfl,q2 (fun w=>z (r2.sD.mpr w)) _ (I.hok.fresh (Nat.le_refl _))⟩
 exact⟨by rw[List.length_append];exact hz,_,r1.append r2,pW.new _ _⟩
end
noncomputable def ixN (n:Nat) (i:Int):Option Nat:=if 0<=i then (if i<n then some i.toNat else none) else if -(n:Int)<=i then some (i+n).toNat else none
noncomputable def atI {α:Type} (xs:List α) (i:Int):Option α:=(ixN xs.length i).bind fun j=>xs[j]?
theorem yi {n:Nat} {i:Int} {j:Nat} (h:ixN n i=some j):seqIndex? i n=some j/\j<n/\-(n:Int)<=i/\i<n:=by
 unfold ixN at h
 by_cases h0:0<=i
 ·rw[if_pos h0] at h
  by_cases h1:i<n
  ·rw[if_pos h1] at h
   have e:i.toNat=j:=Option.some.inj h
   exact⟨by rw[seqIndex_of h0 h1,e],by omega,by omega,h1⟩
  ·rw[if_neg h1] at h;cases h
 ·rw[if_neg h0] at h
  by_cases h1:-(n:Int)<=i
  ·rw[if_pos h1] at h
   have e:(i+n).toNat=j:=Option.some.inj h
   exact⟨by rw[seqIndex_neg (by omega) h1,e],by omega,h1,by omega⟩
  ·rw[if_neg h1] at h;cases h
theorem uH {α:Type} {xs:List α} {i:Int} {v:α} (h:atI xs i=some v):∃j,seqIndex? i xs.length=some j/\xs[j]?=some v/\j<xs.length/\-(xs.length:Int)<=i/\i<xs.length:=by
 unfold atI at h
 cases e:ixN xs.length i with
 | none=>rw[e] at h;cases h
 | some j=>
  rw[e] at h
  obtain⟨h1,h2,h3,h4⟩:=yi e
  exact⟨j,h1,h,h2,h3,h4⟩
theorem D9 {α:Type} {xs:List α} {j:Nat} {v:α} (h:xs[j]?=some v):atI xs (j:Int)=some v:=by
 have hj:j<xs.length:=(List.getElem?_eq_some_iff.mp h).1
 have e:ixN xs.length (j:Int)=some j:=by
  unfold ixN
  rw[if_pos (by omega),if_pos (by omega)];simp
 unfold atI;rw[e];exact h
noncomputable def yx (b:Expr):Prop:=∀o i,subscripted b false o i=operate [o,i] (getItem o i)
noncomputable def IxR (X:Cx) (r:R2):Prop:=
 ∀(value slice:Expr) (pins:List (Addr × Obj)) (s:Shared) (σ:St) (H:Hp) (x y:V) (v u:Value) (Q:VK),Inv X pins σ H s->RelV x v->RelV y u->r x y H Q →
  subscripted slice false v u=operate [v,u] (getItem v u)->wpAny (model X.prog X.w) X.A (subscriptTail value slice v u) (EP X pins σ Q) X.xe s
noncomputable def MtR (X:Cx) (id:String) (r:V->List V->Hp->VK->Prop):Prop:=
 ∀(pins:List (Addr × Obj)) (s:Shared) (σ:St) (H:Hp) (x:V) (xs:List V) (v:Value) (us:List Value) (Q:VK),Inv X pins σ H s->RelV x v->Vals xs us->r x xs H Q →
  wpAny (model X.prog X.w) X.A (call (.builtin id) (v::us)) (EP X pins σ Q) X.xe s
section
variable {X:Cx} {a b:Expr} {ta tb:TE} {pos:Pos}
theorem IxR.or {r r':R2} (h:IxR X r) (h':IxR X r'):IxR X (fun x y H Q=>r x y H Q\/r' x y H Q):=by
 intro value slice pins s σ H x y v u Q I rx ry q hs
 rcases q with q | q
 ·exact h value slice pins s σ H x y v u Q I rx ry q hs
 ·exact h' value slice pins s σ H x y v u Q I rx ry q hs
theorem IU {r:R2} (hr:IxR X r) (ha:PE X a ta) (hb:PE X b tb) (hs:yx b):PE X (.Subscript a b pos) (tOp r ta tb):=by
 intro pins s σ H Q I h
 exact Subscript_ (HD ha hb I h fun v u s2 x y H2 I2 rx ry q=>hr a b pins s2 σ H2 x y v u Q I2 rx ry q (hs _ _))
noncomputable def Jt (K:PySem.W.Frag):R2:=fun x y H Q=>∃p xs i v,x=.ref p/\y=.int i/\SqL K H p xs/\atI xs i=some v/\Q v H
noncomputable def Kb (K:PySem.W.Frag):R2:=fun x y H Q=>∃p xs i v,x=.ref p/\y=.int i/\SqT K H p xs/\atI xs i=some v/\Q v H
noncomputable def Ki:R2:=fun x y H Q=>∃z i c,x=.str z/\y=.int i/\z.length<=sizeLine/\atI z.cps.toList i=some c/\Q (.str ⟨#[c]⟩) H
theorem Ez:IxR X (Jt X.K):=by
 intro value slice pins s σ H x y v u Q I rx ry h hs
 obtain⟨p,xs,i,z,rfl,rfl,hq,he,q⟩:=h
 cases rx
 obtain⟨t,rfl⟩:=ry
 obtain⟨its,r,pl,hz⟩:=I.list hq
 obtain⟨j,h1,h2,h3,h4,h5⟩:=uH he
 obtain⟨w,ew,rw'⟩:=r.get h2
 have hl:=r.length
 have hn:=kN
 have fin:EP X pins σ Q w s:=⟨z,H,I,rw',q⟩
 by_cases h0:0<=i
 ·have hj:i.toNat=j:=by
   rw[seqIndex_of h0 h5] at h1
   exact Option.some.inj h1
  exact item_listR pl.isList h0 (by omega) (by rw[hj];simpa using ew) fin hs
 ·have hj:(i+(its.toArray.size:Int)).toNat=j:=by
   rw[seqIndex_neg (by omega) h4] at h1
   rw[List.size_toArray,<- hl]
   exact Option.some.inj h1
  exact subscriptTail_builtinR (x:=w) pl.isList.typeIs slot_list_getitem.lookup
   (wpAny_getItem_list_neg (Q:=fun r s'=>r=w/\EP X pins σ Q r s') pl.isList (by omega) (by rw[List.size_toArray]<;>omega) (by omega) (by rw[hj];simpa using ew) ⟨rfl,fin⟩) hs
theorem HR:IxR X (Kb X.K):=by
 intro value slice pins s σ H x y v u Q I rx ry h hs
 obtain⟨p,xs,i,z,rfl,rfl,hq,he,q⟩:=h
 cases rx
 obtain⟨t,rfl⟩:=ry
 obtain⟨its,r,pl,hz⟩:=I.tuple hq
 obtain⟨j,h1,h2,h3,h4,h5⟩:=uH he
 obtain⟨w,ew,rw'⟩:=r.get h2
 have hl:=r.length
 have hn:=kN
 have fin:EP X pins σ Q w s:=⟨z,H,I,rw',q⟩
 exact subscriptTail_builtinR (x:=w) pl.typeIs slot_tuple_getitem.lookup
  (getItem_tuple (j:=j) (Q:=fun r s'=>r=w/\EP X pins σ Q r s') pl (by omega) (by omega) (by rw[List.size_toArray,<- hl];exact h1) (by simpa using ew) ⟨rfl,fin⟩) hs
theorem IC:IxR X Ki:=by
 intro value slice pins s σ H x y v u Q I rx ry h hs
 obtain⟨z,i,c,rfl,rfl,hz,he,q⟩:=h
 obtain⟨t,rfl⟩:=rx
 obtain⟨t',rfl⟩:=ry
 obtain⟨j,h1,h2,h3,h4,h5⟩:=uH he
 have hl:z.cps.toList.length=z.length:=by simp[Str.length]
 rw[hl] at h1 h4 h5
 have hn:=kN
 exact tail_any (typeIs_str s z t) slot_str_getitem.lookup (getItem_str (c:=c) (by
  have e1:decide (i < -(2 ^ 63:Int))=false:=decide_eq_false (by omega)
  have e2:decide (i ≥ 2 ^ 63)=false:=decide_eq_false (by omega)
  rw[e1,e2,Bool.or_false]) (by rw[h1];simpa using h2) ⟨.str ⟨#[c]⟩,H,I.tok _,⟨_,rfl⟩,q⟩) hs
noncomputable def rIx (K:PySem.W.Frag):R2:=fun x y H Q=>Jt K x y H Q\/Kb K x y H Q\/Ki x y H Q
theorem bV:IxR X (rIx X.K):=Ez.or (HR.or IC)
theorem xF (its:List Value) (n j:Nat) (u:Value):Obj.mapSeq (·.setIfInBounds j u) { cls:=.type "list", data:=.seq its.toArray n }={ cls:=.type "list", data:=.seq (its.set j u).toArray n }:=by
 simp[Obj.mapSeq]
theorem Inv.lst {pins:List (Addr × Obj)} {σ:St} {H:Hp} {s:Shared} {p:Addr} {xs:List V} (I:Inv X pins σ H s) (h:H p=some (.lst xs)) :
  ∃(its:List Value) (n:Nat),Vals xs its/\s.heap.get? p=some { cls:=.type "list", data:=.seq its.toArray n }/\xs.length<=sizeLine:=by
 obtain⟨z,its,n,r,e⟩:=I.hok p _ h
 exact⟨its,n,r,e,z⟩
theorem Inv.GR {pins:List (Addr × Obj)} {σ:St} {H:Hp} {s:Shared} {p:Addr} {xs ys:List V} {its its':List Value} {n n':Nat} {f:Obj->Obj} (I:Inv X pins σ H s) (h:H p=some (.lst xs))
  (ho:s.heap.get? p=some { cls:=.type "list", data:=.seq its.toArray n }) (hf:f { cls:=.type "list", data:=.seq its.toArray n }={ cls:=.type "list", data:=.seq its'.toArray n' }) (r:Vals ys its') (hz:ys.length<=sizeLine) (t:Nat) :
  Inv X pins σ (upd H p (.lst ys)) { s with heap:=s.heap.update p f,toks:=t }:=by
 have e:(s.heap.update p f).get? p=some { cls:=.type "list", data:=.seq its'.toArray n' }:=by
  rw[Heap.get?_update_self f ho (by rw[hf]<;>rfl),hf]
 refine I.write (x:=p) (e:=p) (by rw[h];trivial) (.inl rfl) (fun b u hb q=>(Heap.get?_update_other _ _ (Ne.symm hb)).trans q) ⟨_,e⟩ ?_
 exact⟨hz,its',n',r,e⟩
noncomputable def Gg:V->V->V->Hp->(Hp->Prop)->Prop:=fun o i v H Q=>∃p xs k j,o=.ref p/\i=.int k/\H p=some (.lst xs)/\ixN xs.length k=some j/\Q (upd H p (.lst (xs.set j v)))
theorem set_list:Ht X Gg:=by
 intro pins s σ H o i v ov iv u Q I ro ri rv h
 obtain⟨p,xs,k,j,rfl,rfl,hp,hj,q⟩:=h
 cases ro
 obtain⟨t,rfl⟩:=ri
 obtain⟨its,n,r,ho,hz⟩:=I.lst hp
 obtain⟨h1,h2,h3,h4⟩:=yi hj
 have hl:=r.length
 have hn:=kN
 have I':Inv X pins σ (upd H p (.lst (xs.set j v))) { s with heap:=s.heap.update p (Obj.mapSeq (·.setIfInBounds j u)) }:=
  I.GR hp ho (xF its n j u) (r.set rv j) (by rw[List.length_set];exact hz) s.toks
 by_cases h0:0<=k
 ·have hk:k.toNat=j:=by
   rw[seqIndex_of h0 h4] at h1
   exact Option.some.inj h1
  exact PySem.W.ki_setAt ho h0 (by omega) (by rw[List.size_toArray,<- hl];exact h4) (by rw[hk];exact⟨_,I',q⟩)
 ·have hk:(k+(its.toArray.size:Int)).toNat=j:=by
   rw[seqIndex_neg (by omega) h3] at h1
   rw[List.size_toArray,<- hl]
   exact Option.some.inj h1
  exact PySem.W.ki_setBack ho (by omega) (by rw[List.size_toArray,<- hl];exact h3) (by omega) (by rw[hk];exact⟨_,I',q⟩)
theorem sZ (lo hi:Option Int) (n:Nat):(sliceBounds lo hi none n).1=((HT.sIx n 0 lo:Nat):Int)/\(sliceBounds lo hi none n).2.1=((HT.sIx n n hi:Nat):Int)/\(sliceBounds lo hi none n).2.2=1:=by
 refine⟨?_,?_,rfl⟩
 ·cases lo with
  | none=>simp[sliceBounds,HT.sIx]
  | some i=>
   simp only[sliceBounds,HT.sIx,Option.getD_none,show(1:Int) > 0 by decide,if_true]
   by_cases h:i<0
   ·simp only[h,if_true]<;>omega
   ·simp only[h,if_false]<;>omega
 ·cases hi with
  | none=>simp[sliceBounds,HT.sIx]
  | some i=>
   simp only[sliceBounds,HT.sIx,Option.getD_none,show(1:Int) > 0 by decide,if_true]
   by_cases h:i<0
   ·simp only[h,if_true]<;>omega
   ·simp only[h,if_false]<;>omega
theorem qE (its:List Value) (lo hi:Option Int):slicePick its.toArray lo hi none=((its.drop (HT.sIx its.length 0 lo)).take (HT.sIx its.length its.length hi - HT.sIx its.length 0 lo)).toArray:=by
 obtain⟨h1,h2,h3⟩:=sZ lo hi its.toArray.size
 unfold slicePick
 rw[h1,h2,h3]
 simp only[sliceRange_one,pick_run,List.size_toArray]<;>rfl
noncomputable def L7 (K:PySem.W.Frag):V->Option Int->Option Int->Hp->VK->Prop:=fun x lo hi H Q=>∃a xs,x=.ref a/\SqL K H a xs/\∀p,H p=none->Q (.ref p) (upd H p (.lst (qw xs lo hi)))
theorem FV:SlR X (L7 X.K):=by
 intro pins s σ H x v vl vu lo hi sl Q I rx hs pl pu h
 obtain⟨a,xs,rfl,hx,q⟩:=h
 cases rx
 obtain⟨its,r,ht,hz⟩:=I.list hx
 have hlen:=r.length
 refine⟨"list", _,slot_list_getitem.lookup,ht.isList.typeIs,?_⟩
 refine wpAny_getItem_list_slice ht.isList hs pl pu .none (by simp) ?_ (by rw[List.size_toArray]<;>omega)
 rw[qE,<- hlen]
 refine⟨.ref s.heap.objs.size,_,I.laid (t':=s.toks) (o:=.lst (qw xs lo hi)) (fun b ob q=>Heap.get?_push_of_some _ q) (Nat.le_refl _) ?_,rfl,q _ (I.hok.fresh (Nat.le_refl _))⟩
 exact⟨Nat.le_trans (ny xs lo hi) hz,_,0,(r.drop (HT.sIx xs.length 0 lo)).take (HT.sIx xs.length xs.length hi - HT.sIx xs.length 0 lo),Heap.get?_push_size _ rfl⟩
noncomputable def kD:V->Bool
 | .non=>true
 | .bl _=>true
 | .int _=>true
 | .str _=>true
 | _=>false
noncomputable def eqV:V->V->Bool
 | .non,.non=>true
 | .bl a,.bl b=>a == b
 | .bl a,.int b=>(if a then 1 else 0) == b
 | .int a,.bl b=>a == (if b then 1 else 0)
 | .int a,.int b=>a == b
 | .str a,.str b=>a == b
 | _,_=>false
theorem HN {A:Around} {s:Shared} {y x:V} {u v:Value} (ry:RelV y u) (rx:RelV x v) (fy:kD y=true) (fx:kD x=true):SeqAt.EqAt A s u v (eqV y x):=by
 cases y with
 | non=>
  cases ry
  cases x with
  | non=>cases rx;exact SeqAt.EqAt.same _
  | bl b=>cases rx;exact SeqAt.EqAt.none_bool b
  | int b=>obtain⟨t,rfl⟩:=rx;exact SeqAt.EqAt.none_int b t
  | str b=>obtain⟨t,rfl⟩:=rx;exact SeqAt.EqAt.none_str b t
  | _=>exact absurd (show false=true from fx) Bool.false_ne_true
 | bl a=>
  cases ry
  cases x with
  | non=>cases rx;exact SeqAt.EqAt.bool_none a
  | bl b=>cases rx;exact SeqAt.EqAt.bool_bool a b
  | int b=>obtain⟨t,rfl⟩:=rx;exact SeqAt.EqAt.bool_int a b t
  | str b=>obtain⟨t,rfl⟩:=rx;exact SeqAt.EqAt.bool_str a b t
  | _=>exact absurd (show false=true from fx) Bool.false_ne_true
 | int a=>
  obtain⟨t',rfl⟩:=ry
  cases x with
  | non=>cases rx;exact SeqAt.EqAt.int_none a t'
  | bl b=>cases rx;exact SeqAt.EqAt.int_bool a t' b
  | int b=>obtain⟨t,rfl⟩:=rx;exact SeqAt.EqAt.int_int a t' b t
  | str b=>obtain⟨t,rfl⟩:=rx;exact SeqAt.EqAt.int_str a t' b t
  | _=>exact absurd (show false=true from fx) Bool.false_ne_true
 | str a=>
  obtain⟨t',rfl⟩:=ry
  cases x with
  | non=>cases rx;exact SeqAt.EqAt.str_none a t'
  | bl b=>cases rx;exact SeqAt.EqAt.str_bool a t' b
  | int b=>obtain⟨t,rfl⟩:=rx;exact SeqAt.EqAt.str_int a t' b t
  | str b=>obtain⟨t,rfl⟩:=rx;exact SeqAt.EqAt.str_str a t' b t
  | _=>exact absurd (show false=true from fx) Bool.false_ne_true
 | _=>exact absurd (show false=true from fy) Bool.false_ne_true
noncomputable def eqU (x:V) (u:Value):Bool:=match u with
 | .none=>eqV .non x
 | .bool b=>eqV (.bl b) x
 | .int i _=>eqV (.int i) x
 | .str z _=>eqV (.str z) x
 | _=>false
theorem Dn {x y:V} {u:Value} (r:RelV y u) (f:kD y=true):eqU x u=eqV y x:=by
 cases y with
 | non=>cases r;rfl
 | bl b=>cases r;rfl
 | int i=>obtain⟨t,rfl⟩:=r;rfl
 | str z=>obtain⟨t,rfl⟩:=r;rfl
 | _=>exact absurd (show false=true from f) Bool.false_ne_true
theorem lP {x:V}:∀{xs:List V} {us:List Value},Vals xs us->xs.all kD=true->us.any (eqU x)=xs.any fun y=>eqV y x
 | _,_,.nil,_=>rfl
 | y::xs,u::us,.cons r t,f=>by
  rw[List.all_cons,Bool.and_eq_true] at f
  rw[List.any_cons,List.any_cons,Dn r f.1,lP t f.2]
theorem jX {A:Around} {s:Shared} {x:V} {v:Value} (rx:RelV x v) (fx:kD x=true):∀{xs:List V} {us:List Value},Vals xs us->xs.all kD=true->∀u∈us,SeqAt.EqAt A s u v (eqU x u)
 | _,_,.nil,_=>fun u hu=>by cases hu
 | y::xs,u::us,.cons r t,f=>fun u' hu=>by
  rw[List.all_cons,Bool.and_eq_true] at f
  rcases List.mem_cons.mp hu with rfl | hu
  ·rw[Dn r f.1];exact HN r rx f.1 fx
  ·exact jX rx fx t f.2 u' hu
noncomputable def inV (x:V) (xs:List V):Bool:=xs.any fun y=>eqV y x
noncomputable def rIn (K:PySem.W.Frag) (neg:Bool):R2:=fun x y H Q=>∃p xs,y=.ref p/\(SqL K H p xs\/SqT K H p xs)/\kD x=true/\xs.all kD=true/\Q (.bl (if neg then !inV x xs else inV x xs)) H
theorem Ai:OpR X (compareOp .In) (rIn X.K false):=by
 intro pins s σ H x y v u Q I rx ry h
 obtain⟨p,xs,rfl,hq,fx,fs,q⟩:=h
 cases ry
 rcases hq with hq | hq
 ·obtain⟨its,r,pl,hz⟩:=I.list hq
  refine SeqAt.in_listAt (eqU x) pl.isList (fun w hw=>jX rx fx r fs w (by simpa using hw)) ⟨.bl _,H,I,rfl,?_⟩
  rw[show its.toArray.any (eqU x)=its.any (eqU x) by simp,lP r fs]
  exact q
 ·obtain⟨its,r,pl,hz⟩:=I.tuple hq
  refine SeqAt.in_tupleAt (eqU x) pl (fun w hw=>jX rx fx r fs w (by simpa using hw)) ⟨.bl _,H,I,rfl,?_⟩
  rw[show its.toArray.any (eqU x)=its.any (eqU x) by simp,lP r fs]
  exact q
theorem t5:OpR X (compareOp .NotIn) (rIn X.K true):=by
 intro pins s σ H x y v u Q I rx ry h
 obtain⟨p,xs,rfl,hq,fx,fs,q⟩:=h
 cases ry
 rcases hq with hq | hq
 ·obtain⟨its,r,pl,hz⟩:=I.list hq
  refine SeqAt.notIn_listAt (eqU x) pl.isList (fun w hw=>jX rx fx r fs w (by simpa using hw)) ⟨.bl _,H,I,rfl,?_⟩
  rw[show its.toArray.any (eqU x)=its.any (eqU x) by simp,lP r fs]
  exact q
 ·obtain⟨its,r,pl,hz⟩:=I.tuple hq
  refine SeqAt.notIn_tupleAt (eqU x) pl (fun w hw=>jX rx fx r fs w (by simpa using hw)) ⟨.bl _,H,I,rfl,?_⟩
  rw[show its.toArray.any (eqU x)=its.any (eqU x) by simp,lP r fs]
  exact q
theorem uA:bp X (.builtin "len") (fun xs H Q=>∃p ys,xs=[.ref p]/\(SqL X.K H p ys\/SqT X.K H p ys)/\Q (.int ys.length) H):=by
 intro pins s σ H xs us Q I r h
 obtain⟨p,ys,rfl,hq,q⟩:=h
 obtain⟨u,rfl,rx⟩:=vals1 r
 cases rx
 have hn:=kN
 rcases hq with hq | hq
 ·obtain⟨its,r',pl,hz⟩:=I.list hq
  have hlen:=r'.length
  exact Calls.call_len_list pl.isList (by simp only[List.size_toArray]<;>omega) ⟨.int ys.length,H,I.tok _,⟨s.toks+1,by rw[List.size_toArray,hlen]⟩,q⟩
 ·obtain⟨its,r',pl,hz⟩:=I.tuple hq
  have hlen:=r'.length
  exact len_tuple pl (by simp only[List.size_toArray]<;>omega) ⟨.int ys.length,H,I.tok _,⟨s.toks+1,by rw[List.size_toArray,hlen]⟩,q⟩
theorem uD:bp X (.builtin "len") (fun xs H Q=>∃z,xs=[.str z]/\z.length<=sizeLine/\Q (.int z.length) H):=by
 intro pins s σ H xs us Q I r h
 obtain⟨z,rfl,hz,q⟩:=h
 obtain⟨u,rfl,t,rfl⟩:=vals1 r
 have hn:=kN
 exact len_str (by omega) ⟨.int z.length,H,I.tok _,⟨_,rfl⟩,q⟩
theorem bp.or {f:Value} {r r':List V->Hp->VK->Prop} (h:bp X f r) (h':bp X f r'):bp X f (fun xs H Q=>r xs H Q\/r' xs H Q):=by
 intro pins s σ H xs us Q I rs q
 rcases q with q | q
 ·exact h pins s σ H xs us Q I rs q
 ·exact h' pins s σ H xs us Q I rs q
theorem uz:bp X (.type "list") (fun xs H Q=>∃p ys,xs=[.ref p]/\(SqL X.K H p ys\/SqT X.K H p ys)/\∀l,H l=none->Q (.ref l) (upd H l (.lst ys))):=by
 intro pins s σ H xs us Q I r h
 obtain⟨p,ys,rfl,hq,q⟩:=h
 obtain⟨u,rfl,rx⟩:=vals1 r
 cases rx
 have fin:∀(its:List Value),Vals ys its->ys.length<=sizeLine->∀(h':Heap) (c':Nat),(∀b o',s.heap.get? b=some o'->h'.get? b=some o') →
   h'.get? s.heap.objs.size=some { cls:=.type "list", dict:=none,data:=.seq its.toArray c',slots:=#[] }->EP X pins σ Q (.ref s.heap.objs.size) { s with heap:=h' }:=fun its r' hz h' c' kp e=>
  ⟨.ref s.heap.objs.size,_,I.laid (t':=s.toks) kp (Nat.le_refl _) (show cF X.prog X.w _ h' _ (.lst ys) from⟨hz,its,c',r',e⟩),rfl,q _ (I.hok.fresh (Nat.le_refl _))⟩
 rcases hq with hq | hq
 ·obtain⟨its,r',pl,hz⟩:=I.list hq
  have hlen:=r'.length
  obtain⟨o,ho,hc,n,hd⟩:=pl.isList
  exact call_list_seq p (.inl rfl) ho hc hd (fun h' c' kp e=>fin its r' hz h' c' kp e) (by simp only[List.size_toArray]<;>omega)
 ·obtain⟨its,r',pl,hz⟩:=I.tuple hq
  have hlen:=r'.length
  obtain⟨o,ho,hc,n,hd⟩:=pl
  exact call_list_seq p (.inr rfl) ho hc hd (fun h' c' kp e=>fin its r' hz h' c' kp e) (by simp only[List.size_toArray]<;>omega)
theorem h_:bp X (.type "tuple") (fun xs H Q=>∃p ys,xs=[.ref p]/\((SqL X.K H p ys/\∀l,H l=none->Q (.ref l) (upd H l (.tup ys)))\/(SqT X.K H p ys/\Q (.ref p) H))):=by
 intro pins s σ H xs us Q I r h
 obtain⟨p,ys,rfl,h⟩:=h
 obtain⟨u,rfl,rx⟩:=vals1 r
 cases rx
 rcases h with⟨hq,q⟩ | ⟨hq,q⟩
 ·obtain⟨its,r',pl,hz⟩:=I.list hq
  have hlen:=r'.length
  refine call_tuple_list pl.isList (fun h' kp=>?_) (by simp only[List.size_toArray]<;>omega)
  have I1:Inv X pins σ H { s with heap:=h' }:=I.kept (t':=s.toks) kp
  have I2:Inv X pins σ (upd H h'.objs.size (.tup ys)) { s with heap:=h'.push { cls:=.type "tuple", data:=.seq its.toArray } }:=
   I1.laid (t':=s.toks) (fun b o e=>Heap.get?_push_of_some _ e) (Nat.le_refl _) (show cF X.prog X.w _ _ _ (.tup ys) from⟨hz,its,r',pW.new _ _⟩)
  exact⟨.ref h'.objs.size,_,I2,rfl,q _ (I1.hok.fresh (Nat.le_refl _))⟩
 ·obtain⟨its,r',pl,hz⟩:=I.tuple hq
  exact call_tuple_same pl ⟨.ref p,H,I,rfl,q⟩
noncomputable def tyV (K:PySem.W.Frag) (T:String) (x:V) (H:Hp):Prop:=match x with
 | .str _=>T="str"
 | .int _=>T="int"
 | .ref p=>(T="list" /\ ∃xs,SqL K H p xs)\/(T="tuple" /\ ∃o,K.lookup p=some o/\o.cls=.type "tuple" /\ o.dict=none) ∨
   (T="dict" /\ ((∃kvs,H p=some (.dK kvs))\/∃kvs,H p=some (.dT kvs)))\/(T="set" /\ ∃S n,H p=some (.set S n))\/(T="tuple" /\ ∃xs,H p=some (.tup xs))
 | _=>False
theorem GO {pins:List (Addr × Obj)} {σ:St} {H:Hp} {s:Shared} {T:String} {x:V} {v:Value} (I:Inv X pins σ H s) (r:RelV x v) (ty:tyV X.K T x H) :
  s.TypeIs v T/\∀a,v=.ref a->∃ob,s.heap.get? a=some ob/\ob.dict=none:=by
 cases x with
 | str z=>
  obtain⟨t,rfl⟩:=r
  cases (show T="str" from ty)
  exact⟨typeIs_str s z t,fun _ e=>nomatch e⟩
 | int i=>
  obtain⟨t,rfl⟩:=r
  cases (show T="int" from ty)
  exact⟨typeIs_int s i t,fun _ e=>nomatch e⟩
 | ref p=>
  cases r
  rcases ty with⟨rfl,xs,hq⟩ | ⟨rfl,o,hk,hc,hd⟩ | ⟨rfl,hk⟩ | ⟨rfl,S,n,hk⟩ | ⟨rfl,xs,hk⟩
  ·obtain⟨its,_,pl,_⟩:=I.list hq
   refine⟨pl.isList.typeIs,fun a e=>?_⟩
   cases e
   obtain⟨o,n,e,c,hd,_⟩:=pl
   exact⟨o,e,hd⟩
  ·refine⟨⟨o,I.kIn p o hk,hc⟩,fun a e=>?_⟩
   cases e
   exact⟨o,I.kIn _ o hk,hd⟩
  ·have z:∃o,s.heap.get? p=some o/\o.ExactDict:=by
    rcases hk with⟨kvs,hk⟩ | ⟨kvs,hk⟩
    ·obtain⟨_,_,_,_,o,_,_,e,ex,_⟩:=I.hok p _ hk
     exact⟨o,e,ex⟩
    ·obtain⟨_,_,_,_,o,_,_,e,ex,_⟩:=I.hok p _ hk
     exact⟨o,e,ex⟩
   obtain⟨o,e,ex⟩:=z
   refine⟨⟨o,e,ex.1⟩,fun a e2=>?_⟩
   cases e2
   exact⟨o,e,ex.2.1⟩
  ·obtain⟨o,_,_,_,e,ex,_⟩:=I.hok p _ hk
   refine⟨⟨o,e,ex.1⟩,fun a e2=>?_⟩
   cases e2
   exact⟨o,e,ex.2.1⟩
  ·obtain⟨_,_,_,o,e,⟨c,_⟩,hd⟩:=I.hok p _ hk
   refine⟨⟨o,e,c⟩,fun a e2=>?_⟩
   cases e2
   exact⟨o,e,hd⟩
 | _=>exact False.elim ty
noncomputable def tBM (K:PySem.W.Frag) (T:String) (r:V->List V->Hp->VK->Prop) (to:TE) (t:TA):TE:=fun σ H Q=>to σ H fun x H1=>tyV K T x H1/\t σ H1 fun xs H2=>r x xs H2 Q
variable {o e:Expr} {es:List Expr} {to:TE} {t:TA} {name:Str} {apos cpos:Pos} {T id:String} {r:V->List V->Hp->VK->Prop}
theorem JU (pa:PlainAttrs T) (slot:Slot T name id) (hty:typeOf (.builtin id)=pure (.type "method_descriptor")) (hm:MtR X id r) (ho:PE X o to) (ha:PA X (e::es) t)
  (hbase:attributeBase o name X.env (eval o X.env)=eval o X.env:=by rfl)
  (hfew:((backTo cpos (starEach (e::es) X.env)).all (fun x=>!x.1)&&(backToKw cpos (keywordEach [] X.env)).all (fun x=>x.1.isSome)
   && decide ((e::es).length+([]:List Keyword).length+(if ([]:List Keyword).isEmpty then 0 else 1)<30))=true:=by rfl)
  (hline:(apos.endLine == cpos.line)=true:=by rfl) (hs:starEach (e::es) X.env=(false,eval e X.env)::starEach es X.env:=by rfl) (hplain:(backTo cpos (starEach es X.env)).any (·.1)=false:=by rfl) :
  PE X (.Call (.Attribute o name apos) (e::es) [] cpos) (tBM X.K T r to t):=by
 intro pins s σ H Q I h
 refine wpAny_Call_method_late hbase hfew hline rfl (thn (ho pins s σ H _ I h) fun v s1 ⟨x,H1,I1,r1,ty,q1⟩=>?_)
 obtain⟨h1,h2⟩:=GO I1 r1 ty
 refine⟨T,id,pa,slot,hty,h1,h2,?_⟩
 have hA:=ha cpos pins s1 σ H1 _ I1 q1
 rw[hs] at hA ⊢
 refine Calls.callWith_builtin (by show(false || (backTo cpos (starEach es X.env)).any (·.1))=false;rw[hplain]<;>rfl) (Calls.evalArgs_plain ?_)
 exact thn hA fun us s2 ⟨vs,H2,I2,r2,q2⟩=>hm pins s2 σ H2 x vs v us Q I2 r1 r2 q2
/- xs.append(e),list.index on a module's tuple .. are MtR facts of 06m -/
end
noncomputable def MtM (X:Cx) (id:String) (r:V->List V->Hp->VK->Prop):Prop:=
 ∀(pins:List (Addr × Obj)) (s:Shared) (σ:St) (H:Hp) (x:V) (xs:List V) (v:Value) (us:List Value) (Q:VK),Inv X pins σ H s->RelV x v->Vals xs us->r x xs H Q →
  wpAny (model X.prog X.w) X.A (call (.builtin id) (v::us)) (EP X pins σ Q) X.xe s
theorem Vals.one:∀{x:V} {us:List Value},Vals [x] us->∃u,us=[u]/\RelV x u
 | _,_,.cons r .nil=>⟨_,rfl,r⟩
theorem Vals.rep {xs:List V} {us:List Value} (h:Vals xs us):∀k:Nat,Vals (List.replicate k xs).flatten (List.replicate k us).flatten
 | 0=>.nil
 | k+1=>by
  rw[List.replicate_succ,List.replicate_succ,List.flatten_cons,List.flatten_cons]
  exact Vals.append h (Vals.rep h k)
theorem foldl_rep (its:List Value):∀(k:Nat) (acc:List Value),
  List.foldl (fun x1 x2=>x1++x2) acc.toArray (List.replicate k its.toArray)=(acc++(List.replicate k its).flatten).toArray
 | 0,acc=>by simp
 | k+1,acc=>by
  have e:acc.toArray++its.toArray=(acc++its).toArray:=by simp
  have e2:(acc++its)++(List.replicate k its).flatten=acc++(List.replicate (k+1) its).flatten:=by
   rw[List.replicate_succ,List.flatten_cons,List.append_assoc]
  rw[<- e2,<- foldl_rep its k (acc++its),<- e,List.replicate_succ,List.foldl_cons]
section
variable {X:Cx} {pins:List (Addr × Obj)} {σ:St} {H:Hp} {s:Shared} {l b:Addr} {xs ys zs:List V}
theorem Inv.LR {its its':List Value} {n:Nat} {f:Array Value->Array Value} {t':Nat} (I:Inv X pins σ H s) (hH:H l=some (.lst xs))
  (e:s.heap.get? l=some { cls:=.type "list", data:=.seq its.toArray n }) (hf:f its.toArray=its'.toArray) (hv:Vals ys its') (hz:ys.length<=sizeLine) :
  Inv X pins σ (upd H l (.lst ys)) { s with heap:=s.heap.update l (Obj.mapSeq f),toks:=t' }:=by
 have q:=PySem.IsL.update e f
 rw[hf] at q
 refine I.write (x:=l) (e:=l) (by rw[hH];exact trivial) (.inl rfl) (fun b' u hb hu=>(Heap.get?_update_other s.heap (Obj.mapSeq f) (Ne.symm hb)).trans hu) ⟨_,q⟩ ?_
 exact⟨hz,its',_,hv,q⟩
theorem Inv.Fc {its:List Value} {t':Nat} (I:Inv X pins σ H s) (hv:Vals ys its) (hz:ys.length<=sizeLine) :
  Inv X pins σ (upd H s.heap.objs.size (.lst ys)) { s with heap:=s.heap.push { cls:=.type "list", data:=.seq its.toArray },toks:=t' }:=
 I.laid (fun _ _ q=>Heap.get?_push_of_some _ q) (Nat.le_refl _) ⟨hz,its,0,hv,Heap.get?_push_size _ rfl⟩
theorem Inv.fresh (I:Inv X pins σ H s):H s.heap.objs.size=none:=I.hok.fresh (Nat.le_refl _)
theorem Inv.KJ (I:Inv X pins σ H s) (hH:H l=some (.lst xs)):xs.length<=sizeLine/\∃(its:List Value) (n:Nat),Vals xs its/\xs.length=its.length/\s.heap.get? l=some { cls:=.type "list", data:=.seq its.toArray n }:=by
 obtain⟨z,its,n,r,e⟩:=I.hok l _ hH
 exact⟨z,its,n,r,r.length,e⟩
theorem A2 {n:Nat} (h:n<=sizeLine):Builtin.List.listTooLong n=false:=by
 unfold Builtin.List.listTooLong
 exact decide_eq_false (by omega)
end
section
variable {X:Cx}
noncomputable def ze:V->List V->Hp->VK->Prop:=fun x vs H Q=>∃l xs y,x=.ref l/\vs=[y]/\H l=some (.lst xs)/\xs.length<sizeLine/\Q .non (upd H l (.lst (xs++[y])))
theorem kf:MtM X "list.append" ze:=by
 intro pins s σ H x vs v us Q I rx rv h
 obtain⟨l,xs,y,rfl,rfl,hH,hz,q⟩:=h
 cases rx
 obtain⟨u,rfl,ru⟩:=rv.one
 obtain⟨z,its,n,r,hl,e⟩:=I.KJ hH
 refine call_meets F.slot_list_append ⟨_,e,rfl⟩ F.entry_list_append (F.args_list_append_2 _ _) (PySem.list_append l its.toArray n u (by rw[List.size_toArray];omega)) ⟨e,?_⟩
 refine⟨.non,_,I.LR (its':=its++[u]) hH e (by simp) (r.append (.cons ru .nil)) ?_,rfl,q⟩
 rw[List.length_append,List.length_singleton]
 omega
theorem len_rep {α:Type} (xs:List α) (k:Nat):(List.replicate k xs).flatten.length=k*xs.length:=by
 induction k with
 | zero=>simp
 | succ k ih=>rw[List.replicate_succ,List.flatten_cons,List.length_append,ih,Nat.succ_mul,Nat.add_comm]
end
end L2
namespace Att
open PySem PySem.W PySem.Calls PyProof.Rows
theorem nO {P:Params} {h:Heap}:∀(ns:List Int) (vs:List Value),WellAll P h vs (ns.map WData.int)->IntsAre vs ns:=by
 intro ns
 induction ns with
 | nil=>
  intro vs w
  rw[List.map_nil] at w
  cases w
  exact .nil
 | cons n ns ih=>
  intro vs w
  rw[List.map_cons] at w
  cases w with
  | cons a b=>
   cases a
   exact .cons _ _ (ih _ b)
theorem zt {l:OpenLaw} {n:Nat} (hn:l.most=some n) {P:Params} {h:Heap} {args:List WData} {vals:List Value}
  (hpre:l.row.toRowW.claim.pre args=true) (hwl:WellAll P h vals args) :
  ∃a vs ns,vals=[Value.ref a]/\args=[WData.list (ns.map WData.int)]/\h.get? a=some { cls:=.type "list", data:=.seq vs.toArray }/\IntsAre vs ns/\ns.length<=n:=by
 have hsh:WShape.hasAll [] args [.list .int]=true:=(pre_splitW hpre).1
 have hc:l.pre.holds [] { args:=args }=true:=(pre_splitW hpre).2
 obtain⟨d,r,rfl,h1,h2⟩:=hasAllW_cons hsh
 obtain rfl:=hasAllW_nil h2
 obtain⟨xs,rfl,h3⟩:=hasW_list h1
 obtain⟨ns,rfl⟩:=items_int h3
 have hlen:ns.length<=n:=by
  unfold OpenLaw.pre at hc
  have h4:(WTm.not (.lt (.lit (.int (n:Int))) (.len (.arg 0)))).holds [] { args:=[.list (ns.map .int)] }=true:=by
   have h4:=(holds_andW hc).1
   rw[hn] at h4
   exact h4
  have h5:=condW_of h4 (w_not (w_lt w_lit (w_len_list (w_arg rfl))))
  rw[List.length_map] at h5
  refine Nat.le_of_not_lt fun q=>?_
  have q':(n:Int)<((ns.length:Nat):Int):=by omega
  first
   | (rw[decide_eq_true q'] at h5;exact absurd h5 (by decide))
   | (simp at h5;omega)
 cases hwl with
 | cons w1 w2=>
  cases w2
  cases w1 with
  | list ho hall=>exact⟨_,_,ns,rfl,rfl,ho,nO ns _ hall,hlen⟩
theorem zB (l:OpenLaw) (args:List WData):l.row.toRowW.claim.post args (.bool true) args=true:=
 postW_of (r:=l.row.toRowW) (X:=(true == true))
  (show WShape.has [] (.bool true) .bool=true by first | rfl | decide | simp[WShape.has,WShape.arms,WShape.armsAll])
  (show(WTm.eq .res (.lit (.bool true))).value [] { args:=args,res:=some (.bool true),after:=args }=some (.bool (true == true)) from w_eq_bool (w_res rfl) w_lit) rfl
theorem vf {l:OpenLaw} {n:Nat} {q:Program} {loose:List Str} {XP:(Str->Option Value)->Heap->Prop} {YP:World->Heap->Prop} {d:DefRec}
  (hn:l.most=some n) (hdf:d.params.defaults=[])
  (call:∀(w:World) (aF s₁:Shared) (mg mb:Str->Option Value) (fa:Addr) (o:Obj) (pm cd doc:Value) (a:Addr) (vs:List Value) (ns:List Int),
   Ground q loose [] XP w aF mg mb s₁.heap->YP w s₁.heap →
   s₁.heap.get? fa=some o->o.data=.func (docDef d.name d.params d.body d.scope pm cd doc)->s₁.heap.CodeRec cd d.name->mg d.name=some (.ref fa) →
   s₁.heap.get? a=some { cls:=.type "list", data:=.seq vs.toArray }->IntsAre vs ns->ns.length<=n->s₁.gens = #[] →
   codeAny (model l.prog w) callerA (.call (.ref fa) ⟨[.ref a],[]⟩) (fun r s'=>r=.ok (.ret (.bool true))/\OldK s₁.heap s'.heap/\s'.os=s₁.os/\AllBare s'.gens) s₁) :
  WalkO q loose XP YP l.row.toRowW d [] (fun f vs=>PySem.call f vs):=by
 intro w aF s₁ mg mb G Y fa o pm cd doc dV kV ho hd hcd hD hmg hg args vals as hpre hlay hrd hwl hlo
 obtain rfl:dV=.none:=Dflts.none hD hdf
 obtain rfl:kV=.none:=Dflts.noKw hD
 obtain⟨a,vs,ns,rfl,rfl,hobj,hints,hlen⟩:=zt hn hpre hwl
 refine enter_call (codeAny_mono (call w aF s₁ mg mb fa o pm cd doc a vs ns G Y ho (fd_plain hd) hcd hmg hobj hints hlen hg) fun r s' hq=>?_)
 obtain⟨rfl,h2,h3,h4⟩:=hq
 exact⟨.inl ⟨.bool true,.bool true,[],rfl,fun _=>rfl,.bool true,zB l _,fun _=>⟨List.Pairwise.nil,fun _ hm=>(nomatch hm)⟩⟩,h2,h3,h4⟩
end Att
namespace L2
open PySem PySem.Spec PyProof.Rows
theorem rM:∀{vs:List Value} {ns:List Int},IntsAre vs ns->Vals (ns.map V.int) vs
 | _,_,.nil=>.nil
 | _,_,.cons n t h=>.cons ⟨t,rfl⟩ (rM h)
noncomputable def KS (H:Hp):Prop:=∀b,H b=none\/∃o xs,H b=some (.frz o (.lst xs))
end L2
/- THE LAST THEOREM (shape;LID,My.* are yours):
  My.Adr: a structure of the addresses that your layer names (classes,functions);My.Txt K t: a structure (Prop) of the equations over K;
  My.txt_mk:{K} {implicit addresses ..} (e1:nsIn K mainGlobals "law" = some (some (.ref f))) (e2:K.lookup f=some ⟨oc,od,.func (fnOf "law" "law" params body scope dV kV doc pm an cdv ct),sl⟩) (e3:codeIn K cdv "law" = true) .. : ∃t,My.Txt K t
(the tactic k_is has no namespace: write k_is) -/
namespace L2
open PySem PySem.Spec PyProof.Rows
noncomputable def eJ (s:Stmt):Arguments:=match s with
 | .FunctionDef _ a _ _ _ _ _ _ _ _=>a
 | _=>{ posonlyargs:=[],args:=[],vararg:=none,kwonlyargs:=[],kw_defaults:=[],kwarg:=none,defaults:=[] }
noncomputable def bK (s:Stmt):List Stmt:=match s with
 | .FunctionDef _ _ b _ _ _ _ _ _ _=>b
 | _=>[]
noncomputable def ai (s:Stmt):Scope:=match s with
 | .FunctionDef _ _ _ _ _ _ sc _ _ _=>sc
 | _=>{ kind:=.function,names:=[],isGenerator:=false,isCoroutine:=false }
noncomputable abbrev CX0:CXT:=fun _ _ _ _ _ _=>False
noncomputable abbrev E0:XK:=fun _ _ _=>False
theorem Jw {X:Cx}:Passes CX0 X E0:=fun _ _ _ _ _ _ _ h=>h.elim
structure Fun (K:PySem.W.Frag) (x qual:Str) (st:Stmt) (f:Addr) (fd:FuncData):Prop where
 ex:∃(oc:Value) (od:Option Addr) (kV doc pm:Value) (an:Option Addr) (cdv ct:Value) (osl:Array (Option Value)),
  fd=PySem.W.fnOf x qual (eJ st) (bK st) (ai st) .none kV doc pm an cdv ct/\K.lookup f=some ⟨oc,od,.func fd,osl⟩/\PySem.W.codeIn K cdv qual=true
 kp:PySem.W.keepIn K (.ref f)=true
section
variable {P:Program} {w:World} {K:PySem.W.Frag} {mg:Str->Option Value} {base:Heap}
theorem Fun.ok {x qual:Str} {st:Stmt} {f:Addr} {fd:FuncData} {N ps:List Str} {k:Nat} {sp:Sp} (F:Fun K x qual st f fd) (S:aC N ps (ai st)) (len:∀vs H Q E,sp vs H Q E->vs.length=ps.length)
  (hbody:∀(cdv:Value) (A:Around) (outer:List Env) (s:Shared) (H:Hp) (vs:List V) (Q:VK) (E:XK),dw k (A.deeper (envOfC qual (ai st) s.heap.objs.size f cdv))->sp vs H Q E →
   ∃t,PSs (gC CX0 P w K mg base N qual (ai st) f cdv A outer s H E).nox (bK st) t/\t { nx:=fun _ H'=>Q .non H',rt:=Q } (start N vs) H):dA P w K mg base CX0 (k+1) f fd ps sp:=by
 obtain⟨oc,od,kV,doc,pm,an,cdv,ct,osl,rfl,lk,hcd⟩:=F.ex
 refine Gr lk hcd S len fun A outer s H vs Q E hr hsp=>?_
 obtain⟨t,h,q⟩:=hbody cdv A outer s H vs Q E hr hsp
 exact⟨t,h.nox,q⟩
theorem Fun.binds {x qual:Str} {st:Stmt} {f:Addr} {fd:FuncData} {ps:List Str} (F:Fun K x qual st f fd)
  (h:∀(kV doc pm:Value) (an:Option Addr) (cdv ct:Value) (us:List Value),us.length=ps.length->bindArgs (PySem.W.fnOf x qual (eJ st) (bK st) (ai st) .none kV doc pm an cdv ct) ⟨us,[]⟩=pure (ps.zip us)):Binds K fd ps []:=by
 obtain⟨oc,od,kV,doc,pm,an,cdv,ct,osl,rfl,lk,hcd⟩:=F.ex
 exact .all (h kV doc pm an cdv ct)
theorem xq {x qual:Str} {st:Stmt} {f:Addr} {oc:Value} {od an:Option Addr} {osl:Array (Option Value)} {kV doc pm cdv ct:Value} (l:K.lookup f=some ⟨oc,od,.func (PySem.W.fnOf x qual (eJ st) (bK st) (ai st) .none kV doc pm an cdv ct),osl⟩)
  (c:PySem.W.codeIn K cdv qual=true) (k:PySem.W.keepIn K (.ref f)=true):Fun K x qual st f (PySem.W.fnOf x qual (eJ st) (bK st) (ai st) .none kV doc pm an cdv ct):=⟨⟨oc,od,kV,doc,pm,an,cdv,ct,osl,rfl,l,c⟩,k⟩
end
noncomputable def PTs (X:Cx) (ifs:List Expr) (t:TT):Prop:=
 ∀(pins:List (Addr × Obj)) (s:Shared) (σ:St) (H:Hp) (Q:Bool->Hp->Prop),Inv X pins σ H s->t σ H Q →
  wpAny (model X.prog X.w) X.A (forIn ifs true fun c r=>if r=true then do let ok ← isTrue c X.env (eval c X.env);pure (ForInStep.yield ok) else pure (ForInStep.yield r)) (TP X pins σ Q) X.xe s
noncomputable def Kk:TT:=fun _ H Q=>Q true H
theorem Er {X:Cx}:PTs X [] Kk:=fun _ _ _ H _ I h=>wpAny_tests_nil ⟨H,I,h⟩
theorem Fn {X:Cx} {c:Expr} {t:TT} (h:PT X c t):PTs X [c] t:=fun pins s σ H Q I q=>wpAny_tests_one (h pins s σ H Q I q)
theorem wH {prog:Program} {w:World} {A:Around} {R:Result->Shared->Prop} {s:Shared} {elt target iter:Expr} {ifs:List Expr} {scope:Scope} {pos:Pos} {it acc:Value} {env:Env} (I:Nat->Shared->Prop)
  (turn:∀n s,I n s->wpAny (model prog w) A (pyNext it) (fun r s₁=>match r with
   | none=>R (.ok .next) s₁
   | some v=>wpAny (model prog w) A (letOwnedTupleGo target it v) (fun _ s₁=>wpAny (model prog w) A (assign target env v) (fun _ s₂=>
     wpAny (model prog w) A (forIn ifs true fun c r=>if r=true then do let ok ← isTrue c env (eval c env);pure (ForInStep.yield ok) else pure (ForInStep.yield r)) (fun ok s₃=>
      if ok=true then wpAny (model prog w) A (eval elt env) (fun x s₄=>
       wpAny (model prog w) A (call (.builtin "list.append") [acc,x]) (fun _ s₅=>∃m,m<n/\I m s₅) (fun _ _=>False) s₄) (fun _ _=>False) s₃
      else ∃m,m<n/\I m s₃) (fun _ _=>False) s₂) (fun _ _=>False) s₁) (fun _ _=>False) s₁) (fun _ _=>False) s)
  (n:Nat) (h:I n s) :
  codeAny (model prog w) A (.compLoop (.ListComp elt [⟨target,iter,ifs,0⟩] scope pos) 0 it acc env) R s:=by
 refine codeAny_loop rfl I (fun n s hI=>?_) n h
 show wpAny _ A ((compTurn (.ListComp elt [⟨target,iter,ifs,0⟩] scope pos) 0 it acc env).onRaise (fun x=>do noteFrame x env;theTreesLotGoes x)) _ _ s
 refine wpAny_noted ?_
 rw[compTurn_list]
 refine wpAny_noRaise ?_
 refine wpAny_bind (wpAny_standAt (wpAny_bind (wpAny_mono (turn n s hI) (fun r s₁ h₁=>?_) fun _ _ h'=>h')))
 cases r with
 | none=>exact wpAny_pure h₁
 | some v=>
  refine wpAny_bind (wpAny_mono h₁ (fun _ s₁' h₁'=>?_) fun _ _ h'=>h')
  refine wpAny_bind (wpAny_mono h₁' (fun _ s₂ h₂=>wpAny_bind (wpAny_mono h₂ (fun ok s₃ h₃=>?_) fun _ _ h'=>h')) fun _ _ h'=>h')
  cases ok with
  | false=>exact wpAny_pure ⟨rfl,h₃⟩
  | true=>
   exact wpAny_bind (wpAny_bind (wpAny_mono h₃ (fun x s₄ h₄=>wpAny_bind (wpAny_mono h₄ (fun _ s₅ h₅=>wpAny_pure (wpAny_pure ⟨rfl,h₅⟩)) fun _ _ h'=>h')) fun _ _ h'=>h'))
noncomputable def bq (X:Cx) (scope:Scope) (cl:List (Str × Addr)) (C:Addr) (aF:Shared) (aL:Hp) (fp:List Addr) (N':List Str):Cx:=
 { X with N:=N',aF:=aF,aL:=aL,env:=compEnvC scope cl C X.env,outer:=X.stack,ex:=fp,fn:=fun _=>false,pn:=[] }
theorem kE {env:Env}:∀(names:List (Str × NameKind)) (cs:List (Str × Addr)),(∀y∈names,y.2=.free->∃a,env.cells.lookup y.1=some a)->(∀x c,cs.lookup x=some c->env.cells.lookup x=some c) →
  ∃cl:List (Str × Addr),(forIn names cs fun(y:Str × NameKind) (r:List (Str × Addr))=>if (y.2 == NameKind.free)=true then do let a ← cellOf env y.1;pure (ForInStep.yield ((y.1,a)::r)) else pure (ForInStep.yield r):Sem (List (Str × Addr)))=pure cl ∧
   (∀x c,cl.lookup x=some c->env.cells.lookup x=some c)/\(∀x,((x,NameKind.free)∈names\/∃c,cs.lookup x=some c)->∃c,cl.lookup x=some c)
 | [],cs,_,h=>⟨cs,rfl,h,fun x hx=>by
   rcases hx with z | z
   ·cases z
   ·exact z⟩
 | (n,k)::r,cs,hf,h=>by
  by_cases hk:k=.free
  ·subst hk
   obtain⟨a,ha⟩:=hf (n,.free) (by simp) rfl
   obtain⟨cl,e,h1,h2⟩:=kE r ((n,a)::cs) (fun y hy=>hf y (List.mem_cons_of_mem _ hy)) (fun x c q=>by
    rw[List.lookup_cons] at q
    cases hx:x == n with
    | true=>
     rw[hx] at q
     have:x=n:=by simpa using hx
     subst this
     cases q;exact ha
    | false=>rw[hx] at q;exact h x c q)
   refine⟨cl,?_,h1,fun x hx=>?_⟩
   ·rw[List.forIn_cons]
    have e0:cellOf env n=pure a:=by unfold cellOf;rw[ha]
    simp only[beq_self_eq_true,if_true,e0]
    exact e
   ·have hc:∀z c,cs.lookup z=some c->∃c,((n,a)::cs).lookup z=some c:=fun z c q=>by
     rw[List.lookup_cons]
     cases z == n with
     | true=>exact⟨a,rfl⟩
     | false=>exact⟨c,q⟩
    rcases hx with z | ⟨c,z⟩
    ·rcases List.mem_cons.mp z with q | q
     ·cases q
      exact h2 n (.inr ⟨a,by simp[List.lookup_cons]⟩)
     ·exact h2 x (.inl q)
    ·exact h2 x (.inr (hc x c z))
  ·obtain⟨cl,e,h1,h2⟩:=kE r cs (fun y hy=>hf y (List.mem_cons_of_mem _ hy)) h
   have hb:(k == NameKind.free)=false:=by simpa using hk
   refine⟨cl,?_,h1,fun x hx=>?_⟩
   ·rw[List.forIn_cons]
    simp only[hb,Bool.false_eq_true,if_false]
    exact e
   ·rcases hx with z | z
    ·rcases List.mem_cons.mp z with q | q
     ·cases q;exact absurd rfl hk
     ·exact h2 x (.inl q)
    ·exact h2 x (.inr z)
theorem kA {env:Env} {scope:Scope} (h:∀y∈scope.names,y.2=.free->∃a,env.cells.lookup y.1=some a) :
  ∃cl:List (Str × Addr),closureFor scope env=pure cl/\(∀x c,cl.lookup x=some c->env.cells.lookup x=some c)/\(∀x,(x,NameKind.free)∈scope.names->∃c,cl.lookup x=some c):=by
 obtain⟨cl,e,h1,h2⟩:=kE (env:=env) scope.names [] h (fun x c q=>by cases q)
 refine⟨cl,?_,h1,fun x hx=>h2 x (.inl hx)⟩
 exact Eq.trans (congrArg (fun t:Sem (List (Str × Addr))=>t >>= fun cs=>pure cs) e) rfl
theorem lookup_mem {x:Str} {k:NameKind}:∀{names:List (Str × NameKind)},names.lookup x=some k->(x,k)∈names
 | [],h=>by cases h
 | (n,j)::r,h=>by
  rw[List.lookup_cons] at h
  cases hx:x == n with
  | true=>
   rw[hx] at h
   have:x=n:=by simpa using hx
   subst this
   cases h;simp
  | false=>rw[hx] at h;exact List.mem_cons_of_mem _ (lookup_mem h)
theorem dU {env:Env} (hf:env.scope.kind=.function):∀{names:List (Str × NameKind)} {x:Str},names.lookup x=some .free->env.kindOf x=some .cell →
  (names.map fun(n,k)=>if (k == NameKind.free&&env.scope.kind == .function&&env.kindOf n == some .cell) then (n,NameKind.cell) else (n,k)).lookup x=some .cell
 | [],_,h,_=>by cases h
 | (n,k)::r,x,h,hc=>by
  have ih:=@dU env hf r x
  show List.lookup x ((if (k == NameKind.free&&env.scope.kind == .function&&env.kindOf n == some .cell)=true then (n,NameKind.cell) else (n,k))::_)=_
  cases hx:x == n with
  | true=>
   have:x=n:=by simpa using hx
   subst this
   simp only[List.lookup_cons,hx] at h
   cases h
   rw[if_pos (by simp[hf,hc])]
   simp[List.lookup_cons]
  | false=>
   simp only[List.lookup_cons,hx] at h
   by_cases hq:(k == NameKind.free&&env.scope.kind == .function&&env.kindOf n == some .cell)=true
   ·rw[if_pos hq];simp only[List.lookup_cons,hx];exact ih h hc
   ·rw[if_neg hq];simp only[List.lookup_cons,hx];exact ih h hc
theorem eQ {env:Env}:∀{names:List (Str × NameKind)} {x:Str} {k:NameKind},(names.map fun(n,k)=>if (k == NameKind.free&&env.scope.kind == .function&&env.kindOf n == some .cell) then (n,NameKind.cell) else (n,k)).lookup x=some k →
  names.lookup x=some k\/(names.lookup x=some .free/\k=.cell)
 | [],_,_,h=>by cases h
 | (n,j)::r,x,k,h=>by
  have ih:=@eQ env r x k
  have h':List.lookup x ((if (j == NameKind.free&&env.scope.kind == .function&&env.kindOf n == some .cell)=true then (n,NameKind.cell) else (n,j))::(r.map fun(n,k)=>if (k == NameKind.free&&env.scope.kind == .function&&env.kindOf n == some .cell) then (n,NameKind.cell) else (n,k)))=some k:=h
  by_cases hq:(j == NameKind.free&&env.scope.kind == .function&&env.kindOf n == some .cell)=true
  ·rw[if_pos hq] at h'
   have hj:j=.free:=by
    have:=Bool.and_eq_true_iff.mp (Bool.and_eq_true_iff.mp hq).1
    simpa using this.1
   simp only[List.lookup_cons] at h' ⊢
   cases hx:x == n with
   | true=>rw[hx] at h';cases h';exact .inr ⟨by rw[hj],rfl⟩
   | false=>rw[hx] at h';exact ih h'
  ·rw[if_neg hq] at h'
   simp only[List.lookup_cons] at h' ⊢
   cases hx:x == n with
   | true=>rw[hx] at h';cases h';exact .inl rfl
   | false=>rw[hx] at h';exact ih h'
noncomputable def rS (ix:List Nat) (σ:St):St:=none::ix.map fun i=>(σ[i]?).join
noncomputable abbrev JN (J:It) (tt:TT) (te:TE) (σ':V->St) (acc:Addr) (H1:Hp) (Q:VK):Prop:=
 ∃W:Nat->Nat->List V->Hp->Prop,(∃m,W 0 m [] (upd H1 acc (.lst [])))/\∀i m ys H,W i m ys H →
  (J.stop i H/\Q (.ref acc) H)\/(J.go i H/\∀x H',J.yld i H x H'->tt (σ' x) H' fun b H2=>if b=true then te (σ' x) H2 fun y H3=>
    H3 acc=some (.lst ys)/\ys.length<sizeLine/\∃m',m'<m/\W (i+1) m' (ys++[y]) (upd H3 acc (.lst (ys++[y])))
   else ∃m',m'<m/\W (i+1) m' ys H2)
noncomputable def Gj (wi:TI) (ix:List Nat) (tt:TT) (te:TE):TE:=fun σ H Q=>wi σ H fun J H1=>∀acc,H1 acc=none->JN J tt te (fun x=>(rS ix σ).set 0 (some x)) acc H1 Q
theorem HOk.sameBut {P:Program} {w:World} {H:Hp} {h h':Heap} {C:Addr} (x:HOk P w H h) (hn:H C=none) (k:∀b u,b≠C->h.get? b=some u->h'.get? b=some u):HOk P w H h':=fun b u e=>by
 have nC:∀b u,H b=some u->b≠C:=fun b u e z=>by rw[z,hn] at e;cases e
 refine(x b u e).kr (fun c v hc q=>k c v ?_ q) (fun _ q=>q) fun _ _ q=>q
 rcases hc with z | z
 ·rw[z];exact nC b u e
 ·exact nC c _ z
section
variable {X:Cx}
theorem vI:bp X (.builtin "isinstance") (fun vs H Q=>∃x t n b,vs=[x,.ty n]/\lg X.K H x t/\PySem.W.kitOne X.K t (.type n)=some b/\Q (.bl b) H):=by
 intro pins s σ H xs us Q I r h
 obtain⟨x,t,n,b,rfl,ty,e,q⟩:=h
 obtain⟨u,w',rfl,r1,r2⟩:=vals2 r
 cases r2
 exact zT I r1 ty e fun tk=>⟨.bl b,H,I.tok tk,rfl,q⟩
theorem qk:bp X (.builtin "len") (fun vs H Q=>∃p S n,vs=[.ref p]/\H p=some (.set S n)/\Q (.int n) H):=by
 intro pins s σ H xs us Q I r h
 obtain⟨p,S,n,rfl,hH,q⟩:=h
 obtain⟨u,rfl,rx⟩:=vals1 r
 cases rx
 obtain⟨o,es,ep,tb,ho,hex,hd,hel,hmem,hsz,hfit,rfl⟩:=(show s.heap.SetOf (intKind X.prog X.w) p S n from I.hok p _ hH)
 have hb:(es.size:Int)<2 ^ 63:=by unfold scanBound at hsz;omega
 exact PySem.call_len_set ho hex hd hfit hb ⟨.int es.size,H,I.tok _,⟨_,rfl⟩,q⟩
theorem kq {prog:Program} {w:World} {A:Around} {E:Value->Shared->Prop} {s:Shared} {t sl:Addr} {items:Array Value} {vl vu:Value} {lo hi:Option Int} {Q:Value->Shared->Prop} (ht:IsTup s.heap t items) (hs:s.heap.IsSliceOf sl vl vu .none) (pl:IsPart vl lo) (pu:IsPart vu hi)
  (h1:HT.sIx items.size 0 lo=0) (h2:HT.sIx items.size items.size hi=items.size) (h:Q (.ref t) s):wpAny (model prog w) A (getItem (.ref t) (.ref sl)) Q E s:=by
 obtain⟨os,hos,hcs,hds⟩:=id hs
 have hTs:s.TypeIs (.ref sl) "slice" := ⟨os,hos,hcs⟩
 unfold getItem
 try with_reducible refine wpAny_holding ?_
 first | refine wpAny_bind (wpAny_pure ?_) | skip
 refine wpAny_bind (wpAny_sequenceKey ht.typeIs (by decide) ?_)
 refine wpAny_bind (wpAny_callSpecial?_slot (name:=Str.ofString "__getitem__") ht.typeIs PyProof.Rows.slot_tuple_getitem (wpAny_call_entry PyProof.Rows.slot_tuple_getitem ht.typeIs entry_tuple_getitem ?_ (args_tuple_getitem _ _)))
 show wpAny _ _ (Builtin.Tuple.tupleItemsOf (.ref t) >>= _) _ _ s
 refine wpAny_bind (tupleItemsOf_ ht (wpAny_bind (wpAny_typeOf hTs ?_)))
 rw[if_pos (by decide)]
 refine wpAny_bind (HT.iC hs pl pu ?_)
 rw[h1,h2]
 show wpAny _ _ (if (((0:Nat):Int) == 0&&(1:Int) == 1&&(items.size - 0) == items.size)=true then _ else _) _ _ s
 rw[if_pos (by simp)]
 show wpAny _ _ (Builtin.Tuple.tupleIsExact (.ref t) >>= _) _ _ s
 unfold Builtin.Tuple.tupleIsExact
 refine wpAny_bind (wpAny_bind (wpAny_typeOf ht.typeIs (wpAny_pure ?_)))
 show wpAny _ _ (if (Value.type "tuple" == Value.type "tuple")=true then _ else _) _ _ s
 rw[if_pos (by decide)]
 refine wpAny_bind (wpAny_rule ?_)
 first
  | exact wpAny_pure ⟨_,rfl,wpAny_pure h⟩
  | exact wpAny_bind (wpAny_pure (wpAny_pure ⟨_,rfl,wpAny_pure h⟩))
noncomputable def Jj (K:PySem.W.Frag):V->Option Int->Option Int->Hp->VK->Prop:=fun x lo hi H Q=>∃a xs,x=.ref a/\SqT K H a xs/\HT.sIx xs.length 0 lo=0/\HT.sIx xs.length xs.length hi=xs.length/\Q (.ref a) H
theorem Eh:SlR X (Jj X.K):=by
 intro pins s σ H x v vl vu lo hi sl Q I rx hs pl pu h
 obtain⟨a,xs,rfl,hx,h1,h2,q⟩:=h
 cases rx
 obtain⟨its,r,ht,hz⟩:=I.tuple hx
 have hlen:its.toArray.size=xs.length:=by rw[List.size_toArray];exact r.length.symm
 refine⟨"tuple", _,PyProof.Rows.slot_tuple_getitem.lookup,ht.typeIs,?_⟩
 exact kq ht hs pl pu (by rw[hlen];exact h1) (by rw[hlen];exact h2) ⟨.ref a,H,I,rfl,q⟩
noncomputable def BR (K:PySem.W.Frag):R2:=fun x y H Q=>∃a b ys,x=.ref a/\y=.ref b/\SqT K H a []/\SqT K H b ys/\Q (.ref b) H
theorem Bx:OpR X (binaryOp .Add) (BR X.K):=by
 intro pins s σ H x y v u Q I rx ry h
 obtain⟨a,b,ys,rfl,rfl,ha,hb,q⟩:=h
 cases rx
 cases ry
 obtain⟨its,r1,p1,_⟩:=I.tuple ha
 obtain⟨its2,r2,p2,_⟩:=I.tuple hb
 cases r1
 obtain⟨⟨cls,dd,data,sl⟩,ho,hc,n,hd⟩:=id p1
 obtain⟨⟨cls2,dd2,data2,sl2⟩,ho2,hc2,n2,hd2⟩:=id p2
 simp only at hc hd hc2 hd2
 subst hc hd hc2 hd2
 exact concat_meets ⟨_,ho,rfl⟩ ⟨_,ho2,rfl⟩ noFill_tuple_add seq_tuple_add PySem.F.slot_tuple_add PySem.F.entry_tuple_add (PySem.F.args_tuple_add_2 _ _)
  (tuple_addW0 a b _ _ n n2 dd dd2 sl sl2 (by simp)) ⟨ho,ho2,⟨.ref b,H,I,rfl,q⟩⟩
end
open AutoSeq1 (wpAny_loadPart')
noncomputable def uB (a:Addr) (lo hi st:Int):HO:=.ext fun h=>∃t u v,h.get? a=some { cls:=.type "range", data:=.fields #[.int lo t,.int hi u,.int st v] }
noncomputable def vv (lo st:Int) (n:Nat):List Int:=(List.range n).map fun(i:Nat)=>lo+(i:Int)*st
theorem u9 (lo st:Int) (n:Nat):(vv lo st n).length=n:=by simp[vv]
theorem ya {lo st:Int} {n:Nat} {acc:Array Value} (h:ItemsOf (fun i v=>∃t,v=.int (lo+i*st) t) acc n):Vals ((vv lo st n).map V.int) acc.toList:=by
 obtain⟨hs,hv⟩:=h
 have key:∀(l:List Value) (k:Nat),(∀j v,l[j]?=some v->∃t,v=Value.int (lo+((k+j:Nat):Int)*st) t)->Vals (((List.range' k l.length).map fun(i:Nat)=>lo+(i:Int)*st).map V.int) l:=by
  intro l
  induction l with
  | nil=>intro k _;exact .nil
  | cons a r ih=>
   intro k hk
   rw[List.length_cons,List.range'_succ,List.map_cons,List.map_cons]
   refine .cons ?_ (ih (k+1) fun j v e=>?_)
   ·obtain⟨t,q⟩:=hk 0 a rfl
    exact⟨t,by rw[q];simp⟩
   ·obtain⟨t,q⟩:=hk (j+1) v (by simpa using e)
    exact⟨t,by rw[q];congr 3;omega⟩
 have:=key acc.toList 0 fun j v e=>by
  obtain⟨t,q⟩:=hv j v (by simpa using e)
  exact⟨t,by rw[q];simp⟩
 unfold vv
 rw[List.range_eq_range',<- hs]
 simpa using this
section
variable {X:Cx}
theorem Inv.rng {pins:List (Addr × Obj)} {σ:St} {H:Hp} {s:Shared} {lo hi st:Int} {t u v:Tok} {tk:Nat} (I:Inv X pins σ H s) :
  Inv X pins σ (upd H s.heap.objs.size (uB s.heap.objs.size lo hi st)) { s with heap:=s.heap.push { cls:=.type "range", data:=.fields #[.int lo t,.int hi u,.int st v] },toks:=tk }:=by
 refine I.laid (fun b o e=>Heap.get?_push_of_some _ e) (Nat.le_refl _) ?_
 refine⟨⟨t,u,v,Heap.get?_push_size _ rfl⟩,⟨_,Heap.get?_push_size _ rfl⟩,fun h1 h2 ⟨a,b,c,e⟩ k=>⟨a,b,c,k _ e⟩⟩
theorem zl:bp X (.type "range") (fun vs H Q=>∃j,vs=[.int j]/\∀p,H p=none->Q (.ref p) (upd H p (uB p 0 j 1))):=by
 intro pins s σ H xs us Q I r h
 obtain⟨j,rfl,q⟩:=h
 obtain⟨u,rfl,t,rfl⟩:=vals1 r
 exact call_range_1 ⟨.ref _,_,I.rng,rfl,q _ (I.hok.fresh (Nat.le_refl _))⟩
theorem zH:bp X (.type "range") (fun vs H Q=>∃i j,vs=[.int i,.int j]/\∀p,H p=none->Q (.ref p) (upd H p (uB p i j 1))):=by
 intro pins s σ H xs us Q I r h
 obtain⟨i,j,rfl,q⟩:=h
 obtain⟨u,w',rfl,⟨t,rfl⟩,⟨t',rfl⟩⟩:=vals2 r
 exact call_range_2 ⟨.ref _,_,I.rng,rfl,q _ (I.hok.fresh (Nat.le_refl _))⟩
structure yB (lo hi st:Int) (n:Nat):Prop where
 sm:Builtin.Range.small lo hi st=true
 sz:Builtin.Range.rangeSize lo hi st=n
 le:n<=2 ^ 20
theorem Inv.Jl {pins:List (Addr × Obj)} {σ:St} {H:Hp} {s:Shared} {p:Addr} {lo hi st:Int} (I:Inv X pins σ H s) (h:H p=some (uB p lo hi st)):∃t u v,IsRange s.heap p lo hi st t u v:=by
 obtain⟨⟨t,u,v,e⟩,_⟩:=I.hok p _ h
 exact⟨t,u,v,e⟩
theorem rf (hc:X.calm=true):bp X (.type "list") (fun vs H Q=>∃p lo hi st n,vs=[.ref p]/\H p=some (uB p lo hi st)/\yB lo hi st n/\∀l,H l=none->Q (.ref l) (upd H l (.lst ((vv lo st n).map V.int)))):=by
 intro pins s σ H xs us Q I r h
 obtain⟨p,lo,hi,st,n,rfl,hp,ok,q⟩:=h
 obtain⟨u,rfl,rx⟩:=vals1 r
 cases rx
 obtain⟨t,u,v,hr⟩:=I.Jl hp
 have hn:=ok.le
 refine call_list_range (I.ok.hd hc) hr ok.sm ok.sz (by omega) fun h' tk acc c kp e hi=>?_
 have hv:=ya hi
 refine⟨.ref s.heap.objs.size,_,I.laid (t':=tk) kp (Nat.le_refl _) (show cF X.prog X.w _ h' _ (.lst _) from⟨?_,acc.toList,c,hv,by simpa using e⟩),rfl,q _ (I.hok.fresh (Nat.le_refl _))⟩
 rw[List.length_map,u9,sizeLine_eq];omega
end
section
variable {X:Cx}
theorem Df {a b:Int} (h1:-1000000<=a) (h2:a<=1000000) (h3:-1000000<=b) (h4:b<=1000000) (h:b - a<=1000000):yB a b 1 (b - a).toNat:=
 ⟨small_one (by omega) (by omega) (by omega) (by omega),by rw[rangeSize_one];split<;>omega,by omega⟩
inductive RdD (K:PySem.W.Frag) (H:Hp):V->PyData->Prop
 | non:RdD K H .non .none
 | bl (b:Bool):RdD K H (.bl b) (.bool b)
 | int (i:Int):RdD K H (.int i) (.int i)
 | str (x:Str):RdD K H (.str x) (.str x)
 | tup {a:Addr} {xs:List V} {ds:List PyData} (h:SqT K H a xs) (hl:xs.length=ds.length) (hx:∀(i:Nat) x d,xs[i]?=some x->ds[i]?=some d->RdD K H x d):RdD K H (.ref a) (.tuple ds)
 | lst {a:Addr} {xs:List V} {ds:List PyData} (h:SqL K H a xs) (hl:xs.length=ds.length) (hx:∀(i:Nat) x d,xs[i]?=some x->ds[i]?=some d->RdD K H x d):RdD K H (.ref a) (.list ds)
theorem j5 {h:Heap}:∀{us:List Value} {ds:List PyData},us.length=ds.length->(∀(i:Nat) u d,us[i]?=some u->ds[i]?=some d->∃as,Reads h u d as)->∃as,ReadsAll h us ds as
 | [],[],_,_=>⟨_,.nil⟩
 | [],_::_,hl,_=>by simp at hl
 | _::_,[],hl,_=>by simp at hl
 | u::us,d::ds,hl,hx=>by
  obtain⟨as,h1⟩:=hx 0 u d rfl rfl
  obtain⟨bs,h2⟩:=j5 (us:=us) (ds:=ds) (by simpa using hl) fun i u d e1 e2=>hx (i+1) u d (by simpa using e1) (by simpa using e2)
  exact⟨_,.cons h1 h2⟩
theorem Vals.get' {xs:List V} {us:List Value} {i:Nat} {u:Value} (r:Vals xs us) (h:us[i]?=some u):∃x,xs[i]?=some x/\RelV x u:=by
 have hl:=r.length
 have hi:i<xs.length:=by rw[hl];exact(List.getElem?_eq_some_iff.mp h).1
 obtain⟨u',e1,e2⟩:=r.get (List.getElem?_eq_getElem hi)
 rw[h] at e1;cases e1
 exact⟨_,List.getElem?_eq_getElem hi,e2⟩
theorem Inv.reads {pins:List (Addr × Obj)} {σ:St} {H:Hp} {s:Shared} (I:Inv X pins σ H s) {x:V} {d:PyData} (r:RdD X.K H x d):∀u,RelV x u->∃as,Reads s.heap u d as:=by
 induction r with
 | non=>intro u ru;cases (show u=Value.none from ru);exact⟨_,.none⟩
 | bl b=>intro u ru;cases (show u=Value.bool b from ru);exact⟨_,.bool b⟩
 | int i=>intro u ru;obtain⟨t,q⟩:=(show ∃t,u=Value.int i t from ru);cases q;exact⟨_,.int i t⟩
 | str y=>intro u ru;obtain⟨t,q⟩:=(show ∃t,u=Value.str y t from ru);cases q;exact⟨_,.str y t⟩
 | @tup a xs ds h hl hx ih=>
  intro u ru
  cases (show u=Value.ref a from ru)
  obtain⟨its,rv,p,hz⟩:=I.tuple h
  obtain⟨o,ho,hc,n,hd⟩:=p
  obtain⟨as,ra⟩:=j5 (h:=s.heap) (us:=its) (ds:=ds) (by rw[<- rv.length,hl]) fun i u d e1 e2=>by
   obtain⟨y,e3,ry⟩:=rv.get' e1
   exact ih i y d e3 e2 u ry
  exact⟨_,.tuple ho hc hd (by simpa using ra)⟩
 | @lst a xs ds h hl hx ih=>
  intro u ru
  cases (show u=Value.ref a from ru)
  obtain⟨its,rv,p,hz⟩:=I.list h
  obtain⟨o,ho,hc,n,hd⟩:=p.isList
  obtain⟨as,ra⟩:=j5 (h:=s.heap) (us:=its) (ds:=ds) (by rw[<- rv.length,hl]) fun i u d e1 e2=>by
   obtain⟨y,e3,ry⟩:=rv.get' e1
   exact ih i y d e3 e2 u ry
  exact⟨_,.list ho hc hd (by simpa using ra)⟩
theorem zS (hg:X.A.guards=some []) (hu:X.A.units+64<cLine):bp X (.builtin "repr") (fun vs H Q=>∃p d,vs=[.ref p]/\RdD X.K H (.ref p) d/\d.showable=true/\d.hasDict=false/\d.depth<=60/\d.shown.length<=sizeLine/\Q (.str d.shown) H):=by
 intro pins s σ H xs us Q I r h
 obtain⟨p,d,rfl,rd,hs,hd,hdp,hz,q⟩:=h
 obtain⟨u,rfl,rx⟩:=vals1 r
 cases rx
 obtain⟨as,ra⟩:=I.reads rd (.ref p) rfl
 exact repr_of_reads' ra hs (PyData.noDict_hsm hd) hg (by omega) (fun _ _ e=>e) (fun h' u tk kp=>⟨.str d.shown,H,I.kept kp,⟨_,rfl⟩,q⟩) hz
theorem wY:bp X (.builtin "repr") (fun vs H Q=>∃i,vs=[.int i]/\i.natAbs.log2<1920/\Q (.str (toString i)) H):=by
 intro pins s σ H xs us Q I r h
 obtain⟨i,rfl,hi,q⟩:=h
 obtain⟨u,rfl,t,rfl⟩:=vals1 r
 exact PySem.P.repr_of_int hi ⟨.str (toString i),H,I.tok _,⟨_,rfl⟩,q⟩
end
theorem Inv.Ir {X:Cx} {pins:List (Addr × Obj)} {σ:St} {H:Hp} {s:Shared} {C:Addr} {o:Obj} {h':Heap} (I:Inv X (pins++[(C,o)]) σ H s) (cC:∀x c,X.env.cells.lookup x=some c->c≠C) (hC:X.aF.heap.objs.size<=C) (pC:∀p∈X.pn++pins,p.1≠C) (hs:Heap.SameBut C s.heap h'):Inv X pins σ H { s with heap:=h' }:=by
 have kb:∀b u,b≠C->s.heap.get? b=some u->h'.get? b=some u:=fun b u hb z=>hs.extBut b u hb z
 obtain⟨q0,q1,q2,q3,q4⟩:=I.pin (C,o) (List.mem_append_right _ (List.mem_append_right _ (List.mem_singleton.mpr rfl)))
 have J:Inv X pins σ H s:=I.lM fun p hp=>I.pin p (List.mem_append_right _ (List.mem_append_left _ hp))
 refine J.sy (s':={ s with heap:=h' }) (ch:=[C]) rfl ⟨fun b u z n a c=>kb b u (fun e=>c (by rw[e];exact List.mem_singleton.mpr rfl)) z,fun b u z n a c=>⟨u.slots,kb b _ (fun e=>c (by rw[e];exact List.mem_singleton.mpr rfl)) z⟩,fun b u z n c=>n,fun b u z c=>⟨u,kb b u (fun e=>c (by rw[e];exact List.mem_singleton.mpr rfl)) z⟩,fun b xs z=>z,fun b ob u z=>z,fun b ps z=>⟨#[],by simpa using z⟩⟩ (J.hok.sameBut q1 kb) J.bare fun b hb=>?_
 have e:=List.mem_singleton.mp hb
 subst e
 exact⟨.inr hC,q2,fun x c z=>cC x c z,pC⟩
section
variable {prog:Program} {w:World} {A:Around} {E:Value->Shared->Prop} {s:Shared}
theorem xR {it t:Addr} {i:Nat} {its:Array Value} {x:Value} {Q:Value->Shared->Prop} (hi:s.heap.IsTupleIter it t i) (ht:s.heap.IsTuple t its) (hx:its[i]?=some x) (hQ:∀h',h'.IsTupleIter it t (i+1)->Heap.SameBut it s.heap h'->Q x { s with heap:=h' }) :
  wpAny (model prog w) A (Builtin.SmallTypes.nextOf (.ref it)) Q E s:=by
 obtain⟨oi,h1,h2,h3⟩:=id hi
 obtain⟨ot,k1,_,nt,k2⟩:=ht
 unfold Builtin.SmallTypes.nextOf
 refine wpAny_bind (wpAny_callSpecial?_slot (name:=Str.ofString "__next__") hi.typeIs F.slot_tuple_iterator_next (wpAny_call_entry F.slot_tuple_iterator_next hi.typeIs F.entry_tuple_iterator_next ?_ (F.args_tuple_iterator_next_1 _)))
 refine wpAny_bind (m:=field (.ref it) 0) (wpAny_field h1 h3 (x:=.ref t) rfl ?_)
 show wpAny _ _ (if (Value.ref t == Value.none)=true then _ else field (.ref it) 1 >>= _) _ _ s
 rw[if_neg (show ¬ ((Value.ref t == Value.none)=true) from Bool.false_ne_true)]
 refine wpAny_bind (wpAny_field h1 h3 (x:=.int i 0) rfl (wpAny_bind (m:=seqItems? (.ref t)) (wpAny_seqItems k1 k2 ?_)))
 simp only[Int.toNat_natCast,hx]
 exact wpAny_bind (wpAny_setField h1 h3 (by simp) (wpAny_pure ⟨x,rfl,wpAny_pure (hQ _ ⟨_,Heap.get?_update_self _ h1 (Obj.isFreed_of_fields (Obj.data_mapFields h3 _)),(Obj.cls_mapFields ..).trans h2,by rw[Obj.data_mapFields h3];simp[rawInt]⟩ (Heap.SameBut.update ..))⟩))
theorem sx {it t:Addr} {i:Nat} {its:Array Value} {Q:Value->Shared->Prop} (hh:A.handled=none) (hi:s.heap.IsTupleIter it t i) (ht:s.heap.IsTuple t its) (hx:its[i]?=none)
  (hE:∀h' e,Heap.ExtBut it s.heap h'->(∃o,h'.get? e=some o/\o.cls=.type "StopIteration")->E (.ref e) { s with heap:=h' }):wpAny (model prog w) A (Builtin.SmallTypes.nextOf (.ref it)) Q E s:=by
 obtain⟨oi,h1,h2,h3⟩:=id hi
 obtain⟨ot,k1,_,nt,k2⟩:=ht
 unfold Builtin.SmallTypes.nextOf
 refine wpAny_bind (wpAny_callSpecial?_slot (name:=Str.ofString "__next__") hi.typeIs F.slot_tuple_iterator_next (wpAny_call_entry F.slot_tuple_iterator_next hi.typeIs F.entry_tuple_iterator_next ?_ (F.args_tuple_iterator_next_1 _)))
 refine wpAny_bind (m:=field (.ref it) 0) (wpAny_field h1 h3 (x:=.ref t) rfl ?_)
 show wpAny _ _ (if (Value.ref t == Value.none)=true then _ else field (.ref it) 1 >>= _) _ _ s
 rw[if_neg (show ¬ ((Value.ref t == Value.none)=true) from Bool.false_ne_true)]
 refine wpAny_bind (wpAny_field h1 h3 (x:=.int i 0) rfl (wpAny_bind (m:=seqItems? (.ref t)) (wpAny_seqItems k1 k2 ?_)))
 simp only[Int.toNat_natCast,hx]
 refine wpAny_bind (wpAny_rule (wpAny_bind (wpAny_setField h1 h3 (by simp) (wpAny_bind (m:=newExc (.type "StopIteration") []) ?_))))
 simp only[newExc,newTuple]
 refine wpAny_bind (wpAny_newObj_type (wpAny_bind (m:=firstArgMember _ _) (wpAny_of_eq (a:=Value.none) (by first | rfl | (simp only[firstArgMember];rfl)) (wpAny_newObj_type ?_ (by size_fits)))) (by size_fits))
 simp only[raiseNew]
 refine wpAny_bind (wpAny_handled ?_)
 first | rw[show A.in1.handled=none from hh] | rw[hh]
 exact wpAny_bind (wpAny_pure (wpAny_throw (hE _ _ (((Heap.SameBut.update ..).extBut.push _).push _) ⟨_,Heap.get?_push_size _ rfl,rfl⟩)))
end
theorem Draws.tup {prog:Program} {w:World} {A:Around} (hh:A.handled=none) (it t:Addr) (hne:t≠it) (its:Array Value):Draws prog w A it [it,t] its.size (fun i v=>its[i]?=some v) (fun i h=>h.IsTupleIter it t i/\h.IsTuple t its) where
 live:=fun _ _ z=>let ⟨o,ho,_⟩:=z.1;⟨o,ho⟩
 frame:=fun _ _ _ z hk=>⟨z.1.at fun o e=>hk it (by simp) o e,z.2.at fun o e=>hk t (by simp) o e⟩
 item:=fun i s Q E hi z hQ=>xR z.1 z.2 (x:=its[i]) (by simp[hi]) fun h' a b=>hQ _ h' s.toks (by simp[hi]) ⟨a,z.2.extBut b.extBut hne⟩ b
 done:=fun s Q E z hE=>sx hh z.1 z.2 (by simp) hE
section
open AutoSeq1 (wpAny_loadPart')
theorem xO (t:Addr) (its:Array Value) (n:Nat) (dct:Option Addr) (sl:Array (Option Value)) :
  Meets (Builtin.«enumerate.__new__» ⟨[.type "enumerate", .ref t],[]⟩) (fun _ R s=>s.heap.get? t=some { cls:=.type "tuple", dict:=dct,data:=.seq its n,slots:=sl } ∧
   R (.ok (.ret (.ref (s.heap.push { cls:=.type "tuple_iterator", data:=.fields #[.ref t,.int 0 0] }).objs.size))) { s with heap:=(s.heap.push { cls:=.type "tuple_iterator", data:=.fields #[.ref t,.int 0 0] }).push { cls:=.type "enumerate", data:=.fields #[.none,.bool false,.ref s.heap.objs.size,rawInt 0,.none,.none] } }):=
 .of_wp fun prog w A R s z=>by
  obtain⟨hp,gs,dr,tk,os⟩:=s;obtain⟨ht,z⟩:=z
  have su:=sub_enumerate
  have hT:Heap.IsTuple (Shared.heap ⟨hp,gs,dr,tk,os⟩) t its:=⟨_,ht,rfl,n,rfl⟩
  wp_walk using wpAny_loadPart' ht
  refine wpAny_stack_any fun st=>wpAny_pure ?_
  split
  ·rename_i c _ _ _ _ _
   cases (c == Value.type "enumerate")<;>(wp_walk using wpAny_loadPart' ht,wpAny_pyIter_tuple hT;exact⟨_,rfl,z⟩)
  ·(wp_walk using wpAny_loadPart' ht,wpAny_pyIter_tuple hT);exact⟨_,rfl,z⟩
end
section
variable {prog:Program} {w:World} {A:Around} {E:Value->Shared->Prop} {s:Shared}
theorem Kn {t:Addr} {its:Array Value} {Q:Value->Shared->Prop} (hT:s.heap.IsTuple t its)
  (q:∀h',IsEnum h' (s.heap.objs.size+1) s.heap.objs.size 0 .none->h'.IsTupleIter s.heap.objs.size t 0->h'.objs.size=s.heap.objs.size+2->(∀b o,s.heap.get? b=some o->h'.get? b=some o)->Q (.ref (s.heap.objs.size+1)) { s with heap:=h' }) :
  wpAny (model prog w) A (call (.type "enumerate") [.ref t]) Q E s:=by
 obtain⟨⟨c,dct,dt,sl⟩,ht,hc,n,hd⟩:=hT
 replace hc:c=.type "tuple" := hc
 replace hd:dt=.seq its n:=hd
 subst hc hd
 refine callType_new F.called_enumerate (by decide) (F.typeCall_enumerate_1 _) (F.newCall_enumerate_1 _) (fun obj=>F.args_object_init_2 obj _) F.entry_enumerate_new (xO t its n dct sl) ⟨ht,?_⟩
 have hz:(s.heap.push { cls:=.type "tuple_iterator", data:=.fields #[.ref t,.int 0 0] }).objs.size=s.heap.objs.size+1:=Heap.size_push ..
 show _/\_
 rw[hz]
 have he:IsEnum ((s.heap.push { cls:=.type "tuple_iterator", data:=.fields #[.ref t,.int 0 0] }).push { cls:=.type "enumerate", data:=.fields #[.none,.bool false,.ref s.heap.objs.size,rawInt 0,.none,.none] }) (s.heap.objs.size+1) s.heap.objs.size 0 .none:=by
  have y:=Heap.get?_push_size (s.heap.push { cls:=.type "tuple_iterator", data:=.fields #[.ref t,.int 0 0] }) (o:={ cls:=.type "enumerate", data:=.fields #[.none,.bool false,.ref s.heap.objs.size,rawInt 0,.none,.none] }) rfl
  rw[hz] at y;exact y
 exact⟨⟨_,he,rfl⟩,q _ he ⟨_,Heap.get?_push_of_some _ (Heap.get?_push_size _ rfl),rfl,rfl⟩ (by rw[Heap.size_push,hz]) fun b o x=>Heap.get?_push_of_some _ (Heap.get?_push_of_some _ x)⟩
end
theorem Inv.yielded {X:Cx} {pins:List (Addr × Obj)} {σ:St} {H:Hp} {s:Shared} {fp:List Addr} {T:Addr} {o:HO} {h':Heap} {t':Nat} (I:Inv X pins σ H s) (hf:∀b∈fp,n_ X pins H b) (k:∀b u,b∉fp->s.heap.get? b=some u->h'.get? b=some u)
  (hT:s.heap.objs.size<=T) (new:cF X.prog X.w (upd H T o) h' T o):Inv X pins σ (upd H T o) { s with heap:=h',toks:=t' }:=by
 have nT:∀b u,s.heap.get? b=some u->b≠T:=fun b u e z=>absurd (Heap.lt_size e) (by rw[z];exact Nat.not_lt.mpr hT)
 have nH:∀b u,H b=some u->b≠T:=fun b u e z=>absurd (I.hok.lt e) (by rw[z];exact Nat.not_lt.mpr hT)
 have nf:∀b u,H b=some u->b∉fp:=fun b u e z=>by rw[(hf b z).1] at e;cases e
 refine I.sy (s':={ s with heap:=h',toks:=t' }) (ch:=fp) rfl ⟨fun b u e n _ c=>k b u c e,fun b u e n _ c=>⟨u.slots,k b u c e⟩,fun b u e n c=>by rw[aD (nT b u e)];exact n,fun b u e c=>⟨u,k b u c e⟩,fun b xs e=>by rw[aD (nH b _ e)];exact e,fun b ob u e=>by rw[aD (nH b _ e)];exact e,fun b ps e=>⟨#[],by rw[aD (nH b _ e),e];simp⟩⟩ (fun b u e=>?_) I.bare (fun b hb=>?_)
 ·by_cases hb:b=T
  ·subst hb
   rw[aZ] at e
   cases e
   exact new
  ·rw[aD hb] at e
   refine(I.hok b u e).kr (fun c v hc q=>k c v ?_ q) (fun c q=>by rw[aD (nH c _ q)];exact q) fun c xs q=>by rw[aD (nH c _ q)];exact q
   rcases hc with z | z
   ·rw[z];exact nf b u e
   ·exact nf c _ z
 ·obtain⟨_,g1,_,g3,g4,g5⟩:=hf b hb
  exact⟨g3,g1,g4,g5⟩
theorem Inv.yI {X:Cx} {pins:List (Addr × Obj)} {σ:St} {H:Hp} {s:Shared} {fp:List Addr} {h':Heap} {t':Nat} (I:Inv X pins σ H s) (hf:∀b∈fp,n_ X pins H b) (k:∀b u,b∉fp->s.heap.get? b=some u->h'.get? b=some u):Inv X pins σ H { s with heap:=h',toks:=t' }:=by
 have nf:∀b u,H b=some u->b∉fp:=fun b u e z=>by rw[(hf b z).1] at e;cases e
 refine I.sy (s':={ s with heap:=h',toks:=t' }) (ch:=fp) rfl ⟨fun b u e n _ c=>k b u c e,fun b u e n _ c=>⟨u.slots,k b u c e⟩,fun b u e n c=>n,fun b u e c=>⟨u,k b u c e⟩,fun b xs e=>e,fun b ob u e=>e,fun b ps e=>⟨#[],by rw[e];simp⟩⟩ (fun b u e=>?_) I.bare (fun b hb=>?_)
 ·refine(I.hok b u e).kr (fun c v hc q=>k c v ?_ q) (fun c q=>q) fun c xs q=>q
  rcases hc with z | z
  ·rw[z];exact nf b u e
  ·exact nf c _ z
 ·obtain⟨_,g1,_,g3,g4,g5⟩:=hf b hb
  exact⟨g3,g1,g4,g5⟩
noncomputable def Iel (K:PySem.W.Frag) (a:Addr):It:=
 ⟨fun i H=>∃xs x,SqL K H a xs/\xs[i]?=some x,fun i H x H'=>∃p v,x=.ref p/\H p=none/\(∀xs,SqL K H a xs->xs[i]?=some v)/\H'=upd H p (.tup [.int i,v]),fun i H=>∃xs,SqL K H a xs/\xs.length<=i⟩
noncomputable def Iet (K:PySem.W.Frag) (a:Addr):It:=
 ⟨fun i H=>∃xs x,SqT K H a xs/\xs[i]?=some x,fun i H x H'=>∃p v,x=.ref p/\H p=none/\(∀xs,SqT K H a xs->xs[i]?=some v)/\H'=upd H p (.tup [.int i,v]),fun i H=>∃xs,SqT K H a xs/\xs.length<=i⟩
theorem vG {h:Heap} {e it:Addr} {i:Int} {old:Value} (z:IsEnum h e it i old):∃o,h.get? e=some o/\∀v,o.data≠.cell v:=⟨_,z,fun v q=>nomatch q⟩
theorem pU {prog:Program} {w:World} {A:Around} {it:Addr} {fp:List Addr} {n:Nat} {P:Nat->Value->Prop} {St:Nat->Heap->Prop} (D:Draws prog w A.in1 it fp n P St) (e:Addr) (hei:e≠it) (hef:e∉fp) (i:Nat) (s:Shared) (Q:Option Value->Shared->Prop) (E:Value->Shared->Prop) (hi:i<n)
  (hst:(∃old,IsEnum s.heap e it i old)/\St i s.heap)
  (hQ:∀T vals h' tk,(∃t x,P i x/\vals = #[.int i t,x])->s.heap.objs.size<=T->pW h' T vals->((∃x,IsEnumOut h' e it ((i:Int)+1) x T)/\St (i+1) h'/\T≠e/\T≠it)->(∀b o,b∉[e,it]->s.heap.get? b=some o->h'.get? b=some o)->Q (some (.ref T)) { s with heap:=h',toks:=tk }) :
  wpAny (model prog w) A (pyNext (.ref e)) Q E s:=by
 obtain⟨⟨old,he⟩,hs⟩:=hst
 refine wpAny_pyNext_enum_itemD D he hs hi hei hef fun x h1 tk hP ho hs1 hT _ hk=>?_
 refine hQ s.heap.objs.size #[.int i tk,x] h1 (tk+1) ⟨tk,x,hP,rfl⟩ (Nat.le_refl _) ⟨_,hT,⟨rfl,_,rfl⟩,rfl⟩ ⟨⟨_,ho⟩,hs1,Nat.ne_of_gt (Heap.lt_size he),?_⟩ fun b o hb y=>hk b o (fun z=>hb (by simp[z])) (fun z=>hb (by simp[z])) y
 obtain⟨_,y⟩:=D.live _ _ hs
 exact Nat.ne_of_gt (Heap.lt_size y)
theorem xN {P:Program} {w:World} {K:PySem.W.Frag} {elts:List Expr} {k:Nat} {pos:Pos} {a it e:Addr} (hei:e≠it):Turn P w K (.Tuple elts k pos) (Iel K a) [e,it] e (fun i h=>(∃old,IsEnum h e it i old)/\h.IsListIter it a i) where
 mem:=by simp
 obj:=fun i h z b hb=>by
  obtain⟨⟨old,z1⟩,z2⟩:=z
  rcases List.mem_cons.mp hb with rfl | hb
  ·exact vG z1
  ·rw[List.mem_singleton.mp hb]
   obtain⟨o,q,_,d⟩:=z2
   exact⟨o,q,fun v y=>by rw[d] at y;cases y⟩
 keep:=fun i h h' z kk=>⟨let ⟨old,z1⟩:=z.1;⟨old,kk e (by simp) _ z1⟩,z.2.at fun o q=>kk it (by simp) o q⟩
 item:=by
  intro X hP hw hK hc i pins s σ H E I hf st hg
  subst hP hw hK
  obtain⟨xs,x,hq,hx⟩:=hg
  obtain⟨its,rv,p,hz⟩:=I.list hq
  obtain⟨u,hu,ru⟩:=rv.get hx
  have hl:=rv.length
  have plt:a<s.heap.objs.size:=by obtain⟨o,q,_⟩:=p.isList;exact Heap.lt_size q
  have hai:a≠it/\a≠e:=by
   obtain⟨oa,qa,ca,_⟩:=p.isList
   obtain⟨⟨old,z1⟩,oi,qi,ci,_⟩:=st
   exact⟨(fun q=>by rw[q,qi] at qa;cases qa;rw[ci] at ca;injection ca with y;exact absurd y (by decide)),(fun q=>by rw[q,z1] at qa;cases qa;injection ca with y;exact absurd y (by decide))⟩
  have DD:=(Draws.list (prog:=X.prog) (w:=X.w) (A:=X.A.in1) (I.ok.hd hc) it a hai.1 its.toArray)
  have hef0:e∉[it,a]:=by simp;exact⟨hei,fun q=>hai.2 q.symm⟩
  have W:=WalksT.enumerateD (prog:=X.prog) (w:=X.w) (A:=X.A) DD e hei hef0 (by simp)
  refine pU DD e hei hef0 i s _ _ (by rw[List.size_toArray,<- hl];exact(List.getElem?_eq_some_iff.mp hx).1) ⟨st.1,st.2,p.isList⟩ fun T vals h1 tk hv hT ht hm k1=>?_
  obtain⟨t,v,hv1,hv2⟩:=hv
  have ev:v=u:=by
   have:its[i]?=some v:=by simpa using hv1
   rw[hu] at this;exact(Option.some.inj this).symm
  subst ev
  refine⟨.ref T,rfl,W.go elts k pos i T { s with heap:=h1,toks:=tk } _ _ hm fun h2 st2 k2=>?_⟩
  have kk:∀b o,b∉[e,it]->s.heap.get? b=some o->h2.get? b=some o:=fun b o hb q=>k2 b o hb (k1 b o hb q)
  have hT2:pW h2 T vals:=by
   obtain⟨o,q,c⟩:=ht
   exact⟨o,k2 T o (fun z=>W.apart _ _ _ hm z) q,c⟩
  have hn:H T=none:=I.hok.fresh hT
  have nTf:∀b∈[e,it],b≠T:=fun b hb z=>by
   have hlt:b<s.heap.objs.size:=by
    rcases List.mem_cons.mp hb with rfl | hb
    ·obtain⟨old,z1⟩:=st.1;exact Heap.lt_size z1
    ·rw[List.mem_singleton.mp hb];obtain⟨o,q,_⟩:=st.2;exact Heap.lt_size q
   rw[z] at hlt;exact absurd hlt (Nat.not_lt.mpr hT)
  refine⟨.ref T,upd H T (.tup [.int i,x]),I.yielded (t':=tk) hf kk hT ⟨by show 2<=sizeLine;decide,[.int i t,v],.cons ⟨t,rfl⟩ (.cons ru .nil),?_⟩,rfl,⟨T,x,rfl,hn,fun ys hy=>by rw[I.pQ hy hq];exact hx,rfl⟩,⟨st2.1,st2.2.1⟩,fun b hb=>by rw[aD (nTf b hb)];exact(hf b hb).1⟩
  rw[hv2] at hT2;exact hT2
 done:=by
  intro X hP hw hK hc i pins s σ H E I hf st hg
  subst hP hw hK
  obtain⟨xs,hq,hx⟩:=hg
  obtain⟨its,rv,p,hz⟩:=I.list hq
  obtain⟨⟨old,z1⟩,z2⟩:=st
  have hl:=rv.length
  exact wpAny_pyNext_enum_end (I.ok.hd hc) z1 z2 p.isList (Array.getElem?_eq_none (by rw[List.size_toArray];omega)) fun h' eb=>⟨rfl,I.yI (t':=s.toks) hf fun b u hb q=>eb b u (fun z=>hb (by simp[z])) q⟩
 self:=fun A i s Q E z q=>by
  obtain⟨⟨old,z1⟩,z2⟩:=z
  exact wpAny_pyIter_enum z1 q
theorem x8 {P:Program} {w:World} {K:PySem.W.Frag} {elts:List Expr} {k:Nat} {pos:Pos} {a it e:Addr} (hei:e≠it):Turn P w K (.Tuple elts k pos) (Iet K a) [e,it] e (fun i h=>(∃old,IsEnum h e it i old)/\h.IsTupleIter it a i) where
 mem:=by simp
 obj:=fun i h z b hb=>by
  obtain⟨⟨old,z1⟩,z2⟩:=z
  rcases List.mem_cons.mp hb with rfl | hb
  ·exact vG z1
  ·rw[List.mem_singleton.mp hb]
   obtain⟨o,q,_,d⟩:=z2
   exact⟨o,q,fun v y=>by rw[d] at y;cases y⟩
 keep:=fun i h h' z kk=>⟨let ⟨old,z1⟩:=z.1;⟨old,kk e (by simp) _ z1⟩,z.2.at fun o q=>kk it (by simp) o q⟩
 item:=by
  intro X hP hw hK hc i pins s σ H E I hf st hg
  subst hP hw hK
  obtain⟨xs,x,hq,hx⟩:=hg
  obtain⟨its,rv,p,hz⟩:=I.tuple hq
  obtain⟨u,hu,ru⟩:=rv.get hx
  have hl:=rv.length
  have plt:a<s.heap.objs.size:=by obtain⟨o,q,_⟩:=(show s.heap.IsTuple a its.toArray from p);exact Heap.lt_size q
  have hai:a≠it/\a≠e:=by
   obtain⟨oa,qa,ca,_⟩:=(show s.heap.IsTuple a its.toArray from p)
   obtain⟨⟨old,z1⟩,oi,qi,ci,_⟩:=st
   exact⟨(fun q=>by rw[q,qi] at qa;cases qa;rw[ci] at ca;injection ca with y;exact absurd y (by decide)),(fun q=>by rw[q,z1] at qa;cases qa;injection ca with y;exact absurd y (by decide))⟩
  have DD:=(Draws.tup (prog:=X.prog) (w:=X.w) (A:=X.A.in1) (I.ok.hd hc) it a hai.1 its.toArray)
  have hef0:e∉[it,a]:=by simp;exact⟨hei,fun q=>hai.2 q.symm⟩
  have W:=WalksT.enumerateD (prog:=X.prog) (w:=X.w) (A:=X.A) DD e hei hef0 (by simp)
  refine pU DD e hei hef0 i s _ _ (by rw[List.size_toArray,<- hl];exact(List.getElem?_eq_some_iff.mp hx).1) ⟨st.1,st.2,(show s.heap.IsTuple a its.toArray from p)⟩ fun T vals h1 tk hv hT ht hm k1=>?_
  obtain⟨t,v,hv1,hv2⟩:=hv
  have ev:v=u:=by
   have:its[i]?=some v:=by simpa using hv1
   rw[hu] at this;exact(Option.some.inj this).symm
  subst ev
  refine⟨.ref T,rfl,W.go elts k pos i T { s with heap:=h1,toks:=tk } _ _ hm fun h2 st2 k2=>?_⟩
  have kk:∀b o,b∉[e,it]->s.heap.get? b=some o->h2.get? b=some o:=fun b o hb q=>k2 b o hb (k1 b o hb q)
  have hT2:pW h2 T vals:=by
   obtain⟨o,q,c⟩:=ht
   exact⟨o,k2 T o (fun z=>W.apart _ _ _ hm z) q,c⟩
  have hn:H T=none:=I.hok.fresh hT
  have nTf:∀b∈[e,it],b≠T:=fun b hb z=>by
   have hlt:b<s.heap.objs.size:=by
    rcases List.mem_cons.mp hb with rfl | hb
    ·obtain⟨old,z1⟩:=st.1;exact Heap.lt_size z1
    ·rw[List.mem_singleton.mp hb];obtain⟨o,q,_⟩:=st.2;exact Heap.lt_size q
   rw[z] at hlt;exact absurd hlt (Nat.not_lt.mpr hT)
  refine⟨.ref T,upd H T (.tup [.int i,x]),I.yielded (t':=tk) hf kk hT ⟨by show 2<=sizeLine;decide,[.int i t,v],.cons ⟨t,rfl⟩ (.cons ru .nil),?_⟩,rfl,⟨T,x,rfl,hn,fun ys hy=>by rw[I.mZ hy hq];exact hx,rfl⟩,⟨st2.1,st2.2.1⟩,fun b hb=>by rw[aD (nTf b hb)];exact(hf b hb).1⟩
  rw[hv2] at hT2;exact hT2
 done:=by
  intro X hP hw hK hc i pins s σ H E I hf st hg
  subst hP hw hK
  obtain⟨xs,hq,hx⟩:=hg
  obtain⟨its,rv,p,hz⟩:=I.tuple hq
  obtain⟨⟨old,z1⟩,z2⟩:=st
  have hl:=rv.length
  have pt:s.heap.IsTuple a its.toArray:=p
  have DD:Draws X.prog X.w X.A.in1 it [it,a] i (fun _ _=>True) (fun j h=>j=i/\h.IsTupleIter it a j/\h.IsTuple a its.toArray):={
   live:=fun _ _ z=>let ⟨o,ho,_⟩:=z.2.1;⟨o,ho⟩
   frame:=fun _ _ _ z hk=>⟨z.1,z.2.1.at fun o e=>hk it (by simp) o e,z.2.2.at fun o e=>hk a (by simp) o e⟩
   item:=fun j s Q E hj z hQ=>absurd z.1 (Nat.ne_of_lt hj)
   done:=fun s Q E z hE=>sx (I.ok.hd hc) z.2.1 z.2.2 (Array.getElem?_eq_none (by rw[List.size_toArray];omega)) hE }
  exact wpAny_pyNext_enum_endD DD z1 ⟨rfl,z2,pt⟩ fun h' eb=>⟨rfl,I.yI (t':=s.toks) hf fun b u hb q=>eb b u (fun z=>hb (by simp[z])) q⟩
 self:=fun A i s Q E z q=>by
  obtain⟨⟨old,z1⟩,z2⟩:=z
  exact wpAny_pyIter_enum z1 q
noncomputable def Jm (K:PySem.W.Frag) (tl:TE):TI:=fun σ H R=>tl σ H fun x H1=>∃a,x=.ref a/\(((∃xs,SqL K H1 a xs)/\R (Iel K a) H1)\/((∃xs,SqT K H1 a xs)/\R (Iet K a) H1))
theorem E3 {X:Cx} {elts:List Expr} {kt:Nat} {tp p pos:Pos} {l:Expr} {tl:TE} (hg:Gl X "enumerate") (hm:X.mg "enumerate" = none) (hl:PE X l tl) (hs:starEach [l] X.env=[(false,eval l X.env)]:=by rfl) :
  PI X (.Tuple elts kt tp) (.Call (.Name "enumerate" p) [l] [] pos) (Jm X.K tl):=by
 intro pins s σ H R I h
 have h':GC tl IZ σ H (fun vs H1=>match vs with
  | [x]=>∃a,x=.ref a/\(((∃xs,SqL X.K H1 a xs)/\R (Iel X.K a) H1)\/((∃xs,SqT X.K H1 a xs)/\R (Iet X.K a) H1))
  | _=>False):=h
 refine Call_ (mG I hg hm PyProof.Rows.boot_enumerate (PyProof.Rows.callWith_type1 (thn (fD hl k6 hs pos pins s σ H _ I h') fun us s1 ⟨vs,H1,I1,r1,q1⟩=>?_) hs rfl))
 cases r1 with
 | nil=>exact q1.elim
 | cons r rr=>
  cases rr with
  | cons _ _=>exact q1.elim
  | nil=>
   obtain⟨a,rfl,q⟩:=q1
   cases r
   have fp:∀{h':Heap},∀b∈[s1.heap.objs.size+1,s1.heap.objs.size],n_ X pins H1 b:=fun{h'} b hb=>by
    have hb':s1.heap.objs.size<=b:=by
     rcases List.mem_cons.mp hb with z | hb
     ·omega
     ·have:=List.mem_singleton.mp hb;omega
    exact I1.D4 hb' (I1.hok.fresh hb')
   rcases q with⟨⟨xs,hq⟩,q⟩ | ⟨⟨xs,hq⟩,q⟩
   ·obtain⟨its,rv,pl,hz⟩:=I1.list hq
    refine call_enumerate_list pl.isList fun h2 z1 z2 hsz kp=>wpAny_pyIter_enum (s:={ s1 with heap:=h2 }) z1 ?_
    exact⟨s1.heap.objs.size+1,[s1.heap.objs.size+1,s1.heap.objs.size],_,_,H1,rfl,I1.kept (t':=s1.toks) kp,xN (a:=a) (Nat.succ_ne_self _),⟨⟨_,z1⟩,z2⟩,fp (h':=h2),q⟩
   ·obtain⟨its,rv,pl,hz⟩:=I1.tuple hq
    refine Kn (show s1.heap.IsTuple a its.toArray from pl) fun h2 z1 z2 hsz kp=>wpAny_pyIter_enum (s:={ s1 with heap:=h2 }) z1 ?_
    exact⟨s1.heap.objs.size+1,[s1.heap.objs.size+1,s1.heap.objs.size],_,_,H1,rfl,I1.kept (t':=s1.toks) kp,x8 (a:=a) (Nat.succ_ne_self _),⟨⟨_,z1⟩,z2⟩,fp (h':=h2),q⟩
noncomputable def qP (nt:Nat) (ix:List Nat) (σ:St):St:=List.replicate nt none++ix.map fun i=>(σ[i]?).join
noncomputable def jw (nt:Nat) (ix:List Nat) (σ σ':St):Prop:=∃ts:St,ts.length=nt/\σ'=ts++ix.map fun i=>(σ[i]?).join
noncomputable abbrev Hv (J:It) (nt:Nat) (ix:List Nat) (σ:St) (tg:TG) (tt:TT) (te:TE) (acc:Addr) (H1:Hp) (Q:VK):Prop:=
 ∃W:Nat->Nat->List V->Hp->Prop,(∃m,W 0 m [] (upd H1 acc (.lst [])))/\∀i m ys H,W i m ys H →
  (J.stop i H/\Q (.ref acc) H)\/(J.go i H/\∀σ0 x H',jw nt ix σ σ0->J.yld i H x H'->tg x σ0 H' fun σ2 Hn=>jw nt ix σ σ2/\tt σ2 Hn fun b H2=>if b=true then te σ2 H2 fun y H3=>
    H3 acc=some (.lst ys)/\ys.length<sizeLine/\∃m',m'<m/\W (i+1) m' (ys++[y]) (upd H3 acc (.lst (ys++[y])))
   else ∃m',m'<m/\W (i+1) m' ys H2)
noncomputable def tT (wi:TI) (nt:Nat) (ix:List Nat) (tg:TG) (tt:TT) (te:TE):TE:=fun σ H Q=>wi σ H fun J H1=>∀acc,H1 acc=none->Hv J nt ix σ tg tt te acc H1 Q
theorem sk {X:Cx} {use:Option (Value->Sem Unit)} {Q2:Value->Shared->Prop} {pins:List (Addr × Obj)} {s:Shared} {σ:St} {H:Hp} {Q:VK} {elt iter tg:Expr} {tn':List Str} {tgr:TG} {ifs:List Expr} {scope osc:Scope} {pos:Pos} {wi:TI} {tt:TT} {te:TE} (ix:List Nat) (N':List Str)
  (hxe:X.xe=fun _ _=>False) (hc:X.calm=true) (ho:X.env.scope=osc) (hN:N'=tn'++ix.map fun i=>(X.N[i]?).getD ("" : Str)) (hnd:N'.Nodup)
  (hall:(∀y∈scope.names,y.2=.free->osc.names.lookup y.1=some .cell)/\(∀y∈scope.names,y.2≠.cell)/\scope.kind=.function/\(∀y∈scope.names,y.2=.local->scope.names.lookup y.1=some .local)/\(∀y∈N'.drop tn'.length,scope.names.lookup y=some .free))
  (hi:PI X tg iter wi) (hg:∀cl C aF aL fp,PG (bq X scope cl C aF aL fp N') tg tgr)
  (ht:∀cl C aF aL fp,PTs (bq X scope cl C aF aL fp N') ifs tt)
  (he:∀cl C aF aL fp,PE (bq X scope cl C aF aL fp N') elt te)
  (hs:∀x,foldedSetIterable iter X.env x=pure x) (I:Inv X pins σ H s) (h:tT wi tn'.length ix tgr tt te σ H Q)
  (hfin:∀(acc C:Addr) (H5:Hp) (s5:Shared) (o:Obj),Inv X (pins++[(C,o)]) σ H5 s5->(∀x c,X.env.cells.lookup x=some c->c≠C)->X.aF.heap.objs.size<=C->(∀p∈X.pn++pins,p.1≠C)->(∃m,∀h':Heap,h'.get? C=some o->h'.Ns C m)->Q (.ref acc) H5->compPost (model X.prog X.w) X.A X.xe use Q2 (.ref acc) C (.ok .next) s5) :
  wpAny (model X.prog X.w) X.A (comprehension (.ListComp elt [⟨tg,iter,ifs,0⟩] scope pos) scope X.env (firstIterPos [⟨tg,iter,ifs,0⟩] pos) (newList []) false (eval iter X.env) use) Q2 X.xe s:=by
 obtain⟨hfr,hcell,hkind,hnames,hcap⟩:=hall
 subst ho
 have outc:∀y∈scope.names,y.2=.free->X.env.kindOf y.1=some .cell:=fun y hy q=>hfr y hy q
 obtain⟨cl,hclos,hcl1,hcl2⟩:=kA (env:=X.env) (scope:=scope) fun y hy q=>I.ok.has y.1 (.inl (outc y hy q))
 refine wpAny_comprehension_free (use:=use) rfl hs hclos hkind hnames (thn (hi pins s σ H _ I h) fun v s1 h1=>thn h1 fun itv s2 h2=>?_)
 obtain⟨it,fp,tn,J,H2,e,I2,T,st2,f2,rest⟩:=h2
 subst e
 have hf2:H2 s2.heap.objs.size=none:=I2.hok.fresh (Nat.le_refl _)
 obtain⟨W,⟨m0,w0⟩,turn⟩:=rest s2.heap.objs.size hf2
 -- the list
 refine wpAny_newObj_type ?_
 have I3:Inv X pins σ (upd H2 s2.heap.objs.size (.lst [])) { s2 with heap:=s2.heap.push { cls:=.type "list", dict:=none,data:=.seq ([]:List Value).toArray } }:=I2.Fc (its:=[]) (t':=s2.toks) .nil (Nat.zero_le _)
 have keep3:∀b o,s2.heap.get? b=some o->(s2.heap.push { cls:=.type "list", dict:=none,data:=.seq ([]:List Value).toArray }).get? b=some o:=fun b o q=>Heap.get?_push_of_some _ q
 have fp3:∀b∈fp,∃o,s2.heap.get? b=some o/\∀v,o.data≠.cell v:=T.obj _ _ st2
 have st3:tn 0 (s2.heap.push { cls:=.type "list", dict:=none,data:=.seq ([]:List Value).toArray }):=T.keep _ _ _ st2 fun b _ o q=>keep3 b o q
 have fpn:∀b∈fp,(upd H2 s2.heap.objs.size (HO.lst [])) b=none:=fun b hb=>by
  obtain⟨o,q,_⟩:=fp3 b hb
  rw[aD (Nat.ne_of_lt (Heap.lt_size q))]
  exact(f2 b hb).1
 revert I3 keep3 st3 fpn w0
 generalize hS3:({ s2 with heap:=s2.heap.push { cls:=.type "list", dict:=none,data:=.seq ([]:List Value).toArray } }:Shared)=s3
 generalize hH3:upd H2 s2.heap.objs.size (HO.lst [])=H3
 intro w0 I3 keep3 st3 fpn
 have acc3:H3 s2.heap.objs.size=some (.lst []):=by rw[<- hH3];exact aZ
 generalize s2.heap.objs.size=acc at *
 have e3:s2.heap.push { cls:=.type "list", dict:=none,data:=.seq ([]:List Value).toArray }=s3.heap:=by rw[<- hS3]
 have keep3':∀b o,s2.heap.get? b=some o->s3.heap.get? b=some o:=fun b o q=>by rw[<- e3];exact keep3 b o q
 have st3':tn 0 s3.heap:=by rw[<- e3];exact st3
 refine wpAny_newFunctionEnv hcell (by intro y hy;simp at hy) (fun h₁ hns₁ hsb₁=>?_) hkind
 have hC:s3.heap.objs.size=s3.heap.objs.size:=rfl
 have keep4:∀b o,s3.heap.get? b=some o->h₁.get? b=some o:=fun b o q=>hsb₁.extBut b o (Nat.ne_of_lt (Heap.lt_size q)) (Heap.get?_push_of_some _ q)
 have fpC:∀b∈fp,b≠s3.heap.objs.size:=fun b hb=>by
  obtain⟨o,q,_⟩:=fp3 b hb
  exact Nat.ne_of_lt (Heap.lt_size (keep3' b o q))
 -- the block's context
 generalize hX':bq X scope cl s3.heap.objs.size s3 H3 fp N'=X'
 have hXp:X'.prog=X.prog:=by rw[<- hX'];rfl
 have hXw:X'.w=X.w:=by rw[<- hX'];rfl
 have hXK:X'.K=X.K:=by rw[<- hX'];rfl
 have hXA:X'.A=X.A:=by rw[<- hX'];rfl
 have hXe:X'.env=compEnvC scope cl s3.heap.objs.size X.env:=by rw[<- hX'];rfl
 have hXc:X'.calm=true:=by rw[<- hX'];exact hc
 have hXx:X'.xe=fun _ _=>False:=by rw[<- hX'];exact hxe
 have hXf:X'.fs=frs X.stack:=by rw[<- hX'];rfl
 have hXex:X'.ex=fp:=by rw[<- hX'];rfl
 have hXN:X'.N=N':=by rw[<- hX'];rfl
 have hXs:X'.aF=s3:=by rw[<- hX'];rfl
 have hXH:X'.aL=H3:=by rw[<- hX'];rfl
 have hXpn:X'.pn=[]:=by rw[<- hX'];rfl
 have okX:X'.Ok:=by
  rw[<- hX']
  refine⟨I3.ok.mod,hkind,I3.ok.glob,I3.ok.blt,Nat.le_refl _,fun a b c p q=>I3.ok.inj a b c (hcl1 a c p) (hcl1 b c q),fun y hy=>?_,fun _ _ z=>(by cases z),I3.ok.hd,I3.ok.frames,.inl rfl,fun b hb=>⟨fpC b hb,fun y c p=>(f2 b hb).2.2.2.2.1 y c (hcl1 y c p)⟩,
   I3.bs,Nat.le_trans I3.ok.bsz I3.sz,fun b o p hb=>?_,fun b hb z=>?_,I3.stack,I3.oH⟩
  ·have hy':(relabel scope X.env).names.lookup y=some .cell\/(relabel scope X.env).names.lookup y=some .free:=hy
   have free:scope.names.lookup y=some .free->∃c,cl.lookup y=some c:=fun q=>hcl2 y (lookup_mem q)
   rcases hy' with q | q
   ·rcases eQ q with z | ⟨z,_⟩
    ·exact absurd rfl (hcell _ (lookup_mem z))
    ·exact free z
   ·rcases eQ q with z | ⟨_,z⟩
    ·exact free z
    ·cases z
  ·rcases(f2 b hb).2.2.2.1 with z | z
   ·exact I3.ok.qA b o p z
   ·exact absurd (Nat.lt_of_lt_of_le (Heap.lt_size p) (Nat.le_trans I3.ok.bsz z)) (Nat.lt_irrefl _)
  ·rcases List.mem_cons.mp (I3.gQ b z) with q | q
   ·exact(f2 b hb).2.1 q
   ·exact(f2 b hb).2.2.1 q
 have I4:∀tk,Inv X' [] (qP tn'.length ix σ) H3 { s3 with heap:=h₁,toks:=tk }:=fun tk=>by
  have hloc:=I3.loc
  refine⟨okX,by rw[hXs],I3.bare,?_,⟨fun y=>([]:List (Str × Value)).reverse.lookup y,by rw[hXe];exact hns₁,fun i y v e1 e2 e3=>?_⟩,fun y c p=>?_,?_,fun y c p=>?_,fun p hp=>?_,?_,?_⟩
  ·rw[hXf,hXex,hXH,hXs];exact Un.kept keep4
  ·rw[hXN,hN] at e1
   by_cases hit':i<tn'.length
   ·exfalso
    unfold qP at e2
    rw[List.getElem?_append_left (by simpa using hit'),List.getElem?_replicate,if_pos hit'] at e2
    cases e2
   ·have e10:N'[i]?=some y:=by rw[hN];exact e1
    obtain⟨j,rfl⟩:∃j,i=tn'.length+j:=⟨i - tn'.length,by omega⟩
    have e1':(ix.map fun i=>(X.N[i]?).getD ("" : Str))[j]?=some y:=by
     rw[List.getElem?_append_right (by omega)] at e1
     rw[show tn'.length+j - tn'.length=j by omega] at e1
     exact e1
    have e2':(ix.map fun i=>(σ[i]?).join)[j]?=some (some v):=by
     unfold qP at e2
     rw[List.getElem?_append_right (by simp)] at e2
     simpa using e2
    rw[List.getElem?_map] at e1' e2'
    cases hj:ix[j]? with
    | none=>rw[hj] at e1';cases e1'
    | some i0=>
     rw[hj] at e1' e2'
     have e1'':(X.N[i0]?).getD ("" : Str)=y:=by simpa using e1'
     have e2'':(σ[i0]?).join=some v:=by simpa using e2'
     have hsv:σ[i0]?=some (some v):=by
      cases q:σ[i0]? with
      | none=>rw[q] at e2'';cases e2''
      | some z=>rw[q] at e2'';have:z=some v:=by simpa using e2''
                rw[this]
     have hlt:i0<X.N.length:=by
      have:=(List.getElem?_eq_some_iff.mp hsv).1
      rw[I3.len] at this;exact this
     have hNy:X.N[i0]?=some y:=by
      rw[List.getElem?_eq_getElem hlt] at e1'' ⊢
      simpa using e1''
     have hyt:y∈N'.drop tn'.length:=by
      refine List.mem_of_getElem? (i:=j) ?_
      rw[List.getElem?_drop];exact e10
     have hyf:=hcap y hyt
     have hyc:=outc (y,.free) (lookup_mem hyf) rfl
     obtain⟨m,hn,hl⟩:=hloc
     obtain⟨u,r,l⟩:=hl i0 y v hNy hsv (.inr (.inl hyc))
     refine⟨u,r,?_⟩
     rcases l with⟨k1,_⟩ | ⟨_,c,p,z⟩
     ·have hyc':X.env.kindOf y=some .cell:=hyc
      rw[k1] at hyc';cases hyc'
     ·obtain⟨c',p'⟩:=hcl2 y (lookup_mem hyf)
      have pc:c'=c:=by
       have:=hcl1 y c' p'
       rw[p] at this;cases this;rfl
      subst pc
      refine .inr ⟨.inl ?_,c',by rw[hXe];exact p',?_⟩
      ·rw[hXe];exact dU I3.ok.kind hyf hyc
      ·obtain⟨o,q1,q2⟩:=z
       exact⟨o,keep4 c' o q1,q2⟩
  ·rw[hXe] at p
   obtain⟨v,o,q1,q2⟩:=I3.cell y c (hcl1 y c p)
   exact⟨v,o,keep4 c o q1,q2⟩
  ·rw[hXe];exact I3.hok.fresh (Nat.le_refl _)
  ·rw[hXe] at p;exact I3.dR y c (hcl1 y c p)
  ·rw[hXpn] at hp;cases hp
  ·rw[hXp,hXw];exact I3.hok.kept keep4
  ·rw[hXN,hN];simp[qP]
 -- the loop
 have stat:∀{H':Hp},(∀b∈fp,H' b=none)->∀b∈fp,n_ X' [] H' b:=fun hn b hb=>by
  refine⟨hn b hb,by rw[hXe];exact fpC b hb,?_,.inl (by rw[hXex];exact hb),fun y c p=>?_,fun p hp=>by rw[hXpn] at hp;cases hp⟩
  ·rw[hXf];intro z
   rcases List.mem_cons.mp (I3.gQ b z) with q | q
   ·exact(f2 b hb).2.1 q
   ·exact(f2 b hb).2.2.1 q
  ·rw[hXe] at p;exact(f2 b hb).2.2.2.2.1 y c (hcl1 y c p)
 have fin:∀{H5:Hp} {s5:Shared} {σ5:St},Inv X' [] σ5 H5 s5->Q (.ref acc) H5->compPost (model X.prog X.w) X.A X.xe use Q2 (.ref acc) s3.heap.objs.size (.ok .next) s5:=fun{H5 s5 σ5} I5 q=>by
  obtain⟨m,hn,_⟩:=I5.loc
  rw[hXe] at hn
  have hn':s5.heap.Ns s3.heap.objs.size m:=hn
  obtain⟨oC,esC,epC,hC1,hC2,hC3⟩:=hn'
  have u5:=I5.base
  rw[hXf,hXex,hXH,hXs] at u5
  have fr:H5 s3.heap.objs.size=none:=by have:=I5.free;rw[hXe] at this;exact this
  have hok5:=I5.hok
  rw[hXp,hXw] at hok5
  have hos:s5.os=s3.os:=by have:=I5.os;rw[hXs] at this;exact this
  have IX:Inv X pins σ H5 s5:=I3.sy (s':=s5) (ch:=fp) hos u5 hok5 I5.bare (fun b hb=>by
   obtain⟨g0,g1,g2,g3,g4,g5⟩:=f2 b hb
   exact⟨g3,g1,g4,g5⟩)
  have cC:∀x c,X.env.cells.lookup x=some c->c≠s3.heap.objs.size:=fun x c z e=>by
   obtain⟨v,q⟩:=I3.cell x c z
   exact absurd q.lt (by rw[e];exact Nat.lt_irrefl _)
  have pC:∀p∈X.pn++pins,p.1≠s3.heap.objs.size:=fun p hp e=>by
   have:=Heap.lt_size (I3.pin p hp).1
   rw[e] at this
   exact Nat.lt_irrefl _ this
  refine hfin acc s3.heap.objs.size H5 s5 oC (IX.lM fun p hp=>?_) cC I3.sz pC ⟨m,fun h' z=>⟨oC,esC,epC,z,hC2,hC3⟩⟩ q
  rcases List.mem_append.mp hp with z | z
  ·exact IX.pin p (List.mem_append_right _ z)
  ·have e:=List.mem_singleton.mp z
   subst e
   refine⟨hC1,fr,Nat.ne_of_gt I3.lt,I3.HI (Nat.le_refl _),fun v e=>?_⟩
   have e':oC.data=.cell v:=e
   rw[hC2] at e';cases e'
 have loop:∀tk,codeAny (model X.prog X.w) X.A (.compLoop (.ListComp elt [⟨tg,iter,ifs,0⟩] scope pos) 0 (.ref it) (.ref acc) (compEnvC scope cl s3.heap.objs.size X.env))
   (compPost (model X.prog X.w) X.A X.xe use Q2 (.ref acc) s3.heap.objs.size) { s3 with heap:=h₁,toks:=tk }:=fun tk=>by
  refine wH (fun n s'=>∃i ys σ' H',Inv X' [] σ' H' s'/\jw tn'.length ix σ σ'/\tn i s'.heap/\(∀b∈fp,H' b=none)/\W i n ys H') (fun n s5 h5=>?_) m0
   ⟨0,[],qP tn'.length ix σ,H3,I4 tk,⟨_,List.length_replicate,rfl⟩,T.keep _ _ _ st3' fun b _ o q=>keep4 b o q,fpn,w0⟩
  obtain⟨i,ys,σ5,H5,I5,hσ,st5,fr5,w5⟩:=h5
  rcases turn i n ys H5 w5 with⟨stop,q⟩ | ⟨go,step⟩
  ·have d:=T.done X' hXp hXw hXK hXc i [] s5 σ5 H5 (fun _ _=>False) I5 (stat fr5) st5 stop
   rw[hXA] at d
   refine thn d fun r s6 ⟨hr,I6⟩=>?_
   subst hr
   exact fin I6 q
  ·have d:=T.item X' hXp hXw hXK hXc i [] s5 σ5 H5 (fun _ _=>False) I5 (stat fr5) st5 go
   rw[hXA] at d
   refine thn d fun r s6 ⟨u,hr,h6⟩=>?_
   subst hr
   refine thn h6 fun _ s7 ⟨z,H7,I7,r7,y7,st7,fr7⟩=>?_
   have I7':=I7.pinned (stat fr7) (T.obj _ _ st7)
   have again:∀{H9:Hp} {s9:Shared} {ys9:List V} {σ9:St},Inv X' ([]++j9 fp s7.heap) σ9 H9 s9->jw tn'.length ix σ σ9->(∃m',m'<n/\W (i+1) m' ys9 H9)->∃m',m'<n/\∃i ys σ' H',Inv X' [] σ' H' s9/\jw tn'.length ix σ σ'/\tn i s9.heap/\(∀b∈fp,H' b=none)/\W i m' ys H':=fun{H9 s9 ys9 σ9} I9 c9 ⟨m',hm,w9⟩=>by
    refine⟨m',hm,i+1,ys9,_,H9,I9.iw,c9,T.keep _ _ _ st7 fun b hb o e=>(I9.pin (b,o) (List.mem_append_right _ (List.mem_append_right _ (dJ hb e)))).1,fun b hb=>?_,w9⟩
    obtain⟨o,e,_⟩:=T.obj _ _ st7 b hb
    exact(I9.pin (b,o) (List.mem_append_right _ (List.mem_append_right _ (dJ hb e)))).2.1
   have ht':=ht cl s3.heap.objs.size s3 H3 fp
   have he':=he cl s3.heap.objs.size s3 H3 fp
   have hg':=hg cl s3.heap.objs.size s3 H3 fp
   rw[hX'] at ht' he' hg'
   rw[<- hXe]
   have a0:=hg' _ s7 σ5 H7 z u _ I7' r7 (step σ5 z H7 hσ y7)
   rw[hXp,hXw,hXA,hXx] at a0
   refine thn a0 fun _ s8 ⟨σ8,H8,I8,c8,q8⟩=>?_
   have a1:=ht' _ s8 _ H8 _ I8 q8
   rw[hXp,hXw,hXA,hXx] at a1
   refine thn a1 fun b s9 ⟨H9,I9,q9⟩=>?_
   cases b with
   | false=>exact again I9 c8 q9
   | true=>
    have a2:=he' _ s9 _ H9 _ I9 q9
    rw[hXp,hXw,hXA,hXx] at a2
    refine thn a2 fun yv s10 ⟨y,H10,I10,r10,q1,q2,q3⟩=>?_
    have a3:=kf (X:=X') _ s10 _ H10 (.ref acc) [y] (.ref acc) [yv] (fun _ Hq=>∃m',m'<n/\W (i+1) m' (ys++[y]) Hq) I10 rfl (.cons r10 .nil) ⟨acc,ys,y,rfl,rfl,q1,q2,q3⟩
    rw[hXp,hXw,hXA,hXx] at a3
    exact thn a3 fun _ s11 ⟨_,H11,I11,_,q11⟩=>again I11 c8 q11
 refine codeAny_compStart_list (loop _) ?_
 exact T.self _ 0 _ _ _ (T.keep _ _ _ st3' fun b _ o q=>keep4 b o q) (loop _)
section
variable {X:Cx} {elt iter tg:Expr} {tn':List Str} {tgr:TG} {ifs:List Expr} {scope osc:Scope} {pos:Pos} {wi:TI} {tt:TT} {te:TE}
theorem DH (ix:List Nat) (tn' N':List Str)
  (hxe:X.xe=fun _ _=>False) (hc:X.calm=true) (ho:X.env.scope=osc) (hN:N'=tn'++ix.map fun i=>(X.N[i]?).getD ("" : Str)) (hnd:N'.Nodup)
  (hall:(∀y∈scope.names,y.2=.free->osc.names.lookup y.1=some .cell)/\(∀y∈scope.names,y.2≠.cell)/\scope.kind=.function/\(∀y∈scope.names,y.2=.local->scope.names.lookup y.1=some .local)/\(∀y∈N'.drop tn'.length,scope.names.lookup y=some .free))
  (hi:PI X tg iter wi) (hg:∀cl C aF aL fp,PG (bq X scope cl C aF aL fp N') tg tgr)
  (ht:∀cl C aF aL fp,PTs (bq X scope cl C aF aL fp N') ifs tt)
  (he:∀cl C aF aL fp,PE (bq X scope cl C aF aL fp N') elt te)
  (hs:∀x,foldedSetIterable iter X.env x=pure x:=by intro _;rfl) :
  PE X (.ListComp elt [⟨tg,iter,ifs,0⟩] scope pos) (tT wi tn'.length ix tgr tt te):=by
 intro pins s σ H Q I h
 have e:eval (.ListComp elt [⟨tg,iter,ifs,0⟩] scope pos) X.env=comprehension (.ListComp elt [⟨tg,iter,ifs,0⟩] scope pos) scope X.env (firstIterPos [⟨tg,iter,ifs,0⟩] pos) (newList []) false (eval iter X.env) none:=by
  rw[eval_ListComp];rfl
 rw[e]
 refine sk (use:=none) (Q2:=EP X pins σ Q) ix N' hxe hc ho hN hnd hall hi hg ht he hs I h fun acc C H5 s5 o I5 cC hC pC hm q=>?_
 obtain⟨m,hm⟩:=hm
 exact⟨m,hm _ (I5.pin (C,o) (List.mem_append_right _ (List.mem_append_right _ (List.mem_singleton.mpr rfl)))).1,fun h' hs'=>⟨.ref acc,H5,I5.Ir cC hC pC hs',rfl,q⟩⟩
theorem vC {y:Str} {py spos:Pos} {i:Nat} (ix:List Nat) (tn' N':List Str)
  (hxe:X.xe=fun _ _=>False) (hc:X.calm=true) (ho:X.env.scope=osc) (hN:N'=tn'++ix.map fun i=>(X.N[i]?).getD ("" : Str)) (hnd:N'.Nodup)
  (hall:(∀y∈scope.names,y.2=.free->osc.names.lookup y.1=some .cell)/\(∀y∈scope.names,y.2≠.cell)/\scope.kind=.function/\(∀y∈scope.names,y.2=.local->scope.names.lookup y.1=some .local)/\(∀y∈N'.drop tn'.length,scope.names.lookup y=some .free))
  (hi:PI X tg iter wi) (hg:∀cl C aF aL fp,PG (bq X scope cl C aF aL fp N') tg tgr)
  (ht:∀cl C aF aL fp,PTs (bq X scope cl C aF aL fp N') ifs tt)
  (he:∀cl C aF aL fp,PE (bq X scope cl C aF aL fp N') elt te)
  (hNN:X.N.Nodup) (hy:X.N[i]?=some y) (hl:X.env.scope.names.lookup y=some .local)
  (hsw:swapsWith (.ListComp elt [⟨tg,iter,ifs,0⟩] scope pos) (some (.Name y py)) spos.line X.env=pure true:=by rfl)
  (hs:∀x,foldedSetIterable iter X.env x=pure x:=by intro _;rfl) :
  PS X (.Assign [.Name y py] (.ListComp elt [⟨tg,iter,ifs,0⟩] scope pos) spos) (FH (tT wi tn'.length ix tgr tt te) (fG i)):=by
 intro pins s σ H D I h
 rw[exec_Assign_Name_used _ _ _ _ hsw]
 refine wpAny_bind (wpAny_standAt ?_)
 show wpAny _ _ (evalThenUse (.ListComp elt [⟨tg,iter,ifs,0⟩] scope pos) X.env (assign (.Name y py) X.env) >>= fun _=>pure Flow.next) _ _ _
 refine wpAny_bind ?_
 show wpAny _ _ (comprehension (.ListComp elt [⟨tg,iter,ifs,0⟩] scope pos) scope X.env (firstIterPos [⟨tg,iter,ifs,0⟩] pos) (newList []) false (eval iter X.env) (some (assign (.Name y py) X.env)) >>= fun _=>pure ()) _ _ _
 refine wpAny_bind (sk (use:=some (assign (.Name y py) X.env)) ix N' hxe hc ho hN hnd hall hi hg ht he hs I h fun acc C H5 s5 o I5 cC hC pC hm q=>?_)
 obtain⟨m,hm⟩:=hm
 refine wpAny_assign_Name (fJ (i:=i) (v:=.ref acc) I5 hNN hy (.inl hl) rfl (fun s6 I6=>?_) (.inr hl))
 refine⟨m,hm _ (I6.pin (C,o) (List.mem_append_right _ (List.mem_append_right _ (List.mem_singleton.mpr rfl)))).1,fun h' hs'=>?_⟩
 exact wpAny_pure (wpAny_pure ⟨_,H5,I6.Ir cC hC pC hs',q⟩)
end
section
variable {X:Cx} {pins:List (Addr × Obj)} {σ:St} {H:Hp} {s:Shared} {a:Addr} {y v:V} {u r:Value} {o:Option V} {A:Around} {E:Value->Shared->Prop}
theorem Inv.big (I:Inv X pins σ H s):sysModules<s.heap.objs.size:=by
 have h:mainGlobals<s.heap.objs.size:=(I.mod.glob.keeps I.bk).lt
 exact Nat.lt_trans (by decide) h
end
theorem A_ {P:Program} {w:World} {H:Hp} (h:Heap) (hb:sysModules<h.objs.size):cF P w H (h.push { cls:=.type "dict", data:=.dict #[] }) h.objs.size (.dK []):=
 ⟨Nat.zero_le _,beq_eq_false_iff_ne.mpr (Ne.symm (Nat.ne_of_lt hb)),[],.nil,Heap.DictOf.new h⟩
noncomputable def G3:TE:=fun _ H Q=>∀p,H p=none->Q (.ref p) (upd H p (.dK []))
section
variable {X:Cx} {pos:Pos}
theorem Ce:PE X (.Dict [] [] pos) G3:=fun pins s σ H Q I h=>
 wpAny_Dict_empty ⟨.ref s.heap.objs.size,_,I.laid (a:=s.heap.objs.size) (o:=.dK []) (t':=s.toks) (fun _ _ q=>Heap.get?_push_of_some _ q) (Nat.le_refl _) (A_ s.heap I.big),rfl,h _ (I.hok.fresh (Nat.le_refl _))⟩
end
end L2
namespace L2.FE
open PySem PySem.Spec PyProof.Rows
inductive D where
 | non | bl (b:Bool) | int (i:Int) | str (x:Str) | tup (ds:List D) | frl (ds:List D) | ref (n:Nat) | fn (x:Str) | edic | scr (ds:List D) | exc (c:Str) (fs:List (Str × Int)) | clo (f:Str) (ds:List D)
inductive O where
 | lst (ds:List D) | set (ns:List Int) | dic (kvs:List (Key × D)) | dit (kvs:List (List Key × D))
noncomputable abbrev Hh:=List O
noncomputable abbrev En:=List (Option D)
structure Xc where
 cls:Str
 fs:List (Str × Int)
inductive R (β:Type) where
 | ok (b:β) (h:Hh)
 | err (x:Xc) (h:Hh)
 | bad
noncomputable def R.bind {β γ:Type} (r:R β) (f:β->Hh->R γ):R γ:=match r with
 | .ok b h=>f b h
 | .err x h=>.err x h
 | .bad=>.bad
inductive Fl where
 | nx (e:En) | bk (e:En) | ct (e:En) | rt (d:D)
noncomputable abbrev ME:=En->Hh->R D
noncomputable abbrev MT:=En->Hh->R Bool
noncomputable abbrev MA:=En->Hh->R (List D)
noncomputable abbrev MS:=En->Hh->R Fl
noncomputable def Fro (K:PySem.W.Frag) (H:Hp) (p:Addr) (vs:List V):Prop:=
 (∃o,H p=some (.frz o (.lst vs)))\/∃(o:Obj) (its:Array Value) (n:Nat),K.lookup p=some o/\o.cls=.type "list" /\ o.dict=none/\o.data=.seq its n/\its.size<=sizeLine/\Vals vs its.toList
theorem Fro.sq {K:PySem.W.Frag} {H:Hp} {p:Addr} {vs:List V} (h:Fro K H p vs):SqL K H p vs:=by
 rcases h with⟨o,h⟩ | h
 ·exact .inl (.inr ⟨o,h⟩)
 ·exact .inr h
noncomputable def Fr1 (H:Hp) (p:Addr) (vs:List V):Prop:=∃o,H p=some (.frz o (.lst vs))
theorem Fr1.fro {K:PySem.W.Frag} {H:Hp} {p:Addr} {vs:List V} (h:Fr1 H p vs):Fro K H p vs:=.inl h
theorem Fr1.sq {K:PySem.W.Frag} {H:Hp} {p:Addr} {vs:List V} (h:Fr1 H p vs):SqL K H p vs:=let ⟨o,h⟩:=h;.inl (.inr ⟨o,h⟩)
theorem Fr1.rd {H:Hp} {p:Addr} {vs:List V} (h:Fr1 H p vs):Rd H p (.lst vs):=.inr h
noncomputable def AtO (p:Addr) (o:Obj):HO:=.frz o (.ext fun h=>h.get? p=some o)
noncomputable def XFs (H:Hp) (dc:Option Addr) (fs:List (Str × Int)):Prop:=(dc=none/\fs=[])\/∃dx od,dc=some dx/\H dx=some (.frz od (.xd (fs.map fun x=>(x.1,V.int x.2))))
noncomputable def lJ (H:Hp) (clos:List (Str × Addr)):List Str->List V->Prop:=Paired fun y v=>∃c o u,clos.lookup y=some c/\H c=some (AtO c o)/\o.data=.cell (some u)/\RelV v u
structure vp (f x qual:Str) (ys:List Str) (params:Arguments) (body:Expr) (scope:Scope):Prop where
 tx:∃(p0 p2 p3:Pos) (qs:List (Str × Pos)),qs.map (·.1)=ys/\body=.Call (.Name f p0) (qs.map (fun y=>Expr.Name y.1 y.2)++[.Name x p2]) [] p3
 kind:scope.kind=.function
 co:scope.isCoroutine=false
 gen:scope.isGenerator=false
 H_:∀z∈scope.names,z.2≠.cell
 glob:scope.names.lookup f=some .globalImplicit
 loc:scope.names.lookup x=some .local
 free:∀y∈ys,scope.names.lookup y=some .free/\(y == ("__debug__" : Str))=false/\(y == ("__classdict__" : Str))=false
 nd:(f == ("__debug__" : Str))=false/\(x == ("__debug__" : Str))=false
 bind:∀clos pm cdv ctv u,bindArgs (PySem.W.kla_fn "<lambda>" qual params body scope clos pm cdv ctv) ⟨[u],[]⟩=pure [(x,u)]
noncomputable def Gx (f:Str) (clos:List (Str × Addr)) (ys:List Str) (o:Obj) (c':Addr) (qual:Str):Prop:=
 ∃(params:Arguments) (body:Expr) (scope:Scope) (pm ctv:Value) (x:Str),o=PySem.W.kla_obj "<lambda>" qual params body scope clos pm c' ctv/\vp f x qual ys params body scope
mutual
inductive aO (K:PySem.W.Frag) (g:Str->Option Addr) (α:List Addr) (H:Hp):D->V->Prop where
 | non:aO K g α H .non .non
 | bl (b):aO K g α H (.bl b) (.bl b)
 | int (i):aO K g α H (.int i) (.int i)
 | str (x):aO K g α H (.str x) (.str x)
 | ref {n p}:α[n]?=some p->aO K g α H (.ref n) (.ref p)
 | tup {ds p vs}:H p=some (.tup vs)->ax K g α H ds vs->aO K g α H (.tup ds) (.ref p)
 | frl {ds p vs}:Fr1 H p vs->ax K g α H ds vs->aO K g α H (.frl ds) (.ref p)
 | scr {ds p vs}:Fro K H p vs->ax K g α H ds vs->aO K g α H (.scr ds) (.ref p)
 | fn {x f}:g x=some f->aO K g α H (.fn x) (.ref f)
 | edic {p o}:H p=some (.frz o (.dK []))->aO K g α H .edic (.ref p)
 | exc {c C p o fs}:g c=some C->H p=some (AtO p o)->o.cls=.ref C->(∃vs,o.data=.fields vs)->XFs H o.dict fs->aO K g α H (.exc c fs) (.ref p)
 | clo {f ds p o clos ys vs c' oc qual t vc}:H p=some (AtO p o)->Gx f clos ys o c' qual->H c'=some (AtO c' oc)->oc.data=.fields vc->vc[1]?=some (.str qual t)->lJ H clos ys vs->ax K g α H ds vs->aO K g α H (.clo f ds) (.ref p)
inductive ax (K:PySem.W.Frag) (g:Str->Option Addr) (α:List Addr) (H:Hp):List D->List V->Prop where
 | nil:ax K g α H [] []
 | cons {d v ds vs}:aO K g α H d v->ax K g α H ds vs->ax K g α H (d::ds) (v::vs)
end
structure Ex0 (K:PySem.W.Frag) (α:List Addr) (H:Hp) (α':List Addr) (H':Hp):Prop where
 pre:α <+: α'
 tup:∀(p:Addr) (xs:List V),H p=some (.tup xs)->H' p=some (.tup xs)
 frz:∀(p:Addr) (o:Obj) (u:HO),H p=some (.frz o u)->H' p=some (.frz o u)
 tbl:∀(p:Addr) (ps:Array Value),H p=some (.tbl ps)->∃more,H' p=some (.tbl (ps++more))
theorem Ex0.fro {K:PySem.W.Frag} {α α':List Addr} {H H':Hp} (e:Ex0 K α H α' H') (p:Addr) (xs:List V) (h:Fro K H p xs):Fro K H' p xs:=by
 rcases h with⟨o,h⟩ | h
 ·exact .inl ⟨o,e.frz _ _ _ h⟩
 ·exact .inr h
theorem Ex0.fr1 {K:PySem.W.Frag} {α α':List Addr} {H H':Hp} (e:Ex0 K α H α' H') (p:Addr) (xs:List V) (h:Fr1 H p xs):Fr1 H' p xs:=let ⟨o,h⟩:=h;⟨o,e.frz _ _ _ h⟩
structure Ext (K:PySem.W.Frag) (α:List Addr) (H:Hp) (α':List Addr) (H':Hp):Prop extends Ex0 K α H α' H' where
 kept:∀p o,H p=some o->p∉α->(∀ps,o≠.tbl ps)->H' p=some o
 new:∀p,p∈α'->p∉α->H p=none
section
variable {K:PySem.W.Frag} {g:Str->Option Addr} {α α' α'':List Addr} {H H' H'':Hp}
theorem Ext.keep (e:Ext K α H α' H') (p:Addr) (o:HO) (h:H p=some o) (n:p∉α) (t:∀ps,o≠.tbl ps:=by intro _ z;cases z):H' p=some o:=e.kept p o h n t
theorem Ext.stays (e:Ext K α H α' H') {p:Addr} {o:HO} (h:H p=some o) (n:p∉α):H' p≠none:=by
 cases o with
 | tbl ps=>obtain⟨m,q⟩:=e.tbl p ps h;rw[q];exact fun z=>nomatch z
 | _=>rw[e.keep p _ h n];exact fun z=>nomatch z
theorem Ex0.refl:Ex0 K α H α H:=⟨List.prefix_refl _,fun _ _ h=>h,fun _ _ _ h=>h,fun _ ps h=>⟨#[],by rw[h];simp⟩⟩
theorem Ex0.trans (a:Ex0 K α H α' H') (b:Ex0 K α' H' α'' H''):Ex0 K α H α'' H'':=⟨a.pre.trans b.pre,fun p xs h=>b.tup p xs (a.tup p xs h),fun p o u h=>b.frz p o u (a.frz p o u h),fun p ps h=>by
  obtain⟨m1,e1⟩:=a.tbl p ps h
  obtain⟨m2,e2⟩:=b.tbl p _ e1
  exact⟨m1++m2,by rw[e2,Array.append_assoc]⟩⟩
theorem Ext.refl:Ext K α H α H:=⟨.refl,fun _ _ h _ _=>h,fun _ h n=>absurd h n⟩
theorem Ext.trans (a:Ext K α H α' H') (b:Ext K α' H' α'' H''):Ext K α H α'' H'':=⟨a.toEx0.trans b.toEx0,fun p o h n t=>b.kept p o (a.kept p o h n t) (fun z=>by rw[a.new p z n] at h;cases h) t,fun p z n=>by
  by_cases q:p∈α'
  ·exact a.new p q n
  ·have:=b.new p z q
   cases e:H p with
   | none=>rfl
   | some o=>exact absurd this (a.stays e n)⟩
theorem Ex0.get (e:Ex0 K α H α' H') {n:Nat} {p:Addr} (h:α[n]?=some p):α'[n]?=some p:=by
 obtain⟨t,rfl⟩:=e.pre
 have hl:n<α.length:=by
  by_cases hl:n<α.length
  ·exact hl
  ·rw[List.getElem?_eq_none (by omega)] at h;cases h
 rw[List.getElem?_append_left hl];exact h
mutual
theorem aO.ex0 (e:Ex0 K α H α' H'):∀{d:D} {v:V},aO K g α H d v->aO K g α' H' d v
 | _,_,.non=>.non
 | _,_,.bl b=>.bl b
 | _,_,.int i=>.int i
 | _,_,.str x=>.str x
 | _,_,.ref h=>.ref (e.get h)
 | _,_,.tup h r=>.tup (e.tup _ _ h) (ax.ex0 e r)
 | _,_,.frl h r=>.frl (e.fr1 _ _ h) (ax.ex0 e r)
 | _,_,.scr h r=>.scr (e.fro _ _ h) (ax.ex0 e r)
 | _,_,.fn h=>.fn h
 | _,_,.edic h=>.edic (e.frz _ _ _ h)
 | _,_,.exc hg h hc hd hf=>.exc hg (e.frz _ _ _ h) hc hd (hf.elim .inl fun⟨dx,od,a,b⟩=>.inr ⟨dx,od,a,e.frz _ _ _ b⟩)
 | _,_,.clo h l hc hd hv cs r=>.clo (e.frz _ _ _ h) l (e.frz _ _ _ hc) hd hv (L2.Paired.sH cs fun _ _ ⟨c,o,u,l,a,b⟩=>⟨c,o,u,l,e.frz _ _ _ a,b⟩) (ax.ex0 e r)
theorem ax.ex0 (e:Ex0 K α H α' H'):∀{ds:List D} {vs:List V},ax K g α H ds vs->ax K g α' H' ds vs
 | _,_,.nil=>.nil
 | _,_,.cons r t=>.cons (aO.ex0 e r) (ax.ex0 e t)
end
theorem aO.ext (e:Ext K α H α' H') {d:D} {v:V} (r:aO K g α H d v):aO K g α' H' d v:=r.ex0 e.toEx0
theorem ax.ext (e:Ext K α H α' H') {d:List D} {v:List V} (r:ax K g α H d v):ax K g α' H' d v:=r.ex0 e.toEx0
theorem ax.length:∀{ds:List D} {vs:List V},ax K g α H ds vs->ds.length=vs.length
 | _,_,.nil=>rfl
 | _,_,.cons _ t=>by simp[ax.length t]
theorem ax.append:∀{ds es:List D} {vs us:List V},ax K g α H ds vs->ax K g α H es us->ax K g α H (ds++es) (vs++us)
 | _,_,_,_,.nil,s=>s
 | _,_,_,_,.cons r t,s=>.cons r (ax.append t s)
theorem ax.get:∀{ds:List D} {vs:List V} {i:Nat} {d:D},ax K g α H ds vs->ds[i]?=some d->∃v,vs[i]?=some v/\aO K g α H d v
 | _,_,_,_,.nil,e=>by simp at e
 | _,_,0,_,.cons r _,e=>by simp at e;subst e;exact⟨_,rfl,r⟩
 | _,_,i+1,d,.cons _ t,e=>by
  obtain⟨u,h1,h2⟩:=ax.get (i:=i) (d:=d) t (by simpa using e)
  exact⟨u,by simpa using h1,h2⟩
theorem ax.set {d:D} {v:V} (r:aO K g α H d v):∀{ds:List D} {vs:List V} (i:Nat),ax K g α H ds vs->ax K g α H (ds.set i d) (vs.set i v)
 | _,_,_,.nil=>.nil
 | _,_,0,.cons _ t=>.cons r t
 | _,_,i+1,.cons q t=>.cons q (ax.set r i t)
theorem ax.take:∀{ds:List D} {vs:List V} (n:Nat),ax K g α H ds vs->ax K g α H (ds.take n) (vs.take n)
 | _,_,0,_=>.nil
 | _,_,_+1,.nil=>.nil
 | _,_,n+1,.cons r t=>.cons r (ax.take n t)
theorem ax.drop:∀{ds:List D} {vs:List V} (n:Nat),ax K g α H ds vs->ax K g α H (ds.drop n) (vs.drop n)
 | _,_,0,r=>r
 | _,_,_+1,.nil=>.nil
 | _,_,n+1,.cons _ t=>ax.drop n t
theorem ax.ints (ns:List Int):ax K g α H (ns.map D.int) (ns.map V.int):=by
 induction ns with
 | nil=>exact .nil
 | cons n r ih=>exact .cons (.int n) ih
theorem ax.B8:∀{ns:List Int} {vs:List V},ax K g α H (ns.map D.int) vs->vs=ns.map V.int
 | [],_,.nil=>rfl
 | n::r,_,.cons (.int _) t=>by rw[ax.B8 t];rfl
theorem ax.flat {ds:List D} {vs:List V} (r:ax K g α H ds vs):∀k,ax K g α H (List.replicate k ds).flatten (List.replicate k vs).flatten
 | 0=>.nil
 | k+1=>by rw[List.replicate_succ,List.replicate_succ,List.flatten_cons,List.flatten_cons];exact r.append (ax.flat r k)
end
noncomputable def OAt (K:PySem.W.Frag) (g:Str->Option Addr) (α:List Addr) (H:Hp) (p:Addr):O->Prop
 | .lst ds=>∃vs,H p=some (.lst vs)/\ax K g α H ds vs
 | .set ns=>H p=some (.set (fun k=>ns.any (· == k)) ns.length)
 | .dic kvs=>∃kws,H p=some (.dK kws)/\Paired (fun(a:Key × D) (b:Key × V)=>a.1=b.1/\aO K g α H a.2 b.2) kvs kws
 | .dit kvs=>∃kws,H p=some (.dT kws)/\Paired (fun(a:List Key × D) (b:List Key × V)=>a.1=b.1/\aO K g α H a.2 b.2) kvs kws
noncomputable def wB (H:Hp) (q:Addr × Pos × Str):Prop:=H q.1=some (.tbl #[])\/∃(c':Addr) (oc:Obj) (vc:Array Value) (t:Tok),H q.1=some (.tbl #[rawInt q.2.1.line,rawInt q.2.1.col,.ref c'])/\H c'=some (AtO c' oc)/\oc.data=.fields vc/\vc[1]?=some (.str q.2.2 t)
noncomputable def FN (fd:FuncData):Option Pos:=match fd.body with
 | .stmts b=>(match b.getLast? with
  | some (.Return (some (.Lambda _ _ _ pos)) _)=>some pos
  | some (.Return (some (.Call _ es _ _)) _)=>(match es.getLast? with | some (.Lambda _ _ _ pos)=>some pos | _=>none)
  | _=>none)
 | _=>none
noncomputable def l4 (K:PySem.W.Frag) (f:Addr):Option (Addr × Pos × Str):=match K.lookup f with
 | some ⟨_,_,.func fd,_⟩=>(match FN fd,fd.code with
  | some pos,.ref c=>(match K.lookup c with
   | some ⟨_,_,.fields vs,_⟩=>(match (vs[11]?:Option Value) with | some (.ref P)=>some (P,pos,fd.qualname++".<locals>." ++ "<lambda>") | _=>none)
   | _=>none)
  | _,_=>none)
 | _=>none
noncomputable def jT (K:PySem.W.Frag) (H:Hp):Prop:=∀f P,l4 K f=some P->wB H P
structure aX (K:PySem.W.Frag) (g:Str->Option Addr) (α:List Addr) (H:Hp) (h:Hh):Prop where
 len:α.length=h.length
 inj:∀(n m:Nat) (p:Addr),α[n]?=some p->α[m]?=some p->n=m
 here:∀(n:Nat) (p:Addr) (o:O),α[n]?=some p->h[n]?=some o->OAt K g α H p o
 tab:jT K H
section
variable {K:PySem.W.Frag} {g:Str->Option Addr} {α α':List Addr} {H H':Hp} {h:Hh}
theorem Paired.Jy {kvs:List (Key × D)} {kws:List (Key × V)} (e:Ex0 K α H α' H') (r:Paired (fun(a:Key × D) (b:Key × V)=>a.1=b.1/\aO K g α H a.2 b.2) kvs kws) :
  Paired (fun(a:Key × D) (b:Key × V)=>a.1=b.1/\aO K g α' H' a.2 b.2) kvs kws:=L2.Paired.sH r fun _ _ q=>⟨q.1,q.2.ex0 e⟩
theorem Paired.JV {kvs:List (List Key × D)} {kws:List (List Key × V)} (e:Ex0 K α H α' H') (r:Paired (fun(a:List Key × D) (b:List Key × V)=>a.1=b.1/\aO K g α H a.2 b.2) kvs kws) :
  Paired (fun(a:List Key × D) (b:List Key × V)=>a.1=b.1/\aO K g α' H' a.2 b.2) kvs kws:=L2.Paired.sH r fun _ _ q=>⟨q.1,q.2.ex0 e⟩
theorem wB.mono {P:Addr × Pos × Str} (t:wB H P) (a:∀b ps,H b=some (.tbl ps)->H' b=some (.tbl ps)) (z:∀b o u,H b=some (.frz o u)->H' b=some (.frz o u)):wB H' P:=by
 rcases t with h | ⟨c',oc,vc,tk,h,hc,hd⟩
 ·exact .inl (a _ _ h)
 ·exact .inr ⟨c',oc,vc,tk,a _ _ h,z _ _ _ hc,hd⟩
theorem jT.mono (t:jT K H) (a:∀b ps,H b=some (.tbl ps)->H' b=some (.tbl ps)) (z:∀b o u,H b=some (.frz o u)->H' b=some (.frz o u)):jT K H':=fun f P e=>(t f P e).mono a z
theorem jT.upd {p:Addr} {o:HO} (t:jT K H) (n:H p=none\/∃u,H p=some u/\(∀ys,u≠.tup ys)/\(∀w ys,u≠.frz w ys)/\∀ps,u≠.tbl ps):jT K (upd H p o):=by
 have ne:∀q u,H q=some u->((∃w ys,u=.frz w ys)\/∃ps,u=.tbl ps)->q≠p:=by
  rintro q u e z rfl
  rcases n with n | ⟨u',e',_,n2,n3⟩
  ·rw[e] at n;cases n
  ·rw[e] at e';cases e'
   rcases z with⟨w,ys,z⟩ | ⟨ps,z⟩
   ·exact n2 _ _ z
   ·exact n3 _ z
 intro f P e
 rcases t f P e with h | ⟨c',oc,vc,tk,h,hc,hd⟩
 ·exact .inl (by rw[aD (ne _ _ h (.inr ⟨_,rfl⟩))];exact h)
 ·exact .inr ⟨c',oc,vc,tk,by rw[aD (ne _ _ h (.inr ⟨_,rfl⟩))];exact h,by rw[aD (ne _ _ hc (.inl ⟨_,_,rfl⟩))];exact hc,hd⟩
theorem OAt.isS {p:Addr} {o:O} (h:OAt K g α H p o):∃u,H p=some u/\(∀ys,u≠.tup ys)/\(∀w ys,u≠.frz w ys)/\∀ps,u≠.tbl ps:=by
 cases o with
 | lst ds=>obtain⟨vs,e,_⟩:=h;exact⟨_,e,fun _ z=>(nomatch z),fun _ _ z=>(nomatch z),fun _ z=>nomatch z⟩
 | set n=>exact⟨_,h,fun _ z=>(nomatch z),fun _ _ z=>(nomatch z),fun _ z=>nomatch z⟩
 | dic kvs=>obtain⟨vs,e,_⟩:=h;exact⟨_,e,fun _ z=>(nomatch z),fun _ _ z=>(nomatch z),fun _ z=>nomatch z⟩
 | dit kvs=>obtain⟨vs,e,_⟩:=h;exact⟨_,e,fun _ z=>(nomatch z),fun _ _ z=>(nomatch z),fun _ z=>nomatch z⟩
theorem aX.mem (r:aX K g α H h) {p:Addr} (hp:p∈α):∃u,H p=some u/\(∀ys,u≠.tup ys)/\(∀w ys,u≠.frz w ys)/\∀ps,u≠.tbl ps:=by
 obtain⟨n,hn,e⟩:=List.getElem_of_mem hp
 have hn':n<h.length:=by rw[<- r.len];exact hn
 exact(r.here n p _ (by rw[List.getElem?_eq_getElem hn,e]) (List.getElem?_eq_getElem hn')).isS
theorem OAt.ex0 {p:Addr} {o:O} (e:Ex0 K α H α' H') (h:OAt K g α H p o) (k:∀u,H p=some u->H' p=some u):OAt K g α' H' p o:=by
 cases o with
 | lst ds=>obtain⟨vs,a,r⟩:=h;exact⟨vs,k _ a,r.ex0 e⟩
 | set n=>exact k _ h
 | dic kvs=>obtain⟨kws,a,r⟩:=h;exact⟨kws,k _ a,Paired.Jy e r⟩
 | dit kvs=>obtain⟨kws,a,r⟩:=h;exact⟨kws,k _ a,Paired.JV e r⟩
noncomputable def Ei (H:Hp) (p:Addr):Prop:=H p=none\/∃u,H p=some u/\(∀ys,u≠.tup ys)/\(∀w ys,u≠.frz w ys)/\∀ps,u≠.tbl ps
theorem Ex0.upd {p:Addr} {o:HO} (n:Ei H p):Ex0 K α H α (upd H p o):=by
 have ne:∀q u,H q=some u->((∃ys,u=.tup ys)\/(∃w ys,u=.frz w ys)\/∃ps,u=.tbl ps)->q≠p:=by
  rintro q u e z rfl
  rcases n with n | ⟨u',e',n1,n2,n3⟩
  ·rw[e] at n;cases n
  ·rw[e] at e';cases e'
   rcases z with⟨ys,z⟩ | ⟨w,ys,z⟩ | ⟨ps,z⟩
   ·exact n1 _ z
   ·exact n2 _ _ z
   ·exact n3 _ z
 refine⟨List.prefix_refl _,fun q xs h=>?_,fun q o u h=>?_,fun q ps h=>⟨#[],?_⟩⟩
 ·rw[aD (ne q _ h (.inl ⟨_,rfl⟩))];exact h
 ·rw[aD (ne q _ h (.inr (.inl ⟨_,_,rfl⟩)))];exact h
 ·rw[aD (ne q _ h (.inr (.inr ⟨_,rfl⟩))),h];simp
theorem Ex0.more (e:Ex0 K α H α H') (l:List Addr):Ex0 K α H (α++l) H':=⟨List.prefix_append _ _,e.tup,e.frz,e.tbl⟩
theorem Ext.fresh {p:Addr} {o:HO} (n:H p=none):Ext K α H α (upd H p o):=⟨Ex0.upd (.inl n),fun q u h _ _=>by rw[aD (aP h n)];exact h,fun _ z m=>absurd z m⟩
theorem Ext.push {p:Addr} {o:HO} (n:H p=none):Ext K α H (α++[p]) (upd H p o):=⟨(Ex0.upd (.inl n)).more _,fun q u h _ _=>by rw[aD (aP h n)];exact h,fun q z m=>by
 rcases List.mem_append.mp z with z | z
 ·exact absurd z m
 ·rw[List.mem_singleton.mp z];exact n⟩
theorem aX.off {p:Addr} {o:HO} (r:aX K g α H h) (n:Ei H p) (m:p∉α):aX K g α (upd H p o) h:=by
 refine⟨r.len,r.inj,fun k q u a b=>(r.here k q u a b).ex0 (Ex0.upd n) fun w e=>?_,r.tab.upd n⟩
 rw[aD];exact e
 rintro rfl;exact m (List.mem_of_getElem? a)
theorem aX.free (r:aX K g α H h) {p:Addr} (n:H p=none):p∉α:=fun z=>by
 obtain⟨u,e,_⟩:=r.mem z
 rw[n] at e;cases e
theorem aX.grow {p:Addr} {o:HO} (r:aX K g α H h) (n:H p=none):aX K g α (upd H p o) h:=r.off (.inl n) (r.free n)
theorem aX.adopt {p:Addr} {u:O} (r:aX K g α H h) (n:p∉α) (a:OAt K g (α++[p]) H p u):aX K g (α++[p]) H (h++[u]):=by
 have old:∀{m:Nat} {q:Addr},(α++[p])[m]?=some q->(α[m]?=some q)\/(m=α.length/\q=p):=by
  intro m q h1
  by_cases hm:m<α.length
  ·rw[List.getElem?_append_left hm] at h1
   exact .inl h1
  ·have hl:m<(α++[p]).length:=by
    by_cases hl:m<(α++[p]).length
    ·exact hl
    ·rw[List.getElem?_eq_none (by omega)] at h1;cases h1
   have e:m=α.length:=by simp at hl;omega
   subst e
   rw[List.getElem?_append_right (Nat.le_refl _)] at h1
   simp at h1
   exact .inr ⟨rfl,h1.symm⟩
 refine⟨by simp[r.len],fun m k q h1 h2=>?_,fun m q w h1 h2=>?_,r.tab⟩
 ·rcases old h1 with a1 | ⟨e1,e2⟩
  ·rcases old h2 with a2 | ⟨e3,e4⟩
   ·exact r.inj m k q a1 a2
   ·rw[e4] at a1;exact absurd (List.mem_of_getElem? a1) n
  ·rcases old h2 with a2 | ⟨e3,e4⟩
   ·rw[e2] at a2;exact absurd (List.mem_of_getElem? a2) n
   ·rw[e1,e3]
 ·rcases old h1 with a1 | ⟨e1,e2⟩
  ·have hm:m<α.length:=by
    by_cases hl:m<α.length
    ·exact hl
    ·rw[List.getElem?_eq_none (by omega)] at a1;cases a1
   rw[List.getElem?_append_left (by rw[<- r.len];exact hm)] at h2
   exact(r.here m q w a1 h2).ex0 (Ex0.refl.more _) fun _ z=>z
  ·subst e1 e2
   rw[r.len,List.getElem?_append_right (Nat.le_refl _)] at h2
   simp at h2
   subst h2
   exact a
theorem aX.push {p:Addr} {o:HO} {u:O} (r:aX K g α H h) (n:H p=none) (a:OAt K g (α++[p]) (upd H p o) p u):aX K g (α++[p]) (upd H p o) (h++[u]):=(r.grow n).adopt (r.free n) a
theorem Ext.write {p:Addr} {o:HO} {k:Nat} (r:aX K g α H h) (hk:α[k]?=some p):Ext K α H α (upd H p o):=
 ⟨Ex0.upd (.inr (r.mem (List.mem_of_getElem? hk))),fun q u h m _=>by
  rw[aD];exact h
  rintro rfl;exact m (List.mem_of_getElem? hk),fun _ z m=>absurd z m⟩
theorem aX.write {p:Addr} {o:HO} {u':O} {k:Nat} (r:aX K g α H h) (hk:α[k]?=some p) (a:OAt K g α (upd H p o) p u'):aX K g α (upd H p o) (h.set k u'):=by
 have x:Ext K α H α (upd H p o):=Ext.write r hk
 refine⟨by simp[r.len],r.inj,fun m q w h1 h2=>?_,r.tab.upd (.inr (r.mem (List.mem_of_getElem? hk)))⟩
 rw[List.getElem?_set] at h2
 by_cases hm:k=m
 ·subst hm
  rw[if_pos rfl] at h2
  split at h2
  ·cases h2;rw[h1] at hk;cases hk;exact a
  ·cases h2
 ·rw[if_neg hm] at h2
  refine(r.here m q w h1 h2).ex0 x.toEx0 fun z e=>?_
  rw[aD];exact e
  rintro rfl;exact hm (r.inj _ _ _ hk h1)
end
noncomputable abbrev GG:=Str->Option Addr
noncomputable abbrev EE:=List Addr->Hp->Xc->Prop
structure kn (K:PySem.W.Frag) (g:GG) (α:List Addr) (H:Hp) (env:En) (σ:St):Prop where
 len:env.length=σ.length
 vars:∀(i:Nat) (d:D),env[i]?=some (some d)->∃v,σ[i]?=some (some v)/\aO K g α H d v
structure dW (K:PySem.W.Frag) (g:GG) (α:List Addr) (H:Hp) (env:En) (σ:St) (h:Hh):Prop where
 heap:aX K g α H h
 vs:kn K g α H env σ
noncomputable def WQ (K:PySem.W.Frag) (g:GG) (ε:EE) (α:List Addr) (H:Hp) {β:Type} (r:R β) (k:β->Hh->Prop):Prop:=match r with
 | .ok b h=>k b h
 | .err x h=>∀α' H',Ext K α H α' H'->aX K g α' H' h->ε α' H' x
 | .bad=>False
section
variable {K:PySem.W.Frag} {g:GG} {ε:EE} {α α':List Addr} {H H':Hp} {β γ:Type}
theorem WQ.bind {r:R β} {f:β->Hh->R γ} {k:γ->Hh->Prop} (w:WQ K g ε α H (r.bind f) k):WQ K g ε α H r fun b h=>WQ K g ε α H (f b h) k:=by
 cases r<;>exact w
theorem WQ.ext {r:R β} {k:β->Hh->Prop} (e:Ext K α H α' H') (w:WQ K g ε α H r k):WQ K g ε α' H' r k:=by
 cases r with
 | ok b h=>exact w
 | err x h=>exact fun a b c d=>w a b (e.trans c) d
 | bad=>exact w
theorem WQ.mono {r:R β} {k k':β->Hh->Prop} (w:WQ K g ε α H r k) (m:∀b h,r=.ok b h->k b h->k' b h):WQ K g ε α H r k':=by
 cases r with
 | ok b h=>exact m b h rfl w
 | err x h=>exact w
 | bad=>exact w
theorem kn.ext {env:En} {σ:St} (v:kn K g α H env σ) (e:Ext K α H α' H'):kn K g α' H' env σ:=
 ⟨v.len,fun i d h=>let ⟨x,a,b⟩:=v.vars i d h;⟨x,a,b.ext e⟩⟩
theorem dW.ext {env:En} {σ:St} {h h':Hh} (v:dW K g α H env σ h) (e:Ext K α H α' H') (r:aX K g α' H' h'):dW K g α' H' env σ h':=⟨r,v.vs.ext e⟩
theorem kn.set {env:En} {σ:St} {i:Nat} {d:D} {x:V} (v:kn K g α H env σ) (r:aO K g α H d x):kn K g α H (env.set i (some d)) (σ.set i (some x)):=by
 refine⟨by simp[v.len],fun j e h=>?_⟩
 rw[List.getElem?_set] at h ⊢
 by_cases hj:i=j
 ·subst hj
  rw[if_pos rfl] at h ⊢
  have hl:=v.len
  split at h
  ·rw[if_pos (by omega)]
   cases h
   exact⟨x,rfl,r⟩
  ·cases h
 ·rw[if_neg hj] at h ⊢
  exact v.vars j e h
end
noncomputable def aM (K:PySem.W.Frag) (g:GG) (α:List Addr) (H:Hp) (Q:VK):D->Hh->Prop:=fun d h=>∀v H' α',Ext K α H α' H'->aX K g α' H' h->aO K g α' H' d v->Q v H'
noncomputable def nI (K:PySem.W.Frag) (g:GG) (α:List Addr) (H:Hp) (Q:Bool->Hp->Prop):Bool->Hh->Prop:=fun b h=>∀H' α',Ext K α H α' H'->aX K g α' H' h->Q b H'
noncomputable def Jp (K:PySem.W.Frag) (g:GG) (α:List Addr) (H:Hp) (Q:List V->Hp->Prop):List D->Hh->Prop:=fun ds h=>∀vs H' α',Ext K α H α' H'->aX K g α' H' h->ax K g α' H' ds vs->Q vs H'
noncomputable def dh (K:PySem.W.Frag) (g:GG) (α:List Addr) (H:Hp) (E:Ends):Fl->Hh->Prop:=fun fl h=>∀H' α',Ext K α H α' H'->aX K g α' H' h->match fl with
 | .nx e=>∀σ,kn K g α' H' e σ->E.nx σ H'
 | .bk e=>∀σ,kn K g α' H' e σ->E.bk σ H'
 | .ct e=>∀σ,kn K g α' H' e σ->E.ct σ H'
 | .rt d=>∀v,aO K g α' H' d v->E.rt v H'
noncomputable def tM (K:PySem.W.Frag) (g:GG) (ε:EE) (m:ME):TE:=fun σ H Q=>∃α env h,dW K g α H env σ h/\WQ K g ε α H (m env h) (aM K g α H Q)
noncomputable def tMT (K:PySem.W.Frag) (g:GG) (ε:EE) (m:MT):TT:=fun σ H Q=>∃α env h,dW K g α H env σ h/\WQ K g ε α H (m env h) (nI K g α H Q)
noncomputable def tMA (K:PySem.W.Frag) (g:GG) (ε:EE) (m:MA):TA:=fun σ H Q=>∃α env h,dW K g α H env σ h/\WQ K g ε α H (m env h) (Jp K g α H Q)
noncomputable def tMS (K:PySem.W.Frag) (g:GG) (ε:EE) (m:MS):TS:=fun E σ H=>∃α env h,dW K g α H env σ h/\WQ K g ε α H (m env h) (dh K g α H E)
section
variable {K:PySem.W.Frag} {g:GG} {ε:EE} {α α':List Addr} {H H':Hp} {env:En} {σ:St} {h:Hh}
theorem aM.ext {Q:VK} {d:D} (e:Ext K α H α' H') (p:aM K g α H Q d h):aM K g α' H' Q d h:=fun v H2 α2 e2 r rd=>p v H2 α2 (e.trans e2) r rd
theorem nI.ext {Q:Bool->Hp->Prop} {d:Bool} (e:Ext K α H α' H') (p:nI K g α H Q d h):nI K g α' H' Q d h:=fun H2 α2 e2 r=>p H2 α2 (e.trans e2) r
theorem dh.ext {E:Ends} {d:Fl} (e:Ext K α H α' H') (p:dh K g α H E d h):dh K g α' H' E d h:=fun H2 α2 e2 r=>p H2 α2 (e.trans e2) r
theorem WQ.post {Q:VK} {r:R D} (e:Ext K α H α' H') (w:WQ K g ε α H r (aM K g α H Q)):WQ K g ε α' H' r (aM K g α' H' Q):=(w.ext e).mono fun _ _ _ p=>p.ext e
theorem WQ.II {Q:Bool->Hp->Prop} {r:R Bool} (e:Ext K α H α' H') (w:WQ K g ε α H r (nI K g α H Q)):WQ K g ε α' H' r (nI K g α' H' Q):=(w.ext e).mono fun _ _ _ p=>p.ext e
theorem WQ.yq {E:Ends} {r:R Fl} (e:Ext K α H α' H') (w:WQ K g ε α H r (dh K g α H E)):WQ K g ε α' H' r (dh K g α' H' E):=(w.ext e).mono fun _ _ _ p=>p.ext e
theorem tM.use {m:ME} {Q:VK} {k:D->Hh->Prop} (s:dW K g α H env σ h) (w:WQ K g ε α H (m env h) k)
  (q:∀d h' v H' α',Ext K α H α' H'->dW K g α' H' env σ h'->aO K g α' H' d v->k d h'->Q v H'):tM K g ε m σ H Q:=
 ⟨α,env,h,s,w.mono fun d h' _ kk v H' α' e r rd=>q d h' v H' α' e (s.ext e r) rd kk⟩
theorem tMT.use {m:MT} {Q:Bool->Hp->Prop} {k:Bool->Hh->Prop} (s:dW K g α H env σ h) (w:WQ K g ε α H (m env h) k)
  (q:∀d h' H' α',Ext K α H α' H'->dW K g α' H' env σ h'->k d h'->Q d H'):tMT K g ε m σ H Q:=
 ⟨α,env,h,s,w.mono fun d h' _ kk H' α' e r=>q d h' H' α' e (s.ext e r) kk⟩
theorem tMA.use {m:MA} {Q:List V->Hp->Prop} {k:List D->Hh->Prop} (s:dW K g α H env σ h) (w:WQ K g ε α H (m env h) k)
  (q:∀d h' v H' α',Ext K α H α' H'->dW K g α' H' env σ h'->ax K g α' H' d v->k d h'->Q v H'):tMA K g ε m σ H Q:=
 ⟨α,env,h,s,w.mono fun d h' _ kk v H' α' e r rd=>q d h' v H' α' e (s.ext e r) rd kk⟩
theorem aM.now {Q:VK} {d:D} {v:V} (p:aM K g α H Q d h) (r:aX K g α H h) (rd:aO K g α H d v):Q v H:=p v H α Ext.refl r rd
end
theorem PE.imp {X:Cx} {e:Expr} {t t':TE} (h:PE X e t) (i:∀σ H Q,t' σ H Q->t σ H Q):PE X e t':=fun pins s σ H Q I w=>h pins s σ H Q I (i σ H Q w)
theorem PT.imp {X:Cx} {e:Expr} {t t':TT} (h:PT X e t) (i:∀σ H Q,t' σ H Q->t σ H Q):PT X e t':=fun pins s σ H Q I w=>h pins s σ H Q I (i σ H Q w)
theorem PW.imp {X:Cx} {e:Expr} {t t':TT} (h:PW X e t) (i:∀σ H Q,t' σ H Q->t σ H Q):PW X e t':=fun wh pins s σ H Q I w=>h wh pins s σ H Q I (i σ H Q w)
theorem PA.imp {X:Cx} {e:List Expr} {t t':TA} (h:PA X e t) (i:∀σ H Q,t' σ H Q->t σ H Q):PA X e t':=fun p pins s σ H Q I w=>h p pins s σ H Q I (i σ H Q w)
theorem PS.imp {X:Cx} {e:Stmt} {t t':TS} (h:PS X e t) (i:∀σ H Q,t' σ H Q->t σ H Q):PS X e t':=fun pins s σ H Q I w=>h pins s σ H Q I (i Q σ H w)
theorem PSs.imp {X:Cx} {e:List Stmt} {t t':TS} (h:PSs X e t) (i:∀σ H Q,t' σ H Q->t σ H Q):PSs X e t':=fun pins s σ H Q I w=>h pins s σ H Q I (i Q σ H w)
noncomputable def ag (i:Nat):ME:=fun env h=>match env[i]? with
 | some (some d)=>.ok d h
 | _=>.bad
noncomputable def cC (d:D):ME:=fun _ h=>.ok d h
noncomputable def au (f:D->D->Hh->R D) (a b:ME):ME:=fun env h=>(a env h).bind fun x h1=>(b env h1).bind fun y h2=>f x y h2
noncomputable def cUn (f:D->Hh->R D) (a:ME):ME:=fun env h=>(a env h).bind fun x h1=>f x h1
noncomputable def aq:MA:=fun _ h=>.ok [] h
noncomputable def ae (a:ME) (r:MA):MA:=fun env h=>(a env h).bind fun x h1=>(r env h1).bind fun xs h2=>.ok (x::xs) h2
noncomputable def aj (f:List D->Hh->R D) (a:MA):ME:=fun env h=>(a env h).bind fun xs h1=>f xs h1
noncomputable def aU (f:D->Hh->R Bool) (a:ME):MT:=fun env h=>(a env h).bind fun x h1=>f x h1
noncomputable def lG (a:MT):MT:=fun env h=>(a env h).bind fun b h1=>.ok (!b) h1
noncomputable def Bz (a b:MT):MT:=fun env h=>(a env h).bind fun x h1=>if x=true then b env h1 else .ok false h1
noncomputable def tu (a b:MT):MT:=fun env h=>(a env h).bind fun x h1=>if x=true then .ok true h1 else b env h1
noncomputable def cIf (c:MT) (a b:ME):ME:=fun env h=>(c env h).bind fun x h1=>if x=true then a env h1 else b env h1
noncomputable def asB:D->Hh->R Bool
 | .bl b,h=>.ok b h
 | _,_=>.bad
noncomputable def yY (a b:ME):ME:=fun env h=>(a env h).bind fun x h1=>(asB x h1).bind fun k h2=>if k=true then b env h2 else .ok (.bl false) h2
noncomputable def B4 (a:ME):ME:=fun env h=>(a env h).bind fun x h1=>(asB x h1).bind fun k h2=>.ok (.bl (!k)) h2
noncomputable def uJ (f f':D->D->Hh->R D) (a b c:ME):ME:=fun env h=>(a env h).bind fun x h1=>(b env h1).bind fun y h2=>(f x y h2).bind fun z h3=>(asB z h3).bind fun k h4=>
 if k=true then (c env h4).bind fun w h5=>f' y w h5 else .ok (.bl false) h4
noncomputable def fc (K:PySem.W.Frag) (g:GG) (ε:EE) (f:D->D->Hh->R D) (r:R2):Prop:=
 ∀(α:List Addr) (H:Hp) (h:Hh) (a b:D) (x y:V) (Q:VK),aX K g α H h->aO K g α H a x->aO K g α H b y->WQ K g ε α H (f a b h) (aM K g α H Q)->r x y H Q
noncomputable def Jq (K:PySem.W.Frag) (g:GG) (ε:EE) (f:D->Hh->R D) (r:V->Hp->VK->Prop):Prop:=
 ∀(α:List Addr) (H:Hp) (h:Hh) (a:D) (x:V) (Q:VK),aX K g α H h->aO K g α H a x->WQ K g ε α H (f a h) (aM K g α H Q)->r x H Q
noncomputable def Jg (K:PySem.W.Frag) (g:GG) (ε:EE) (f:D->Hh->R Bool) (r:V->Hp->(Bool->Hp->Prop)->Prop):Prop:=
 ∀(α:List Addr) (H:Hp) (h:Hh) (a:D) (x:V) (Q:Bool->Hp->Prop),aX K g α H h->aO K g α H a x->WQ K g ε α H (f a h) (nI K g α H Q)->r x H Q
noncomputable def nY (K:PySem.W.Frag) (g:GG) (ε:EE) (f:List D->Hh->R D) (r:List V->Hp->VK->Prop):Prop:=
 ∀(α:List Addr) (H:Hp) (h:Hh) (a:List D) (x:List V) (Q:VK),aX K g α H h->ax K g α H a x->WQ K g ε α H (f a h) (aM K g α H Q)->r x H Q
noncomputable def F0 (K:PySem.W.Frag) (g:GG) (ε:EE) (f:D->List D->Hh->R D) (r:V->List V->Hp->VK->Prop):Prop:=
 ∀(α:List Addr) (H:Hp) (h:Hh) (o:D) (a:List D) (y:V) (x:List V) (Q:VK),aX K g α H h->aO K g α H o y->ax K g α H a x->WQ K g ε α H (f o a h) (aM K g α H Q)->r y x H Q
section
variable {X:Cx} {g:GG} {ε:EE} {a b c:Expr} {ma mb mc:ME} {pos:Pos}
theorem af (i:Nat) {x:Str} {pos:Pos} (hN:X.N[i]?=some x:=by rfl) (hv:Vis X.env.scope x:=by first | exact Or.inl rfl | exact Or.inr (Or.inl rfl) | exact Or.inr (Or.inr rfl)) (hd:(x == ("__debug__" : Str))=false:=by decide)
  (hcd:(x == ("__classdict__" : Str))=false:=by decide):PE X (.Name x pos) (tM X.K g ε (ag i)):=by
 refine PE.imp (Ds hN hv hd hcd) fun σ H Q ⟨α,env,h,s,w⟩=>?_
 unfold ag at w
 cases e:env[i]? with
 | none=>rw[e] at w;exact w.elim
 | some d=>
  cases d with
  | none=>rw[e] at w;exact w.elim
  | some d=>
   rw[e] at w
   obtain⟨v,hv,rd⟩:=s.vs.vars i d e
   exact⟨v,hv,aM.now w s.heap rd⟩
theorem rT {v:V} {d:D} {Q:VK} {σ:St} {H:Hp} (rd:∀α,aO X.K g α H d v) (t:tM X.K g ε (cC d) σ H Q):tC v σ H Q:=by
 obtain⟨α,env,h,s,w⟩:=t
 exact aM.now w s.heap (rd α)
theorem ao {i j pos}:PE X (.Constant (.int i) j pos) (tM X.K g ε (cC (.int i))):=PE.imp HX fun _ _ _ t=>rT (fun _=>.int i) t
theorem fH {i j pos}:PE X (.Constant (.bool i) j pos) (tM X.K g ε (cC (.bl i))):=PE.imp Jf fun _ _ _ t=>rT (fun _=>.bl i) t
theorem cU {i j pos}:PE X (.Constant (.str i) j pos) (tM X.K g ε (cC (.str i))):=PE.imp Ib fun _ _ _ t=>rT (fun _=>.str i) t
theorem pI {j pos}:PE X (.Constant .none j pos) (tM X.K g ε (cC .non)):=PE.imp G8 fun _ _ _ t=>rT (fun _=>.non) t
theorem oS {x:Str} {f:Addr} {pos:Pos} (hg:Gl X x) (hm:X.mg x=some (.ref f)) (hf:g x=some f) (hd:(x == ("__debug__" : Str))=false:=by decide):PE X (.Name x pos) (tM X.K g ε (cC (.fn x))):=
 PE.imp (zk (v:=.ref f) hg hm rfl hd) fun _ _ _ t=>rT (fun _=>.fn hf) t
theorem lV {x:Str} {i:Int} {t:Tok} {pos:Pos} (hg:Gl X x) (hm:X.mg x=some (.int i t)) (hd:(x == ("__debug__" : Str))=false:=by decide):PE X (.Name x pos) (tM X.K g ε (cC (.int i))):=
 PE.imp (zk (v:=.int i) hg hm ⟨t,rfl⟩ hd) fun _ _ _ t=>rT (fun _=>.int i) t
theorem tW {f:D->D->Hh->R D} {r:R2} {K:PySem.W.Frag} (im:fc K g ε f r) {σ:St} {H:Hp} {Q:VK} (t:tM K g ε (au f ma mb) σ H Q):tOp r (tM K g ε ma) (tM K g ε mb) σ H Q:=by
 obtain⟨α,env,h,s,w⟩:=t
 refine tM.use s w.bind fun d1 h1 v1 H1 α1 e1 s1 r1 w1=>?_
 refine tM.use s1 (w1.ext e1).bind fun d2 h2 v2 H2 α2 e2 s2 r2 w2=>?_
 exact im α2 H2 h2 d1 d2 v1 v2 Q s2.heap (r1.ext e2) r2 ((w2.ext e2).mono fun _ _ _ p=>p.ext (e1.trans e2))
theorem aw {op:Operator} {r:R2} {f:D->D->Hh->R D} (ho:OpR X (binaryOp op) r) (im:fc X.K g ε f r) (ha:PE X a (tM X.K g ε ma)) (hb:PE X b (tM X.K g ε mb)):PE X (.BinOp a op b pos) (tM X.K g ε (au f ma mb)):=
 PE.imp (JF ho ha hb) fun _ _ _ t=>tW im t
theorem BL {op:CmpOp} {r:R2} {f:D->D->Hh->R D} (ho:OpR X (compareOp op) r) (im:fc X.K g ε f r) (ha:PE X a (tM X.K g ε ma)) (hb:PE X b (tM X.K g ε mb)) (hm:behindInMarks op b=false):PE X (.Compare a [op] [b] pos) (tM X.K g ε (au f ma mb)):=
 PE.imp (EH ho ha hb hm) fun _ _ _ t=>tW im t
theorem Cd {K:PySem.W.Frag} {m:ME} {t:TE} (ht:∀σ H Q,tM K g ε m σ H Q->t σ H Q) {σ:St} {H:Hp} {Q:Bool->Hp->Prop} (w:tMT K g ε (aU asB m) σ H Q):Gp t σ H Q:=by
 obtain⟨α,env,h,s,w⟩:=w
 refine ht _ _ _ (tM.use s w.bind fun d1 h1 v1 H1 α1 e1 s1 r1 w1=>?_)
 unfold asB at w1
 cases r1 with
 | bl k=>exact⟨k,rfl,w1 H1 α1 e1 s1.heap⟩
 | _=>exact w1.elim
theorem bU {op:CmpOp} {r:R2} {f:D->D->Hh->R D} (ho:OpR X (compareOp op) r) (im:fc X.K g ε f r) (ha:PE X a (tM X.K g ε ma)) (hb:PE X b (tM X.K g ε mb)) (hm:behindInMarks op b=false):PT X (.Compare a [op] [b] pos) (tMT X.K g ε (aU asB (au f ma mb))):=
 PT.imp (E_ ho ha hb hm) fun _ _ _ t=>Cd (fun _ _ _ u=>tW im u) t
theorem zx {f f':D->D->Hh->R D} {r r':R2} {K:PySem.W.Frag} (im:fc K g ε f r) (im':fc K g ε f' r') {σ:St} {H:Hp} {Q:VK} (t:tM K g ε (uJ f f' ma mb mc) σ H Q):Bu r r' (tM K g ε ma) (tM K g ε mb) (tM K g ε mc) σ H Q:=by
 obtain⟨α,env,h,s,w⟩:=t
 refine tM.use s w.bind fun d1 h1 v1 H1 α1 e1 s1 r1 w1=>?_
 refine tM.use s1 (w1.ext e1).bind fun d2 h2 v2 H2 α2 e2 s2 r2 w2=>?_
 refine im α2 H2 h2 d1 d2 v1 v2 _ s2.heap (r1.ext e2) r2 ((w2.ext e2).bind.mono fun z h3 _ w3 v3 H3 α3 e3 hr3 r3=>?_)
 have w4:=w3.bind
 unfold asB at w4
 cases r3 with
 | bl k=>
  refine⟨k,rfl,?_⟩
  have s3:=s2.ext e3 hr3
  cases k with
  | true=>
   have w5:WQ K g ε α2 H2 ((mc env h3).bind fun w h5=>f' d2 w h5) _:=w4
   rw[if_pos rfl]
   refine tM.use s3 (w5.ext e3).bind fun d4 h4 v4 H4 α4 e4 s4 r4 w6=>?_
   exact im' α4 H4 h4 d2 d4 v2 v4 Q s4.heap (r2.ext (e3.trans e4)) r4 ((w6.ext e4).mono fun _ _ _ p=>p.ext (e1.trans (e2.trans (e3.trans e4))))
  | false=>
   rw[if_neg Bool.false_ne_true]
   have w5:aM K g α H Q (.bl false) h3:=w4
   exact w5 _ H3 α3 (e1.trans (e2.trans e3)) s3.heap (.bl false)
 | _=>exact w4.elim
theorem CU {op op':CmpOp} {r r':R2} {f f':D->D->Hh->R D} (ho:OpR X (compareOp op) r) (ho':OpR X (compareOp op') r') (im:fc X.K g ε f r) (im':fc X.K g ε f' r') (ha:PE X a (tM X.K g ε ma)) (hb:PE X b (tM X.K g ε mb)) (hc:PE X c (tM X.K g ε mc))
  (hm:lastMarks [op,op'] [b,c]=false:=by with_unfolding_all rfl):PE X (.Compare a [op,op'] [b,c] pos) (tM X.K g ε (uJ f f' ma mb mc)):=PE.imp (Cc ho ho' ha hb hc hm) fun _ _ _ t=>zx im im' t
theorem nu {op:UnaryOp} {r:V->Hp->VK->Prop} {f:D->Hh->R D} (ho:UnR X (unaryOp op) r) (im:Jq X.K g ε f r) (ha:PE X a (tM X.K g ε ma)):PE X (.UnaryOp op a pos) (tM X.K g ε (cUn f ma)):=
 PE.imp (JH ho ha) fun σ H Q ⟨α,env,h,s,w⟩=>tM.use s w.bind fun d1 h1 v1 H1 α1 e1 s1 r1 w1=>im α1 H1 h1 d1 v1 Q s1.heap r1 (w1.post e1)
theorem cS {r:R2} {f:D->D->Hh->R D} (hr:IxR X r) (im:fc X.K g ε f r) (ha:PE X a (tM X.K g ε ma)) (hb:PE X b (tM X.K g ε mb)) (hs:yx b):PE X (.Subscript a b pos) (tM X.K g ε (au f ma mb)):=
 PE.imp (IU hr ha hb hs) fun _ _ _ t=>tW im t
theorem gB {f:D->Hh->R Bool} (im:Jg X.K g ε f (fun x H Q=>∃k,Fq X.K x H k/\Q k H)) (ha:PE X a (tM X.K g ε ma)) (he:∀whole,isTrue a X.env whole=(do let v ← whole;standAt a.pos;holding [v] (truthy v))):PT X a (tMT X.K g ε (aU f ma)):=
 PT.imp (Bo ha he) fun σ H Q ⟨α,env,h,s,w⟩=>tM.use s w.bind fun d1 h1 v1 H1 α1 e1 s1 r1 w1=>im α1 H1 h1 d1 v1 Q s1.heap r1 (w1.II e1)
theorem qc {mt:MT} (ha:PT X a (tMT X.K g ε mt)):PT X (.UnaryOp .Not a pos) (tMT X.K g ε (lG mt)):=
 PT.imp (HY ha) fun σ H Q ⟨α,env,h,s,w⟩=>tMT.use s w.bind fun d1 h1 H1 α1 e1 s1 w1=>w1 H1 α1 e1 s1.heap
end
section
variable {X:Cx} {g:GG} {ε:EE} {a b c e:Expr} {es:List Expr} {rest:List Expr} {ma mb mc me:ME} {mt mu:MT} {pos:Pos}
theorem EZ (ha:PT X a (tMT X.K g ε mt)):PW X (.BoolOp .And [a] pos) (tMT X.K g ε mt):=pw_and1 ha
theorem uI (ha:PT X a (tMT X.K g ε mt)):PW X (.BoolOp .Or [a] pos) (tMT X.K g ε mt):=pw_or1 ha
theorem Iv (ha:PT X a (tMT X.K g ε mt)) (hb:PW X (.BoolOp .And (b::rest) pos) (tMT X.K g ε mu)):PW X (.BoolOp .And (a::b::rest) pos) (tMT X.K g ε (Bz mt mu)):=
 PW.imp (pw_and ha hb) fun σ H Q ⟨α,env,h,s,w⟩=>tMT.use s w.bind fun d1 h1 H1 α1 e1 s1 w1=>by
  cases d1 with
  | true=>rw[if_pos rfl] at w1 ⊢;exact tMT.use s1 (w1.ext e1) fun d2 h2 H2 α2 e2 s2 w2=>w2 H2 α2 (e1.trans e2) s2.heap
  | false=>rw[if_neg Bool.false_ne_true] at w1 ⊢;exact w1 H1 α1 e1 s1.heap
theorem yG (ha:PT X a (tMT X.K g ε mt)) (hb:PW X (.BoolOp .Or (b::rest) pos) (tMT X.K g ε mu)):PW X (.BoolOp .Or (a::b::rest) pos) (tMT X.K g ε (tu mt mu)):=
 PW.imp (pw_or ha hb) fun σ H Q ⟨α,env,h,s,w⟩=>tMT.use s w.bind fun d1 h1 H1 α1 e1 s1 w1=>by
  cases d1 with
  | true=>rw[if_pos rfl] at w1 ⊢;exact w1 H1 α1 e1 s1.heap
  | false=>rw[if_neg Bool.false_ne_true] at w1 ⊢;exact tMT.use s1 (w1.ext e1) fun d2 h2 H2 α2 e2 s2 w2=>w2 H2 α2 (e1.trans e2) s2.heap
theorem j6 (hc:PT X c (tMT X.K g ε mt)) (ha:PE X a (tM X.K g ε ma)) (hb:PE X b (tM X.K g ε mb)):PE X (.IfExp c a b pos) (tM X.K g ε (cIf mt ma mb)):=
 PE.imp (Cn hc ha hb) fun σ H Q ⟨α,env,h,s,w⟩=>tMT.use s w.bind fun d1 h1 H1 α1 e1 s1 w1=>by
  cases d1 with
  | true=>rw[if_pos rfl] at w1 ⊢;exact tM.use s1 (w1.ext e1) fun d2 h2 v2 H2 α2 e2 s2 r2 w2=>w2 v2 H2 α2 (e1.trans e2) s2.heap r2
  | false=>rw[if_neg Bool.false_ne_true] at w1 ⊢;exact tM.use s1 (w1.ext e1) fun d2 h2 v2 H2 α2 e2 s2 r2 w2=>w2 v2 H2 α2 (e1.trans e2) s2.heap r2
theorem DC {op} (h:PE X a (tM X.K g ε ma)):PE X (.BoolOp op [a] pos) (tM X.K g ε ma):=Hj h
theorem Dq {K:PySem.W.Frag} {α:List Addr} {H H1:Hp} {α1:List Addr} {d:D} {v:V} {h:Hh} {β:Type} {f:Bool->Hh->R β} {k:β->Hh->Prop} (r:aO K g α1 H1 d v) (w:WQ K g ε α H ((asB d h).bind f) k):∃b,v=.bl b/\d=.bl b/\WQ K g ε α H (f b h) k:=by
 cases r with
 | bl b=>exact⟨b,rfl,rfl,w⟩
 | _=>exact w.elim
theorem CS (ha:PE X a (tM X.K g ε ma)) (hb:PE X (.BoolOp .And (b::rest) pos) (tM X.K g ε mb)):PE X (.BoolOp .And (a::b::rest) pos) (tM X.K g ε (yY ma mb)):=
 PE.imp (G7 ha hb) fun σ H Q ⟨α,env,h,s,w⟩=>tM.use s w.bind fun d1 h1 v1 H1 α1 e1 s1 r1 w1=>by
  obtain⟨k,rfl,rfl,w2⟩:=Dq r1 w1
  refine⟨k,rfl,?_⟩
  cases k with
  | true=>rw[if_pos rfl] at w2 ⊢;exact tM.use s1 (w2.ext e1) fun d2 h2 v2 H2 α2 e2 s2 r2 w2=>w2 v2 H2 α2 (e1.trans e2) s2.heap r2
  | false=>rw[if_neg Bool.false_ne_true] at w2 ⊢;exact w2 _ H1 α1 e1 s1.heap (.bl false)
theorem Iq (ha:PE X a (tM X.K g ε ma)):PE X (.UnaryOp .Not a pos) (tM X.K g ε (B4 ma)):=
 PE.imp (GP ha) fun σ H Q ⟨α,env,h,s,w⟩=>tM.use s w.bind fun d1 h1 v1 H1 α1 e1 s1 r1 w1=>by
  obtain⟨k,rfl,rfl,w2⟩:=Dq r1 w1
  exact⟨k,rfl,w2 _ H1 α1 e1 s1.heap (.bl _)⟩
variable {mr:MA}
theorem ak:PA X [] (tMA X.K g ε aq):=PA.imp k6 fun σ H Q ⟨α,env,h,s,w⟩=>w [] H α Ext.refl s.heap .nil
theorem aa (ha:PE X e (tM X.K g ε ma)) (hr:PA X es (tMA X.K g ε mr)) (hs:starEach (e::es) X.env=(false,eval e X.env)::starEach es X.env:=by rfl):PA X (e::es) (tMA X.K g ε (ae ma mr)):=
 PA.imp (fD ha hr hs) fun σ H Q ⟨α,env,h,s,w⟩=>tM.use s w.bind fun d1 h1 v1 H1 α1 e1 s1 r1 w1=>tMA.use s1 (w1.ext e1).bind fun d2 h2 v2 H2 α2 e2 s2 r2 w2=>w2 _ H2 α2 (e1.trans e2) s2.heap (.cons (r1.ext e2) r2)
noncomputable def bY:List D->Hh->R D:=fun ds h=>if ds.length<=1000000 then .ok (.tup ds) h else .bad
theorem aM.tup {K:PySem.W.Frag} {α:List Addr} {H:Hp} {h:Hh} {ds:List D} {vs:List V} {Q:VK} {p:Addr} (w:aM K g α H Q (.tup ds) h) (r:aX K g α H h) (rd:ax K g α H ds vs) (n:H p=none):Q (.ref p) (upd H p (.tup vs)):=
 w _ _ α (Ext.fresh n) (r.grow n) (.tup aZ (rd.ext (Ext.fresh n)))
theorem WQ.eF {K:PySem.W.Frag} {α:List Addr} {H:Hp} {β:Type} {c:Prop} [Decidable c] {r:R β} {k:β->Hh->Prop} (w:WQ K g ε α H (if c then r else .bad) k):c/\WQ K g ε α H r k:=by
 by_cases h:c
 ·rw[if_pos h] at w;exact⟨h,w⟩
 ·rw[if_neg h] at w;exact w.elim
theorem gJ {n:Nat} (h:n<=1000000):n<=sizeLine:=by rw[sizeLine_eq];omega
theorem bQ {x1} (ha:PA X es (tMA X.K g ε mr)):PE X (.Tuple es x1 pos) (tM X.K g ε (aj bY mr)):=
 PE.imp (Hg ha) fun σ H Q ⟨α,env,h,s,w⟩=>tMA.use s w.bind fun d1 h1 v1 H1 α1 e1 s1 r1 w1=>by
  obtain⟨hl,w2⟩:=WQ.eF w1
  exact⟨gJ (by rw[<- r1.length];exact hl),fun p hp=>aM.tup (aM.ext e1 w2) s1.heap r1 hp⟩
theorem Be {f:List D->Hh->R D} {r:List V->Hp->VK->Prop} {K:PySem.W.Frag} (im:nY K g ε f r) {σ:St} {H:Hp} {Q:VK} (t:tM K g ε (aj f mr) σ H Q):tCB r (tMA K g ε mr) σ H Q:=by
 obtain⟨α,env,h,s,w⟩:=t
 exact tMA.use s w.bind fun d1 h1 v1 H1 α1 e1 s1 r1 w1=>im α1 H1 h1 d1 v1 Q s1.heap r1 (w1.post e1)
theorem cn {id:String} {x:Str} {p:Pos} {f:List D->Hh->R D} {r:List V->Hp->VK->Prop} (hc:bp X (.builtin id) r) (im:nY X.K g ε f r) (hg:Gl X x) (hm:X.mg x=none) (hv:bootBuiltins x=some (.builtin id)) (ha:PA X (e::es) (tMA X.K g ε mr)) (hn:x≠"__name__" := by decide) (hdb:(x == ("__debug__" : Str))=false:=by decide)
  (he:starEach (e::es) X.env=(false,eval e X.env)::starEach es X.env:=by rfl) (hpl:(backTo pos (starEach es X.env)).any (·.1)=false:=by rfl):PE X (.Call (.Name x p) (e::es) [] pos) (tM X.K g ε (aj f mr)):=
 PE.imp (lS hc hg hm hv ha hn hdb he hpl) fun _ _ _ t=>Be im t
theorem iu {id:String} {x:Str} {p:Pos} {f:List D->Hh->R D} {r:List V->Hp->VK->Prop} (hc:bp X (.type id) r) (im:nY X.K g ε f r) (hg:Gl X x) (hm:X.mg x=none) (hv:bootBuiltins x=some (.type id)) (ha:PA X (e::es) (tMA X.K g ε mr)) (hn:x≠"__name__" := by decide) (hdb:(x == ("__debug__" : Str))=false:=by decide)
  (he:starEach (e::es) X.env=(false,eval e X.env)::starEach es X.env:=by rfl) (hpl:(backTo pos (starEach es X.env)).any (·.1)=false:=by rfl):PE X (.Call (.Name x p) (e::es) [] pos) (tM X.K g ε (aj f mr)):=
 PE.imp (mW hc hg hm hv ha hn hdb he hpl) fun _ _ _ t=>Be im t
end
noncomputable def cL:MS:=fun env h=>.ok (.nx env) h
noncomputable def FL:MS:=fun env h=>.ok (.bk env) h
noncomputable def aE (a b:MS):MS:=fun env h=>(a env h).bind fun fl h1=>match fl with
 | .nx e=>b e h1
 | fl=>.ok fl h1
noncomputable def eB (a:ME):MS:=fun env h=>(a env h).bind fun _ h1=>.ok (.nx env) h1
noncomputable def bD (a:ME):MS:=fun env h=>(a env h).bind fun d h1=>.ok (.rt d) h1
noncomputable def eL (c:MT) (a b:MS):MS:=fun env h=>(c env h).bind fun x h1=>if x=true then a env h1 else b env h1
noncomputable def bC (i:Nat) (a:ME):MS:=fun env h=>(a env h).bind fun d h1=>.ok (.nx (env.set i (some d))) h1
noncomputable def uV (i j:Nat) (a:MA):MS:=fun env h=>(a env h).bind fun ds h1=>match ds with
 | [x,y]=>.ok (.nx ((env.set i (some x)).set j (some y))) h1
 | _=>.bad
noncomputable def Aj (i:Nat) (f:D->D->Hh->R D) (a:ME):MS:=fun env h=>(ag i env h).bind fun x h0=>(a env h0).bind fun y h1=>(f x y h1).bind fun z h2=>.ok (.nx (env.set i (some z))) h2
noncomputable def sX (f:D->D->D->Hh->R Unit) (o i v:ME):MS:=fun env h=>(v env h).bind fun x h1=>(o env h1).bind fun y h2=>(i env h2).bind fun z h3=>(f y z x h3).bind fun _ h4=>.ok (.nx env) h4
noncomputable def lF:MS:=fun _ _=>.bad
section
variable {X:Cx} {g:GG} {ε:EE} {e:Expr} {me:ME} {ms mu:MS} {mt:MT} {st:Stmt} {rest:List Stmt} {pos:Pos}
theorem dW.nx {K:PySem.W.Frag} {α α':List Addr} {H H':Hp} {env:En} {σ:St} {h':Hh} {E:Ends} (s:dW K g α' H' env σ h') (e:Ext K α H α' H') (w:dh K g α H E (.nx env) h'):E.nx σ H':=w H' α' e s.heap σ s.vs
theorem cD:PSs X [] (tMS X.K g ε cL):=PSs.imp D6 fun E σ H ⟨α,env,h,s,w⟩=>s.nx Ext.refl w
theorem Jo:PS X (.Break pos) (tMS X.K g ε FL):=PS.imp Bi fun E σ H ⟨α,env,h,s,w⟩=>(show dh X.K g α H E (.bk env) h from w) H α Ext.refl s.heap σ s.vs
theorem tMS.use {K:PySem.W.Frag} {α:List Addr} {H:Hp} {env:En} {σ:St} {h:Hh} {m:MS} {E:Ends} {k:Fl->Hh->Prop} (s:dW K g α H env σ h) (w:WQ K g ε α H (m env h) k)
  (q:∀fl h' H' α',Ext K α H α' H'->aX K g α' H' h'->k fl h'->match fl with
   | .nx e=>∀σ',dW K g α' H' e σ' h'->E.nx σ' H'
   | .bk e=>∀σ',dW K g α' H' e σ' h'->E.bk σ' H'
   | .ct e=>∀σ',dW K g α' H' e σ' h'->E.ct σ' H'
   | .rt d=>∀v,aO K g α' H' d v->E.rt v H'):tMS K g ε m E σ H:=
 ⟨α,env,h,s,w.mono fun fl h' _ kk H' α' e r=>by
  have:=q fl h' H' α' e r kk
  cases fl with
  | nx e=>exact fun σ' v=>this σ' ⟨r,v⟩
  | bk e=>exact fun σ' v=>this σ' ⟨r,v⟩
  | ct e=>exact fun σ' v=>this σ' ⟨r,v⟩
  | rt d=>exact this⟩
theorem av (h1:PS X st (tMS X.K g ε ms)) (h2:PSs X rest (tMS X.K g ε mu)):PSs X (st::rest) (tMS X.K g ε (aE ms mu)):=
 PSs.imp (Dp h1 h2) fun E σ H ⟨α,env,h,s,w⟩=>tMS.use s w.bind fun fl h' H' α' e r kk=>by
  cases fl with
  | nx env'=>exact fun σ' s'=>⟨α',env',h',s',WQ.yq e kk⟩
  | bk env'=>exact fun σ' s'=>(show dh X.K g α H E (.bk env') h' from kk) H' α' e r σ' s'.vs
  | ct env'=>exact fun σ' s'=>(show dh X.K g α H E (.ct env') h' from kk) H' α' e r σ' s'.vs
  | rt d=>exact fun v rv=>(show dh X.K g α H E (.rt d) h' from kk) H' α' e r v rv
theorem az (h1:PS X st (tMS X.K g ε ms)):PSs X [st] (tMS X.K g ε ms):=yN h1
theorem fv (he:PE X e (tM X.K g ε me)) (hs:swapsWith e none pos.line X.env=pure false:=by rfl):PS X (.Expr e pos) (tMS X.K g ε (eB me)):=
 PS.imp (EJ he hs) fun E σ H ⟨α,env,h,s,w⟩=>tM.use s w.bind fun d1 h1 v1 H1 α1 e1 s1 r1 w1=>s1.nx e1 w1
theorem bB (he:PE X e (tM X.K g ε me)):PS X (.Return (some e) pos) (tMS X.K g ε (bD me)):=
 PS.imp (DL he) fun E σ H ⟨α,env,h,s,w⟩=>tM.use s w.bind fun d1 h1 v1 H1 α1 e1 s1 r1 w1=>(show dh X.K g α H E (.rt d1) h1 from w1) H1 α1 e1 s1.heap v1 r1
theorem jz {c:Expr} {A B:List Stmt} (hc:PT X c (tMT X.K g ε mt)) (ha:PSs X A (tMS X.K g ε ms)) (hb:PSs X B (tMS X.K g ε mu)):PS X (.If c A B pos) (tMS X.K g ε (eL mt ms mu)):=
 PS.imp (IM hc ha hb) fun E σ H ⟨α,env,h,s,w⟩=>tMT.use s w.bind fun d1 h1 H1 α1 e1 s1 w1=>by
  cases d1 with
  | true=>rw[if_pos rfl] at w1 ⊢;exact⟨α1,env,h1,s1,WQ.yq e1 w1⟩
  | false=>rw[if_neg Bool.false_ne_true] at w1 ⊢;exact⟨α1,env,h1,s1,WQ.yq e1 w1⟩
theorem ck {i:Nat} {x:Str} {pos':Pos} (hN:X.N.Nodup) (hi:X.N[i]?=some x) (hx:Loc X.env.scope x) (he:PE X e (tM X.K g ε me)) (hs:swapsWith e (some (.Name x pos')) pos.line X.env=pure false:=by rfl) (hf:X.fn x=true\/X.env.scope.names.lookup x=some .local:=by first | exact .inl rfl | exact .inr rfl | assumption) :
  PS X (.Assign [.Name x pos'] e pos) (tMS X.K g ε (bC i me)):=
 PS.imp (HF hN hi hx he hs hf) fun E σ H ⟨α,env,h,s,w⟩=>tM.use s w.bind fun d1 h1 v1 H1 α1 e1 s1 r1 w1=>(show dh X.K g α H E (.nx (env.set i (some d1))) h1 from w1) H1 α1 e1 s1.heap _ (s1.vs.set r1)
theorem Ja {i j:Nat} {x y:Str} {a b:Expr} {ma:MA} {px py pt:Pos} {kt k2 pt2} (hc:X.calm=true) (hN:X.N.Nodup) (hi:X.N[i]?=some x) (hj:X.N[j]?=some y) (hij:i≠j)
  (hx:X.env.scope.names.lookup x=some .local) (hy:X.env.scope.names.lookup y=some .local) (ha:PA X [a,b] (tMA X.K g ε ma))
  (hw:swappedStores [.Tuple [.Name x px,.Name y py] kt pt] (.Tuple [a,b] k2 pt2) X.env=pure (some [x,y]))
  (hs:swapsWithSole [.Tuple [.Name x px,.Name y py] kt pt] (.Tuple [a,b] k2 pt2) pos.line X.env=pure false:=by rfl) :
  PS X (.Assign [.Tuple [.Name x px,.Name y py] kt pt] (.Tuple [a,b] k2 pt2) pos) (tMS X.K g ε (uV i j ma)):=
 PS.imp (H0 hc hN hi hj hij hx hy ha hw hs) fun E σ H ⟨α,env,h,s,w⟩=>tMA.use s w.bind fun d1 h1 v1 H1 α1 e1 s1 r1 w1=>by
  cases r1 with
  | nil=>exact w1.elim
  | cons ra rr=>
   cases rr with
   | nil=>exact w1.elim
   | cons rb rr=>
    cases rr with
    | nil=>exact⟨_,_,rfl,(show dh X.K g α H E (.nx _) h1 from w1) H1 α1 e1 s1.heap _ ((s1.vs.set ra).set rb)⟩
    | cons _ _=>exact w1.elim
theorem CZ {i:Nat} {x:Str} {op:Operator} {ti:TIp} {f:D->D->Hh->R D} {pos':Pos} (hN:X.N.Nodup) (hi:X.N[i]?=some x) (hx:Loc X.env.scope x) (he:PE X e (tM X.K g ε me)) (ho:PIp X op ti) (im:fc X.K g ε f ti) (hf:X.fn x=true\/X.env.scope.names.lookup x=some .local:=by first | exact .inl rfl | exact .inr rfl | assumption) :
  PS X (.AugAssign (.Name x pos') op e pos) (tMS X.K g ε (Aj i f me)):=
 PS.imp (IE hN hi hx he ho hf) fun E σ H ⟨α,env,h,s,w⟩=>by
  have w0:=w.bind
  unfold ag at w0
  cases ei:env[i]? with
  | none=>rw[ei] at w0;exact w0.elim
  | some d=>
   cases d with
   | none=>rw[ei] at w0;exact w0.elim
   | some d=>
    rw[ei] at w0
    have w1:WQ X.K g ε α H ((me env h).bind _) _:=w0
    obtain⟨v,hv,rd⟩:=s.vs.vars i d ei
    refine⟨v,hv,tM.use s w1.bind fun d1 h1 v1 H1 α1 e1 s1 r1 w2=>?_⟩
    refine im α1 H1 h1 d d1 v v1 _ s1.heap (rd.ext e1) r1 ((w2.ext e1).bind.mono fun z h2 _ w3 v3 H3 α3 e3 hr3 r3=>?_)
    exact(show dh X.K g α H E (.nx _) h2 from w3) H3 α3 (e1.trans e3) hr3 _ ((s1.vs.ext e3).set r3)
noncomputable def IY (K:PySem.W.Frag) (g:GG) (ε:EE) (f:D->D->D->Hh->R Unit) (t:Ba):Prop:=
 ∀(α:List Addr) (H:Hp) (h:Hh) (o i v:D) (x y z:V) (Q:Hp->Prop),aX K g α H h->aO K g α H o x->aO K g α H i y->aO K g α H v z->WQ K g ε α H (f o i v h) (fun _ h'=>∀H' α',Ext K α H α' H'->aX K g α' H' h'->Q H')->t x y z H Q
theorem yW {o i:Expr} {mo mi:ME} {t:Ba} {f:D->D->D->Hh->R Unit} {p:Pos} (he:PE X e (tM X.K g ε me)) (ho:PE X o (tM X.K g ε mo)) (hi:PE X i (tM X.K g ε mi)) (hp:Ht X t) (im:IY X.K g ε f t)
  (ha:∀v,assign (.Subscript o i p) X.env v=(do
   let ov ← holding [v] (eval o X.env)
   let iv ← holding [v,ov] (eval i X.env)
   standAt p
   holding [v,ov,iv] (setItem ov iv v)
   release [v,ov,iv] []):=by intro _;rfl)
  (hs:swapsWithSole [.Subscript o i p] e pos.line X.env=pure false:=by rfl) (hw:swappedStores [.Subscript o i p] e X.env=pure none:=by rfl)
  (h1:(assignEach [.Subscript o i p] X.env).map (·.2)=[assign (.Subscript o i p) X.env]:=by rfl):PS X (.Assign [.Subscript o i p] e pos) (tMS X.K g ε (sX f mo mi me)):=
 PS.imp (xo he (Hf ho hi hp ha) hs hw h1) fun E σ H ⟨α,env,h,s,w⟩=>tM.use s w.bind fun d1 h1 v1 H1 α1 e1 s1 r1 w1=>tM.use s1 (w1.ext e1).bind fun d2 h2 v2 H2 α2 e2 s2 r2 w2=>tM.use s2 (w2.ext e2).bind fun d3 h3 v3 H3 α3 e3 s3 r3 w3=>by
  refine im α3 H3 h3 d2 d3 d1 v2 v3 v1 _ s3.heap (r2.ext e3) r3 ((r1.ext e2).ext e3) ((w3.ext e3).bind.mono fun _ h4 _ w4 H4 α4 e4 hr4=>?_)
  exact(show dh X.K g α H E (.nx env) h4 from w4) H4 α4 (e1.trans (e2.trans (e3.trans e4))) hr4 _ (s3.vs.ext e4)
end
theorem yg {X:Cx} {pins:List (Addr × Obj)} {σ:St} {H:Hp} {s:Shared} {p:Addr} {u:HO} (I:Inv X pins σ H s) (h:H p=some u) (mu:Mut (some u)):∃o,Inv X pins σ (upd H p (.frz o u)) s:=by
 obtain⟨o,ho⟩:∃o,s.heap.get? p=some o:=by
  have hl:=(I.hok p _ h).lt
  cases e:s.heap.get? p with
  | some o=>exact⟨o,rfl⟩
  | none=> 
   have q:=I.hok p _ h
   cases u with
   | lst xs=>obtain⟨_,_,_,_,e'⟩:=q;rw[e] at e';cases e'
   | dK kvs=>obtain⟨_,_,_,_,o,_,_,e',_⟩:=q;rw[e] at e';cases e'
   | dT kvs=>obtain⟨_,_,_,_,o,_,_,e',_⟩:=q;rw[e] at e';cases e'
   | set S n=>obtain⟨o,_,_,_,e',_⟩:=q;rw[e] at e';cases e'
   | ins C dx fs=>obtain⟨_,_,_,e',_⟩:=q;rw[e] at e';cases e'
   | ext φ=>obtain⟨_,⟨_,e'⟩,_⟩:=q;rw[e] at e';cases e'
   | _=>exact absurd mu (fun z=>z)
 have nt:∀b xs,H b=some (.tup xs)->b≠p:=fun b xs e z=>by subst z;rw[h] at e;cases e;exact mu
 have nf:∀b o u,H b=some (.frz o u)->b≠p:=fun b o u e z=>by subst z;rw[h] at e;cases e;exact mu
 have nb:∀b ps,H b=some (.tbl ps)->b≠p:=fun b ps e z=>by subst z;rw[h] at e;cases e;exact mu
 have no:∀b y,H b=some (.own y)->b≠p:=fun b ps e z=>by subst z;rw[h] at e;cases e;exact mu
 have hok:HOk X.prog X.w (upd H p (.frz o u)) s.heap:=fun b v q=>by
  by_cases hb:b=p
  ·subst hb
   rw[aZ] at q;cases q
   exact⟨ho,(I.hok b _ h).kr (fun _ _ _ z=>z) (fun c z=>by rw[aD (no c _ z)];exact z) fun c xs z=>by rw[aD (nt c xs z)];exact z⟩
  ·rw[aD hb] at q
   exact(I.hok b v q).kr (fun _ _ _ z=>z) (fun c z=>by rw[aD (no c _ z)];exact z) fun c xs z=>by rw[aD (nt c xs z)];exact z
 refine⟨o,?_⟩
 have np:∀b,H b=none->b≠p:=fun b e z=>by subst z;rw[h] at e;cases e
 have:=I.un (H':=upd H p (.frz o u)) (h':=s.heap) (t':=s.toks) ⟨fun b o q _ _ _=>q,fun b o q _ _ _=>⟨o.slots,q⟩,fun b v q n _=>(by rw[aD (np b n)];exact n),fun b o q _=>⟨o,q⟩,fun b xs q=>(by rw[aD (nt b xs q)];exact q),fun b o v q=>(by rw[aD (nf b o v q)];exact q),fun b ps q=>⟨#[],by rw[aD (nb b ps q),q];simp⟩⟩ hok
 exact this
noncomputable def jN (Q:VK):VK:=fun v H=>Q v H\/∃p u,v=.ref p/\H p=some u/\Mut (some u)/\∀o,Q v (upd H p (.frz o u))
theorem EP.frz {X:Cx} {pins:List (Addr × Obj)} {σ:St} {Q:VK} {u:Value} {s':Shared} (h:EP X pins σ (jN Q) u s'):EP X pins σ Q u s':=by
 obtain⟨v,H',I,r,q | ⟨p,u,rfl,e,m,q⟩⟩:=h
 ·exact⟨v,H',I,r,q⟩
 ·obtain⟨o,I'⟩:=yg I e m
  exact⟨_,_,I',r,q o⟩
theorem PE.frz {X:Cx} {e:Expr} {t:TE} (h:PE X e t):PE X e fun σ H Q=>t σ H (jN Q):=fun pins s σ H Q I w=>thn (h pins s σ H _ I w) fun _ _ z=>EP.frz z
theorem OpR.frz {X:Cx} {f:Value->Value->Sem Value} {r:R2} (h:OpR X f r):OpR X f fun x y H Q=>r x y H (jN Q):=fun pins s σ H x y v u Q I rx ry q=>thn (h pins s σ H x y v u _ I rx ry q) fun _ _ z=>EP.frz z
theorem bp.frz {X:Cx} {f:Value} {r:List V->Hp->VK->Prop} (h:bp X f r):bp X f fun xs H Q=>r xs H (jN Q):=fun pins s σ H xs us Q I rx q=>thn (h pins s σ H xs us _ I rx q) fun _ _ z=>EP.frz z
noncomputable def JY (D:Ends):Ends:={ D with nx:=fun σ H=>D.nx σ H\/∃p u,H p=some u/\Mut (some u)/\∀o,D.nx σ (upd H p (.frz o u)) }
theorem PS.frz {X:Cx} {st:Stmt} {t:TS} (h:PS X st t):PS X st fun E σ H=>t (JY E) σ H:=fun pins s σ H E I w=>thn (h pins s σ H _ I w) fun fl s' z=>by
 cases fl with
 | next=>
  obtain⟨σ',H',I,q | ⟨p,u,e,m,q⟩⟩:=z
  ·exact⟨σ',H',I,q⟩
  ·obtain⟨o,I'⟩:=yg I e m
   exact⟨σ',_,I',q o⟩
 | brk=>exact z
 | cont=>exact z
 | ret u=>exact z
theorem Ey {E:Ends} {σ:St} {i:Nat} {v:V} {H1:Hp} (z:jN (fun v H1=>E.nx (σ.set i (some v)) H1) v H1):(JY E).nx (σ.set i (some v)) H1:=by
 rcases z with z | ⟨p,u,_,e,m,q⟩
 ·exact .inl z
 ·exact .inr ⟨p,u,e,m,q⟩
noncomputable abbrev NL:=List D->Hh->R D
noncomputable def wN:NL:=fun ys h2=>.ok (.ref h2.length) (h2++[O.lst ys])
noncomputable def aG:NL:=fun ys h2=>.ok (.frl ys) h2
class kW (nl:NL):Prop where
 at':∀{K:PySem.W.Frag} {g:GG} {ε:EE} {α1 α2:List Addr} {H1 H2:Hp} {h:Hh} {as:List D} {ys:List V} {acc:Addr} {Q:D->Hh->Prop} {R:VK},WQ K g ε α1 H1 (nl as h) Q->(∀d h',Q d h'->aM K g α1 H1 R d h')->Ext K α1 H1 α2 H2->aX K g α2 H2 h->ax K g α2 H2 as ys->H2 acc=some (.lst ys)->acc∉α2->H1 acc=none->jN R (.ref acc) H2
instance:kW wN where
 at':=fun{K g ε α1 α2 H1 H2 h as ys acc Q R} w hq x2 hr2 ra ha hna hacc=>by
  have x3:Ext K α1 H1 (α2++[acc]) H2:=⟨x2.toEx0.trans (Ex0.refl.more _),x2.kept,fun p z n=>by
   rcases List.mem_append.mp z with z | z
   ·exact x2.new p z n
   ·rw[List.mem_singleton.mp z];exact hacc⟩
  refine .inl (hq _ _ w _ H2 (α2++[acc]) x3 (hr2.adopt hna ⟨ys,ha,ra.ex0 (Ex0.refl.more _)⟩) (.ref ?_))
  rw[<- hr2.len,List.getElem?_append_right (Nat.le_refl _)];simp
instance:kW aG where
 at':=fun{K g ε α1 α2 H1 H2 h as ys acc Q R} w hq x2 hr2 ra ha hna hacc=>by
  refine .inr ⟨acc,_,rfl,ha,trivial,fun o=>?_⟩
  have soft:Ei H2 acc:=.inr ⟨_,ha,fun _ z=>(nomatch z),fun _ _ z=>(nomatch z),fun _ z=>nomatch z⟩
  have x6:Ex0 K α2 H2 α2 (upd H2 acc (.frz o (.lst ys))):=Ex0.upd soft
  refine hq _ _ w _ _ α2 ⟨x2.toEx0.trans x6,fun p u z n nt=>?_,x2.new⟩ (hr2.off soft hna) (.frl ⟨o,aZ⟩ (ra.ex0 x6))
  rw[aD (aP z hacc)];exact x2.kept p u z n nt
theorem NL.post {nl:NL} [kW nl] {K:PySem.W.Frag} {g:GG} {ε:EE} {α:List Addr} {H:Hp} {h:Hh} {ds:List D} {vs:List V} {Q:VK} {p:Addr} (w:WQ K g ε α H (nl ds h) (aM K g α H Q)) (r:aX K g α H h) (rd:ax K g α H ds vs) (n:H p=none):jN Q (.ref p) (upd H p (.lst vs)):=
 kW.at' w (fun _ _ z=>z) (Ext.fresh n) (r.grow n) (rd.ext (Ext.fresh n)) aZ (r.free n) n
noncomputable def dH (nl:NL):List D->Hh->R D:=fun ds h=>if ds.length<=1000000 then nl ds h else .bad
theorem cz {X:Cx} {g:GG} {ε:EE} {es:List Expr} {mr:MA} {pos:Pos} {nl:NL} [kW nl] (ha:PA X es (tMA X.K g ε mr)):PE X (.List es pos) (tM X.K g ε (aj (dH nl) mr)):=
 PE.imp (PE.frz (HS ha)) fun σ H Q ⟨α,env,h,s,w⟩=>tMA.use s w.bind fun d1 h1 v1 H1 α1 e1 s1 r1 w1=>by
  obtain⟨hl,w2⟩:=WQ.eF w1
  exact⟨gJ (by rw[<- r1.length];exact hl),fun p hp=>NL.post (w2.post e1) s1.heap r1 hp⟩
noncomputable def aN (h:Hh) (n:Nat):Option (List D):=match h[n]? with
 | some (.lst ds)=>some ds
 | _=>none
inductive Src where
 | snap (ds:List D)
 | live (n:Nat)
 | liveE (n:Nat)
noncomputable abbrev MI:=En->Hh->R Src
noncomputable abbrev Rdr:=Hh->Nat->Option (Option D)
noncomputable def Src.rdr:Src->Rdr
 | .snap ds=>fun _ i=>some ds[i]?
 | .live n=>fun h i=>(aN h n).map fun ds=>ds[i]?
 | .liveE n=>fun h i=>(aN h n).map fun ds=>(ds[i]?).map fun d=>D.tup [.int i,d]
noncomputable def Src.fuel (s:Src) (h:Hh):Nat:=match s with
 | .snap ds=>ds.length
 | .live n=>((aN h n).getD []).length
 | .liveE n=>((aN h n).getD []).length
noncomputable def Reads (K:PySem.W.Frag) (g:GG) (J:It) (rd:Rdr) (α₀:List Addr) (aL:Hp):Prop:=
 ∀(α:List Addr) (H:Hp) (h:Hh),Ext K α₀ aL α H->aX K g α H h->∀i,match rd h i with
  | none=>True
  | some none=>J.stop i H
  | some (some d)=>J.go i H/\∀x H',J.yld i H x H'->∃α',Ext K α H α' H'/\aX K g α' H' h/\aO K g α' H' d x
noncomputable def tMI (K:PySem.W.Frag) (g:GG) (ε:EE) (m:MI):TI:=fun σ H T=>∃α env h,dW K g α H env σ h/\WQ K g ε α H (m env h) fun sr h'=>∀J H' α',Ext K α H α' H'->aX K g α' H' h'->Reads K g J sr.rdr α' H'->T J H'
theorem PI.imp {X:Cx} {tg e:Expr} {t t':TI} (h:PI X tg e t) (i:∀σ H Q,t' σ H Q->t σ H Q):PI X tg e t':=fun pins s σ H Q I w=>h pins s σ H Q I (i σ H Q w)
noncomputable def m4 (rd:Rdr) (tg:D->En->Hh->R En) (body:MS):Nat->Nat->En->Hh->R Fl
 | k,i,env,h=>match rd h i with
  | none=>.bad
  | some none=>.ok (.nx env) h
  | some (some d)=>match k with
   | 0=>.bad
   | k+1=>(tg d env h).bind fun e1 h1=>(body e1 h1).bind fun fl h2=>match fl with
    | .nx e=>m4 rd tg body k (i+1) e h2
    | .ct e=>m4 rd tg body k (i+1) e h2
    | .bk e=>.ok (.nx e) h2
    | .rt d=>.ok (.rt d) h2
noncomputable def eE (tg:D->En->Hh->R En) (body:MS):List D->En->Hh->R Fl
 | [],env,h=>.ok (.nx env) h
 | d::ds,env,h=>(tg d env h).bind fun e1 h1=>(body e1 h1).bind fun fl h2=>match fl with
  | .nx e=>eE tg body ds e h2
  | .ct e=>eE tg body ds e h2
  | .bk e=>.ok (.nx e) h2
  | .rt d=>.ok (.rt d) h2
theorem FP (tg:D->En->Hh->R En) (body:MS) (all:List D):∀(ds:List D) (i:Nat) (env:En) (h:Hh),all.drop i=ds->m4 (Src.snap all).rdr tg body ds.length i env h=eE tg body ds env h:=by
 intro ds
 induction ds with
 | nil=>
  intro i env h e
  have:all[i]?=none:=by
   have:=congrArg List.length e
   simp at this
   exact List.getElem?_eq_none (by omega)
  unfold m4 eE Src.rdr
  simp[this]
 | cons d ds ih=>
  intro i env h e
  have h0:all[i]?=some d:=by
   have:=congrArg (fun l=>l[0]?) e
   simpa using this
  have h1:all.drop (i+1)=ds:=by
   have:=congrArg List.tail e
   simpa using this
  unfold m4 eE
  have:(Src.snap all).rdr h i=some (some d):=by unfold Src.rdr;simp[h0]
  rw[this]
  show((tg d env h).bind _)=_
  congr 1
  funext e1 h2
  congr 1
  funext fl h3
  cases fl with
  | nx e=>exact ih (i+1) e h3 h1
  | ct e=>exact ih (i+1) e h3 h1
  | bk e=>rfl
  | rt d=>rfl
noncomputable def fq (mi:MI) (tg:D->En->Hh->R En) (body:MS):MS:=fun env h=>(mi env h).bind fun sr h1=>match sr with
 | .snap ds=>eE tg body ds env h1
 | .live n=>m4 (Src.live n).rdr tg body ((aN h1 n).getD []).length 0 env h1
 | .liveE n=>m4 (Src.liveE n).rdr tg body ((aN h1 n).getD []).length 0 env h1
theorem Ep {mi:MI} {tg:D->En->Hh->R En} {body:MS} {env:En} {h:Hh}:fq mi tg body env h=(mi env h).bind fun sr h1=>m4 sr.rdr tg body (sr.fuel h1) 0 env h1:=by
 unfold fq
 congr 1
 funext sr h1
 cases sr with
 | snap ds=>exact(FP tg body ds ds 0 env h1 rfl).symm
 | live n=>rfl
 | liveE n=>rfl
noncomputable def gN (i:Nat):D->En->Hh->R En:=fun d env h=>.ok (env.set i (some d)) h
noncomputable def gT2 (i j:Nat):D->En->Hh->R En:=fun d env h=>match d with
 | .tup [x,y]=>.ok ((env.set i (some x)).set j (some y)) h
 | _=>.bad
noncomputable def EA (K:PySem.W.Frag) (g:GG) (ε:EE) (tg:D->En->Hh->R En) (t:TG):Prop:=
 ∀(α:List Addr) (H:Hp) (h:Hh) (env:En) (σ:St) (d:D) (x:V) (Q:St->Hp->Prop),dW K g α H env σ h->aO K g α H d x →
  WQ K g ε α H (tg d env h) (fun e1 h1=>∀σ' H' α',Ext K α H α' H'->dW K g α' H' e1 σ' h1->Q σ' H')->t x σ H Q
theorem eS {K:PySem.W.Frag} {g:GG} {ε:EE} {i:Nat}:EA K g ε (gN i) (fG i):=fun α H h env σ d x Q s r w=>w _ H α Ext.refl ⟨s.heap,s.vs.set r⟩
theorem Dc {K:PySem.W.Frag} {g:GG} {ε:EE} {i j:Nat}:EA K g ε (gT2 i j) (HQ K 2 (sj (fG i) (sj (fG j) Im))):=fun α H h env σ d x Q s r w=>by
 unfold gT2 at w
 cases r with
 | tup hq rs=>
  cases rs with
  | nil=>exact w.elim
  | cons ra rr=>
   cases rr with
   | nil=>exact w.elim
   | cons rb rr=>
    cases rr with
    | nil=>exact⟨_,_,rfl,SqT.of hq,rfl,_,_,rfl,_,_,rfl,rfl,w _ H α Ext.refl ⟨s.heap,(s.vs.set ra).set rb⟩⟩
    | cons _ _=>exact w.elim
 | _=>exact w.elim
section
variable {X:Cx} {g:GG} {ε:EE}
theorem jn {tg iter:Expr} {body:List Stmt} {mi:MI} {t:TG} {fg:D->En->Hh->R En} {mb:MS} {pos:Pos} (hp:PassesOwn (model X.prog X.w) X.A X.env X.xe) (hc:X.calm=true) (hi:PI X tg iter (tMI X.K g ε mi)) (hg:PG X tg t) (ig:EA X.K g ε fg t) (hb:PSs X body (tMS X.K g ε mb))
  (hs:∀x,foldedSetIterable iter X.env x=pure x:=by intro _;rfl):PS X (.For tg iter body [] pos) (tMS X.K g ε (fq mi fg mb)):=by
 refine PS.imp (Ia hp hc hi hg hb hs) fun E σ H ⟨α,env,h,s,w⟩=>?_
 rw[Ep] at w
 refine⟨α,env,h,s,w.bind.mono fun sr h1 _ w1 J H1 α1 e1 hr1 rd=>?_⟩
 refine⟨fun i m σ H=>∃α env h,Ext X.K α1 H1 α H/\dW X.K g α H env σ h/\WQ X.K g ε α H (m4 sr.rdr fg mb m i env h) (dh X.K g α H E),⟨sr.fuel h1,α1,env,h1,Ext.refl,s.ext e1 hr1,w1.yq e1⟩,?_⟩
 rintro i m σ2 H2 ⟨α2,env2,h2,x2,s2,w2⟩
 have q:=rd α2 H2 h2 x2 s2.heap i
 unfold m4 at w2
 cases e:sr.rdr h2 i with
 | none=>rw[e] at w2;exact w2.elim
 | some od=>
  rw[e] at w2 q
  cases od with
  | none=>exact .inl ⟨q,s2.nx Ext.refl w2⟩
  | some d=>
   cases m with
   | zero=>exact w2.elim
   | succ m=>
    have w3:=WQ.bind (show WQ X.K g ε α2 H2 ((fg d env2 h2).bind _) _ from w2)
    refine .inr ⟨q.1,fun σ' H'=>∃α env h,Ext X.K α1 H1 α H'/\dW X.K g α H' env σ' h/\WQ X.K g ε α H' (m4 sr.rdr fg mb m (i+1) env h) (dh X.K g α H' E),fun σ' H' z=>⟨m,Nat.lt_succ_self _,z⟩,fun x H3 y=>?_⟩
    obtain⟨α3,x3,hr3,rx⟩:=q.2 x H3 y
    refine ig α3 H3 h2 env2 σ2 d x _ (s2.ext x3 hr3) rx ((w3.ext x3).mono fun e4 h4 _ w4 σ4 H4 α4 x4 s4=>?_)
    refine tMS.use s4 ((w4.ext x3).ext x4).bind fun fl h5 H5 α5 x5 hr5 w5=>?_
    have tr:Ext X.K α2 H2 α5 H5:=x3.trans (x4.trans x5)
    cases fl with
    | nx e=>exact fun σ' s'=>⟨α5,e,h5,x2.trans tr,s',((w5.ext x5)).mono fun _ _ _ p=>p.ext tr⟩
    | ct e=>exact fun σ' s'=>⟨α5,e,h5,x2.trans tr,s',((w5.ext x5)).mono fun _ _ _ p=>p.ext tr⟩
    | bk e=>exact fun σ' s'=>(show dh X.K g α2 H2 E (.nx e) h5 from w5) H5 α5 tr hr5 σ' s'.vs
    | rt d=>exact fun v rv=>(show dh X.K g α2 H2 E (.rt d) h5 from w5) H5 α5 tr hr5 v rv
theorem aX.lst {K:PySem.W.Frag} {α:List Addr} {H:Hp} {h:Hh} {n:Nat} {ds:List D} (r:aX K g α H h) (e:aN h n=some ds) {p:Addr} (hp:α[n]?=some p):∃vs,H p=some (.lst vs)/\ax K g α H ds vs:=by
 unfold aN at e
 cases o:h[n]? with
 | none=>rw[o] at e;cases e
 | some o'=>
  rw[o] at e
  have q:=r.here n p o' hp o
  cases o' with
  | lst ds'=>cases e;obtain⟨vs,a,b⟩:=q;exact⟨vs,a,b⟩
  | set n=>cases e
  | dic k=>cases e
  | dit k=>cases e
noncomputable def uj:D->Hh->R Src
 | .tup ds,h=>.ok (.snap ds) h
 | .frl ds,h=>.ok (.snap ds) h
 | .scr ds,h=>.ok (.snap ds) h
 | .ref n,h=>match aN h n with
  | some _=>.ok (.live n) h
  | none=>.bad
 | _,_=>.bad
noncomputable def cT (a:ME):MI:=fun env h=>(a env h).bind uj
noncomputable def LU (K:PySem.W.Frag) (tl:TE):TI:=fun σ H R=>tl σ H fun x H1=>∃a,x=.ref a/\(((∃xs,SqL K H1 a xs)/\R (Itl K a) H1)\/((∃xs,SqT K H1 a xs)/\R (Itt K a) H1))
theorem HP {tg l:Expr} {tl:TE} (hl:PE X l tl):PI X tg l (LU X.K tl):=by
 intro pins s σ H R I h
 refine thn (hl pins s σ H _ I h) fun v s1 ⟨x,H1,I1,r1,q1⟩=>?_
 obtain⟨a,e,q⟩:=q1
 subst e
 cases r1
 rcases q with⟨⟨xs,hq⟩,q⟩ | ⟨⟨xs,hq⟩,q⟩
 ·obtain⟨its,rv,p,hz⟩:=I1.list hq
  refine wpAny_pyIter_list p.isList ?_
  refine⟨s1.heap.objs.size,[s1.heap.objs.size],_,_,H1,rfl,I1.kept (t':=s1.toks) fun b o e=>Heap.get?_push_of_some _ e,zX a _,⟨_,Heap.get?_push_size _ rfl,rfl,rfl⟩,fun b hb=>?_,q⟩
  have e:b=s1.heap.objs.size:=by simpa using hb
  subst e
  exact I1.D4 (Nat.le_refl _) (I1.hok.fresh (Nat.le_refl _))
 ·obtain⟨its,rv,p,hz⟩:=I1.tuple hq
  refine wpAny_pyIter_tuple (show s1.heap.IsTuple a its.toArray from p) ?_
  refine⟨s1.heap.objs.size,[s1.heap.objs.size],_,_,H1,rfl,I1.kept (t':=s1.toks) fun b o e=>Heap.get?_push_of_some _ e,xn a _,⟨_,Heap.get?_push_size _ rfl,rfl,rfl⟩,fun b hb=>?_,q⟩
  have e:b=s1.heap.objs.size:=by simpa using hb
  subst e
  exact I1.D4 (Nat.le_refl _) (I1.hok.fresh (Nat.le_refl _))
theorem Ag {K:PySem.W.Frag} {α:List Addr} {H:Hp} {a:Addr} {ds:List D} {vs:List V} (hq':H a=some (.tup vs)) (rs:ax K g α H ds vs):Reads K g (Itt K a) (Src.snap ds).rdr α H:=by
 intro α2 H2 h2 x2 hr i
 have hq2:SqT K H2 a vs:=SqT.of (x2.tup _ _ hq')
 have rs2:=rs.ext x2
 show match some ds[i]? with | none=>True | some none=>_ | some (some d)=>_
 cases e:ds[i]? with
 | none=>
  have:ds.length<=i:=List.getElem?_eq_none_iff.mp e
  exact⟨vs,hq2,by rw[<- rs.length];exact this⟩
 | some d=>
  obtain⟨v,ev,rv⟩:=rs2.get e
  refine⟨⟨vs,v,hq2,ev⟩,fun x H' y=>?_⟩
  obtain⟨e1,e2⟩:=y
  subst e1
  have:=e2 vs hq2
  rw[ev] at this
  cases this
  exact⟨α2,Ext.refl,hr,rv⟩
theorem r_ {K:PySem.W.Frag} {α:List Addr} {H:Hp} {a:Addr} {ds:List D} {vs:List V} (hq:Fro K H a vs) (rs:ax K g α H ds vs):Reads K g (Itl K a) (Src.snap ds).rdr α H:=by
 intro α2 H2 h2 x2 hr i
 have hq2:=x2.fro _ _ hq
 have rs2:=rs.ext x2
 show match some ds[i]? with | none=>True | some none=>_ | some (some d)=>_
 cases e:ds[i]? with
 | none=>
  have:ds.length<=i:=List.getElem?_eq_none_iff.mp e
  exact⟨vs,hq2.sq,by rw[<- rs.length];exact this⟩
 | some d=>
  obtain⟨v,ev,rv⟩:=rs2.get e
  refine⟨⟨vs,v,hq2.sq,ev⟩,fun x H' y=>?_⟩
  obtain⟨e1,e2⟩:=y
  subst e1
  have:=e2 vs hq2.sq
  rw[ev] at this
  cases this
  exact⟨α2,Ext.refl,hr,rv⟩
theorem Au {K:PySem.W.Frag} {α:List Addr} {H:Hp} {a:Addr} {n:Nat} (ha:α[n]?=some a):Reads K g (Itl K a) (Src.live n).rdr α H:=by
 intro α2 H2 h2 x2 hr i
 show match (aN h2 n).map fun ds=>ds[i]? with | none=>True | some none=>_ | some (some d)=>_
 cases e:aN h2 n with
 | none=>trivial
 | some ds=>
  obtain⟨vs,hq',rs⟩:=hr.lst e (x2.get ha)
  have hq:SqL K H2 a vs:=SqL.of hq'
  show match some ds[i]? with | none=>True | some none=>_ | some (some d)=>_
  cases ei:ds[i]? with
  | none=>
   have:ds.length<=i:=List.getElem?_eq_none_iff.mp ei
   exact⟨vs,hq,by rw[<- rs.length];exact this⟩
  | some d=>
   obtain⟨v,ev,rv⟩:=rs.get ei
   refine⟨⟨vs,v,hq,ev⟩,fun x H' y=>?_⟩
   obtain⟨e1,e2⟩:=y
   subst e1
   have:=e2 vs hq
   rw[ev] at this
   cases this
   exact⟨α2,Ext.refl,hr,rv⟩
theorem fP {tg e:Expr} {me:ME} (he:PE X e (tM X.K g ε me)):PI X tg e (tMI X.K g ε (cT me)):=
 PI.imp (HP he) fun σ H T ⟨α,env,h,s,w⟩=>tM.use s w.bind fun d1 h1 v1 H1 α1 e1 s1 r1 w1=>by
  unfold uj at w1
  cases r1 with
  | tup hq rs=>exact⟨_,rfl,.inr ⟨⟨_,SqT.of hq⟩,w1 _ H1 α1 e1 s1.heap (Ag hq rs)⟩⟩
  | frl hq rs=>exact⟨_,rfl,.inl ⟨⟨_,hq.sq⟩,w1 _ H1 α1 e1 s1.heap (r_ hq.fro rs)⟩⟩
  | scr hq rs=>exact⟨_,rfl,.inl ⟨⟨_,hq.sq⟩,w1 _ H1 α1 e1 s1.heap (r_ hq rs)⟩⟩
  | @ref n p hp=>
   cases el:aN h1 n with
   | none=>simp only[el] at w1;exact w1.elim
   | some ds=>
    simp only[el] at w1
    obtain⟨vs,hq,_⟩:=s1.heap.lst el hp
    exact⟨p,rfl,.inl ⟨⟨_,SqL.of hq⟩,w1 _ H1 α1 e1 s1.heap (Au hp)⟩⟩
  | _=>exact w1.elim
noncomputable def jj (ds:List D):List D:=(List.range ds.length).map fun(i:Nat)=>D.tup [.int i,ds.getD i .non]
noncomputable def zh:D->Hh->R Src
 | .tup ds,h=>.ok (.snap (jj ds)) h
 | .frl ds,h=>.ok (.snap (jj ds)) h
 | .ref n,h=>match aN h n with
  | some _=>.ok (.liveE n) h
  | none=>.bad
 | _,_=>.bad
noncomputable def tP (a:ME):MI:=fun env h=>(a env h).bind zh
theorem rP {ds:List D} {i:Nat}:(jj ds)[i]?=(ds[i]?).map fun d=>D.tup [.int i,d]:=by
 unfold jj
 rw[List.getElem?_map]
 by_cases hi:i<ds.length
 ·have e:ds.getD i .non=ds[i]:=by rw[List.getD_eq_getElem?_getD,List.getElem?_eq_getElem hi];rfl
  rw[List.getElem?_range hi,List.getElem?_eq_getElem hi,Option.map_some,Option.map_some,e]
 ·rw[List.getElem?_eq_none (by simpa using hi),List.getElem?_eq_none (by omega)];rfl
theorem oX {K:PySem.W.Frag} {α:List Addr} {H:Hp} {h:Hh} {i:Nat} {d:D} {v:V} {p:Addr} (hr:aX K g α H h) (rv:aO K g α H d v) (hp:H p=none) :
  ∃α',Ext K α H α' (upd H p (.tup [.int i,v]))/\aX K g α' (upd H p (.tup [.int i,v])) h/\aO K g α' (upd H p (.tup [.int i,v])) (.tup [.int i,d]) (.ref p):=
 ⟨α,Ext.fresh hp,hr.grow hp,.tup aZ (.cons (.int _) (.cons (rv.ext (Ext.fresh hp)) .nil))⟩
theorem wG {K:PySem.W.Frag} {α:List Addr} {H:Hp} {a:Addr} {ds:List D} {vs:List V} (hq':H a=some (.tup vs)) (rs:ax K g α H ds vs):Reads K g (Iet K a) (Src.snap (jj ds)).rdr α H:=by
 intro α2 H2 h2 x2 hr i
 have hq2:SqT K H2 a vs:=SqT.of (x2.tup _ _ hq')
 have rs2:=rs.ext x2
 show match some (jj ds)[i]? with | none=>True | some none=>_ | some (some d)=>_
 rw[rP]
 cases e:ds[i]? with
 | none=>
  have:ds.length<=i:=List.getElem?_eq_none_iff.mp e
  exact⟨vs,hq2,by rw[<- rs.length];exact this⟩
 | some d=>
  obtain⟨v,ev,rv⟩:=rs2.get e
  refine⟨⟨vs,v,hq2,ev⟩,fun x H' y=>?_⟩
  obtain⟨p,v',e1,hp,e2,e3⟩:=y
  subst e1 e3
  have:=e2 vs hq2
  rw[ev] at this
  cases this
  exact oX hr rv hp
theorem vq {K:PySem.W.Frag} {α:List Addr} {H:Hp} {a:Addr} {ds:List D} {vs:List V} (hq:Fro K H a vs) (rs:ax K g α H ds vs):Reads K g (Iel K a) (Src.snap (jj ds)).rdr α H:=by
 intro α2 H2 h2 x2 hr i
 have hq2:SqL K H2 a vs:=(x2.fro _ _ hq).sq
 have rs2:=rs.ext x2
 show match some (jj ds)[i]? with | none=>True | some none=>_ | some (some d)=>_
 rw[rP]
 cases e:ds[i]? with
 | none=>
  have:ds.length<=i:=List.getElem?_eq_none_iff.mp e
  exact⟨vs,hq2,by rw[<- rs.length];exact this⟩
 | some d=>
  obtain⟨v,ev,rv⟩:=rs2.get e
  refine⟨⟨vs,v,hq2,ev⟩,fun x H' y=>?_⟩
  obtain⟨p,v',e1,hp,e2,e3⟩:=y
  subst e1 e3
  have:=e2 vs hq2
  rw[ev] at this
  cases this
  exact oX hr rv hp
theorem wJ {K:PySem.W.Frag} {α:List Addr} {H:Hp} {a:Addr} {n:Nat} (ha:α[n]?=some a):Reads K g (Iel K a) (Src.liveE n).rdr α H:=by
 intro α2 H2 h2 x2 hr i
 show match (aN h2 n).map fun ds=>(ds[i]?).map fun d=>D.tup [.int i,d] with | none=>True | some none=>_ | some (some d)=>_
 cases e:aN h2 n with
 | none=>trivial
 | some ds=>
  obtain⟨vs,hq',rs⟩:=hr.lst e (x2.get ha)
  have hq:SqL K H2 a vs:=SqL.of hq'
  show match some ((ds[i]?).map fun d=>D.tup [.int i,d]) with | none=>True | some none=>_ | some (some d)=>_
  cases ei:ds[i]? with
  | none=>
   have:ds.length<=i:=List.getElem?_eq_none_iff.mp ei
   exact⟨vs,hq,by rw[<- rs.length];exact this⟩
  | some d=>
   obtain⟨v,ev,rv⟩:=rs.get ei
   refine⟨⟨vs,v,hq,ev⟩,fun x H' y=>?_⟩
   obtain⟨p,v',e1,hp,e2,e3⟩:=y
   subst e1 e3
   have:=e2 vs hq
   rw[ev] at this
   cases this
   exact oX hr rv hp
theorem Fz {elts:List Expr} {kt:Nat} {tp p pos:Pos} {e:Expr} {me:ME} (hg:Gl X "enumerate") (hm:X.mg "enumerate" = none) (he:PE X e (tM X.K g ε me)) (hs:starEach [e] X.env=[(false,eval e X.env)]:=by rfl):PI X (.Tuple elts kt tp) (.Call (.Name "enumerate" p) [e] [] pos) (tMI X.K g ε (tP me)):=
 PI.imp (E3 hg hm he hs) fun σ H T ⟨α,env,h,s,w⟩=>tM.use s w.bind fun d1 h1 v1 H1 α1 e1 s1 r1 w1=>by
  unfold zh at w1
  cases r1 with
  | tup hq rs=>exact⟨_,rfl,.inr ⟨⟨_,SqT.of hq⟩,w1 _ H1 α1 e1 s1.heap (wG hq rs)⟩⟩
  | frl hq rs=>exact⟨_,rfl,.inl ⟨⟨_,hq.sq⟩,w1 _ H1 α1 e1 s1.heap (vq hq.fro rs)⟩⟩
  | @ref n p hp=>
   cases el:aN h1 n with
   | none=>simp only[el] at w1;exact w1.elim
   | some ds=>
    simp only[el] at w1
    obtain⟨vs,hq,_⟩:=s1.heap.lst el hp
    exact⟨p,rfl,.inl ⟨⟨_,SqL.of hq⟩,w1 _ H1 α1 e1 s1.heap (wJ hp)⟩⟩
  | _=>exact w1.elim
noncomputable def bW (lo:Int) (n:Nat):List D:=(List.range n).map fun(i:Nat)=>D.int (lo+i)
noncomputable def iN:List D->Hh->R Src
 | [.int j],h=>if j.natAbs<=1000000 then .ok (.snap (bW 0 j.toNat)) h else .bad
 | _,_=>.bad
noncomputable def x9:List D->Hh->R Src
 | [.int i,.int j],h=>if i.natAbs<=1000000/\j.natAbs<=1000000 then .ok (.snap (bW i (j - i).toNat)) h else .bad
 | _,_=>.bad
noncomputable def iz (f:List D->Hh->R Src) (a:MA):MI:=fun env h=>(a env h).bind f
theorem r6 {K:PySem.W.Frag} {α:List Addr} {H:Hp} {lo:Int} {n:Nat}:Reads K g (Itr lo n) (Src.snap (bW lo n)).rdr α H:=by
 intro α2 H2 h2 x2 hr i
 show match some (bW lo n)[i]? with | none=>True | some none=>_ | some (some d)=>_
 unfold bW
 rw[List.getElem?_map]
 by_cases hi:i<n
 ·rw[List.getElem?_range hi]
  refine⟨hi,fun x H' y=>?_⟩
  obtain⟨e1,e2⟩:=y
  subst e1 e2
  exact⟨α2,Ext.refl,hr,.int _⟩
 ·rw[List.getElem?_eq_none (by simpa using hi)]
  exact Nat.le_of_not_lt hi
theorem gb {tg a:Expr} {ma:MA} {p pos:Pos} (hg:Gl X "range") (hm:X.mg "range" = none) (ha:PA X [a] (tMA X.K g ε ma)) (hs:starEach [a] X.env=[(false,eval a X.env)]:=by rfl):PI X tg (.Call (.Name "range" p) [a] [] pos) (tMI X.K g ε (iz iN ma)):=
 PI.imp (zL hg hm ha hs) fun σ H T ⟨α,env,h,s,w⟩=>tMA.use s w.bind fun d1 h1 v1 H1 α1 e1 s1 r1 w1=>by
  unfold iN at w1
  cases r1 with
  | nil=>exact w1.elim
  | cons ra rr=>
   cases rr with
   | cons _ _=>cases ra<;>exact w1.elim
   | nil=>
    cases ra with
    | int j=>
     obtain⟨hj,w2⟩:=WQ.eF w1
     exact⟨j,rfl,by omega,by omega,w2 _ H1 α1 e1 s1.heap r6⟩
    | _=>exact w1.elim
theorem Ef {tg a b:Expr} {ma:MA} {p pos:Pos} (hg:Gl X "range") (hm:X.mg "range" = none) (ha:PA X [a,b] (tMA X.K g ε ma)) (hs:starEach [a,b] X.env=[(false,eval a X.env),(false,eval b X.env)]:=by rfl) (hs2:starEach [b] X.env=[(false,eval b X.env)]:=by rfl):PI X tg (.Call (.Name "range" p) [a,b] [] pos) (tMI X.K g ε (iz x9 ma)):=
 PI.imp (zN hg hm ha hs hs2) fun σ H T ⟨α,env,h,s,w⟩=>tMA.use s w.bind fun d1 h1 v1 H1 α1 e1 s1 r1 w1=>by
  unfold x9 at w1
  split at w1
  ·cases r1 with
   | cons ra rr=>
    cases ra
    cases rr with
    | cons rb rr=>
     cases rb
     cases rr
     obtain⟨hj,w2⟩:=WQ.eF w1
     exact⟨_,_,rfl,⟨by omega,by omega,by omega,by omega⟩,w2 _ H1 α1 e1 s1.heap r6⟩
  ·exact w1.elim
end
noncomputable abbrev E00:EE:=fun _ _ _=>False
noncomputable abbrev MF:=List D->Hh->R D
noncomputable def cu (n:Nat) (m:MS):MF:=fun ds h=>(m (ds.map some++List.replicate (n - ds.length) none) h).bind fun fl h1=>match fl with
 | .rt d=>.ok d h1
 | .nx _=>.ok .non h1
 | _=>.bad
noncomputable def spG (K:PySem.W.Frag) (g:GG) (ε:XK->EE) (np:Nat) (m:MF):Sp:=fun vs H Q E=>vs.length=np/\∃α ds h,ax K g α H ds vs/\aX K g α H h/\WQ K g (ε E) α H (m ds h) (aM K g α H Q)
noncomputable abbrev spM (K:PySem.W.Frag) (g:GG) (np:Nat) (m:MF):Sp:=spG K g (fun _=>E00) np m
theorem kg {K:PySem.W.Frag} {g:GG} {α:List Addr} {H:Hp} {N:List Str} {ds:List D} {vs:List V} (r:ax K g α H ds vs):kn K g α H (ds.map some++List.replicate (N.length - ds.length) none) (start N vs):=by
 have hl:=r.length
 refine⟨by simp[start,hl],fun i d h=>?_⟩
 by_cases hi:i<ds.length
 ·rw[List.getElem?_append_left (by simpa using hi),List.getElem?_map] at h
  cases e:ds[i]? with
  | none=>rw[e] at h;cases h
  | some d'=>
   rw[e] at h
   cases h
   obtain⟨v,ev,rv⟩:=r.get e
   refine⟨v,?_,rv⟩
   unfold start
   rw[List.getElem?_append_left (by simp;omega),List.getElem?_map,ev]
   rfl
 ·rw[List.getElem?_append_right (by simpa using hi),List.getElem?_replicate] at h
  split at h<;>cases h
section
variable {P:Program} {w:World} {K:PySem.W.Frag} {mg:Str->Option Value} {base:Heap} {g:GG}
theorem gW {x qual:Str} {st:Stmt} {f:Addr} {fd:FuncData} {N ps:List Str} {k:Nat} {mb:MS} (F:Fun K x qual st f fd) (S:aC N ps (ai st))
  (hb:∀(cdv:Value) (A:Around) (outer:List Env) (s:Shared) (H:Hp) (E:XK),dw k (A.deeper (envOfC qual (ai st) s.heap.objs.size f cdv)) →
   PSs (gC CX0 P w K mg base N qual (ai st) f cdv A outer s H E).nox (bK st) (tMS K g E00 mb)):dA P w K mg base CX0 (k+1) f fd ps (spM K g ps.length (cu N.length mb)):=by
 refine F.ok S (fun vs H Q E h=>h.1) fun cdv A outer s H vs Q E hr h=>⟨_,hb cdv A outer s H E hr,?_⟩
 obtain⟨hl,α,ds,h,rs,hh,w⟩:=h
 refine tMS.use ⟨hh,kg rs⟩ w.bind fun fl h' H' α' e r kk=>?_
 cases fl with
 | nx e'=>exact fun σ' s'=>(show aM K g α H Q .non h' from kk) _ H' α' e r .non
 | bk e'=>exact kk.elim
 | ct e'=>exact kk.elim
 | rt d=>exact fun v rv=>(show aM K g α H Q d h' from kk) _ H' α' e r rv
end
section
variable {X:Cx} {g:GG}
theorem aV {k:Nat} {f:Addr} {fd:FuncData} {ps:List Str} {m:MF} {np:Nat} {x:Str} {p pos:Pos} {e:Expr} {es:List Expr} {mr:MA} (F:dA X.prog X.w X.K X.mg X.base CX0 k f fd ps (spM X.K g np m)) (hr:dw k X.A) (hg:Gl X x) (hm:X.mg x=some (.ref f)) (hk:PySem.W.keepIn X.K (.ref f)=true) (hb:Binds X.K fd ps [])
  (ha:PA X (e::es) (tMA X.K g E00 mr)) (hlen:∀env h ds h',mr env h=.ok ds h'->ds.length=np) (hdb:(x == ("__debug__" : Str))=false:=by decide) (he:starEach (e::es) X.env=(false,eval e X.env)::starEach es X.env:=by rfl) (hpl:(backTo pos (starEach es X.env)).any (·.1)=false:=by rfl) :
  PE X (.Call (.Name x p) (e::es) [] pos) (tM X.K g E00 (aj m mr)):=
 PE.imp (yo F hr hg hm hk hb .nil Jw ha hdb he hpl) fun σ H Q ⟨α,env,h,s,w⟩=>⟨α,env,h,s,w.bind.mono fun d1 h1 eq w1 v1 H1 α1 e1 hr1 r1=>by
  show spM X.K g np m (v1++[]) H1 Q E0
  rw[List.append_nil]
  refine⟨?_,α1,d1,h1,r1,hr1,w1.post e1⟩
  rw[<- r1.length]
  exact hlen env h d1 h1 eq⟩
theorem ay:∀env h ds h',aq env h=.ok ds h'->ds.length=0:=fun env h ds h' e=>by cases e;rfl
theorem ah {a:ME} {r:MA} {n:Nat} (q:∀env h ds h',r env h=.ok ds h'->ds.length=n):∀env h ds h',ae a r env h=.ok ds h'->ds.length=n+1:=fun env h ds h' e=>by
 unfold ae at e
 cases e1:a env h with
 | ok d h1=>
  rw[e1] at e
  cases e2:r env h1 with
  | ok ds2 h2=>
   have e3:(R.ok (d::ds2) h2:R (List D))=.ok ds h':=by simpa [R.bind,e2] using e
   cases e3
   simp[q env h1 ds2 h' e2]
  | err x h2=>simp[R.bind,e2] at e
  | bad=>simp[R.bind,e2] at e
 | err x h2=>rw[e1] at e;cases e
 | bad=>rw[e1] at e;cases e
end
noncomputable def lr (ix:List Nat) (env:En) (d:D):En:=some d::ix.map fun i=>(env[i]?).join
noncomputable def tt1:MT:=fun _ h=>.ok true h
noncomputable def jk (rd:Rdr) (tt:MT) (te:ME) (ee:D->En):Nat->Nat->List D->Hh->R (List D)
 | k,i,acc,h=>match rd h i with
  | none=>.bad
  | some none=>.ok acc h
  | some (some d)=>match k with
   | 0=>.bad
   | k+1=>(tt (ee d) h).bind fun b h1=>if b=true then (te (ee d) h1).bind fun y h2=>jk rd tt te ee k (i+1) (acc++[y]) h2 else jk rd tt te ee k (i+1) acc h1
noncomputable def dg (tt:MT) (te:ME) (ee:D->En):List D->Hh->R (List D)
 | [],h=>.ok [] h
 | d::ds,h=>(tt (ee d) h).bind fun b h1=>if b=true then (te (ee d) h1).bind fun y h2=>(dg tt te ee ds h2).bind fun ys h3=>.ok (y::ys) h3 else dg tt te ee ds h1
theorem cH {β γ δ:Type} (r:R β) (f:β->Hh->R γ) (k:γ->Hh->R δ):(r.bind f).bind k=r.bind fun b h=>(f b h).bind k:=by cases r<;>rfl
theorem Bt (tt:MT) (te:ME) (ee:D->En) (all:List D):∀(ds:List D) (i:Nat) (acc:List D) (h:Hh),all.drop i=ds->jk (Src.snap all).rdr tt te ee ds.length i acc h=(dg tt te ee ds h).bind fun ys h'=>.ok (acc++ys) h':=by
 intro ds
 induction ds with
 | nil=>
  intro i acc h e
  have:all[i]?=none:=by
   have:=congrArg List.length e
   simp at this
   exact List.getElem?_eq_none (by omega)
  unfold jk dg Src.rdr
  simp[this,R.bind]
 | cons d ds ih=>
  intro i acc h e
  have h0:all[i]?=some d:=by
   have:=congrArg (fun l=>l[0]?) e
   simpa using this
  have h1:all.drop (i+1)=ds:=by
   have:=congrArg List.tail e
   simpa using this
  unfold jk dg
  have:(Src.snap all).rdr h i=some (some d):=by unfold Src.rdr;simp[h0]
  rw[this]
  show((tt (ee d) h).bind _)=_
  rw[cH]
  congr 1
  funext b h2
  cases b with
  | false=>rw[if_neg Bool.false_ne_true,if_neg Bool.false_ne_true];exact ih (i+1) acc h2 h1
  | true=>
   rw[if_pos rfl,if_pos rfl,cH]
   congr 1
   funext y h3
   rw[cH]
   have:=ih (i+1) (acc++[y]) h3 h1
   rw[this]
   congr 1
   funext ys h4
   show R.ok (acc++[y]++ys) h4=R.ok (acc++(y::ys)) h4
   simp
noncomputable def eW (nl:NL) (mi:MI) (ix:List Nat) (tt:MT) (te:ME):ME:=fun env h=>(mi env h).bind fun sr h1=>if sr.fuel h1<=1000000 then
 (match sr with
  | .snap ds=>dg tt te (lr ix env) ds h1
  | .live n=>jk (Src.live n).rdr tt te (lr ix env) ((aN h1 n).getD []).length 0 [] h1
  | .liveE n=>jk (Src.liveE n).rdr tt te (lr ix env) ((aN h1 n).getD []).length 0 [] h1).bind nl else .bad
theorem B9 {nl:NL} {mi:MI} {ix:List Nat} {tt:MT} {te:ME} {env:En} {h:Hh}:eW nl mi ix tt te env h=(mi env h).bind fun sr h1=>if sr.fuel h1<=1000000 then (jk sr.rdr tt te (lr ix env) (sr.fuel h1) 0 [] h1).bind nl else .bad:=by
 unfold eW
 congr 1
 funext sr h1
 cases sr with
 | snap ds=>
  have:=Bt tt te (lr ix env) ds ds 0 [] h1 rfl
  simp only[List.nil_append] at this
  have e:(Src.snap ds).fuel h1=ds.length:=rfl
  rw[e,this,cH]
  rfl
 | live n=>rfl
 | liveE n=>rfl
theorem Fh {K:PySem.W.Frag} {g:GG} {α:List Addr} {H:Hp} {env:En} {σ:St} {ix:List Nat} {d:D} {v:V} (s:kn K g α H env σ) (r:aO K g α H d v):kn K g α H (lr ix env d) ((rS ix σ).set 0 (some v)):=by
 refine⟨by simp[lr,rS],fun i e h=>?_⟩
 cases i with
 | zero=>
  have:d=e:=by simpa [lr] using h
  subst this
  exact⟨v,by simp[rS],r⟩
 | succ i=>
  have h':(ix.map fun i=>(env[i]?).join)[i]?=some (some e):=by simpa [lr] using h
  rw[List.getElem?_map] at h'
  cases ei:ix[i]? with
  | none=>rw[ei] at h';cases h'
  | some j=>
   rw[ei] at h'
   have h2:(env[j]?).join=some e:=by simpa using h'
   cases ej:env[j]? with
   | none=>rw[ej] at h2;cases h2
   | some oe=>
    rw[ej] at h2
    have h3:oe=some e:=by simpa using h2
    subst h3
    obtain⟨u,eu,ru⟩:=s.vars j e ej
    refine⟨u,?_,ru⟩
    simp only[rS,List.set_cons_zero,List.getElem?_cons_succ,List.getElem?_map,ei,Option.map_some,eu]
    rfl
section
variable {X:Cx} {g:GG}
theorem xV:PTs X [] (tMT X.K g E00 tt1):=fun pins s σ H Q I ⟨α,env,h,s',w⟩=>Er pins s σ H Q I (w H α Ext.refl s'.heap)
theorem m9 {c:Expr} {mt:MT} (h:PT X c (tMT X.K g E00 mt)):PTs X [c] (tMT X.K g E00 mt):=Fn h
theorem wF {K:PySem.W.Frag} {nl:NL} [kW nl] {mi:MI} {tt:MT} {te:ME} {ix:List Nat} {σ:St} {H:Hp} {Q R:VK} (hR:∀v H,jN Q v H->R v H) (t:tM K g E00 (eW nl mi ix tt te) σ H Q):Gj (tMI K g E00 mi) ix (tMT K g E00 tt) (tM K g E00 te) σ H R:=by
 obtain⟨α,env,h,s,w⟩:=t
 rw[B9] at w
 refine⟨α,env,h,s,w.bind.mono fun sr h1 _ w1 J H1 α1 e1 hr1 rd=>fun acc hacc=>?_⟩
 obtain⟨hf,w1⟩:=WQ.eF w1
 have s1:=s.ext e1 hr1
 refine⟨fun i m ys H=>∃α h as,Ext K α1 H1 α H/\aX K g α H h/\ax K g α H as ys/\H acc=some (.lst ys)/\acc∉α/\as.length+m<=1000000 ∧
  WQ K g E00 α1 H1 ((jk sr.rdr tt te (lr ix env) m i as h).bind nl) (aM K g α1 H1 Q),
  ⟨sr.fuel h1,α1,h1,[],Ext.fresh hacc,hr1.grow hacc,.nil,aZ,hr1.free hacc,by simpa using hf,w1.post e1⟩,?_⟩
 rintro i m ys H2 ⟨α2,h2,as,x2,hr2,ra,ha,hna,hm,w2⟩
 have q:=rd α2 H2 h2 x2 hr2 i
 unfold jk at w2
 cases e:sr.rdr h2 i with
 | none=>rw[e] at w2;exact w2.elim
 | some od=>
  rw[e] at w2 q
  cases od with
  | none=>
   refine .inl ⟨q,?_⟩
   exact hR _ _ <| kW.at' (show WQ K g E00 α1 H1 (nl as h2) _ from w2) (fun _ _ z=>z) x2 hr2 ra ha hna hacc
  | some d=>
   cases m with
   | zero=>exact w2.elim
   | succ m=>
    rw[cH] at w2
    have w3:=WQ.bind (show WQ K g E00 α1 H1 ((tt (lr ix env d) h2).bind _) _ from w2)
    refine .inr ⟨q.1,fun x H3 y=>?_⟩
    obtain⟨α3,x3,hr3,rx⟩:=q.2 x H3 y
    have ha3:=x3.keep _ _ ha hna
    have hna3:acc∉α3:=fun z=>by have:=x3.new _ z hna;rw[ha] at this;cases this
    have s3:dW K g α3 H3 (lr ix env d) ((rS ix σ).set 0 (some x)) h2:=⟨hr3,Fh (s1.vs.ext (x2.trans x3)) rx⟩
    refine tMT.use s3 ((w3.ext x2).ext x3) fun b h4 H4 α4 x4 s4 w4=>?_
    have ha4:=x4.keep _ _ ha3 hna3
    have hna4:acc∉α4:=fun z=>by have:=x4.new _ z hna3;rw[ha3] at this;cases this
    cases b with
    | false=>
     rw[if_neg Bool.false_ne_true] at w4 ⊢
     exact⟨m,Nat.lt_succ_self _,α4,h4,as,x2.trans (x3.trans x4),s4.heap,ra.ext (x3.trans x4),ha4,hna4,by omega,w4⟩
    | true=>
     rw[if_pos rfl] at w4 ⊢
     rw[cH] at w4
     refine tM.use s4 (((WQ.bind w4).ext x2).ext (x3.trans x4)) fun y h5 v5 H5 α5 x5 s5 r5 w5=>?_
     have ha5:=x5.keep _ _ ha4 hna4
     have hna5:acc∉α5:=fun z=>by have:=x5.new _ z hna4;rw[ha4] at this;cases this
     have soft:Ei H5 acc:=.inr ⟨_,ha5,fun _ z=>(nomatch z),fun _ _ z=>(nomatch z),fun _ z=>nomatch z⟩
     have x6:Ex0 K α5 H5 α5 (upd H5 acc (.lst (ys++[v5]))):=Ex0.upd soft
     have tr:=x2.trans (x3.trans (x4.trans x5))
     refine⟨ha5,?_,m,Nat.lt_succ_self _,α5,h5,as++[y],⟨tr.toEx0.trans x6,fun p o z n nt=>?_,tr.new⟩,s5.heap.off soft hna5,((ra.ext (x3.trans (x4.trans x5))).append (.cons r5 .nil)).ex0 x6,aZ,hna5,by rw[List.length_append];simp;omega,w5⟩
     ·rw[<- ra.length,sizeLine_eq];omega
     ·rw[aD (aP z hacc)];exact tr.kept p o z n nt
end
noncomputable def sml (i:Int):Bool:=decide (i.natAbs<2 ^ 1900)
theorem jL {i:Int} (h:sml i=true):Builtin.Int.intBits i<=1900:=by
 have h':i.natAbs<2 ^ 1900:=of_decide_eq_true h
 unfold Builtin.Int.intBits
 split
 ·omega
 ·rename_i z
  have z':i.natAbs≠0:=by
   intro q
   apply z
   have:i=0:=Int.natAbs_eq_zero.mp q
   rw[this];rfl
  have:=(Nat.log2_lt z').mpr h'
  omega
theorem oJ {i:Int} (h:sml i=true):i.natAbs.log2<1900:=by
 have h':i.natAbs<2 ^ 1900:=of_decide_eq_true h
 by_cases z:i.natAbs=0
 ·rw[z];decide
 ·exact(Nat.log2_lt z).mpr h'
theorem xu {i:Int} (h:i.natAbs<=10 ^ 560):sml i=true:=by
 refine decide_eq_true (Nat.lt_of_le_of_lt h (by decide +kernel))
section
variable {X:Cx} {K:PySem.W.Frag} {g:GG} {ε:EE}
theorem OpR.or {f:Value->Value->Sem Value} {r r':R2} (h:OpR X f r) (h':OpR X f r'):OpR X f (fun x y H Q=>r x y H Q\/r' x y H Q):=fun pins s σ H x y v u Q I rx ry q=>q.elim (h pins s σ H x y v u Q I rx ry) (h' pins s σ H x y v u Q I rx ry)
noncomputable def pR (d:D) (h:Hh):Option (List D):=match d with
 | .frl ds=>some ds
 | .ref n=>aN h n
 | _=>none
theorem xt {α:List Addr} {H:Hp} {h:Hh} {d:D} {x:V} {ds:List D} (r:aX K g α H h) (rd:aO K g α H d x) (e:pR d h=some ds):∃p vs,x=.ref p/\Rd H p (.lst vs)/\ax K g α H ds vs:=by
 unfold pR at e
 cases rd with
 | frl hq rs=>cases e;exact⟨_,_,rfl,hq.rd,rs⟩
 | ref hp=>obtain⟨vs,hv,rs⟩:=r.lst e hp;exact⟨_,vs,rfl,.inl hv,rs⟩
 | _=>cases e
noncomputable def Gh:R2:=fun x y H Q=>∃l b xs zs,x=.ref l/\y=.ref b/\Rd H l (.lst xs)/\Rd H b (.lst zs)/\xs.length+zs.length<=sizeLine/\∀p,H p=none->Q (.ref p) (upd H p (.lst (xs++zs)))
theorem Iy {X:Cx} {pins:List (Addr × Obj)} {σ:St} {H:Hp} {s:Shared} {l:Addr} {xs:List V} (I:Inv X pins σ H s) (h:Rd H l (.lst xs)):∃(its:List Value) (n:Nat),xs.length<=sizeLine/\Vals xs its/\xs.length=its.length/\s.heap.get? l=some { cls:=.type "list", data:=.seq its.toArray n }:=by
 obtain⟨z,its,n,r,e⟩:=h.ok I.hok
 exact⟨its,n,z,r,r.length,e⟩
theorem Fv:OpR X (binaryOp .Add) Gh:=by
 intro pins s σ H x y v u Q I rx ry h
 obtain⟨l,b,xs,zs,rfl,rfl,hH,hB,hz,q⟩:=h
 cases rx
 cases ry
 obtain⟨its,n,z,r,hl,e⟩:=Iy I hH
 obtain⟨its2,n2,z2,r2,hl2,e2⟩:=Iy I hB
 refine PySem.P.add_list e e2 ?_ (by rw[List.size_toArray,List.size_toArray];omega)
 have ea:its.toArray++its2.toArray=(its++its2).toArray:=by simp
 rw[ea]
 exact⟨.ref _,_,I.Fc (t':=s.toks) (r.append r2) (by rw[List.length_append];omega),rfl,q _ I.fresh⟩
noncomputable def cG (nl:NL):D->D->Hh->R D:=fun x y h=>match x,y with
 | .int i,.int j=>.ok (.int (i+j)) h
 | .tup a,.tup b=>if a.length+b.length<=1000000 then .ok (.tup (a++b)) h else .bad
 | .str a,.str b=>if a.length+b.length<=1000000 then .ok (.str (a++b)) h else .bad
 | x,y=>match pR x h,pR y h with
  | some a,some b=>if a.length+b.length<=1000000 then nl (a++b) h else .bad
  | _,_=>.bad
noncomputable abbrev CA (K:PySem.W.Frag):R2:=fun x y H Q=>(rI0 fun i j=>.int (i+j)) x y H Q\/(Gk K x y H Q\/BR K x y H Q)\/Gh x y H Q\/∃i j,x=.str i/\y=.str j/\i.length+j.length<=sizeLine/\Q (.str (i++j)) H
theorem cb:OpR X (binaryOp .Add) (fun x y H Q=>CA X.K x y H (jN Q)):=OpR.frz (OpR.or GZ (OpR.or (OpR.or EF Bx) (OpR.or Fv xw)))
theorem aM.AM {α:List Addr} {H:Hp} {h:Hh} {Q:VK} {d:D} {v:V} (p:aM K g α H Q d h) (r:aX K g α H h) (rd:aO K g α H d v):jN Q v H:=.inl (p.now r rd)
theorem cg {nl:NL} [kW nl]:fc K g ε (cG nl) (fun x y H Q=>CA K x y H (jN Q)):=by
 intro α H h a b x y Q r ra rb w
 have gen:∀{a b:D} {x y:V},aO K g α H a x->aO K g α H b y->WQ K g ε α H (match pR a h,pR b h with
  | some a,some b=>if a.length+b.length<=1000000 then nl (a++b) h else .bad
  | _,_=>.bad) (aM K g α H Q)->CA K x y H (jN Q):=by
  intro a b x y ra rb w
  cases e1:pR a h with
  | none=>simp only[e1] at w;exact w.elim
  | some da=>
   cases e2:pR b h with
   | none=>simp only[e1,e2] at w;exact w.elim
   | some db=>
    simp only[e1,e2] at w
    obtain⟨p,va,rfl,hva,rsa⟩:=xt r ra e1
    obtain⟨q,vb,rfl,hvb,rsb⟩:=xt r rb e2
    obtain⟨hl,w⟩:=WQ.eF w
    refine .inr (.inr (.inl ⟨p,q,va,vb,rfl,rfl,hva,hvb,gJ (by rw[<- rsa.length,<- rsb.length];exact hl),fun l hl'=>?_⟩))
    exact NL.post w r (rsa.append rsb) hl'
 unfold cG at w
 split at w
 ·cases ra
  cases rb
  exact .inl ⟨_,_,rfl,rfl,aM.AM w r (.int _)⟩
 ·cases ra with
  | @tup da pa va ha rsa=>
   cases rb with
   | @tup db pb vb hb rsb=>
    obtain⟨hl,w⟩:=WQ.eF w
    refine .inr (.inl ?_)
    cases va with
    | nil=>
     cases rsa
     exact .inr ⟨_,_,_,rfl,rfl,SqT.of ha,SqT.of hb,aM.AM w r (.tup hb rsb)⟩
    | cons z zs=>
     refine .inl ⟨_,_,_,_,rfl,rfl,SqT.of ha,SqT.of hb,by simp,gJ (by rw[<- rsa.length,<- rsb.length];exact hl),fun e=>?_,fun _ p hp=>.inl (aM.tup w r (rsa.append rsb) hp)⟩
     subst e
     cases rsb
     refine aM.AM w r (.tup ha ?_)
     rw[List.append_nil];exact rsa
 ·cases ra
  cases rb
  obtain⟨hl,w⟩:=WQ.eF w
  exact .inr (.inr (.inr ⟨_,_,rfl,rfl,gJ hl,aM.AM w r (.str _)⟩))
 ·exact gen ra rb w
noncomputable def cy:D->D->Hh->R D
 | .int i,.int j,h=>.ok (.int (i - j)) h
 | _,_,_=>.bad
theorem b8:fc K g ε cy (rI0 fun i j=>.int (i - j)):=by
 intro α H h a b x y Q r ra rb w
 unfold cy at w
 cases ra with
 | int i=>
  cases rb with
  | int j=>exact⟨i,j,rfl,rfl,aM.now w r (.int _)⟩
  | _=>exact w.elim
 | _=>exact w.elim
noncomputable def GD:R2:=fun x y H Q=>∃l k xs,x=.ref l/\y=.int k/\Rd H l (.lst xs)/\-(2 ^ 63)<=k/\k<2 ^ 63/\xs.length*k.toNat<=sizeLine ∧
 ∀p,H p=none->Q (.ref p) (upd H p (.lst (List.replicate k.toNat xs).flatten))
theorem EU:OpR X (binaryOp .Mult) GD:=by
 intro pins s σ H x y v u Q I rx ry h
 obtain⟨l,k,xs,rfl,rfl,hH,h1,h2,hz,q⟩:=h
 cases rx
 obtain⟨t,rfl⟩:=ry
 obtain⟨its,n,z,r,hl,e⟩:=Iy I hH
 have hlen:its.toArray.size*k.toNat<=sizeLine:=by rw[List.size_toArray,<- hl];exact hz
 have hcap:¬ its.toArray.size*k.toNat > (2 ^ 63 - 1) / 8:=by
  have:(sizeLine:Nat)<=(2 ^ 63 - 1) / 8:=by decide
  omega
 have hfit:¬ (!Builtin.List.listFitsIndex k)=true:=by
  rw[fitsIndex_both h1 h2]
  exact Bool.false_ne_true
 have hlong:¬ Builtin.List.listTooLong (its.toArray.size*k.toNat)=true:=by
  rw[A2 hlen]
  exact Bool.false_ne_true
 have hnew:List.foldl (fun x1 x2=>x1++x2) #[] (List.replicate (if its.toArray.isEmpty=true then 0 else k.toNat) its.toArray)=(List.replicate k.toNat its).flatten.toArray:=by
  have f0:∀m:Nat,List.foldl (fun x1 x2=>x1++x2) #[] (List.replicate m its.toArray)=(List.replicate m its).flatten.toArray:=fun m=>by
   have:=foldl_rep its m []
   rw[List.nil_append] at this
   exact this
  rw[f0]
  cases its with
  | nil=>simp
  | cons a r'=>rw[if_neg (by simp)]
 refine wpAny_binaryOp_repeat_ref (T:="list") (U:="int") (by decide) ⟨_,e,rfl⟩ (fun s'=>typeIs_int s' k t) noFill_list_mul F.fills_int_mul F.slot_int_rmul repeat_list F.slot_int_index.lookup
  (call_meets F.slot_int_rmul (typeIs_int s k t) F.entry_int_rmul (F.args_int_rmul_2 _ _) (int___rmul___int_list k t l its.toArray n)
   ⟨e,rfl,⟨_,e,rfl⟩,call_meets F.slot_list_mul ⟨_,e,rfl⟩ F.entry_list_mul (F.args_list_mul_2 _ _) (AutoListH.list___mul___list_int_3 l its.toArray n k t hfit hcap hlong) ⟨e,?_⟩⟩)
 rw[hnew]
 exact⟨.ref _,_,I.Fc (t':=s.toks) (r.rep k.toNat) (by rw[len_rep,Nat.mul_comm];exact hz),rfl,q _ I.fresh⟩
noncomputable def f_ (nl:NL):D->D->Hh->R D:=fun x y h=>match x,y with
 | .int i,.int j=>if sml i=true/\sml j=true then .ok (.int (i*j)) h else .bad
 | x,.int k=>match pR x h with
  | some ds=>if k.natAbs<=1000000/\ds.length*k.toNat<=1000000 then nl (List.replicate k.toNat ds).flatten h else .bad
  | none=>.bad
 | _,_=>.bad
theorem EM:OpR X (binaryOp .Mult) (rI (fun i j=>sml i=true/\sml j=true) fun i j=>.int (i*j)):=opI fun _ _ _ _ _ _ _ hc q=>mul_int q (IntMulOk.of_bits (Nat.le_trans (jL hc.1) (by decide)) (Nat.le_trans (jL hc.2) (by decide)))
noncomputable abbrev BM:R2:=fun x y H Q=>(rI (fun i j=>sml i=true/\sml j=true) fun i j=>.int (i*j)) x y H Q\/GD x y H Q
theorem gm:OpR X (binaryOp .Mult) (fun x y H Q=>BM x y H (jN Q)):=OpR.frz (OpR.or EM EU)
theorem gp {nl:NL} [kW nl]:fc K g ε (f_ nl) (fun x y H Q=>BM x y H (jN Q)):=by
 intro α H h a b x y Q r ra rb w
 have gen:∀{a:D} {k:Int} {x:V},aO K g α H a x->WQ K g ε α H (match pR a h with
  | some ds=>if k.natAbs<=1000000/\ds.length*k.toNat<=1000000 then nl (List.replicate k.toNat ds).flatten h else .bad
  | none=>.bad) (aM K g α H Q)->BM x (.int k) H (jN Q):=by
  intro a k x ra w
  cases e1:pR a h with
  | none=>simp only[e1] at w;exact w.elim
  | some ds=>
   simp only[e1] at w
   obtain⟨hl,w⟩:=WQ.eF w
   obtain⟨p,vs,rfl,hv,rs⟩:=xt r ra e1
   refine .inr ⟨p,k,vs,rfl,rfl,hv,by omega,by omega,gJ (by rw[<- rs.length];exact hl.2),fun l hl'=>?_⟩
   exact NL.post w r (rs.flat k.toNat) hl'
 unfold f_ at w
 split at w
 ·cases ra
  cases rb
  obtain⟨hc,w⟩:=WQ.eF w
  exact .inl ⟨_,_,rfl,rfl,hc,aM.AM w r (.int _)⟩
 ·cases rb
  exact gen ra w
 ·exact w.elim
noncomputable def Ah:D->D->Hh->R D
 | .int i,.int j,h=>if 0<j/\sml j=true then .ok (.int (i / j)) h else .bad
 | _,_,_=>.bad
theorem qe:OpR X (binaryOp .FloorDiv) (rI (fun i j=>0<j/\sml j=true) fun i j=>.int (i / j)):=opI fun i j _ _ _ _ _ hc q=>by
 have e:i.fdiv j=i / j:=Int.fdiv_eq_ediv_of_nonneg _ (by omega)
 refine floordiv_int (by omega) ?_ (.inl (PyProof.noPylong_of_log2 (Nat.lt_trans (oJ hc.2) (by decide))))
 rw[e];exact q
theorem xZ:fc K g ε Ah (rI (fun i j=>0<j/\sml j=true) fun i j=>.int (i / j)):=by
 intro α H h a b x y Q r ra rb w
 unfold Ah at w
 cases ra with
 | int i=>
  cases rb with
  | int j=>
   obtain⟨hc,w⟩:=WQ.eF w
   exact⟨i,j,rfl,rfl,hc,aM.now w r (.int _)⟩
  | _=>exact w.elim
 | _=>exact w.elim
noncomputable def oh:D->D->Hh->R D
 | .int i,.int j,h=>if 0<j then .ok (.int (i % j)) h else .bad
 | _,_,_=>.bad
theorem kT:fc K g ε oh (rI (fun _ j=>0<j) fun i j=>.int (i % j)):=by
 intro α H h a b x y Q r ra rb w
 unfold oh at w
 cases ra with
 | int i=>
  cases rb with
  | int j=>
   obtain⟨hc,w⟩:=WQ.eF w
   exact⟨i,j,rfl,rfl,hc,aM.now w r (.int _)⟩
  | _=>exact w.elim
 | _=>exact w.elim
noncomputable def sY:D->D->Hh->R D
 | .int i,.int j,h=>if 0<=j/\j.natAbs<=1000/\sml i=true then .ok (.int (i ^ j.toNat)) h else .bad
 | _,_,_=>.bad
theorem lU:OpR X (binaryOp .Pow) (rI (fun i j=>0<=j/\j.natAbs<=1000/\sml i=true) fun i j=>.int (i ^ j.toNat)):=opI fun i j _ _ _ _ _ hc q=>pow_int hc.1 (by
 have:=jL hc.2.2
 have h1:((Builtin.Int.intBits i:Nat):Int)<=1900:=by exact_mod_cast this
 calc ((Builtin.Int.intBits i:Nat):Int)*j<=1900*j:=Int.mul_le_mul_of_nonneg_right h1 hc.1
  _<=1900*1000:=Int.mul_le_mul_of_nonneg_left (show j<=1000 by have:=hc.2.1;omega) (by decide)
  _<=2 ^ 27:=by decide) q
theorem pB:fc K g ε sY (rI (fun i j=>0<=j/\j.natAbs<=1000/\sml i=true) fun i j=>.int (i ^ j.toNat)):=by
 intro α H h a b x y Q r ra rb w
 unfold sY at w
 cases ra with
 | int i=>
  cases rb with
  | int j=>
   obtain⟨hc,w⟩:=WQ.eF w
   exact⟨i,j,rfl,rfl,hc,aM.now w r (.int _)⟩
  | _=>exact w.elim
 | _=>exact w.elim
noncomputable def lq:D->Hh->R D
 | .int i,h=>.ok (.int (-i)) h
 | _,_=>.bad
theorem jB:Jq K g ε lq (rU fun i=>.int (-i)):=by
 intro α H h a x Q r ra w
 unfold lq at w
 cases ra with
 | int i=>exact⟨i,rfl,aM.now w r (.int _)⟩
 | _=>exact w.elim
noncomputable def zR (p:Int->Int->Bool):D->D->Hh->R D
 | .int i,.int j,h=>.ok (.bl (p i j)) h
 | _,_,_=>.bad
noncomputable def ltI:Int->Int->Bool
 | .ofNat a,.ofNat b=>Nat.blt a b
 | .ofNat _,.negSucc _=>false
 | .negSucc _,.ofNat _=>true
 | .negSucc a,.negSucc b=>Nat.blt b a
theorem oZ:ltI=fun i j=>decide (i<j):=by
 funext i j
 cases i with
 | ofNat a=>
  cases j with
  | ofNat b=>
   show Nat.blt a b=_
   rw[Bool.eq_iff_iff,Nat.blt_eq,decide_eq_true_iff]
   exact Int.ofNat_lt.symm
  | negSucc b=>exact(decide_eq_false (by have:Int.ofNat a=(a:Int):=rfl;omega)).symm
 | negSucc a=>
  cases j with
  | ofNat b=>exact(decide_eq_true (by have:Int.ofNat b=(b:Int):=rfl;omega)).symm
  | negSucc b=>
   show Nat.blt b a=_
   rw[Bool.eq_iff_iff,Nat.blt_eq,decide_eq_true_iff]
   omega
noncomputable def leI (i j:Int):Bool:=!ltI j i
theorem tm:leI=fun i j=>decide (i<=j):=by
 funext i j
 unfold leI
 rw[oZ,Bool.eq_iff_iff]
 simp
noncomputable def dLt:D->D->Hh->R D:=zR ltI
noncomputable def dLe:D->D->Hh->R D:=zR leI
noncomputable def dGt:D->D->Hh->R D:=zR fun i j=>ltI j i
noncomputable def dGe:D->D->Hh->R D:=zR fun i j=>leI j i
theorem tD {p:Int->Int->Bool}:fc K g ε (zR p) (rI0 fun i j=>.bl (p i j)):=by
 intro α H h a b x y Q r ra rb w
 unfold zR at w
 cases ra with
 | int i=>
  cases rb with
  | int j=>exact⟨i,j,rfl,rfl,aM.now w r (.bl _)⟩
  | _=>exact w.elim
 | _=>exact w.elim
theorem rR:fc K g ε dLt (rI0 fun i j=>.bl (decide (i<j))):=by
 unfold dLt;rw[oZ];exact tD
theorem Gu:fc K g ε dLe (rI0 fun i j=>.bl (decide (i<=j))):=by
 unfold dLe;rw[tm];exact tD
theorem Ca:fc K g ε dGt (rI0 fun i j=>.bl (decide (j<i))):=by
 unfold dGt;rw[oZ];exact tD
theorem IW:fc K g ε dGe (rI0 fun i j=>.bl (decide (j<=i))):=by
 unfold dGe;rw[tm];exact tD
noncomputable def fY (d:D) (h:Hh):Option (List D):=match d with
 | .tup ds=>some ds
 | .frl ds=>some ds
 | .scr ds=>some ds
 | .ref n=>aN h n
 | _=>none
theorem lu {α:List Addr} {H:Hp} {h:Hh} {d:D} {x:V} {ds:List D} (r:aX K g α H h) (rd:aO K g α H d x) (e:fY d h=some ds):∃p vs,x=.ref p/\(SqL K H p vs\/SqT K H p vs)/\ax K g α H ds vs:=by
 unfold fY at e
 cases rd with
 | tup hq rs=>cases e;exact⟨_,_,rfl,.inr (SqT.of hq),rs⟩
 | frl hq rs=>cases e;exact⟨_,_,rfl,.inl hq.sq,rs⟩
 | scr hq rs=>cases e;exact⟨_,_,rfl,.inl hq.sq,rs⟩
 | ref hp=>obtain⟨vs,hv,rs⟩:=r.lst e hp;exact⟨_,vs,rfl,.inl (SqL.of hv),rs⟩
 | _=>cases e
noncomputable def dIx:D->D->Hh->R D:=fun a b h=>match fY a h,b with
 | some ds,.int i=>match atI ds i with
  | some d=>.ok d h
  | none=>.bad
 | _,_=>.bad
theorem EO {α:List Addr} {H:Hp} {ds:List D} {vs:List V} {i:Int} {d:D} (rs:ax K g α H ds vs) (e:atI ds i=some d):∃v,atI vs i=some v/\aO K g α H d v:=by
 unfold atI at e ⊢
 rw[<- rs.length]
 cases e1:ixN ds.length i with
 | none=>rw[e1] at e;cases e
 | some j=>
  rw[e1] at e
  exact rs.get e
theorem cY:fc K g ε dIx (rIx K):=by
 intro α H h a b x y Q r ra rb w
 unfold dIx at w
 cases e1:fY a h with
 | none=>simp only[e1] at w;exact w.elim
 | some ds=>
  simp only[e1] at w
  obtain⟨p,vs,rfl,hq,rs⟩:=lu r ra e1
  cases rb with
  | int i=>
   cases e2:atI ds i with
   | none=>simp only[e2] at w;exact w.elim
   | some d=>
    simp only[e2] at w
    obtain⟨v,ev,rv⟩:=EO rs e2
    rcases hq with hq | hq
    ·exact .inl ⟨p,vs,i,v,rfl,rfl,hq,ev,aM.now w r rv⟩
    ·exact .inr (.inl ⟨p,vs,i,v,rfl,rfl,hq,ev,aM.now w r rv⟩)
  | _=>exact w.elim
noncomputable def mS:D->D->D->Hh->R Unit:=fun o i v h=>match o,i with
 | .ref n,.int k=>match aN h n with
  | some ds=>match ixN ds.length k with
   | some j=>.ok () (h.set n (.lst (ds.set j v)))
   | none=>.bad
  | none=>.bad
 | _,_=>.bad
theorem vZ:IY K g ε mS Gg:=by
 intro α H h o i v x y z Q r ro ri rv w
 unfold mS at w
 cases ro with
 | @ref n p hp=>
  cases ri with
  | int k=>
   cases e1:aN h n with
   | none=>simp only[e1] at w;exact w.elim
   | some ds=>
    simp only[e1] at w
    cases e2:ixN ds.length k with
    | none=>simp only[e2] at w;exact w.elim
    | some j=>
     simp only[e2] at w
     obtain⟨vs,hv,rs⟩:=r.lst e1 hp
     refine⟨p,vs,k,j,rfl,rfl,hv,by rw[<- rs.length];exact e2,?_⟩
     have x:=Ext.write (o:=.lst (vs.set j z)) r hp
     exact w _ α x (r.write hp ⟨_,aZ,(rs.set rv j).ext x⟩)
  | _=>exact w.elim
 | _=>exact w.elim
noncomputable def cutD (xs:List D) (lo hi:Option Int):List D:=(xs.drop (HT.sIx xs.length 0 lo)).take (HT.sIx xs.length xs.length hi - HT.sIx xs.length 0 lo)
theorem lQ {α:List Addr} {H:Hp} {ds:List D} {vs:List V} (rs:ax K g α H ds vs) (lo hi:Option Int):ax K g α H (cutD ds lo hi) (qw vs lo hi):=by
 unfold cutD qw
 rw[<- rs.length]
 exact(rs.drop _).take _
noncomputable abbrev MO:=En->Hh->R (Option Int)
noncomputable def fE:MO:=fun _ h=>.ok none h
noncomputable def gK (a:ME):MO:=fun env h=>(a env h).bind fun d h1=>match d with
 | .int i=>.ok (some i) h1
 | _=>.bad
noncomputable def tMO (K:PySem.W.Frag) (g:GG) (ε:EE) (m:MO):TO:=fun σ H Q=>∃α env h,dW K g α H env σ h/\WQ K g ε α H (m env h) fun o h'=>∀H' α',Ext K α H α' H'->aX K g α' H' h'->Q o H'
theorem PO.imp {e:Option Expr} {t t':TO} (h:PO X e t) (i:∀σ H Q,t' σ H Q->t σ H Q):PO X e t':=fun pins s σ H Q I w=>h pins s σ H Q I (i σ H Q w)
theorem oF:PO X none (tMO X.K g ε fE):=PO.imp Fd fun σ H Q ⟨α,env,h,s,w⟩=>w H α Ext.refl s.heap
theorem ki {e:Expr} {me:ME} (he:PE X e (tM X.K g ε me)):PO X (some e) (tMO X.K g ε (gK me)):=PO.imp (Ej he) fun σ H Q ⟨α,env,h,s,w⟩=>tM.use s w.bind fun d1 h1 v1 H1 α1 e1 s1 r1 w1=>by
 cases r1 with
 | int i=>exact⟨i,rfl,w1 H1 α1 e1 s1.heap⟩
 | _=>exact w1.elim
noncomputable def AN (nl:NL):D->Option Int->Option Int->Hh->R D:=fun d lo hi h=>match d with
 | .tup ds=>.ok (.tup (cutD ds lo hi)) h
 | .frl ds=>nl (cutD ds lo hi) h
 | .scr ds=>nl (cutD ds lo hi) h
 | .ref n=>match aN h n with
  | some ds=>nl (cutD ds lo hi) h
  | none=>.bad
 | _=>.bad
noncomputable def fV (nl:NL) (a:ME) (l u:MO):ME:=fun env h=>(a env h).bind fun x h1=>(l env h1).bind fun lo h2=>(u env h2).bind fun hi h3=>AN nl x lo hi h3
theorem tMO.use {α:List Addr} {H:Hp} {env:En} {σ:St} {h:Hh} {m:MO} {Q:Option Int->Hp->Prop} {k:Option Int->Hh->Prop} (s:dW K g α H env σ h) (w:WQ K g ε α H (m env h) k)
  (q:∀d h' H' α',Ext K α H α' H'->dW K g α' H' env σ h'->k d h'->Q d H'):tMO K g ε m σ H Q:=
 ⟨α,env,h,s,w.mono fun d h' _ kk H' α' e r=>q d h' H' α' e (s.ext e r) kk⟩
theorem jY {nl:NL} [kW nl] {e:Expr} {me:ME} {lo hi:Option Expr} {ml mh:MO} {p2 pos:Pos} (he:PE X e (tM X.K g ε me)) (hl:PO X lo (tMO X.K g ε ml)) (hu:PO X hi (tMO X.K g ε mh)):PE X (.Subscript e (.Slice lo hi none p2) pos) (tM X.K g ε (fV nl me ml mh)):=
 PE.imp (PE.frz (C6 (SlR.or FV (SlR.or HJ Eh)) he hl hu)) fun σ H Q ⟨α,env,h,s,w⟩=>tM.use s w.bind fun d1 h1 v1 H1 α1 e1 s1 r1 w1=>tMO.use s1 (w1.ext e1).bind fun o2 h2 H2 α2 e2 s2 w2=>tMO.use s2 (w2.ext e2).bind fun o3 h3 H3 α3 e3 s3 w3=>by
  have tr:=e1.trans (e2.trans e3)
  have r3:=r1.ext (e2.trans e3)
  have w4:=(w3.ext e3).mono fun _ _ _ p=>aM.ext tr p
  unfold AN at w4
  cases r3 with
  | @frl ds p vs hq rs=>exact .inl ⟨_,_,rfl,hq.sq,fun l hl=>NL.post w4 s3.heap (lQ rs _ _) hl⟩
  | @scr ds p vs hq rs=>exact .inl ⟨_,_,rfl,hq.sq,fun l hl=>NL.post w4 s3.heap (lQ rs _ _) hl⟩
  | @ref n p hp=>
   cases e1:aN h3 n with
   | none=>simp only[e1] at w4;exact w4.elim
   | some ds=>
    simp only[e1] at w4
    obtain⟨vs,hv,rs⟩:=s3.heap.lst e1 hp
    exact .inl ⟨_,_,rfl,SqL.of hv,fun l hl=>NL.post w4 s3.heap (lQ rs _ _) hl⟩
  | @tup ds p vs hq rs=>
   refine .inr ?_
   by_cases hw:HT.sIx vs.length 0 o2=0/\HT.sIx vs.length vs.length o3=vs.length
   ·refine .inr ⟨_,_,rfl,SqT.of hq,hw.1,hw.2,?_⟩
    refine aM.AM w4 s3.heap (.tup hq ?_)
    have:qw vs o2 o3=vs:=by unfold qw;rw[hw.1,hw.2];simp
    have q:=lQ rs o2 o3
    rw[this] at q
    exact q
   ·exact .inl ⟨_,_,rfl,SqT.of hq,hw,fun l hl=>.inl (aM.tup w4 s3.heap (lQ rs _ _) hl)⟩
  | _=>exact w4.elim
end
noncomputable def fZ:D->Bool
 | .non=>true | .bl _=>true | .int _=>true | .str _=>true
 | _=>false
noncomputable def eqF:D->D->Bool
 | .non,.non=>true
 | .bl a,.bl b=>a == b
 | .bl a,.int b=>(if a then 1 else 0) == b
 | .int a,.bl b=>a == (if b then 1 else 0)
 | .int a,.int b=>a == b
 | .str a,.str b=>a == b
 | _,_=>false
noncomputable def eqL (f:D->D->Option Bool):List D->List D->Option Bool
 | x::xs,y::ys=>match f x y,eqL f xs ys with
  | some b,some c=>some (b&&c)
  | _,_=>none
 | [],[]=>some true
 | _,_=>some false
inductive Vw where
 | fl | tp (ds:List D) | ls (ds:List D) | no
noncomputable def vw (d:D) (h:Hh):Vw:=match d with
 | .non=>.fl | .bl _=>.fl | .int _=>.fl | .str _=>.fl
 | .tup ds=>.tp ds
 | .frl ds=>.ls ds
 | .scr ds=>.ls ds
 | .ref n=>match aN h n with
  | some ds=>.ls ds
  | none=>.no
 | _=>.no
noncomputable def eqD:Nat->Hh->D->D->Option Bool
 | 0,_,_,_=>none
 | k+1,h,a,b=>match vw a h,vw b h with
  | .fl,.fl=>some (eqF a b)
  | .tp xs,.tp ys=>eqL (eqD k h) xs ys
  | .ls xs,.ls ys=>if xs.length=ys.length then eqL (eqD k h) xs ys else some false
  | .fl,.tp _=>some false
  | .fl,.ls _=>some false
  | .tp _,.fl=>some false
  | .tp _,.ls _=>some false
  | .ls _,.fl=>some false
  | .ls _,.tp _=>some false
  | _,_=>none
section
variable {K:PySem.W.Frag} {g:GG} {α:List Addr} {H:Hp} {h:Hh}
theorem pk {f:D->D->Option Bool} (hf:∀a b x c,aO K g α H a x->aO K g α H b x->f a b=some c->c=true):∀{xs ys:List D} {vs:List V} {c:Bool},ax K g α H xs vs->ax K g α H ys vs->eqL f xs ys=some c->c=true
 | _,_,_,_,.nil,.nil,e=>by simp[eqL] at e;exact e
 | _,_,_,c,.cons r t,.cons r' t',e=>by
  unfold eqL at e
  split at e
  ·rename_i b c' h1 h2
   have e1:=hf _ _ _ _ r r' h1
   have e2:=pk hf t t' h2
   subst e1 e2
   exact(Option.some.inj e).symm
  ·cases e
theorem nG {d:D} {x:V} (rd:aO K g α H d x) (e:vw d h=.fl):fZ d=true:=by
 cases rd with
 | ref hp=>unfold vw at e;simp only at e;split at e<;>cases e
 | _=>first | rfl | cases e
theorem nD {d:D} {x:V} {ds:List D} (rd:aO K g α H d x) (e:vw d h=.tp ds):∃p vs,x=.ref p/\SqT K H p vs/\ax K g α H ds vs:=by
 cases rd with
 | tup hp rs=>cases e;exact⟨_,_,rfl,SqT.of hp,rs⟩
 | ref hp=>unfold vw at e;simp only at e;split at e<;>cases e
 | _=>cases e
theorem nA {d:D} {x:V} {ds:List D} (r:aX K g α H h) (rd:aO K g α H d x) (e:vw d h=.ls ds):∃p vs,x=.ref p/\SqL K H p vs/\ax K g α H ds vs:=by
 cases rd with
 | frl hp rs=>cases e;exact⟨_,_,rfl,hp.sq,rs⟩
 | scr hp rs=>cases e;exact⟨_,_,rfl,hp.sq,rs⟩
 | @ref n p hp=>
  unfold vw at e
  simp only at e
  cases el:aN h n with
  | none=>rw[el] at e;cases e
  | some ds'=>
   rw[el] at e;cases e
   obtain⟨vs,hv,rs⟩:=r.lst el hp
   exact⟨_,_,rfl,SqL.of hv,rs⟩
 | _=>cases e
theorem yw {f:D->D->Option Bool}:∀{xs ys:List D} {c:Bool},eqL f xs ys=some c →
  (∀(j:Nat) (x y:D),xs[j]?=some x->ys[j]?=some y->∃b,f x y=some b)/\c=((List.range (min xs.length ys.length)).all (fun j=>((f (xs.getD j .non) (ys.getD j .non)).getD false))&&xs.length == ys.length)
 | [],[],c,e=>by
  simp[eqL] at e
  refine⟨fun j x y h=>by simp at h,?_⟩
  simp[<- e]
 | [],_::_,c,e=>by
  simp[eqL] at e
  exact⟨fun j x y h=>by simp at h,by simp[<- e]⟩
 | _::_,[],c,e=>by
  simp[eqL] at e
  exact⟨fun j x y _ h=>by simp at h,by simp[<- e]⟩
 | x::xs,y::ys,c,e=>by
  unfold eqL at e
  split at e
  ·rename_i b c' h1 h2
   obtain⟨q1,q2⟩:=yw h2
   refine⟨fun j x' y' hx hy=>?_,?_⟩
   ·cases j with
    | zero=>simp at hx hy;subst hx hy;exact⟨b,h1⟩
    | succ j=>exact q1 j x' y' (by simpa using hx) (by simpa using hy)
   ·have e':=(Option.some.inj e).symm
    rw[e',q2]
    have hm:min (x::xs).length (y::ys).length=min xs.length ys.length+1:=by simp[Nat.succ_min_succ]
    rw[hm,List.range_succ_eq_map,List.all_cons,List.all_map]
    have h0:(f ((x::xs).getD 0 .non) ((y::ys).getD 0 .non)).getD false=b:=by
     show(f x y).getD false=b
     rw[h1];rfl
    rw[h0]
    have hlen:((x::xs).length == (y::ys).length)=(xs.length == ys.length):=by simp
    rw[hlen,Bool.and_assoc]
    rfl
  ·cases e
end
section
variable {X:Cx} {g:GG} {pins:List (Addr × Obj)} {σ:St} {H:Hp} {s:Shared} {α:List Addr} {h:Hh}
open PySem.SeqAt
theorem Fb {A:Around} {a b:D} {x y:V} {u v:Value} {K:PySem.W.Frag} (ra:aO K g α H a x) (rb:aO K g α H b y) (ru:RelV x u) (rv:RelV y v) (fa:fZ a=true) (fb:fZ b=true) :
  EqAt A s u v (eqF a b)/\RcAt A s u v (eqF a b)/\RcNeAt A s u v (!eqF a b):=by
 cases ra with
 | non=>
  cases ru
  cases rb with
  | non=>cases rv;exact⟨.same _,.none_none,.none_none⟩
  | bl z=>cases rv;exact⟨.none_bool z,.none_bool z,.none_bool z⟩
  | int z=>obtain⟨t,rfl⟩:=rv;exact⟨.none_int z t,.none_int z t,.none_int z t⟩
  | str z=>obtain⟨t,rfl⟩:=rv;exact⟨.none_str z t,.none_str z t,.none_str z t⟩
  | _=>cases fb
 | bl q=>
  cases ru
  cases rb with
  | non=>cases rv;exact⟨.bool_none q,.bool_none q,.bool_none q⟩
  | bl z=>cases rv;exact⟨.bool_bool q z,.bool_bool q z,.bool_bool q z⟩
  | int z=>obtain⟨t,rfl⟩:=rv;exact⟨.bool_int q z t,.bool_int q z t,.bool_int q z t⟩
  | str z=>obtain⟨t,rfl⟩:=rv;exact⟨.bool_str q z t,.bool_str q z t,.bool_str q z t⟩
  | _=>cases fb
 | int q=>
  obtain⟨t',rfl⟩:=ru
  cases rb with
  | non=>cases rv;exact⟨.int_none q t',.int_none q t',.int_none q t'⟩
  | bl z=>cases rv;exact⟨.int_bool q t' z,.int_bool q t' z,.int_bool q t' z⟩
  | int z=>obtain⟨t,rfl⟩:=rv;exact⟨.int_int q t' z t,.int_int q t' z t,.int_int q t' z t⟩
  | str z=>obtain⟨t,rfl⟩:=rv;exact⟨.int_str q t' z t,.int_str q t' z t,.int_str q t' z t⟩
  | _=>cases fb
 | str q=>
  obtain⟨t',rfl⟩:=ru
  cases rb with
  | non=>cases rv;exact⟨.str_none q t',.str_none q t',.str_none q t'⟩
  | bl z=>cases rv;exact⟨.str_bool q t' z,.str_bool q t' z,.str_bool q t' z⟩
  | int z=>obtain⟨t,rfl⟩:=rv;exact⟨.str_int q t' z t,.str_int q t' z t,.str_int q t' z t⟩
  | str z=>obtain⟨t,rfl⟩:=rv;exact⟨.str_str q t' z t,.str_str q t' z t,.str_str q t' z t⟩
  | _=>cases fb
 | _=>cases fa
theorem wb {A:Around} {b:D} {y:V} {v:Value} {p:Addr} {its:Array Value} {K:PySem.W.Frag} (ht:s.heap.IsTuple p its) (hu:A.units<cLine) (rb:aO K g α H b y) (rv:RelV y v) (fb:fZ b=true) :
  (EqAt A s (.ref p) v false/\RcAt A s (.ref p) v false/\RcNeAt A s (.ref p) v true)/\(EqAt A s v (.ref p) false/\RcAt A s v (.ref p) false/\RcNeAt A s v (.ref p) true):=by
 cases rb with
 | non=>cases rv;exact⟨⟨.tuple_none ht hu,.tuple_none ht hu,.tuple_none ht hu⟩,.none_tuple ht hu,.none_tuple ht hu,.none_tuple ht hu⟩
 | bl z=>cases rv;exact⟨⟨.tuple_bool z ht hu,.tuple_bool z ht hu,.tuple_bool z ht hu⟩,.bool_tuple z ht hu,.bool_tuple z ht hu,.bool_tuple z ht hu⟩
 | int z=>obtain⟨t,rfl⟩:=rv;exact⟨⟨.tuple_int z t ht hu,.tuple_int z t ht hu,.tuple_int z t ht hu⟩,.int_tuple z t ht hu,.int_tuple z t ht hu,.int_tuple z t ht hu⟩
 | str z=>obtain⟨t,rfl⟩:=rv;exact⟨⟨.tuple_str z t ht hu,.tuple_str z t ht hu,.tuple_str z t ht hu⟩,.str_tuple z t ht hu,.str_tuple z t ht hu,.str_tuple z t ht hu⟩
 | _=>cases fb
theorem uZ {A:Around} {b:D} {y:V} {v:Value} {p:Addr} {its:Array Value} {K:PySem.W.Frag} (ht:s.heap.IsList p its) (hu:A.units<cLine) (rb:aO K g α H b y) (rv:RelV y v) (fb:fZ b=true) :
  (EqAt A s (.ref p) v false/\RcAt A s (.ref p) v false/\RcNeAt A s (.ref p) v true)/\(EqAt A s v (.ref p) false/\RcAt A s v (.ref p) false/\RcNeAt A s v (.ref p) true):=by
 cases rb with
 | non=>cases rv;exact⟨⟨.list_none ht hu,.list_none ht hu,.list_none ht hu⟩,.none_list ht hu,.none_list ht hu,.none_list ht hu⟩
 | bl z=>cases rv;exact⟨⟨.list_bool z ht hu,.list_bool z ht hu,.list_bool z ht hu⟩,.bool_list z ht hu,.bool_list z ht hu,.bool_list z ht hu⟩
 | int z=>obtain⟨t,rfl⟩:=rv;exact⟨⟨.list_int z t ht hu,.list_int z t ht hu,.list_int z t ht hu⟩,.int_list z t ht hu,.int_list z t ht hu,.int_list z t ht hu⟩
 | str z=>obtain⟨t,rfl⟩:=rv;exact⟨⟨.list_str z t ht hu,.list_str z t ht hu,.list_str z t ht hu⟩,.str_list z t ht hu,.str_list z t ht hu,.str_list z t ht hu⟩
 | _=>cases fb
theorem wq {A:Around} {k:Nat} {ds es:List D} {vs us:List V} {its jts:List Value} {c:Bool} (r:aX X.K g α H h)
  (ih:∀(a b:D) (x y:V) (u v:Value) (c:Bool),aO X.K g α H a x->aO X.K g α H b y->RelV x u->RelV y v->eqD k h a b=some c->EqAt A.in1 s u v c)
  (rs:ax X.K g α H ds vs) (rt:ax X.K g α H es us) (rv:Vals vs its) (ru:Vals us jts) (e:eqL (eqD k h) ds es=some c) :
  (∀j (h1:j<its.toArray.size) (h2:j<jts.toArray.size),EqAt A.in1 s its.toArray[j] jts.toArray[j] ((fun(j:Nat)=>(eqD k h (ds.getD j .non) (es.getD j .non)).getD false) j)) ∧
  c=((List.range (min its.toArray.size jts.toArray.size)).all (fun(j:Nat)=>(eqD k h (ds.getD j .non) (es.getD j .non)).getD false)&&its.toArray.size == jts.toArray.size):=by
 obtain⟨q1,q2⟩:=yw e
 have l1:its.toArray.size=ds.length:=by rw[List.size_toArray,<- rv.length,rs.length]
 have l2:jts.toArray.size=es.length:=by rw[List.size_toArray,<- ru.length,rt.length]
 refine⟨fun j h1 h2=>?_,by rw[l1,l2];exact q2⟩
 have hd:ds[j]?=some (ds.getD j .non):=by rw[List.getD_eq_getElem?_getD,List.getElem?_eq_getElem (by omega)];rfl
 have he:es[j]?=some (es.getD j .non):=by rw[List.getD_eq_getElem?_getD,List.getElem?_eq_getElem (by omega)];rfl
 obtain⟨b,hb⟩:=q1 j _ _ hd he
 obtain⟨x,hx,rx⟩:=rs.get hd
 obtain⟨y,hy,ry⟩:=rt.get he
 obtain⟨u,hu,rxu⟩:=rv.get hx
 obtain⟨v,hv,ryv⟩:=ru.get hy
 have eu:its.toArray[j]=u:=by
  have:=List.getElem?_eq_getElem (l:=its) (i:=j) (by simpa using h1)
  rw[hu] at this
  simpa using(Option.some.inj this).symm
 have ev:jts.toArray[j]=v:=by
  have:=List.getElem?_eq_getElem (l:=jts) (i:=j) (by simpa using h2)
  rw[hv] at this
  simpa using(Option.some.inj this).symm
 rw[eu,ev]
 show EqAt A.in1 s u v ((eqD k h (ds.getD j .non) (es.getD j .non)).getD false)
 rw[hb]
 exact ih _ _ _ _ _ _ _ rx ry rxu ryv hb
theorem yF (I:Inv X pins σ H s) {p:Addr} {vs us:List V} (a:SqT X.K H p vs) (b:SqL X.K H p us):False:=by
 obtain⟨its,r1,⟨o,e,c,_⟩,_⟩:=I.tuple a
 obtain⟨jts,r2,⟨o',n',e',c',_⟩,_⟩:=I.list b
 rw[e] at e';cases e';rw[c] at c';injection c' with z;exact absurd z (by decide)
theorem pV (I:Inv X pins σ H s) (r:aX X.K g α H h):∀(k:Nat) (a b:D) (x:V) (c:Bool),aO X.K g α H a x->aO X.K g α H b x->eqD k h a b=some c->c=true
 | 0,_,_,_,_,_,_,e=>by cases e
 | k+1,a,b,x,c,ra,rb,e=>by
  unfold eqD at e
  cases ea:vw a h with
  | no=>simp[ea] at e
  | fl=>
   have fa:=nG ra ea
   cases eb:vw b h with
   | no=>simp[ea,eb] at e
   | fl=>
    simp only[ea,eb] at e
    cases e
    have fb:=nG rb eb
    cases ra with
    | non=>cases rb with
     | non=>rfl
    | bl z=>cases rb with
     | bl _=>simp[eqF]
    | int z=>cases rb with
     | int _=>simp[eqF]
    | str z=>cases rb with
     | str _=>simp[eqF]
    | _=>cases fa
   | tp ds=>obtain⟨p,vs,rfl,_⟩:=nD rb eb;cases ra<;>cases fa
   | ls ds=>obtain⟨p,vs,rfl,_⟩:=nA r rb eb;cases ra<;>cases fa
  | tp da=>
   obtain⟨p,va,rfl,hp,rs⟩:=nD ra ea
   cases eb:vw b h with
   | no=>simp[ea,eb] at e
   | fl=>have fb:=nG rb eb;cases rb<;>cases fb
   | tp db=>
    simp only[ea,eb] at e
    obtain⟨q,vb,hpq,hq,rt⟩:=nD rb eb
    cases hpq
    have:=I.mZ hp hq
    subst this
    exact pk (fun a b x c=>pV I r k a b x c) rs rt e
   | ls db=>
    obtain⟨q,vb,hpq,hq,rt⟩:=nA r rb eb
    cases hpq
    exact(yF I hp hq).elim
  | ls da=>
   obtain⟨p,va,rfl,hp,rs⟩:=nA r ra ea
   cases eb:vw b h with
   | no=>simp[ea,eb] at e
   | fl=>have fb:=nG rb eb;cases rb<;>cases fb
   | tp db=>
    obtain⟨q,vb,hpq,hq,rt⟩:=nD rb eb
    cases hpq
    exact(yF I hq hp).elim
   | ls db=>
    simp only[ea,eb] at e
    obtain⟨q,vb,hpq,hq,rt⟩:=nA r rb eb
    cases hpq
    have:=I.pQ hp hq
    subst this
    rw[if_pos (by rw[rs.length,rt.length])] at e
    exact pk (fun a b x c=>pV I r k a b x c) rs rt e
theorem wV (I:Inv X pins σ H s) (r:aX X.K g α H h):∀(k:Nat) (A:Around) (a b:D) (x y:V) (u v:Value) (c:Bool),A.units+k<cLine->aO X.K g α H a x->aO X.K g α H b y->RelV x u->RelV y v->eqD k h a b=some c →
  EqAt A s u v c/\RcAt A s u v c/\RcNeAt A s u v (!c)
 | 0,_,_,_,_,_,_,_,_,_,_,_,_,_,e=>by cases e
 | k+1,A,a,b,x,y,u,v,c,hu,ra,rb,ru,rv,e=>by
  have hu0:A.units<cLine:=by omega
  have ih:∀(a b:D) (x y:V) (u v:Value) (c:Bool),aO X.K g α H a x->aO X.K g α H b y->RelV x u->RelV y v->eqD k h a b=some c->EqAt A.in1 s u v c:=
   fun a b x y u v c h1 h2 h3 h4 h5=>(wV I r k A.in1 a b x y u v c (by show A.units+1+k<_;omega) h1 h2 h3 h4 h5).1
  have whole:=fun x ra rb=>pV I r (k+1) a b x c ra rb e
  unfold eqD at e
  cases ea:vw a h with
  | no=>simp[ea] at e
  | fl=>
   have fa:=nG ra ea
   cases eb:vw b h with
   | no=>simp[ea,eb] at e
   | fl=>simp only[ea,eb] at e;cases e;exact Fb ra rb ru rv fa (nG rb eb)
   | tp db=>
    simp only[ea,eb] at e;cases e
    obtain⟨q,vb,rfl,hq,rt⟩:=nD rb eb
    cases rv
    obtain⟨its,r1,ht,_⟩:=I.tuple hq
    exact(wb ht hu0 ra ru fa).2
   | ls db=>
    simp only[ea,eb] at e;cases e
    obtain⟨q,vb,rfl,hq,rt⟩:=nA r rb eb
    cases rv
    obtain⟨its,r1,ht,_⟩:=I.list hq
    exact(uZ ht.isList hu0 ra ru fa).2
  | tp da=>
   obtain⟨p,va,rfl,hp,rs⟩:=nD ra ea
   cases ru
   obtain⟨its,r1,ht,_⟩:=I.tuple hp
   cases eb:vw b h with
   | no=>simp[ea,eb] at e
   | fl=>simp only[ea,eb] at e;cases e;exact(wb ht hu0 rb rv (nG rb eb)).1
   | tp db=>
    simp only[ea,eb] at e
    obtain⟨q,vb,rfl,hq,rt⟩:=nD rb eb
    cases rv
    obtain⟨jts,r2,ht2,_⟩:=I.tuple hq
    obtain⟨h1,h2⟩:=wq r ih rs rt r1 r2 e
    have rc:RcAt A s (.ref p) (.ref q) c:=by rw[h2];exact RcAt.tuples ht ht2 hu0 h1
    refine⟨?_,rc,by rw[h2];exact RcNeAt.tuples ht ht2 hu0 h1⟩
    by_cases hpq:p=q
    ·subst hpq
     rw[whole _ ra rb]
     exact .same _
    ·exact .of_refs hpq rc
   | ls db=>
    simp only[ea,eb] at e;cases e
    obtain⟨q,vb,rfl,hq,rt⟩:=nA r rb eb
    cases rv
    obtain⟨jts,r2,ht2,_⟩:=I.list hq
    exact⟨.tuple_list ht ht2.isList hu0,.tuple_list ht ht2.isList hu0,.tuple_list ht ht2.isList hu0⟩
  | ls da=>
   obtain⟨p,va,rfl,hp,rs⟩:=nA r ra ea
   cases ru
   obtain⟨its,r1,ht',_⟩:=I.list hp
   have ht:=ht'.isList
   cases eb:vw b h with
   | no=>simp[ea,eb] at e
   | fl=>simp only[ea,eb] at e;cases e;exact(uZ ht hu0 rb rv (nG rb eb)).1
   | tp db=>
    simp only[ea,eb] at e;cases e
    obtain⟨q,vb,rfl,hq,rt⟩:=nD rb eb
    cases rv
    obtain⟨jts,r2,ht2,_⟩:=I.tuple hq
    exact⟨.list_tuple ht ht2 hu0,.list_tuple ht ht2 hu0,.list_tuple ht ht2 hu0⟩
   | ls db=>
    simp only[ea,eb] at e
    obtain⟨q,vb,rfl,hq,rt⟩:=nA r rb eb
    cases rv
    obtain⟨jts,r2,ht2',_⟩:=I.list hq
    have ht2:=ht2'.isList
    have l1:its.toArray.size=da.length:=by rw[List.size_toArray,<- r1.length,rs.length]
    have l2:jts.toArray.size=db.length:=by rw[List.size_toArray,<- r2.length,rt.length]
    have fin:RcAt A s (.ref p) (.ref q) c/\RcNeAt A s (.ref p) (.ref q) (!c):=by
     by_cases hl:da.length=db.length
     ·rw[if_pos hl] at e
      obtain⟨h1,h2⟩:=wq r ih rs rt r1 r2 e
      have hsz:its.toArray.size=jts.toArray.size:=by omega
      have h2':c=(List.range its.toArray.size).all (fun(j:Nat)=>(eqD k h (da.getD j .non) (db.getD j .non)).getD false):=by
       rw[h2,<- hsz,Nat.min_self];simp
      exact⟨by rw[h2'];exact RcAt.lists ht ht2 hsz hu0 h1,by rw[h2'];exact RcNeAt.lists ht ht2 hsz hu0 h1⟩
     ·rw[if_neg hl] at e
      have e2:c=false:=(Option.some.inj e).symm
      have hsz:(its.toArray.size != jts.toArray.size)=true:=by
       rw[l1,l2];simpa using hl
      rw[e2]
      exact⟨RcAt.lists_lengths ht ht2 hsz hu0,RcNeAt.lists_lengths ht ht2 hsz hu0⟩
    refine⟨?_,fin⟩
    by_cases hpq:p=q
    ·subst hpq
     rw[whole _ ra rb]
     exact .same _
    ·exact .of_refs hpq fin.1
noncomputable abbrev eqN:Nat:=12
noncomputable def dEq:D->D->Hh->R D:=fun a b h=>match eqD eqN h a b with
 | some c=>.ok (.bl c) h
 | none=>.bad
noncomputable def dNe:D->D->Hh->R D:=fun a b h=>match eqD eqN h a b with
 | some c=>.ok (.bl (!c)) h
 | none=>.bad
noncomputable def D8 (K:PySem.W.Frag) (g:GG) (neg:Bool):R2:=fun x y H Q=>∃α h a b c,aX K g α H h/\aO K g α H a x/\aO K g α H b y/\eqD eqN h a b=some c/\Q (.bl (if neg then !c else c)) H
theorem jM (hu:X.A.units+64<cLine):OpR X (compareOp .Eq) (D8 X.K g false):=by
 intro pins s σ H x y v u Q I rx ry ⟨α,h,a,b,c,r,ra,rb,e,q⟩
 exact(wV I r eqN X.A a b x y v u c (by show X.A.units+12<_;omega) ra rb rx ry e).2.1 _ _ _ _ ⟨.bl c,H,I,rfl,q⟩
theorem iX (hu:X.A.units+64<cLine):OpR X (compareOp .NotEq) (D8 X.K g true):=by
 intro pins s σ H x y v u Q I rx ry ⟨α,h,a,b,c,r,ra,rb,e,q⟩
 exact(wV I r eqN X.A a b x y v u c (by show X.A.units+12<_;omega) ra rb rx ry e).2.2 _ _ _ _ ⟨.bl (!c),H,I,rfl,q⟩
theorem nK {ε:EE} {K:PySem.W.Frag}:fc K g ε dEq (D8 K g false):=by
 intro α H h a b x y Q r ra rb w
 unfold dEq at w
 cases e:eqD eqN h a b with
 | none=>simp only[e] at w;exact w.elim
 | some c=>simp only[e] at w;exact⟨α,h,a,b,c,r,ra,rb,e,aM.now w r (.bl _)⟩
theorem l6 {ε:EE} {K:PySem.W.Frag}:fc K g ε dNe (D8 K g true):=by
 intro α H h a b x y Q r ra rb w
 unfold dNe at w
 cases e:eqD eqN h a b with
 | none=>simp only[e] at w;exact w.elim
 | some c=>simp only[e] at w;exact⟨α,h,a,b,c,r,ra,rb,e,aM.now w r (.bl _)⟩
end
noncomputable def eV (f:D->Option PyData):List D->Option (List PyData)
 | []=>some []
 | d::ds=>match f d,eV f ds with
  | some p,some ps=>some (p::ps)
  | _,_=>none
noncomputable def toPy:Nat->Hh->D->Option PyData
 | 0,_,_=>none
 | k+1,h,d=>match d with
  | .non=>some .none
  | .bl b=>some (.bool b)
  | .int i=>if sml i=true then some (.int i) else none
  | .str x=>if x.cps.toList.all (fun c=>decide (c<16 ^ 8))=true then some (.str x) else none
  | .tup ds=>(eV (toPy k h) ds).map .tuple
  | .frl ds=>(eV (toPy k h) ds).map .list
  | .ref n=>match aN h n with
   | some ds=>(eV (toPy k h) ds).map .list
   | none=>none
  | _=>none
structure Kg (k:Nat) (d:PyData):Prop where
 sh:d.showable=true
 nd:d.hasDict=false
 dp:d.depth<=k
 lv:d.leavesShort 1921=true
structure Kd (k:Nat) (ds:List PyData):Prop where
 sh:PyData.showableAll ds=true
 nd:PyData.hasDictAll ds=false
 dp:PyData.depthAll ds<=k
 lv:PyData.leavesShortAll 1921 ds=true
section
variable {K:PySem.W.Frag} {g:GG} {α:List Addr} {H:Hp} {h:Hh}
theorem l8 {f:D->Option PyData} {k:Nat} (hf:∀d x p,aO K g α H d x->f d=some p->RdD K H x p/\Kg k p):∀{ds:List D} {vs:List V} {ps:List PyData},ax K g α H ds vs->eV f ds=some ps →
  Kd k ps/\vs.length=ps.length/\∀(i:Nat) x d,vs[i]?=some x->ps[i]?=some d->RdD K H x d
 | _,_,_,.nil,e=>by
  cases e
  exact⟨⟨by simp[PyData.showableAll],by simp[PyData.hasDictAll],by simp[PyData.depthAll],by simp[PyData.leavesShortAll]⟩,rfl,fun i x d h=>by simp at h⟩
 | _,_,_,.cons r t,e=>by
  unfold eV at e
  split at e
  ·rename_i p ps h1 h2
   cases e
   obtain⟨a1,a2⟩:=hf _ _ _ r h1
   obtain⟨b1,b2,b3⟩:=l8 hf t h2
   refine⟨⟨by rw[PyData.showableAll,a2.sh,b1.sh];rfl,by rw[PyData.hasDictAll,a2.nd,b1.nd];rfl,by rw[PyData.depthAll];exact Nat.max_le.mpr ⟨a2.dp,b1.dp⟩,by rw[PyData.leavesShortAll,a2.lv,b1.lv];rfl⟩,by simp[b2],fun i x d hx hd=>?_⟩
   cases i with
   | zero=>simp at hx hd;subst hx hd;exact a1
   | succ i=>exact b3 i x d (by simpa using hx) (by simpa using hd)
  ·cases e
theorem oI (r:aX K g α H h):∀(k:Nat) (d:D) (x:V) (p:PyData),aO K g α H d x->toPy k h d=some p->RdD K H x p/\Kg k p
 | 0,_,_,_,_,e=>by cases e
 | k+1,d,x,p,rd,e=>by
  unfold toPy at e
  cases rd with
  | non=>cases e;exact⟨.non,by simp[PyData.showable],by simp[PyData.hasDict],by simp[PyData.depth],by simp[PyData.leavesShort]⟩
  | bl b=>cases e;exact⟨.bl b,by simp[PyData.showable],by simp[PyData.hasDict],by simp[PyData.depth],by simp[PyData.leavesShort]⟩
  | int i=>
   simp only at e
   split at e
   ·rename_i hs
    cases e
    have hl:i.natAbs.log2<1920:=Nat.lt_trans (oJ hs) (by decide)
    exact⟨.int i,by simp[PyData.showable,hl],by simp[PyData.hasDict],by simp[PyData.depth],by simp only[PyData.leavesShort,decide_eq_true_eq];exact int_text_len_1921 hl⟩
   ·cases e
  | str z=>
   simp only at e
   split at e
   ·rename_i hs
    cases e
    exact⟨.str z,by simp[PyData.showable],by simp[PyData.hasDict],by simp[PyData.depth],by simpa only[PyData.leavesShort] using hs⟩
   ·cases e
  | tup hp rs=>
   simp only at e
   cases e1:eV (toPy k h) _ with
   | none=>rw[e1] at e;cases e
   | some ps=>
    rw[e1] at e
    cases e
    obtain⟨b1,b2,b3⟩:=l8 (fun d x p=>oI r k d x p) rs e1
    exact⟨.tup (SqT.of hp) b2 b3,by rw[PyData.showable];exact b1.sh,by rw[PyData.hasDict];exact b1.nd,by rw[PyData.depth];exact Nat.succ_le_succ b1.dp,by rw[PyData.leavesShort];exact b1.lv⟩
  | @ref n p hp=>
   simp only at e
   cases el:aN h n with
   | none=>rw[el] at e;cases e
   | some ds=>
    rw[el] at e
    simp only at e
    obtain⟨vs,hv,rs⟩:=r.lst el hp
    cases e1:eV (toPy k h) ds with
    | none=>rw[e1] at e;cases e
    | some ps=>
     rw[e1] at e
     cases e
     obtain⟨b1,b2,b3⟩:=l8 (fun d x p=>oI r k d x p) rs e1
     exact⟨.lst (SqL.of hv) b2 b3,by rw[PyData.showable];exact b1.sh,by rw[PyData.hasDict];exact b1.nd,by rw[PyData.depth];exact Nat.succ_le_succ b1.dp,by rw[PyData.leavesShort];exact b1.lv⟩
  | frl hp rs=>
   simp only at e
   cases e1:eV (toPy k h) _ with
   | none=>rw[e1] at e;cases e
   | some ps=>
    rw[e1] at e
    cases e
    obtain⟨b1,b2,b3⟩:=l8 (fun d x p=>oI r k d x p) rs e1
    exact⟨.lst hp.sq b2 b3,by rw[PyData.showable];exact b1.sh,by rw[PyData.hasDict];exact b1.nd,by rw[PyData.depth];exact Nat.succ_le_succ b1.dp,by rw[PyData.leavesShort];exact b1.lv⟩
  | fn _=>cases e
  | edic _=>cases e
  | exc _ _ _ _ _=>cases e
  | clo=>cases e
  | scr _ _=>cases e
end
noncomputable def oy (d:D) (h:Hh):R D:=match toPy 12 h d with
 | some p=>if p.bulk<=8000 then .ok (.str p.shown) h else .bad
 | none=>.bad
noncomputable def rX:List D->Hh->R D:=fun ds h=>match ds with
 | [.int i]=>if sml i=true then .ok (.str (toString i)) h else .bad
 | [.tup ds]=>oy (.tup ds) h
 | [.ref n]=>oy (.ref n) h
 | [.frl ds]=>oy (.frl ds) h
 | _=>.bad
section
variable {X:Cx} {K:PySem.W.Frag} {g:GG} {ε:EE}
noncomputable abbrev tj (K:PySem.W.Frag):List V->Hp->VK->Prop:=fun vs H Q=>(∃p d,vs=[.ref p]/\RdD K H (.ref p) d/\d.showable=true/\d.hasDict=false/\d.depth<=60/\d.shown.length<=sizeLine/\Q (.str d.shown) H)\/∃i,vs=[.int i]/\i.natAbs.log2<1920/\Q (.str (toString i)) H
theorem E7 (hg:X.A.guards=some []) (hu:X.A.units+64<cLine):bp X (.builtin "repr") (tj X.K):=bp.or (zS hg hu) wY
theorem ET:nY K g ε rX (tj K):=by
 intro α H h a x Q r ra w
 unfold rX at w
 cases ra with
 | nil=>exact w.elim
 | cons rd rr=>
  cases rr with
  | cons _ _=>cases rd<;>exact w.elim
  | nil=>
   have gen:∀{d:D} {v:V},aO K g α H d v->(∃p,v=.ref p)->WQ K g ε α H (oy d h) (aM K g α H Q)->tj K [v] H Q:=by
    intro d v rd ⟨p,hp⟩ w
    subst hp
    unfold oy at w
    cases e:toPy 12 h d with
    | none=>simp only[e] at w;exact w.elim
    | some pd=>
     simp only[e] at w
     obtain⟨hb,w⟩:=WQ.eF w
     obtain⟨q1,q2⟩:=oI r 12 d _ pd rd e
     have:=PyData.shown_le_bulk 1921 (by decide) pd q2.lv
     exact .inl ⟨p,pd,rfl,q1,q2.sh,q2.nd,Nat.le_trans q2.dp (by decide),by rw[sizeLine_eq];omega,aM.now w r (.str _)⟩
   cases rd with
   | int i=>
    obtain⟨hs,w⟩:=WQ.eF w
    exact .inr ⟨i,rfl,Nat.lt_trans (oJ hs) (by decide),aM.now w r (.str _)⟩
   | tup hp rs=>exact gen (.tup hp rs) ⟨_,rfl⟩ w
   | ref hp=>exact gen (.ref hp) ⟨_,rfl⟩ w
   | frl hp rs=>exact gen (.frl hp rs) ⟨_,rfl⟩ w
   | _=>exact w.elim
noncomputable def km:List D->Hh->R D:=fun ds h=>match ds with
 | [.tup ds]=>.ok (.int ds.length) h
 | [.frl ds]=>.ok (.int ds.length) h
 | [.scr ds]=>.ok (.int ds.length) h
 | [.str x]=>if x.length<=1000000 then .ok (.int x.length) h else .bad
 | [.ref n]=>match h[n]? with
  | some (.lst ds)=>.ok (.int ds.length) h
  | some (.set k)=>.ok (.int k.length) h
  | _=>.bad
 | _=>.bad
noncomputable abbrev Gq (K:PySem.W.Frag):List V->Hp->VK->Prop:=fun xs H Q=>(∃p ys,xs=[.ref p]/\(SqL K H p ys\/SqT K H p ys)/\Q (.int ys.length) H)\/(∃p S n,xs=[.ref p]/\H p=some (.set S n)/\Q (.int n) H)\/∃z,xs=[.str z]/\z.length<=sizeLine/\Q (.int z.length) H
theorem i4:bp X (.builtin "len") (Gq X.K):=bp.or uA (bp.or qk uD)
theorem m3 {α:List Addr} {H:Hp} {h:Hh} {ds:List D} {vs:List V} {f:List D->Hh->R D} {Q:VK} (hf:∀d e r h,f (d::e::r) h=.bad) (hf0:∀h,f [] h=.bad) (rs:ax K g α H ds vs) (w:WQ K g ε α H (f ds h) (aM K g α H Q)):∃d v,ds=[d]/\vs=[v]/\aO K g α H d v:=by
 cases rs with
 | nil=>rw[hf0] at w;exact w.elim
 | cons r t=>
  cases t with
  | nil=>exact⟨_,_,rfl,rfl,r⟩
  | cons _ _=>rw[hf] at w;exact w.elim
theorem iE:nY K g ε km (Gq K):=by
 intro α H h a x Q r ra w
 obtain⟨d,v,rfl,rfl,rd⟩:=m3 (f:=km) (fun d _ _ _=>by cases d<;>rfl) (fun _=>rfl) ra w
 unfold km at w
 cases rd with
 | tup hp rs=>exact .inl ⟨_,_,rfl,.inr (SqT.of hp),aM.now w r (by rw[<- rs.length];exact .int _)⟩
 | frl hp rs=>exact .inl ⟨_,_,rfl,.inl hp.sq,aM.now w r (by rw[<- rs.length];exact .int _)⟩
 | scr hp rs=>exact .inl ⟨_,_,rfl,.inl hp.sq,aM.now w r (by rw[<- rs.length];exact .int _)⟩
 | str z=>
  obtain⟨hl,w⟩:=WQ.eF w
  exact .inr (.inr ⟨z,rfl,gJ hl,aM.now w r (.int _)⟩)
 | @ref n p hp=>
  simp only at w
  cases e:h[n]? with
  | none=>rw[e] at w;exact w.elim
  | some o=>
   rw[e] at w
   have q:=r.here n p o hp e
   cases o with
   | lst ds=>obtain⟨vs,hv,rs⟩:=q;exact .inl ⟨p,vs,rfl,.inl (SqL.of hv),aM.now w r (by rw[<- rs.length];exact .int _)⟩
   | set k=>exact .inr (.inl ⟨p,_,_,rfl,q,aM.now w r (.int _)⟩)
   | dic k=>exact w.elim
   | dit k=>exact w.elim
 | _=>exact w.elim
noncomputable def dList (nl:NL):List D->Hh->R D:=fun ds h=>match ds with
 | [d]=>match fY d h with
  | some xs=>nl xs h
  | none=>.bad
 | _=>.bad
theorem Es {nl:NL} [kW nl]:nY K g ε (dList nl) (fun xs H Q=>∃p ys,xs=[.ref p]/\(SqL K H p ys\/SqT K H p ys)/\∀l,H l=none->jN Q (.ref l) (upd H l (.lst ys))):=by
 intro α H h a x Q r ra w
 obtain⟨d,v,rfl,rfl,rd⟩:=m3 (f:=dList nl) (fun _ _ _ _=>rfl) (fun _=>rfl) ra w
 unfold dList at w
 simp only at w
 cases e:fY d h with
 | none=>rw[e] at w;exact w.elim
 | some ds=>
  rw[e] at w
  obtain⟨p,vs,rfl,hq,rs⟩:=lu r rd e
  exact⟨p,vs,rfl,hq,fun l hl=>NL.post w r rs hl⟩
noncomputable def kR:List D->Hh->R D:=fun ds h=>match ds with
 | [.tup ds]=>.ok (.tup ds) h
 | [.frl ds]=>.ok (.tup ds) h
 | [.ref n]=>match aN h n with
  | some ds=>.ok (.tup ds) h
  | none=>.bad
 | _=>.bad
theorem pZ:nY K g ε kR (fun xs H Q=>∃p ys,xs=[.ref p]/\((SqL K H p ys/\∀l,H l=none->Q (.ref l) (upd H l (.tup ys)))\/(SqT K H p ys/\Q (.ref p) H))):=by
 intro α H h a x Q r ra w
 obtain⟨d,v,rfl,rfl,rd⟩:=m3 (f:=kR) (fun d _ _ _=>by cases d<;>rfl) (fun _=>rfl) ra w
 unfold kR at w
 cases rd with
 | tup hp rs=>exact⟨_,_,rfl,.inr ⟨SqT.of hp,aM.now w r (.tup hp rs)⟩⟩
 | frl hp rs=>exact⟨_,_,rfl,.inl ⟨hp.sq,fun l hl=>aM.tup w r rs hl⟩⟩
 | @ref n p hp=>
  simp only at w
  cases e:aN h n with
  | none=>rw[e] at w;exact w.elim
  | some ds=>
   rw[e] at w
   obtain⟨vs,hv,rs⟩:=r.lst e hp
   exact⟨p,vs,rfl,.inl ⟨SqL.of hv,fun l hl=>aM.tup w r rs hl⟩⟩
 | _=>exact w.elim
noncomputable def intsOf:List D->Option (List Int)
 | []=>some []
 | .int i::ds=>(intsOf ds).map (i::·)
 | _::_=>none
theorem ka:∀{ds:List D} {ns:List Int},intsOf ds=some ns->ds=ns.map D.int
 | [],ns,e=>by cases e;rfl
 | .int i::ds,ns,e=>by
  unfold intsOf at e
  cases e1:intsOf ds with
  | none=>rw[e1] at e;cases e
  | some ms=>rw[e1] at e;cases e;rw[ka e1];rfl
 | .non::_,_,e=>by cases e
 | .bl _::_,_,e=>by cases e
 | .str _::_,_,e=>by cases e
 | .tup _::_,_,e=>by cases e
 | .frl _::_,_,e=>by cases e
 | .ref _::_,_,e=>by cases e
 | .fn _::_,_,e=>by cases e
 | .edic::_,_,e=>by cases e
 | .exc _ _::_,_,e=>by cases e
 | .clo _ _::_,_,e=>by cases e
 | .scr _::_,_,e=>by cases e
theorem k7:∀(ns:List Int),intsOf (ns.map D.int)=some ns
 | []=>rfl
 | n::r=>by rw[List.map_cons,intsOf,k7 r];rfl
noncomputable def vR:List D->Hh->R D:=fun ds h=>match ds with
 | [.int i,.int j]=>.ok (.int (if j > i then j else i)) h
 | _=>.bad
theorem DB {α:List Addr} {H:Hp} {h:Hh} {ds:List D} {vs:List V} {t:Int->Int->Int} {Q:VK} (r:aX K g α H h) (rs:ax K g α H ds vs) (w:WQ K g ε α H (match ds with | [.int i,.int j]=>.ok (.int (t i j)) h | _=>.bad) (aM K g α H Q)):∃i j,vs=[.int i,.int j]/\Q (.int (t i j)) H:=by
 split at w
 ·cases rs with
  | cons r1 t1=>
   cases r1
   cases t1 with
   | cons r2 t2=>
    cases r2
    cases t2
    exact⟨_,_,rfl,aM.now w r (.int _)⟩
 ·exact w.elim
theorem yA:nY K g ε vR (fun xs H Q=>∃i j,xs=[.int i,.int j]/\Q (.int (if j > i then j else i)) H):=fun α H h a x Q r ra w=>DB (t:=fun i j=>if j > i then j else i) r ra w
noncomputable def BU:List D->Hh->R D:=fun ds h=>match ds with
 | [.int i]=>.ok (.int i) h
 | [.bl b]=>.ok (.int (if b then 1 else 0)) h
 | _=>.bad
theorem G_:nY K g ε BU (fun xs H Q=>(∃i,xs=[.int i]/\Q (.int i) H)\/∃k,xs=[.bl k]/\Q (.int (if k then 1 else 0)) H):=by
 intro α H h a x Q r ra w
 obtain⟨d,v,rfl,rfl,rd⟩:=m3 (f:=BU) (fun d _ _ _=>by cases d<;>rfl) (fun _=>rfl) ra w
 unfold BU at w
 cases rd with
 | int i=>exact .inl ⟨i,rfl,aM.now w r (.int _)⟩
 | bl b=>exact .inr ⟨b,rfl,aM.now w r (.int _)⟩
 | _=>exact w.elim
noncomputable def tyD (d:D) (h:Hh):Option String:=match d with
 | .non=>some "NoneType"
 | .bl _=>some "bool"
 | .int _=>some "int"
 | .str _=>some "str"
 | .tup _=>some "tuple"
 | .frl _=>some "list"
 | .edic=>some "dict"
 | .ref n=>match h[n]? with
  | some (.lst _)=>some "list"
  | some (.dic _)=>some "dict"
  | some (.dit _)=>some "dict"
  | _=>none
 | _=>none
noncomputable def yZ (t n:String):Option Bool:=
 if n="int" then (if t="int" then some true else if t="bool" then some true else if t="NoneType" \/ t="str" \/ t="tuple" \/ t="list" \/ t="dict" then some false else none)
 else if n="bool" \/ n="tuple" \/ n="list" \/ n="str" then (if t=n then some true else if t="int" \/ t="bool" \/ t="NoneType" \/ t="str" \/ t="tuple" \/ t="list" \/ t="dict" then some false else none)
 else none
noncomputable def qT (n:String):D->Hh->R D:=fun d h=>match tyD d h with
 | some t=>match yZ t n with
  | some b=>.ok (.bl b) h
  | none=>.bad
 | none=>.bad
theorem IJ {α:List Addr} {H:Hp} {h:Hh} {d:D} {v:V} {t:String} (r:aX K g α H h) (rd:aO K g α H d v) (e:tyD d h=some t):lg K H v (.type t):=by
 unfold tyD at e
 cases rd with
 | non=>cases e;exact .non
 | bl b=>cases e;exact .bl b
 | int i=>cases e;exact .int i
 | str i=>cases e;exact .str i
 | tup hp rs=>cases e;exact .tup hp
 | frl hp rs=>cases e;obtain⟨o,hp⟩:=hp;exact .frz hp
 | edic hp=>cases e;exact .gk hp
 | @ref n p hp=>
  simp only at e
  cases eo:h[n]? with
  | none=>rw[eo] at e;cases e
  | some o=>
   rw[eo] at e
   have q:=r.here n p o hp eo
   cases o with
   | lst ds=>cases e;obtain⟨vs,hv,_⟩:=q;exact .lst hv
   | set k=>cases e
   | dic k=>cases e;obtain⟨vs,hv,_⟩:=q;exact .dK hv
   | dit k=>cases e;obtain⟨vs,hv,_⟩:=q;exact .dT hv
 | _=>cases e
theorem Fg (K:PySem.W.Frag):PySem.W.kitOne K (.type "int") (.type "int")=some true/\PySem.W.kitOne K (.type "bool") (.type "int")=some true/\PySem.W.kitOne K (.type "NoneType") (.type "int")=some false/\PySem.W.kitOne K (.type "str") (.type "int")=some false
  /\ PySem.W.kitOne K (.type "tuple") (.type "int")=some false/\PySem.W.kitOne K (.type "list") (.type "int")=some false/\PySem.W.kitOne K (.type "dict") (.type "int")=some false:=⟨rfl,rfl,rfl,rfl,rfl,rfl,rfl⟩
theorem CV (K:PySem.W.Frag):PySem.W.kitOne K (.type "int") (.type "bool")=some false/\PySem.W.kitOne K (.type "bool") (.type "bool")=some true/\PySem.W.kitOne K (.type "NoneType") (.type "bool")=some false/\PySem.W.kitOne K (.type "str") (.type "bool")=some false
  /\ PySem.W.kitOne K (.type "tuple") (.type "bool")=some false/\PySem.W.kitOne K (.type "list") (.type "bool")=some false/\PySem.W.kitOne K (.type "dict") (.type "bool")=some false:=⟨rfl,rfl,rfl,rfl,rfl,rfl,rfl⟩
theorem kit_tuple (K:PySem.W.Frag):PySem.W.kitOne K (.type "int") (.type "tuple")=some false/\PySem.W.kitOne K (.type "bool") (.type "tuple")=some false/\PySem.W.kitOne K (.type "NoneType") (.type "tuple")=some false/\PySem.W.kitOne K (.type "str") (.type "tuple")=some false
  /\ PySem.W.kitOne K (.type "tuple") (.type "tuple")=some true/\PySem.W.kitOne K (.type "list") (.type "tuple")=some false/\PySem.W.kitOne K (.type "dict") (.type "tuple")=some false:=⟨rfl,rfl,rfl,rfl,rfl,rfl,rfl⟩
theorem De (K:PySem.W.Frag):PySem.W.kitOne K (.type "int") (.type "list")=some false/\PySem.W.kitOne K (.type "bool") (.type "list")=some false/\PySem.W.kitOne K (.type "NoneType") (.type "list")=some false/\PySem.W.kitOne K (.type "str") (.type "list")=some false
  /\ PySem.W.kitOne K (.type "tuple") (.type "list")=some false/\PySem.W.kitOne K (.type "list") (.type "list")=some true/\PySem.W.kitOne K (.type "dict") (.type "list")=some false:=⟨rfl,rfl,rfl,rfl,rfl,rfl,rfl⟩
theorem EW (K:PySem.W.Frag):PySem.W.kitOne K (.type "int") (.type "str")=some false/\PySem.W.kitOne K (.type "bool") (.type "str")=some false/\PySem.W.kitOne K (.type "NoneType") (.type "str")=some false/\PySem.W.kitOne K (.type "str") (.type "str")=some true
  /\ PySem.W.kitOne K (.type "tuple") (.type "str")=some false/\PySem.W.kitOne K (.type "list") (.type "str")=some false/\PySem.W.kitOne K (.type "dict") (.type "str")=some false:=⟨rfl,rfl,rfl,rfl,rfl,rfl,rfl⟩
theorem ID {t n:String} {b:Bool} (e:yZ t n=some b):PySem.W.kitOne K (.type t) (.type n)=some b:=by
 unfold yZ at e
 obtain⟨a1,a2,a3,a4,a5,a6,a7⟩:=Fg K
 obtain⟨b1,b2,b3,b4,b5,b6,b7⟩:=CV K
 obtain⟨c1,c2,c3,c4,c5,c6,c7⟩:=kit_tuple K
 obtain⟨d1,d2,d3,d4,d5,d6,d7⟩:=De K
 obtain⟨e1,e2,e3,e4,e5,e6,e7⟩:=EW K
 split at e
 ·rename_i hn;subst hn
  split at e
  ·rename_i h;subst h;cases e;exact a1
  ·split at e
   ·rename_i h;subst h;cases e;exact a2
   ·split at e
    ·rename_i h;cases e;rcases h with rfl | rfl | rfl | rfl | rfl<;>assumption
    ·cases e
 ·split at e
  ·rename_i hn
   split at e
   ·rename_i h;subst h;cases e;rcases hn with rfl | rfl | rfl | rfl<;>assumption
   ·rename_i hne
    split at e
    ·rename_i h;cases e;rcases hn with rfl | rfl | rfl | rfl<;>rcases h with rfl | rfl | rfl | rfl | rfl | rfl | rfl<;>first | assumption | exact absurd rfl hne
    ·cases e
  ·cases e
theorem xC {e:Expr} {me:ME} {n:String} {x:Str} {p1 p2 pos:Pos} (he:PE X e (tM X.K g ε me)) (hg:Gl X "isinstance") (hm:X.mg "isinstance" = none) (hg2:Gl X x) (hm2:X.mg x=none) (hb:bootBuiltins x=some (.type n)) (hn:x≠"__name__" := by decide) (hd:(x == ("__debug__" : Str))=false:=by decide)
  (hs1:starEach [e,.Name x p2] X.env=(false,eval e X.env)::starEach [.Name x p2] X.env:=by rfl) (hs2:starEach [.Name x p2] X.env=[(false,eval (.Name x p2) X.env)]:=by rfl) (hpl:(backTo pos (starEach [.Name x p2] X.env)).any (·.1)=false:=by rfl) :
  PE X (.Call (.Name "isinstance" p1) [e,.Name x p2] [] pos) (tM X.K g ε (cUn (qT n) me)):=
 PE.imp (lS vI hg hm PyProof.Rows.boot_isinstance (fD he (fD (yQ (v:=.ty n) hg2 hm2 hb rfl hn hd) k6 hs2) hs1) (by decide) (by decide) hs1 hpl) fun σ H Q ⟨α,env,h,s,w⟩=>tM.use s w.bind fun d1 h1 v1 H1 α1 e1 s1 r1 w1=>by
  unfold qT at w1
  cases et:tyD d1 h1 with
  | none=>simp only[et] at w1;exact w1.elim
  | some t=>
   simp only[et] at w1
   cases es:yZ t n with
   | none=>simp only[es] at w1;exact w1.elim
   | some b=>
    simp only[es] at w1
    exact⟨v1,.type t,n,b,rfl,IJ s1.heap r1 et,ID es,aM.now (aM.ext e1 w1) s1.heap (.bl b)⟩
end
section
variable {X:Cx} {K:PySem.W.Frag} {g:GG} {ε:EE}
noncomputable def kU:D->Hh->R Bool:=fun d h=>match d with
 | .non=>.ok false h
 | .bl b=>.ok b h
 | .int i=>.ok (i != 0) h
 | .tup ds=>.ok (!ds.isEmpty) h
 | .frl ds=>.ok (!ds.isEmpty) h
 | .ref n=>match aN h n with
  | some ds=>.ok (!ds.isEmpty) h
  | none=>.bad
 | _=>.bad
theorem ax.isEmpty {α:List Addr} {H:Hp} {ds:List D} {vs:List V} (r:ax K g α H ds vs):ds.isEmpty=vs.isEmpty:=by cases r<;>rfl
theorem kX:Jg K g ε kU (fun x H Q=>∃k,Fq K x H k/\Q k H):=by
 intro α H h a x Q r ra w
 unfold kU at w
 have now:∀{b:Bool},nI K g α H Q b h->Q b H:=fun p=>p H α Ext.refl r
 cases ra with
 | non=>exact⟨false,rfl,now w⟩
 | bl b=>exact⟨b,rfl,now w⟩
 | int i=>exact⟨_,rfl,now w⟩
 | tup hp rs=>exact⟨_,.inr (.inl ⟨_,SqT.of hp,rfl⟩),now (by rw[<- rs.isEmpty];exact w)⟩
 | frl hp rs=>exact⟨_,.inl ⟨_,hp.sq,rfl⟩,now (by rw[<- rs.isEmpty];exact w)⟩
 | @ref n p hp=>
  simp only at w
  cases e:aN h n with
  | none=>rw[e] at w;exact w.elim
  | some ds=>
   rw[e] at w
   obtain⟨vs,hv,rs⟩:=r.lst e hp
   exact⟨_,.inl ⟨vs,SqL.of hv,rfl⟩,now (by rw[<- rs.isEmpty];exact w)⟩
 | _=>exact w.elim
theorem B5 {α:List Addr} {H:Hp} {d:D} {v:V} (r:aO K g α H d v) (f:fZ d=true):kD v=true:=by
 cases r<;>first | rfl | cases f
theorem Kf {α:List Addr} {H:Hp} {d e:D} {v u:V} (r:aO K g α H d v) (q:aO K g α H e u) (f:fZ d=true) (f':fZ e=true):eqF d e=eqV v u:=by
 cases r<;>first | (cases f;done) | (cases q<;>first | rfl | cases f')
theorem F7 {α:List Addr} {H:Hp}:∀{ds:List D} {vs:List V},ax K g α H ds vs->ds.all fZ=true->vs.all kD=true
 | _,_,.nil,_=>rfl
 | _,_,.cons r t,f=>by
  rw[List.all_cons,Bool.and_eq_true] at f ⊢
  exact⟨B5 r f.1,F7 t f.2⟩
theorem F9 {α:List Addr} {H:Hp} {e:D} {u:V} (q:aO K g α H e u) (f':fZ e=true):∀{ds:List D} {vs:List V},ax K g α H ds vs->ds.all fZ=true->(ds.any fun d=>eqF d e)=vs.any fun y=>eqV y u
 | _,_,.nil,_=>rfl
 | _,_,.cons r t,f=>by
  rw[List.all_cons,Bool.and_eq_true] at f
  rw[List.any_cons,List.any_cons,Kf r q f.1 f',F9 q f' t f.2]
noncomputable def dIn (neg:Bool):D->D->Hh->R D:=fun a b h=>match fY b h with
 | some ds=>if fZ a=true/\ds.all fZ=true then .ok (.bl (if neg then !(ds.any fun d=>eqF d a) else ds.any fun d=>eqF d a)) h else .bad
 | none=>.bad
theorem F6 {neg:Bool}:fc K g ε (dIn neg) (rIn K neg):=by
 intro α H h a b x y Q r ra rb w
 unfold dIn at w
 cases e:fY b h with
 | none=>rw[e] at w;exact w.elim
 | some ds=>
  rw[e] at w
  obtain⟨p,vs,rfl,hq,rs⟩:=lu r rb e
  obtain⟨⟨f1,f2⟩,w⟩:=WQ.eF w
  refine⟨p,vs,rfl,hq,B5 ra f1,F7 rs f2,?_⟩
  have e2:(ds.any fun d=>eqF d a)=inV x vs:=F9 ra f1 rs f2
  rw[<- e2]
  exact aM.now w r (.bl _)
noncomputable def Al:List D->Option (List D)
 | [.int j]=>if j.natAbs<=1000000 then some (bW 0 j.toNat) else none
 | [.int i,.int j]=>if (i.natAbs<=1000000/\j.natAbs<=1000000)/\(j - i).toNat<=1000000 then some (bW i (j - i).toNat) else none
 | _=>none
noncomputable def mV (nl:NL):List D->Hh->R D:=fun ds h=>match Al ds with
 | some xs=>nl xs h
 | none=>.bad
theorem A6 (lo:Int) (n:Nat) {α:List Addr} {H:Hp}:ax K g α H (bW lo n) ((vv lo 1 n).map V.int):=by
 have e:bW lo n=(vv lo 1 n).map D.int:=by
  unfold bW vv
  rw[List.map_map]
  apply List.map_congr_left
  intro i _
  simp
 rw[e]
 exact ax.ints _
theorem FT {α:List Addr} {H:Hp} {ds:List D} {vs:List V} {xs:List D} (r:ax K g α H ds vs) (e:Al ds=some xs) :
  (∃j,vs=[.int j]/\yB 0 j 1 j.toNat/\xs=bW 0 j.toNat)\/∃i j,vs=[.int i,.int j]/\yB i j 1 (j - i).toNat/\xs=bW i (j - i).toNat:=by
 unfold Al at e
 split at e
 ·rename_i j
  split at e
  ·rename_i hj
   cases e
   cases r with
   | cons r1 t=>
    cases r1
    cases t
    refine .inl ⟨j,rfl,?_,rfl⟩
    have:=Df (a:=0) (b:=j) (by omega) (by omega) (by omega) (by omega) (by omega)
    rw[Int.sub_zero] at this
    exact this
  ·cases e
 ·rename_i i j
  split at e
  ·rename_i hj
   cases e
   cases r with
   | cons r1 t=>
    cases r1
    cases t with
    | cons r2 t=>
     cases r2
     cases t
     exact .inr ⟨i,j,rfl,Df (by omega) (by omega) (by omega) (by omega) (by omega),rfl⟩
  ·cases e
 ·cases e
theorem Hc:bp X (.type "range") (fun vs H Q=>(∃j,vs=[.int j]/\∀p,H p=none->Q (.ref p) (upd H p (uB p 0 j 1)))\/∃i j,vs=[.int i,.int j]/\∀p,H p=none->Q (.ref p) (upd H p (uB p i j 1))):=bp.or zl zH
section
variable {e:Expr} {es:List Expr} {mr:MA} {p1 p2 q1 q2:Pos}
theorem CD {nl:NL} [kW nl] (hc:X.calm=true) (hg:Gl X "list") (hm:X.mg "list" = none) (hg2:Gl X "range") (hm2:X.mg "range" = none) (ha:PA X (e::es) (tMA X.K g ε mr))
  (he:starEach (e::es) X.env=(false,eval e X.env)::starEach es X.env:=by rfl) (hpl:(backTo q2 (starEach es X.env)).any (·.1)=false:=by rfl)
  (he1:starEach [.Call (.Name "range" p2) (e::es) [] q2] X.env=[(false,eval (.Call (.Name "range" p2) (e::es) [] q2) X.env)]:=by rfl) (hpl1:(backTo q1 (starEach [] X.env)).any (·.1)=false:=by rfl) :
  PE X (.Call (.Name "list" p1) [.Call (.Name "range" p2) (e::es) [] q2] [] q1) (tM X.K g ε (aj (mV nl) mr)):=
 PE.imp (PE.frz (mW (rf hc) hg hm PyProof.Rows.boot_list (fD (mW Hc hg2 hm2 PyProof.Rows.boot_range ha (by decide) (by decide) he hpl) k6 he1) (by decide) (by decide) he1 hpl1)) fun σ H Q ⟨α,env,h,s,w⟩=>tMA.use s w.bind fun d1 h1 v1 H1 α1 e1 s1 r1 w1=>by
  unfold mV at w1
  cases er:Al d1 with
  | none=>rw[er] at w1;exact w1.elim
  | some xs=>
   rw[er] at w1
   rcases FT r1 er with⟨j,rfl,ok,rfl⟩ | ⟨i,j,rfl,ok,rfl⟩
   ·refine .inl ⟨j,rfl,fun p hp=>⟨p,0,j,1,j.toNat,rfl,aZ,ok,fun l hl=>?_⟩⟩
    have x:=Ext.fresh (K:=X.K) (α:=α1) (o:=uB p 0 j 1) hp
    exact NL.post ((w1.post e1).post x) (s1.heap.grow hp) (A6 0 j.toNat) hl
   ·refine .inr ⟨i,j,rfl,fun p hp=>⟨p,i,j,1,(j - i).toNat,rfl,aZ,ok,fun l hl=>?_⟩⟩
    have x:=Ext.fresh (K:=X.K) (α:=α1) (o:=uB p i j 1) hp
    exact NL.post ((w1.post e1).post x) (s1.heap.grow hp) (A6 i (j - i).toNat) hl
end
noncomputable def isL (d:D) (h:Hh):Bool:=match d with
 | .ref n=>(aN h n).isSome
 | .frl _=>true
 | _=>false
noncomputable def j1 (f:D->List D->Hh->R D) (o:ME) (a:MA):ME:=fun env h=>(o env h).bind fun x h1=>if isL x h1=true then (a env h1).bind fun xs h2=>f x xs h2 else .bad
theorem E2 {α:List Addr} {H:Hp} {h:Hh} {d:D} {x:V} (r:aX K g α H h) (rd:aO K g α H d x) (e:isL d h=true):tyV K "list" x H:=by
 unfold isL at e
 cases rd with
 | @ref n p hp=>
  simp only at e
  obtain⟨ds,e⟩:=Option.isSome_iff_exists.mp e
  obtain⟨vs,hv,_⟩:=r.lst e hp
  exact .inl ⟨rfl,vs,SqL.of hv⟩
 | frl hq rs=>exact .inl ⟨rfl,_,hq.sq⟩
 | _=>cases e
theorem uc {o e:Expr} {es:List Expr} {mo:ME} {mr:MA} {name:Str} {apos cpos:Pos} {id:String} {r:V->List V->Hp->VK->Prop} {f:D->List D->Hh->R D} (slot:Slot "list" name id) (hty:typeOf (.builtin id)=pure (.type "method_descriptor")) (hm:MtM X id r) (im:F0 X.K g ε f r) (ho:PE X o (tM X.K g ε mo)) (ha:PA X (e::es) (tMA X.K g ε mr))
  (hbase:attributeBase o name X.env (eval o X.env)=eval o X.env:=by rfl)
  (hfew:((backTo cpos (starEach (e::es) X.env)).all (fun x=>!x.1)&&(backToKw cpos (keywordEach [] X.env)).all (fun x=>x.1.isSome)
   && decide ((e::es).length+([]:List Keyword).length+(if ([]:List Keyword).isEmpty then 0 else 1)<30))=true:=by rfl)
  (hline:(apos.endLine == cpos.line)=true:=by rfl) (hs:starEach (e::es) X.env=(false,eval e X.env)::starEach es X.env:=by rfl) (hplain:(backTo cpos (starEach es X.env)).any (·.1)=false:=by rfl) :
  PE X (.Call (.Attribute o name apos) (e::es) [] cpos) (tM X.K g ε (j1 f mo mr)):=
 PE.imp (JU PySem.F.plainAttrs_list slot hty hm ho ha hbase hfew hline hs hplain) fun σ H Q ⟨α,env,h,s,w⟩=>tM.use s w.bind fun d1 h1 v1 H1 α1 e1 s1 r1 w1=>by
  obtain⟨hl,w1⟩:=WQ.eF w1
  refine⟨E2 s1.heap r1 hl,tMA.use s1 (w1.ext e1).bind fun d2 h2 v2 H2 α2 e2 s2 r2 w2=>?_⟩
  exact im α2 H2 h2 d1 d2 v1 v2 Q s2.heap (r1.ext e2) r2 ((w2.ext e2).mono fun _ _ _ p=>aM.ext (e1.trans e2) p)
noncomputable def fC:D->List D->Hh->R D:=fun o ds h=>match o,ds with
 | .ref n,[d]=>match aN h n with
  | some xs=>if xs.length<1000000 then .ok .non (h.set n (.lst (xs++[d]))) else .bad
  | none=>.bad
 | _,_=>.bad
theorem rZ:F0 K g ε fC ze:=by
 intro α H h o a y x Q r ro ra w
 unfold fC at w
 cases ro with
 | @ref n p hp=>
  cases ra with
  | nil=>exact w.elim
  | @cons d v _ _ rd rr=>
   cases rr with
   | cons _ _=>exact w.elim
   | nil=>
    simp only at w
    cases e:aN h n with
    | none=>rw[e] at w;exact w.elim
    | some xs=>
     rw[e] at w
     obtain⟨hl,w⟩:=WQ.eF w
     obtain⟨vs,hv,rs⟩:=r.lst e hp
     refine⟨p,vs,_,rfl,rfl,hv,by rw[<- rs.length,sizeLine_eq];omega,?_⟩
     have x:=Ext.write (o:=.lst (vs++[v])) r hp
     exact(show aM K g α H Q _ _ from w) _ _ α x (r.write hp ⟨_,aZ,(rs.append (.cons rd .nil)).ext x⟩) .non
 | _=>exact w.elim
theorem nr (ns:List Int):∀k,k<=ns.length->preSum (fun i=>ns.getD i 0) k=(ns.take k).sum
 | 0,_=>by simp[preSum]
 | k+1,h=>by
  rw[preSum,nr ns k (by omega),List.take_succ,List.sum_append]
  rw[List.getD_eq_getElem?_getD,List.getElem?_eq_getElem (by omega)]
  simp
theorem r9 (hc:X.calm=true):bp X (.builtin "sum") (fun vs H Q=>∃(p:Addr) (ns:List Int),vs=[.ref p]/\(SqL X.K H p (ns.map V.int)\/SqT X.K H p (ns.map V.int))/\Q (.int ns.sum) H):=by
 intro pins s σ H xs us Q I r h
 obtain⟨p,ns,rfl,hq,q⟩:=h
 obtain⟨u,rfl,rx⟩:=vals1 r
 cases rx
 have hh:X.A.in1.handled=none:=I.ok.hd hc
 have fin:∀{its:List Value} {o:Obj},Vals (ns.map V.int) its->∀s',Moved [s.heap.objs.size] (fun a b=>b=a) { s with heap:=s.heap.push o } s'->∀t',EP X pins σ Q (.int (preSum (fun i=>ns.getD i 0) its.toArray.size) t') s':=fun{its o} rv s' mv t'=>by
  have hl:its.toArray.size=ns.length:=by rw[List.size_toArray,<- rv.length,List.length_map]
  have keep:∀b u,s.heap.get? b=some u->s'.heap.get? b=some u:=fun b u e=>mv.heap b u (by simp;exact Nat.ne_of_lt (Heap.lt_size e)) (Heap.get?_push_of_some _ e)
  have I':Inv X pins σ H s':=by
   obtain⟨hp,gs,dr,tk,os⟩:=s'
   have e1:gs=s.gens:=mv.gens
   have e2:dr=s.drawn:=mv.drawn
   have e3:os=s.os:=mv.os
   subst e1 e2 e3
   exact I.kept (h':=hp) (t':=tk) keep
  refine⟨.int ns.sum,H,I',⟨t',?_⟩,q⟩
  rw[hl,nr ns _ (Nat.le_refl _),List.take_length]
 have val:∀{its:List Value},Vals (ns.map V.int) its->∀i v,its.toArray[i]?=some v->∃t:Tok,v=Value.int (ns.getD i 0) t:=fun{its} rv i v e=>by
  obtain⟨x,hx,rxv⟩:=rv.get' (show its[i]?=some v by simpa using e)
  rw[List.getElem?_map] at hx
  cases en:ns[i]? with
  | none=>rw[en] at hx;cases hx
  | some z=>
   rw[en] at hx
   cases hx
   obtain⟨t,e⟩:=rxv
   exact⟨t,by rw[List.getD_eq_getElem?_getD,en];exact e⟩
 rcases hq with hq | hq
 ·obtain⟨its,rv,pl,hz⟩:=I.list hq
  have plt:p<s.heap.objs.size:=by obtain⟨o,e,_⟩:=pl.isList;exact Heap.lt_size e
  have hne:p≠s.heap.objs.size:=Nat.ne_of_lt plt
  refine call_sum_walkAnyS (wpAny_pyIter_list pl.isList ?_)
  refine⟨s.heap.objs.size,_,_,_,its.toArray.size,_,_,fun i=>ns.getD i 0,rfl,(Walks.list (prog:=X.prog) (w:=X.w) hh s.heap.objs.size p hne its.toArray).toS,⟨⟨_,Heap.get?_push_size _ rfl,rfl,rfl⟩,?_⟩,fun b hb=>?_,val rv,fun s' t' mv=>fin rv s' mv t'⟩
  ·exact pl.isList.at fun o e=>Heap.get?_push_of_some _ e
  ·simp at hb
   rcases hb with rfl | rfl
   ·exact Heap.lt_size (Heap.get?_push_size _ rfl)
   ·exact Nat.lt_trans plt (Heap.lt_size (Heap.get?_push_size _ rfl))
 ·obtain⟨its,rv,pl,hz⟩:=I.tuple hq
  have pt:s.heap.IsTuple p its.toArray:=pl
  have hne:p≠s.heap.objs.size:=Nat.ne_of_lt pl.lt
  refine call_sum_walkAnyS (wpAny_pyIter_tuple pt ?_)
  refine⟨s.heap.objs.size,_,_,_,its.toArray.size,_,_,fun i=>ns.getD i 0,rfl,(Walks.tuple (prog:=X.prog) (w:=X.w) hh s.heap.objs.size p hne its.toArray).toS,⟨⟨_,Heap.get?_push_size _ rfl,rfl,rfl⟩,?_⟩,fun b hb=>?_,val rv,fun s' t' mv=>fin rv s' mv t'⟩
  ·exact pt.at fun o e=>Heap.get?_push_of_some _ e
  ·simp at hb
   rcases hb with rfl | rfl
   ·exact Heap.lt_size (Heap.get?_push_size _ rfl)
   ·exact Nat.lt_trans pl.lt (Heap.lt_size (Heap.get?_push_size _ rfl))
noncomputable def tL:List D->Hh->R D:=fun ds h=>match ds with
 | [d]=>match fY d h with
  | some xs=>match intsOf xs with
   | some ns=>.ok (.int ns.sum) h
   | none=>.bad
  | none=>.bad
 | _=>.bad
theorem BZ:nY K g ε tL (fun vs H Q=>∃(p:Addr) (ns:List Int),vs=[.ref p]/\(SqL K H p (ns.map V.int)\/SqT K H p (ns.map V.int))/\Q (.int ns.sum) H):=by
 intro α H h a x Q r ra w
 obtain⟨d,v,rfl,rfl,rd⟩:=m3 (f:=tL) (fun _ _ _ _=>rfl) (fun _=>rfl) ra w
 unfold tL at w
 simp only at w
 cases e:fY d h with
 | none=>rw[e] at w;exact w.elim
 | some ds=>
  rw[e] at w
  simp only at w
  cases e2:intsOf ds with
  | none=>rw[e2] at w;exact w.elim
  | some ns=>
   rw[e2] at w
   obtain⟨p,vs,rfl,hq,rs⟩:=lu r rd e
   have e3:=ka e2
   subst e3
   have e4:=rs.B8
   subst e4
   exact⟨p,ns,rfl,hq,aM.now w r (.int _)⟩
theorem Ea:PIp X .Mult (fun x y H Q=>∃i j,x=.int i/\y=.int j/\(sml i=true/\sml j=true)/\Q (.int (i*j)) H):=by
 intro pins s σ H x y v u Q I r1 r2 h
 obtain⟨i,j,e1,e2,hc,q⟩:=h
 subst e1;subst e2
 obtain⟨t,rfl⟩:=r1
 obtain⟨t',rfl⟩:=r2
 exact imul_int ⟨.int _,H,I.tok _,⟨_,rfl⟩,q⟩ (IntMulOk.of_bits (Nat.le_trans (jL hc.1) (by decide)) (Nat.le_trans (jL hc.2) (by decide)))
noncomputable def Cf:D->D->Hh->R D
 | .int i,.int j,h=>if sml i=true/\sml j=true then .ok (.int (i*j)) h else .bad
 | _,_,_=>.bad
theorem A4:fc K g ε cy (ipI fun i j=>i - j):=by
 intro α H h a b x y Q r ra rb w
 unfold cy at w
 cases ra with
 | int i=>
  cases rb with
  | int j=>exact⟨i,j,rfl,rfl,aM.now w r (.int _)⟩
  | _=>exact w.elim
 | _=>exact w.elim
theorem Ig:fc K g ε Cf (fun x y H Q=>∃i j,x=.int i/\y=.int j/\(sml i=true/\sml j=true)/\Q (.int (i*j)) H):=by
 intro α H h a b x y Q r ra rb w
 unfold Cf at w
 cases ra with
 | int i=>
  cases rb with
  | int j=>
   obtain⟨hc,w⟩:=WQ.eF w
   exact⟨i,j,rfl,rfl,hc,aM.now w r (.int _)⟩
  | _=>exact w.elim
 | _=>exact w.elim
end
section
variable {P:Program} {w:World} {K:PySem.W.Frag} {mg:Str->Option Value} {base:Heap} {g:GG}
noncomputable def aJ (K:PySem.W.Frag) (mg:Str->Option Value) (x:Str) (st:Stmt):Prop:=∃f fd,mg x=some (.ref f)/\Fun K x x st f fd
noncomputable def bP (K:PySem.W.Frag) (x:Str) (st:Stmt):Prop:=∃f fd,PySem.W.nsIn K mainGlobals x=some (some (.ref f))/\Fun K x x st f fd
theorem a8 {x:Str} {st:Stmt} {f:Addr} {oc:Value} {od an:Option Addr} {osl:Array (Option Value)} {kV doc pm cdv ct:Value} (a:PySem.W.nsIn K mainGlobals x=some (some (.ref f)))
  (l:K.lookup f=some ⟨oc,od,.func (PySem.W.fnOf x x (eJ st) (bK st) (ai st) .none kV doc pm an cdv ct),osl⟩) (c:PySem.W.codeIn K cdv x=true) (k:PySem.W.keepIn K (.ref f)=true):bP K x st:=⟨f,_,a,xq l c k⟩
theorem aJ.of {h:Heap} {x:Str} {st:Stmt} (X:K.In h) (G:h.Ns mainGlobals mg) (d:bP K x st):aJ K mg x st:=
 let ⟨f,fd,a,F⟩:=d;⟨f,fd,PySem.W.mg_of X G a,F⟩
noncomputable def Has (P:Program) (w:World) (K:PySem.W.Frag) (mg:Str->Option Value) (base:Heap) (g:GG) (x:Str) (k:Nat) (ps:List Str) (m:MF):Prop:=
 ∃f fd,dA P w K mg base CX0 k f fd ps (spM K g ps.length m)/\PySem.W.keepIn K (.ref f)=true/\Binds K fd ps []/\mg x=some (.ref f)/\∃(oc:Value) (od:Option Addr) (osl:Array (Option Value)),K.lookup f=some ⟨oc,od,.func fd,osl⟩
noncomputable def gOf (mg:Str->Option Value):GG:=fun x=>match mg x with
 | some (.ref f)=>some f
 | _=>none
theorem bA {x:Str} {st:Stmt} {f:Addr} {fd:FuncData} (F:Fun K x x st f fd):∃(oc:Value) (od:Option Addr) (osl:Array (Option Value)),K.lookup f=some ⟨oc,od,.func fd,osl⟩:=by
 obtain⟨oc,od,kV,doc,pm,an,cdv,ct,osl,rfl,lk,hcd⟩:=F.ex
 exact⟨oc,od,osl,lk⟩
theorem GY {x:Str} {st:Stmt} {f:Addr} {fd:FuncData} {k:Nat} {ps:List Str} {m:MF} (F:Fun K x x st f fd) (hm:mg x=some (.ref f)) (h:Has P w K mg base g x k ps m):dA P w K mg base CX0 k f fd ps (spM K g ps.length m):=by
 obtain⟨f2,fd2,G,_,_,hm2,oc,od,osl,l2⟩:=h
 obtain⟨oc',od',osl',l1⟩:=bA F
 rw[hm] at hm2
 cases hm2
 rw[l1] at l2
 cases l2
 exact G
end
section
variable {X:Cx} {g:GG} {ε:EE}
noncomputable def GV (i j:Nat) (m:ME):MS:=fun env h=>(m env h).bind fun d h1=>(gT2 i j d env h1).bind fun e h2=>.ok (.nx e) h2
theorem JL {i j:Nat} {x y:Str} {e:Expr} {me:ME} {px py pt pos:Pos} {kt} (hc:X.calm=true) (hN:X.N.Nodup) (hi:X.N[i]?=some x) (hj:X.N[j]?=some y) (he:PE X e (tM X.K g ε me))
  (hx:Loc X.env.scope x:=by first | exact Or.inl rfl | exact Or.inr rfl) (hy:Loc X.env.scope y:=by first | exact Or.inl rfl | exact Or.inr rfl)
  (fx:X.fn x=true\/X.env.scope.names.lookup x=some .local:=by first | exact .inl rfl | exact .inr rfl) (fy:X.fn y=true\/X.env.scope.names.lookup y=some .local:=by first | exact .inl rfl | exact .inr rfl)
  (hs:swapsWithSole [.Tuple [.Name x px,.Name y py] kt pt] e pos.line X.env=pure false:=by rfl) (hw:swappedStores [.Tuple [.Name x px,.Name y py] kt pt] e X.env=pure none:=by rfl) :
  PS X (.Assign [.Tuple [.Name x px,.Name y py] kt pt] e pos) (tMS X.K g ε (GV i j me)):=
 PS.imp (xo he (xl hc (gy (bR hN hi hx fx) (gy (bR hN hj hy fy) sI))) hs hw rfl) fun E σ H ⟨α,env,h,s,w⟩=>tM.use s w.bind fun d1 h1 v1 H1 α1 e1 s1 r1 w1=>by
  refine Dc (ε:=ε) α1 H1 h1 env σ d1 v1 _ s1 r1 ((w1.ext e1).bind.mono fun e' h2 _ w2 σ2 H2 α2 e2 s2=>?_)
  exact(show dh X.K g α H E (.nx e') h2 from w2) H2 α2 (e1.trans e2) s2.heap σ2 s2.vs
theorem xU {i j:Nat} {x y:Str} {a b:Expr} {ma:MA} {px py pt pos:Pos} {kt k2 pt2} (hc:X.calm=true) (hN:X.N.Nodup) (hi:X.N[i]?=some x) (hj:X.N[j]?=some y) (hij:i≠j) (ha:PA X [a,b] (tMA X.K g ε ma))
  (hx:X.env.scope.names.lookup x=some .local:=by rfl) (hy:X.env.scope.names.lookup y=some .local:=by rfl)
  (hw:swappedStores [.Tuple [.Name x px,.Name y py] kt pt] (.Tuple [a,b] k2 pt2) X.env=pure (some [x,y]):=by rfl)
  (hs:swapsWithSole [.Tuple [.Name x px,.Name y py] kt pt] (.Tuple [a,b] k2 pt2) pos.line X.env=pure false:=by rfl) :
  PS X (.Assign [.Tuple [.Name x px,.Name y py] kt pt] (.Tuple [a,b] k2 pt2) pos) (tMS X.K g ε (uV i j ma)):=Ja hc hN hi hj hij hx hy ha hw hs
end
section
variable {X:Cx} {K:PySem.W.Frag} {g:GG} {ε:EE}
noncomputable def pN (tab:Str->Option MF) (f:ME) (a:MA):ME:=fun env h=>(f env h).bind fun d h1=>match d with
 | .fn x=>match tab x with
  | some m=>(a env h1).bind m
  | none=>.bad
 | _=>.bad
end
mutual
noncomputable def iq (k:Nat):D->Bool
 | .ref n=>decide (n<k)
 | .tup ds=>cE k ds
 | .frl ds=>cE k ds
 | .scr ds=>cE k ds
 | .clo _ ds=>cE k ds
 | _=>true
noncomputable def cE (k:Nat):List D->Bool
 | []=>true
 | d::ds=>iq k d&&cE k ds
end
noncomputable def nU (k:Nat):O->Bool
 | .lst ds=>cE k ds
 | .set _=>true
 | .dic kvs=>cE k (kvs.map (·.2))
 | .dit kvs=>cE k (kvs.map (·.2))
noncomputable def mI (f:D->Option D):List D->Option (List D)
 | []=>some []
 | d::ds=>match f d,mI f ds with
  | some e,some es=>some (e::es)
  | _,_=>none
noncomputable def gk (k:Nat) (h:Hh):Nat->D->Option D
 | 0,_=>none
 | f+1,d=>match d with
  | .ref n=>if n<k then some (.ref n) else match aN h n with
   | some ds=>(mI (gk k h f) ds).map .frl
   | none=>none
  | .tup ds=>(mI (gk k h f) ds).map .tup
  | .frl ds=>(mI (gk k h f) ds).map .frl
  | .scr _=>none
  | .clo f ds=>if cE 0 ds=true then some (.clo f ds) else none
  | d=>some d
noncomputable def eM (h:Hh):D->Hh->R D:=fun d h'=>if (h'.take h.length).all (nU h.length)=true then match gk h.length h' 8 d with
 | some e=>.ok e (h'.take h.length)
 | none=>.bad else .bad
open Classical in
noncomputable def kY (S:Addr->Prop) (o:Addr->Obj) (H:Hp):Hp:=fun p=>if S p then (H p).map (.frz (o p)) else H p
theorem HU {P:Program} {w:World} {H:Hp} {h:Heap} {p:Addr} {u:HO} (q:cF P w H h p u) (mu:Mut (some u)):∃o,h.get? p=some o:=by
 cases u with
 | lst xs=>obtain⟨_,_,_,_,e'⟩:=q;exact⟨_,e'⟩
 | dK kvs=>obtain⟨_,_,_,_,o,_,_,e',_⟩:=q;exact⟨_,e'⟩
 | dT kvs=>obtain⟨_,_,_,_,o,_,_,e',_⟩:=q;exact⟨_,e'⟩
 | set S n=>obtain⟨o,_,_,_,e',_⟩:=q;exact⟨_,e'⟩
 | ins C dx fs=>obtain⟨_,_,_,e',_⟩:=q;exact⟨_,e'⟩
 | ext φ=>obtain⟨_,⟨_,e'⟩,_⟩:=q;exact⟨_,e'⟩
 | _=>exact absurd mu (fun z=>z)
theorem GU {outer:List Env} {P:Program} {w:World} {H:Hp} {s:Shared} {Q Q':VK} {u:Value} {s':Shared} (h:CE outer P w H s Q' u s')
  (hQ:∀v H',Q' v H'->∃S:Addr->Prop,(∀p,S p->∃u,H' p=some u/\Mut (some u))/\∀o:Addr->Obj,Q v (kY S o H')):CE outer P w H s Q u s':=by
 obtain⟨v,H',os,bare,un,hok,r,q⟩:=h
 obtain⟨S,hS,q⟩:=hQ v H' q
 have hS1:∀p,S p->∀u,H' p=some u->Mut (some u):=fun p z u e=>by obtain⟨u',e',m⟩:=hS p z;rw[e] at e';cases e';exact m
 have off:∀(o:Addr->Obj) b u,H' b=some u->¬ Mut (some u)->kY S o H' b=some u:=fun o b u e m=>by
  unfold kY
  rw[if_neg fun z=>m (hS1 b z u e)];exact e
 have offn:∀(o:Addr->Obj) b,H' b=none->kY S o H' b=none:=fun o b e=>by
  unfold kY
  split
  ·rw[e];rfl
  ·exact e
 let o:Addr->Obj:=fun b=>(s'.heap.get? b).getD { cls:=.none,data:=.fields #[] }
 refine⟨v,kY S o H',os,bare,⟨un.keep,un.slot,fun b ob e n hx=>offn o b (un.free b ob e n hx),un.there,fun b xs e=>off o b _ (un.mM b xs e) fun z=>z,fun b ob xs e=>off o b _ (un.lK b ob xs e) fun z=>z,fun b ps e=>?_⟩,?_,r,q o⟩
 ·obtain⟨more,e1⟩:=un.m8 b ps e
  exact⟨more,off o b _ e1 fun z=>z⟩
 ·intro b u e
  have st:∀u,cF P w H' s'.heap b u->cF P w (kY S o H') s'.heap b u:=fun u x=>x.kr (fun _ _ _ z=>z) (fun c z=>off o c _ z fun z=>z) fun c xs z=>off o c _ z fun z=>z
  unfold kY at e
  split at e
  ·rename_i hb
   obtain⟨u',e',m⟩:=hS b hb
   rw[e'] at e
   cases e
   have x:=hok b u' e'
   obtain⟨ob,eo⟩:=HU x m
   refine⟨?_,st _ x⟩
   show s'.heap.get? b=some ((s'.heap.get? b).getD _)
   rw[eo];rfl
  ·exact st u (hok b u e)
section
variable {K:PySem.W.Frag} {g:GG} {α α':List Addr} {H H' H2:Hp} {k:Nat}
structure rJ (K:PySem.W.Frag) (α α':List Addr) (H' H2:Hp) (k:Nat):Prop where
 pre:∀n,n<k->α[n]?=α'[n]?
 tup:∀p xs,H' p=some (.tup xs)->H2 p=some (.tup xs)
 frz:∀p (o:Obj) (u:HO),H' p=some (.frz o u)->H2 p=some (.frz o u)
mutual
theorem oz (L:rJ K α α' H' H2 k):∀{d:D} {v:V},iq k d=true->aO K g α' H' d v->aO K g α H2 d v
 | _,_,_,.non=>.non
 | _,_,_,.bl b=>.bl b
 | _,_,_,.int i=>.int i
 | _,_,_,.str x=>.str x
 | _,_,hl,.ref h=>.ref (by rw[L.pre _ (by simpa [iq] using hl)];exact h)
 | _,_,hl,.tup h r=>.tup (L.tup _ _ h) (fK L (by simpa [iq] using hl) r)
 | _,_,hl,.frl h r=>.frl (let ⟨o,h⟩:=h;⟨o,L.frz _ _ _ h⟩) (fK L (by simpa [iq] using hl) r)
 | _,_,hl,.scr h r=>.scr (h.elim (fun⟨o,h⟩=>.inl ⟨o,L.frz _ _ _ h⟩) .inr) (fK L (by simpa [iq] using hl) r)
 | _,_,_,.fn h=>.fn h
 | _,_,_,.edic h=>.edic (L.frz _ _ _ h)
 | _,_,_,.exc hg h hc hd hf=>.exc hg (L.frz _ _ _ h) hc hd (hf.elim .inl fun⟨dx,od,a,b⟩=>.inr ⟨dx,od,a,L.frz _ _ _ b⟩)
 | _,_,hl,.clo h l hc hd hv cs r=>.clo (L.frz _ _ _ h) l (L.frz _ _ _ hc) hd hv (L2.Paired.sH cs fun _ _ ⟨c,o,u,l,a,b⟩=>⟨c,o,u,l,L.frz _ _ _ a,b⟩) (fK L (by simpa [iq] using hl) r)
theorem fK (L:rJ K α α' H' H2 k):∀{ds:List D} {vs:List V},cE k ds=true->ax K g α' H' ds vs->ax K g α H2 ds vs
 | _,_,_,.nil=>.nil
 | _,_,hl,.cons r t=>by
  simp only[cE,Bool.and_eq_true] at hl
  exact .cons (oz L hl.1 r) (fK L hl.2 t)
end
theorem lR {f:D->Option D} (hf:∀d e v,f d=some e->aO K g α' H' d v->aO K g α H2 e v):∀{ds es:List D} {vs:List V},mI f ds=some es->ax K g α' H' ds vs->ax K g α H2 es vs
 | [],es,_,e,.nil=>by cases e;exact .nil
 | d::ds,es,_,e,.cons r t=>by
  unfold mI at e
  split at e
  ·rename_i e1 es1 h1 h2
   cases e
   exact .cons (hf _ _ _ h1 r) (lR hf h2 t)
  ·cases e
theorem oM {h' hx:Hh} (L:rJ K α α' H' H2 k) (r:aX K g α' H' h') (hx':∀n ds,aN hx n=some ds->aN h' n=some ds) (fz:∀n p ds vs,k<=n->aN hx n=some ds->α'[n]?=some p->H' p=some (.lst vs)->Fr1 H2 p vs) :
  ∀(f:Nat) (d e:D) (v:V),gk k hx f d=some e->aO K g α' H' d v->aO K g α H2 e v
 | 0,_,_,_,e,_=>by cases e
 | f+1,d,e,v,he,rd=>by
  unfold gk at he
  cases rd with
  | non=>cases he;exact .non
  | bl b=>cases he;exact .bl b
  | int i=>cases he;exact .int i
  | str x=>cases he;exact .str x
  | fn h=>cases he;exact .fn h
  | edic h=>cases he;exact .edic (L.frz _ _ _ h)
  | exc hg h hc hd hf=>cases he;exact .exc hg (L.frz _ _ _ h) hc hd (hf.elim .inl fun⟨dx,od,a,b⟩=>.inr ⟨dx,od,a,L.frz _ _ _ b⟩)
  | scr _ _=>cases he
  | clo h l hc hd hv cs rs=>
   simp only at he
   split at he
   ·rename_i lo
    cases he
    exact .clo (L.frz _ _ _ h) l (L.frz _ _ _ hc) hd hv (L2.Paired.sH cs fun _ _ ⟨c,o,u,l,a,b⟩=>⟨c,o,u,l,L.frz _ _ _ a,b⟩) (fK (k:=0) ⟨fun n hn=>absurd hn (Nat.not_lt_zero _),L.tup,L.frz⟩ lo rs)
   ·cases he
  | tup h rs=>
   simp only at he
   cases e1:mI (gk k hx f) _ with
   | none=>rw[e1] at he;cases he
   | some es=>rw[e1] at he;cases he;exact .tup (L.tup _ _ h) (lR (fun d e v=>oM L r hx' fz f d e v) e1 rs)
  | frl h rs=>
   simp only at he
   cases e1:mI (gk k hx f) _ with
   | none=>rw[e1] at he;cases he
   | some es=>rw[e1] at he;cases he;exact .frl (let ⟨o,h⟩:=h;⟨o,L.frz _ _ _ h⟩) (lR (fun d e v=>oM L r hx' fz f d e v) e1 rs)
  | @ref n p hp=>
   simp only at he
   split at he
   ·rename_i hn
    cases he
    exact .ref (by rw[L.pre n hn];exact hp)
   ·rename_i hn
    cases el:aN hx n with
    | none=>rw[el] at he;cases he
    | some ds=>
     rw[el] at he
     simp only at he
     cases e1:mI (gk k hx f) ds with
     | none=>rw[e1] at he;cases he
     | some es=>
      rw[e1] at he;cases he
      obtain⟨vs,hv,rs⟩:=r.lst (hx' n ds el) hp
      exact .frl (fz n p ds vs (by omega) el hp hv) (lR (fun d e v=>oM L r hx' fz f d e v) e1 rs)
end
theorem p_ {β:Type} {l:List β} {k n:Nat} {x:β} (e:(l.take k)[n]?=some x):n<k/\l[n]?=some x:=by
 rw[List.getElem?_take] at e
 split at e
 ·exact⟨by assumption,e⟩
 ·cases e
theorem oB {α α':List Addr} (h:α <+: α') {n:Nat} (hn:n<α.length):α[n]?=α'[n]?:=by
 obtain⟨t,rfl⟩:=h
 rw[List.getElem?_append_left hn]
theorem FJ {β:Type} {l:List β} {f:β->Bool} (h:l.all f=true) {n:Nat} {x:β} (e:l[n]?=some x):f x=true:=List.all_eq_true.mp h x (List.mem_of_getElem? e)
theorem vA {K:PySem.W.Frag} {g:GG} {α α' α2:List Addr} {H H' H2:Hp} {h h':Hh} (r0:α.length=h.length) (e:Ext K α H α' H') (r:aX K g α' H' h') (hl:(h'.take h.length).all (nU h.length)=true)
  (L:rJ K α2 α' H' H2 h.length) (kp:∀n p u,n<h.length->α'[n]?=some p->H' p=some u->H2 p=some u):∀(n:Nat) (p:Addr) (o:O),n<h.length->α'[n]?=some p->(h'.take h.length)[n]?=some o->OAt K g α2 H2 p o:=by
 intro n p o hn hp ho
 have lo:=FJ hl ho
 obtain⟨_,ho'⟩:=p_ ho
 have q:=r.here n p o hp ho'
 cases o with
 | lst ds=>obtain⟨vs,a,b⟩:=q;exact⟨vs,kp n p _ hn hp a,fK L lo b⟩
 | set m=>exact kp n p _ hn hp q
 | dic kvs=>
  obtain⟨kws,a,b⟩:=q
  refine⟨kws,kp n p _ hn hp a,?_⟩
  replace lo:cE h.length (kvs.map (·.2))=true:=lo
  clear a ho ho'
  induction b with
  | nil=>exact .nil
  | cons x t ih=>
   simp only[List.map_cons,cE,Bool.and_eq_true] at lo
   exact .cons ⟨x.1,oz L lo.1 x.2⟩ (ih lo.2)
 | dit kvs=>
  obtain⟨kws,a,b⟩:=q
  refine⟨kws,kp n p _ hn hp a,?_⟩
  replace lo:cE h.length (kvs.map (·.2))=true:=lo
  clear a ho ho'
  induction b with
  | nil=>exact .nil
  | cons x t ih=>
   simp only[List.map_cons,cE,Bool.and_eq_true] at lo
   exact .cons ⟨x.1,oz L lo.1 x.2⟩ (ih lo.2)
section
variable {P:Program} {w:World} {K:PySem.W.Frag} {mg:Str->Option Value} {base:Heap} {g:GG} {k np:Nat} {f:Addr} {fd:FuncData} {ps:List Str} {m:MF}
theorem oO {CX:CXT} {ε:XK->EE} (F:dA P w K mg base CX k f fd ps (spG K g ε np m)):dA P w K mg base CX k f fd ps (spG K g ε np fun ds h=>(m ds h).bind (eM h)):=by
 refine⟨fun vs H Q E h=>?_,fun A outer s H args us vs Q E hr e0 hb hv hsp=>?_⟩
 ·obtain⟨hl,α,ds,h,rs,hh,w⟩:=h
  exact F.len vs H (fun _ _=>True) E ⟨hl,α,ds,h,rs,hh,w.bind.mono fun _ _ _ _ _ _ _ _ _ _=>trivial⟩
 ·obtain⟨hl,α,ds,h,rs,hh,w⟩:=hsp
  refine codeAny_mono (F.run A outer s H args us vs (fun v H'=>∃α' d h',Ext K α H α' H'/\aX K g α' H' h'/\aO K g α' H' d v/\WQ K g (ε E) α H (eM h d h') (aM K g α H Q)) E hr e0 hb hv ⟨hl,α,ds,h,rs,hh,w.bind.mono fun d h' _ w1 v H' α' e r rd=>⟨α',d,h',e,r,rd,w1⟩⟩) fun res s' q=>?_
  cases res with
  | error e=>exact q
  | ok fl=>
   cases fl with
   | ret u=>
    refine GU (show CE outer P _ H s _ u s' from q) fun v H' ⟨α',d,h',e,r,rd,w⟩=>?_
    refine⟨fun p=>∃n ds,h.length<=n/\α'[n]?=some p/\aN h' n=some ds,fun p ⟨n,ds,_,hp,hn⟩=>?_,fun o=>?_⟩
    ·obtain⟨vs,hv,_⟩:=r.lst hn hp
     exact⟨_,hv,trivial⟩
    ·unfold eM at w
     obtain⟨hl,w⟩:=WQ.eF w
     cases ez:gk h.length h' 8 d with
     | none=>rw[ez] at w;exact w.elim
     | some e'=>
      rw[ez] at w
      generalize hS:(fun p=>∃n ds,h.length<=n/\α'[n]?=some p/\aN h' n=some ds)=S
      have inS:∀p,S p↔∃n ds,h.length<=n/\α'[n]?=some p/\aN h' n=some ds:=fun p=>by rw[<- hS]
      have k0:α.length=h.length:=hh.len
      have notS:∀p u,H' p=some u->(∀vs,u≠.lst vs)->¬ S p:=fun p u e1 e2 z=>by
       obtain⟨n,ds,_,hp,hn⟩:=(inS p).mp z
       obtain⟨vs,hv,_⟩:=r.lst hn hp
       rw[e1] at hv;cases hv;exact e2 vs rfl
      have off:∀p,¬ S p->kY S o H' p=H' p:=fun p z=>by unfold kY;rw[if_neg z]
      have offT:∀(p:Addr) (ps:Array Value),H' p=some (.tbl ps)->kY S o H' p=some (.tbl ps):=fun p ps z=>by rw[off p (notS p _ z fun vs z=>nomatch z)];exact z
      have L:rJ K α α' H' (kY S o H') h.length:=⟨fun n hn=>oB e.pre (by omega),fun p xs z=>by rw[off p (notS p _ z fun vs z=>nomatch z)];exact z,fun p o u z=>by rw[off p (notS p _ z fun vs z=>nomatch z)];exact z⟩
      have kp:∀n p u,n<h.length->α'[n]?=some p->H' p=some u->kY S o H' p=some u:=fun n p u hn hp e1=>by
       rw[off p fun z=>?_];exact e1
       obtain⟨m,ds,hm,hp',_⟩:=(inS p).mp z
       have:=r.inj n m p hp hp'
       omega
      have rd2:aO K g α (kY S o H') e' v:=oM L r (fun _ _ z=>z) (fun n p ds vs hn hl hp hv=>⟨o p,by unfold kY;rw[if_pos ((inS p).mpr ⟨n,ds,hn,hp,hl⟩),hv];rfl⟩) 8 d e' v ez rd
      refine(show aM K g α H Q e' (h'.take h.length) from w) v _ α ⟨⟨List.prefix_refl _,fun p xs z=>L.tup p xs (e.tup p xs z),fun p o u z=>L.frz p o u (e.frz p o u z),fun p ps z=>(e.tbl p ps z).imp fun _ q=>offT p _ q⟩,fun p u z n nt=>?_,fun _ z n=>absurd z n⟩ ⟨?_,fun n m p h1 h2=>hh.inj n m p h1 h2,fun n p ob h1 h2=>?_,r.tab.mono offT L.frz⟩ rd2
      ·rw[off p fun z'=>?_];exact e.kept p u z n nt
       obtain⟨m,ds,_,hp',_⟩:=(inS p).mp z'
       have:=e.new p (List.mem_of_getElem? hp') n
       rw[z] at this;cases this
      ·rw[List.length_take,<- r.len,k0]
       have:=e.pre.length_le
       omega
      ·have hn:n<h.length:=(p_ h2).1
       rw[oB e.pre (by omega)] at h1
       exact vA k0 e r hl L kp n p ob hn h1 h2
   | next=>exact q
   | brk=>exact q
   | cont=>exact q
end
section
variable {X:Cx} {g:GG} {ε:EE}
noncomputable def gT3 (i j k:Nat):D->En->Hh->R En:=fun d env h=>match d with
 | .tup [x,y,z]=>.ok (((env.set i (some x)).set j (some y)).set k (some z)) h
 | _=>.bad
theorem CP {K:PySem.W.Frag} {g:GG} {ε:EE} {i j k:Nat}:EA K g ε (gT3 i j k) (HQ K 3 (sj (fG i) (sj (fG j) (sj (fG k) Im)))):=fun α H h env σ d x Q s r w=>by
 unfold gT3 at w
 cases r with
 | tup hq rs=>
  cases rs with
  | nil=>exact w.elim
  | cons ra rr=>
   cases rr with
   | nil=>exact w.elim
   | cons rb rr=>
    cases rr with
    | nil=>exact w.elim
    | cons rc rr=>
     cases rr with
     | nil=>exact⟨_,_,rfl,SqT.of hq,rfl,_,_,rfl,_,_,rfl,_,_,rfl,rfl,w _ H α Ext.refl ⟨s.heap,((s.vs.set ra).set rb).set rc⟩⟩
     | cons _ _=>exact w.elim
 | _=>exact w.elim
noncomputable def Et (i j k:Nat) (m:ME):MS:=fun env h=>(m env h).bind fun d h1=>(gT3 i j k d env h1).bind fun e h2=>.ok (.nx e) h2
theorem IL {i j k:Nat} {x y z:Str} {e:Expr} {me:ME} {px py pz pt pos:Pos} {kt} (hc:X.calm=true) (hN:X.N.Nodup) (hi:X.N[i]?=some x) (hj:X.N[j]?=some y) (hk:X.N[k]?=some z) (he:PE X e (tM X.K g ε me))
  (hx:Loc X.env.scope x:=by first | exact Or.inl rfl | exact Or.inr rfl) (hy:Loc X.env.scope y:=by first | exact Or.inl rfl | exact Or.inr rfl) (hz:Loc X.env.scope z:=by first | exact Or.inl rfl | exact Or.inr rfl)
  (fx:X.fn x=true\/X.env.scope.names.lookup x=some .local:=by first | exact .inl rfl | exact .inr rfl) (fy:X.fn y=true\/X.env.scope.names.lookup y=some .local:=by first | exact .inl rfl | exact .inr rfl) (fz:X.fn z=true\/X.env.scope.names.lookup z=some .local:=by first | exact .inl rfl | exact .inr rfl)
  (hs:swapsWithSole [.Tuple [.Name x px,.Name y py,.Name z pz] kt pt] e pos.line X.env=pure false:=by rfl) (hw:swappedStores [.Tuple [.Name x px,.Name y py,.Name z pz] kt pt] e X.env=pure none:=by rfl) :
  PS X (.Assign [.Tuple [.Name x px,.Name y py,.Name z pz] kt pt] e pos) (tMS X.K g ε (Et i j k me)):=
 PS.imp (xo he (xl hc (gy (bR hN hi hx fx) (gy (bR hN hj hy fy) (gy (bR hN hk hz fz) sI)))) hs hw rfl) fun E σ H ⟨α,env,h,s,w⟩=>tM.use s w.bind fun d1 h1 v1 H1 α1 e1 s1 r1 w1=>by
  refine CP (ε:=ε) α1 H1 h1 env σ d1 v1 _ s1 r1 ((w1.ext e1).bind.mono fun e' h2 _ w2 σ2 H2 α2 e2 s2=>?_)
  exact(show dh X.K g α H E (.nx e') h2 from w2) H2 α2 (e1.trans e2) s2.heap σ2 s2.vs
end
section
variable {X:Cx} {g:GG} {ε:EE} {K:PySem.W.Frag}
noncomputable def nB:List D->Option (List Bool)
 | []=>some []
 | .bl b::r=>(nB r).map (b::·)
 | _=>none
theorem kP:∀{ds:List D} {bs:List Bool},nB ds=some bs->ds=bs.map D.bl
 | [],_,e=>by cases e;rfl
 | d::ds,bs,e=>by
  cases d with
  | bl b=>
   simp only[nB] at e
   cases e2:nB ds with
   | none=>rw[e2] at e;cases e
   | some cs=>
    rw[e2] at e
    cases e
    rw[kP e2];rfl
  | _=>cases e
theorem ax.Hb {α:List Addr} {H:Hp}:∀{bs:List Bool} {vs:List V},ax K g α H (bs.map D.bl) vs->vs=bs.map V.bl
 | [],_,.nil=>rfl
 | b::bs,_,.cons r t=>by
  cases r
  rw[ax.Hb t];rfl
noncomputable def zq (m:MF):MF:=fun ds h=>if cE 0 ds=true then match m ds [] with
  | .ok d _=>if iq 0 d=true then .ok d h else .bad
  | _=>.bad
 else m ds h
theorem yp {α α':List Addr} {H H':Hp} (e:Ext K [] H α' H'):Ext K α H α H':=
 ⟨⟨List.prefix_refl _,e.tup,e.frz,e.tbl⟩,fun p o h _ t=>e.kept p o h (by simp) t,fun p a b=>absurd a b⟩
theorem Cy {α α':List Addr} {H H':Hp} {h:Hh} (e:Ext K [] H α' H') (r:aX K g α H h) (t:jT K H'):aX K g α H' h:=
 ⟨r.len,r.inj,fun n p o a b=>(r.here n p o a b).ex0 (yp (α:=α) e).toEx0 fun u hu=>e.kept p u hu (by simp) (by obtain⟨u',e1,_,_,e4⟩:=(r.here n p o a b).isS;rw[hu] at e1;cases e1;exact e4),t⟩
theorem Cu {np:Nat} {m:MF} {vs:List V} {H:Hp} {Q:VK} {E} (h:spM K g np (zq m) vs H Q E):spM K g np m vs H Q E:=by
 obtain⟨hl,α,ds,h,rs,hh,w⟩:=h
 unfold zq at w
 by_cases lo:cE 0 ds=true
 ·rw[if_pos lo] at w
  cases e:m ds [] with
  | bad=>rw[e] at w;exact w.elim
  | err x h1=>rw[e] at w;exact w.elim
  | ok d h1=>
   rw[e] at w
   simp only at w
   obtain⟨ld,w⟩:=WQ.eF w
   refine⟨hl,[],ds,[],fK ⟨fun n hn=>absurd hn (Nat.not_lt_zero _),fun _ _ z=>z,fun _ _ _ z=>z⟩ lo rs,⟨rfl,fun n m p a=>by simp at a,fun n p o a=>by simp at a,hh.tab⟩,?_⟩
   rw[e]
   exact fun v H' α' ex hr' rd=>(show aM K g α H Q d h from w) v H' α (yp ex) (Cy ex hh hr'.tab) (oz ⟨fun n hn=>absurd hn (Nat.not_lt_zero _),fun _ _ z=>z,fun _ _ _ z=>z⟩ ld rd)
 ·rw[if_neg lo] at w
  exact⟨hl,α,ds,h,rs,hh,w⟩
theorem Ic {P:Program} {w:World} {mg:Str->Option Value} {base:Heap} {k np:Nat} {f:Addr} {fd:FuncData} {ps:List Str} {m:MF} (F:dA P w K mg base CX0 k f fd ps (spM K g np m)):dA P w K mg base CX0 k f fd ps (spM K g np (zq m)):=
 ⟨fun vs H Q E h=>F.len vs H Q E (Cu h),fun A outer s H args us vs Q E hr e0 hb hv hsp=>F.run A outer s H args us vs Q E hr e0 hb hv (Cu hsp)⟩
end
end L2.FE
namespace L2
open PySem PySem.Spec PyProof.Rows
section
variable {prog:Program} {w:World} {A:Around} {E:Value->Shared->Prop} {s:Shared}
theorem CW {l:Addr} {vs:List Value} {Q:List Value->Shared->Prop} (hl:s.heap.IsTuple l vs.toArray) (hz:vs.length<=sizeLine)
  (h:Q vs { s with heap:=(s.heap.push (seqObj "list" #[] 0)).update s.heap.objs.size (Obj.mapSeq (·++vs.toArray)) }):wpAny (model prog w) A (collect (.ref l)) Q E s:=by
 obtain⟨o,ho,hc,n,hd⟩:=hl
 unfold collect;refine wpAny_bind (wpAny_runValue (codeAny_builtin entry_proto_collect' ?_));show wpAny _ _ (do again (.builtin "list.__iadd__" ⟨[<- newList [],.ref l],[]⟩)) _ _ s
 refine wpAny_bind (wpAny_newList (wpAny_pure ⟨Code.quiet_builtin _ (by decide +kernel),codeAny_builtin entry_list_iadd' ?_⟩))
 show wpAny _ _ (Builtin.List.listExtendWith (.ref s.heap.objs.size) (.ref l) (.ref s.heap.objs.size)) _ _ { s with heap:=s.heap.push (seqObj "list" #[] 0) };unfold Builtin.List.listExtendWith
 have g1:(s.heap.push (seqObj "list" #[] 0)).get? l=some o:=Heap.get?_push_of_some _ ho
 refine wpAny_bind (wpAny_typeOf (T:="tuple") ⟨o,g1,hc⟩ ?_)
 rw[if_pos (by rw[show(Value.type "tuple" == Value.type "tuple")=true from rfl,Bool.or_true])]
 refine wpAny_bind (listItems_at g1 hd (wpAny_bind (listItems_at (xs:=#[]) (n:=0) (Heap.get?_push_size _ rfl) rfl ?_)))
 rw[if_neg (by simp)]
 refine wpAny_bind (listUpdate_at (xs:=#[]) (n:=0) (Heap.get?_push_size _ rfl) rfl (wpAny_pure ?_) (Nat.zero_le _) (by show(#[]++vs.toArray).size<=sizeLine+1;simp;omega))
 show wpAny (model prog w) A (do
   let o ← load s.heap.objs.size
   match o.data with
   | .seq xs _=>pure xs.toList
   | _=>unsupported "internal:collect") Q E { s with heap:=(s.heap.push (seqObj "list" #[] 0)).update s.heap.objs.size (Obj.mapSeq (·++vs.toArray)) }
 refine wpAny_bind (wpAny_load (get?_update_seq (Heap.get?_push_size _ rfl) _) ?_)
 have e:((#[]:Array Value)++vs.toArray).toList=vs:=by simp
 show wpAny _ _ (pure ((#[]:Array Value)++vs.toArray).toList) Q E _;rw[e];exact wpAny_pure h
theorem Ko {l:Addr} {vs:List Value} {ns:List Int} {Q:Value->Shared->Prop} (hl:s.heap.IsTuple l vs.toArray) (hI:IntsAre vs ns) (h64:vs.length<64)
  (h:∀(out:Array Value) (ms:List Int),IntsAre out.toList ms->ms.Perm ns->ms.Pairwise (·<=·)->Q (.ref (s.heap.objs.size+1)) { s with heap:=sortedAll s.heap vs out }):wpAny (model prog w) A (call (.builtin "sorted") [.ref l]) Q E s:=by
 refine Calls.call_function_entry kind_sorted plain_sorted entry_sorted (args_sorted1 _) ?_;unfold Builtin.«sorted»
 refine wpAny_bind (m:=checkCount "sorted" 1 1 _) (wpAny_pure (wpAny_bind (CW hl (by have:64<=sizeLine:=by decide
                                                                                     omega) (wpAny_bind (wpAny_newList ?_)))))
 have n1:((s.heap.push (seqObj "list" #[] 0)).update s.heap.objs.size (Obj.mapSeq (·++vs.toArray))).objs.size=s.heap.objs.size+1:=(Heap.size_update ..).trans (size_push' ..)
 have o1:(((s.heap.push (seqObj "list" #[] 0)).update s.heap.objs.size (Obj.mapSeq (·++vs.toArray))).push (seqObj "list" vs.toArray 0)).get? (s.heap.objs.size+1)=some (seqObj "list" vs.toArray 0):=n1 ▸ Heap.get?_push_size _ rfl
 show wpAny _ _ _ _ _ { s with heap:=((s.heap.push (seqObj "list" #[] 0)).update s.heap.objs.size (Obj.mapSeq (·++vs.toArray))).push (seqObj "list" vs.toArray 0) };rw[n1]
 exact wpAny_bind (wpAny_holding (wpAny_call_entry slot_list_sort ⟨_,o1,rfl⟩ entry_list_sort (list_sort_tree o1 hI h64 fun out ms a1 a2 a3=>⟨_,rfl,wpAny_pure ⟨_,rfl,h out ms a1 a2 a3⟩⟩) (args_list_sort _)))
end
noncomputable def insI (x:Int):List Int->List Int
 | []=>[x]
 | y::r=>if x<=y then x::y::r else y::insI x r
noncomputable def sortI:List Int->List Int
 | []=>[]
 | x::r=>insI x (sortI r)
theorem insI_perm (x:Int):∀l,(insI x l).Perm (x::l)
 | []=>.refl _
 | y::r=>by
  unfold insI
  split
  ·exact .refl _
  ·exact((insI_perm x r).cons y).trans (.swap _ _ _)
theorem sortI_perm:∀l,(sortI l).Perm l
 | []=>.refl _
 | x::r=>(insI_perm x (sortI r)).trans ((sortI_perm r).cons x)
theorem nz (x:Int):∀l:List Int,l.Pairwise (·<=·)->(insI x l).Pairwise (·<=·)
 | [],_=>by simp[insI]
 | y::r,h=>by
  unfold insI
  rw[List.pairwise_cons] at h
  split
  ·rename_i hx
   refine List.pairwise_cons.mpr ⟨fun z hz=>?_,List.pairwise_cons.mpr h⟩
   rcases List.mem_cons.mp hz with rfl | hz
   ·exact hx
   ·exact Int.le_trans hx (h.1 z hz)
  ·rename_i hx
   refine List.pairwise_cons.mpr ⟨fun z hz=>?_,nz x r h.2⟩
   rcases List.mem_cons.mp ((insI_perm x r).mem_iff.mp hz) with rfl | hz
   ·omega
   ·exact h.1 z hz
theorem i9:∀l,(sortI l).Pairwise (·<=·)
 | []=>.nil
 | x::r=>nz x _ (i9 r)
theorem jJ:∀{xs ys:List Int},xs.Perm ys->xs.Pairwise (·<=·)->ys.Pairwise (·<=·)->xs=ys
 | [],ys,p,_,_=>by rw[List.Perm.eq_nil p.symm]
 | x::xs,[],p,_,_=>absurd (List.Perm.eq_nil p) (by simp)
 | x::xs,y::ys,p,hx,hy=>by
  rw[List.pairwise_cons] at hx hy
  have e:x=y:=by
   have a:x∈y::ys:=p.mem_iff.mp List.mem_cons_self
   have b:y∈x::xs:=p.mem_iff.mpr List.mem_cons_self
   have a':y<=x:=by
    rcases List.mem_cons.mp a with rfl | a
    ·exact Int.le_refl _
    ·exact hy.1 x a
   have b':x<=y:=by
    rcases List.mem_cons.mp b with rfl | b
    ·exact Int.le_refl _
    ·exact hx.1 y b
   omega
  subst e
  rw[jJ (List.perm_cons x |>.mp p) hx.2 hy.2]
theorem pA:∀{ns:List Int} {us:List Value},Vals (ns.map V.int) us->IntsAre us ns
 | [],_,.nil=>.nil
 | n::ns,_,.cons r t=>by
  obtain⟨t',rfl⟩:=r
  exact .cons _ _ (pA t)
theorem se:∀{us:List Value} {ns:List Int},IntsAre us ns->Vals (ns.map V.int) us
 | _,_,.nil=>.nil
 | _,_,.cons _ _ t=>.cons ⟨_,rfl⟩ (se t)
section
variable {X:Cx}
theorem Aa:bp X (.builtin "sorted") (fun vs H Q=>∃(p:Addr) (ns:List Int),vs=[.ref p]/\(SqL X.K H p (ns.map V.int)\/SqT X.K H p (ns.map V.int))/\ns.length<64/\∀l,H l=none->Q (.ref l) (upd H l (.lst ((sortI ns).map V.int)))):=by
 intro pins s σ H xs us Q I r h
 obtain⟨p,ns,rfl,hq,h64,q⟩:=h
 obtain⟨u,rfl,rx⟩:=vals1 r
 cases rx
 have fin:∀{its:List Value} (out:Array Value) (ms:List Int),IntsAre out.toList ms->ms.Perm ns->ms.Pairwise (·<=·)->EP X pins σ Q (.ref (s.heap.objs.size+1)) { s with heap:=sortedAll s.heap its out }:=fun{its} out ms a1 a2 a3=>by
  have e:ms=sortI ns:=jJ (a2.trans (sortI_perm ns).symm) a3 (i9 ns)
  subst e
  obtain⟨k,hk⟩:=sortedAll_at s.heap its out
  have hn:H (s.heap.objs.size+1)=none:=I.hok.fresh (Nat.le_succ _)
  have len:((sortI ns).map V.int).length<=sizeLine:=by
   have:64<=sizeLine:=by decide
   rw[List.length_map,(sortI_perm ns).length_eq];omega
  refine⟨.ref (s.heap.objs.size+1),upd H (s.heap.objs.size+1) (.lst ((sortI ns).map V.int)),I.laid (t':=s.toks) (fun _ _ z=>sortedAll_old z) (Nat.le_succ _) ⟨len,out.toList,k,se a1,?_⟩,rfl,q _ hn⟩
  rw[hk]
 rcases hq with hq | hq
 ·obtain⟨its,rv,pl,hz⟩:=I.list hq
  have hl:=rv.length
  rw[List.length_map] at hl
  exact sorted_ints pl.isList (pA rv) (by omega) fin
 ·obtain⟨its,rv,pl,hz⟩:=I.tuple hq
  have hl:=rv.length
  rw[List.length_map] at hl
  exact Ko (show s.heap.IsTuple p its.toArray from pl) (pA rv) (by omega) fin
end
end L2
namespace L2.FE
open PySem PySem.Spec PyProof.Rows
section
variable {X:Cx} {g:GG} {ε:EE} {K:PySem.W.Frag}
noncomputable def pX (nl:NL):List D->Hh->R D:=fun ds h=>match ds with
 | [d]=>match fY d h with
  | some xs=>match intsOf xs with
   | some ns=>if ns.length<64 then nl ((sortI ns).map D.int) h else .bad
   | none=>.bad
  | none=>.bad
 | _=>.bad
theorem wj {α:List Addr} {H:Hp}:∀(ns:List Int),ax K g α H (ns.map D.int) (ns.map V.int)
 | []=>.nil
 | n::ns=>.cons (.int n) (wj ns)
theorem E9 {nl:NL} [kW nl]:nY K g ε (pX nl) (fun vs H Q=>∃(p:Addr) (ns:List Int),vs=[.ref p]/\(SqL K H p (ns.map V.int)\/SqT K H p (ns.map V.int))/\ns.length<64/\∀l,H l=none->jN Q (.ref l) (upd H l (.lst ((sortI ns).map V.int)))):=by
 intro α H h a x Q r ra w
 obtain⟨d,v,rfl,rfl,rd⟩:=m3 (f:=pX nl) (fun _ _ _ _=>rfl) (fun _=>rfl) ra w
 unfold pX at w
 simp only at w
 cases e:fY d h with
 | none=>rw[e] at w;exact w.elim
 | some ds=>
  rw[e] at w
  simp only at w
  cases e2:intsOf ds with
  | none=>rw[e2] at w;exact w.elim
  | some ns=>
   rw[e2] at w
   simp only at w
   obtain⟨h64,w⟩:=WQ.eF w
   obtain⟨p,vs,rfl,hq,rs⟩:=lu r rd e
   have e3:=ka e2
   subst e3
   have e4:=rs.B8
   subst e4
   exact⟨p,ns,rfl,hq,h64,fun l hl=>NL.post w r (wj _) hl⟩
theorem dS {mg:Str->Option Value} {x:Str} {f:Addr} (e:g=gOf mg) (h:mg x=some (.ref f)):g x=some f:=by rw[e];simp[gOf,h]
end
theorem kQ {P:Program} {w:World} {H:Hp} {h:Heap} {p:Addr} {o:Obj} (ok:HOk P w H h) (e:H p=some (AtO p o)):h.get? p=some o:=(show cF P w H h p (AtO p o) from ok p _ e).1
theorem gc {a:Str} {b:Pos} {rest:List Expr} {env:Env}:starEach (.Name a b::rest) env=(false,eval (.Name a b) env)::starEach rest env:=by rfl
theorem kj {pos:Pos} {t:Sem Value} {r:List (Bool × Sem Value)}:backTo pos ((false,t)::r)=(false,t)::backTo pos r:=rfl
theorem nE {env:Env} {pos:Pos} {x:Str} {p2:Pos}:∀qs:List (Str × Pos),(backTo pos (starEach (qs.map (fun y=>Expr.Name y.1 y.2)++[.Name x p2]) env)).any (·.1)=false
 | []=>by rw[List.map_nil,List.nil_append,gc,kj];rfl
 | q::qs=>by
  rw[List.map_cons,List.cons_append,gc,kj,List.any_cons,nE qs];rfl
section
variable {P:Program} {w:World} {K:PySem.W.Frag} {mg:Str->Option Value} {base:Heap} {H:Hp} {clos:List (Str × Addr)} {scope:Scope} {env:Env} {A:Around} {E:Value->Shared->Prop} {s:Shared} {m:Str->Option Value}
theorem sf {x:Str} {p2 pos:Pos} {u:Value} (hs:env.scope.kind=.function) (hcl:env.cells=clos) (hok:HOk P w H s.heap) (hx:env.kindOf x=some .local) (hxd:(x == ("__debug__" : Str))=false) (hn:s.heap.Ns env.locals m) (hm:m x=some u) :
  ∀(qs:List (Str × Pos)) (vs:List V) (Q:List Value->Shared->Prop),lJ H clos (qs.map (·.1)) vs->(∀y∈qs.map (·.1),env.kindOf y=some .free/\(y == ("__debug__" : Str))=false/\(y == ("__classdict__" : Str))=false) →
   (∀us,Vals vs us->Q (us++[u]) s)->wpAny (model P w) A (spliced (backTo pos (starEach (qs.map (fun y=>Expr.Name y.1 y.2)++[.Name x p2]) env))) Q E s
 | [],_,Q,.nil,_,h=>by
  rw[List.map_nil,List.nil_append,gc,kj]
  exact Calls.spliced_cons (wpAny_Name (wpAny_loadName_local hs hx hn hm (Calls.spliced_nil (h [] .nil))) hxd)
 | q::qs,_,Q,.cons ⟨c,o,z,hl,hc,hd,r⟩ t,hf,h=>by
  rw[List.map_cons,List.cons_append,gc,kj]
  obtain⟨f1,f2,f3⟩:=hf q.1 (by simp)
  refine Calls.spliced_cons (wpAny_Name (wpAny_loadName_free (v:=z) hs f1 (by rw[hcl];exact hl) ⟨o,kQ hok hc,hd⟩ ?_ f3) f2)
  exact sf hs hcl hok hx hxd hn hm qs _ _ t (fun y hy=>hf y (by simp only[List.map_cons,List.mem_cons];exact .inr hy)) fun us r2=>h (z::us) (.cons r r2)
end
theorem Fx {P:Program} {w:World} {K:PySem.W.Frag} {mg:Str->Option Value} {base:Heap} {k:Nat} {f:Addr} {fd:FuncData} {ps:List Str} {sp:Sp} {fn x qual:Str} {ys:List Str} {params:Arguments} {body:Expr} {scope:Scope}
  (F:dA P w K mg base CX0 k f fd ps sp) (hkp:PySem.W.keepIn K (.ref f)=true) (hb:Binds K fd ps []) (hm:mg fn=some (.ref f)) (T:vp fn x qual ys params body scope)
  {A:Around} {outer:List Env} {s:Shared} {H:Hp} {u:Value} {v:V} {Q:VK} {E E1:XK} {p c':Addr} {clos:List (Str × Addr)} {pm ctv:Value} {oc:Obj} {vc:Array Value} {t:Tok} {cv:List V} (hr:dw (k+1) A) (e0:xP P w K mg base A outer s H)
  (hp:H p=some (AtO p (PySem.W.kla_obj "<lambda>" qual params body scope clos pm c' ctv))) (hc:H c'=some (AtO c' oc)) (hd:oc.data=.fields vc) (hv:vc[1]?=some (.str qual t)) (cs:lJ H clos ys cv) (rv:RelV v u)
  (h:sp (cv++[v]) H Q E1):codeAny (model P w) A (.call (.ref p) ⟨[u],[]⟩) (CR CX0 outer P w H s Q E) s:=by
 refine PySem.W.kla_callFunE hr.depth (kQ e0.hok hp) rfl T.co T.gen rfl ⟨c',oc,vc,t,rfl,kQ e0.hok hc,hd,hv⟩ ?_
 rw[T.bind]
 refine wpAny_pure (wpAny_newFunctionEnv T.H_ (by intro y hy;simp at hy;subst hy;exact T.loc) (fun h₁ hns hsb=>?_) T.kind)
 have keep1:∀b o,s.heap.get? b=some o->h₁.get? b=some o:=fun b o e=>hsb.extBut b o (Nat.ne_of_lt (Heap.lt_size e)) (Heap.get?_push_of_some _ e)
 refine⟨(e0.mod.nolimit.keeps fun b o e=>(e0.bs b o e).1).keeps keep1,?_⟩
 show codeAny _ _ (.expr body (PySem.W.envX qual scope s.heap.objs.size p (.ref c') clos)) _ _
 refine PySem.W.kla_codeExpr ?_
 obtain⟨p0,p2,p3,qs,rfl,rfl⟩:=T.tx
 have KX:K.In h₁:=(e0.mod.kin.keeps fun b o e=>(e0.bs b o e).1).keeps keep1
 have hok1:HOk P w H h₁:=e0.hok.kept keep1
 refine wpAny_Call_Name_kw (Calls.Name_function_global T.kind T.glob (Calls.loadGlobal_global ((e0.mod.glob.keeps fun b o e=>(e0.bs b o e).1).keeps keep1) hm ?_) T.nd.1)
 have hL:frs (PySem.W.envX qual scope s.heap.objs.size p (.ref c') clos::outer)=s.heap.objs.size::frs outer:=rfl
 have sz:s.heap.objs.size<=h₁.objs.size:=by
  by_cases z:s.heap.objs.size=0
  ·rw[z];exact Nat.zero_le _
  ·exact Nat.le_of_lt hns.lt
 have e1:xP P w K mg base (A.deeper (PySem.W.envX qual scope s.heap.objs.size p (.ref c') clos)) (PySem.W.envX qual scope s.heap.objs.size p (.ref c') clos::outer) { s with heap:=h₁,toks:=s.toks+1 } H:=
  ⟨Around.frames_deeper e0.frames,e0.mod,fun b o e=>⟨keep1 b o (e0.bs b o e).1,(e0.bs b o e).2⟩,Nat.le_trans e0.bsz sz,
   Heap.FunFrames.cons (by show scope.kind≠_;rw[T.kind];decide) rfl hns (Heap.get?_none_of_le e0.bsz) (Heap.FunFrames.of_keeps (fun b o e _=>⟨o,keep1 b o e,rfl⟩) e0.jQ),
   fun b hb'=>by
    rw[hL] at hb'
    rcases List.mem_cons.mp hb' with z | z
    ·rw[z];exact e0.hok.fresh (Nat.le_refl _)
    ·exact e0.frf b z,hok1,e0.bare⟩
 have fin:∀us:List Value,Vals cv us->wpAny (model P w) (A.deeper (PySem.W.envX qual scope s.heap.objs.size p (.ref c') clos)) (call (.ref f) ([]++(us++[u]))) (fun z s'=>CR CX0 outer P w H s Q E (.ok (.ret z)) s')
   (fun e' s'=>wpAny (model P w) (A.deeper (PySem.W.envX qual scope s.heap.objs.size p (.ref c') clos)) (leaving (PySem.W.envX qual scope s.heap.objs.size p (.ref c') clos) e') (fun _ s''=>CR CX0 outer P w H s Q E (.error e') s'') (fun e'' s''=>CR CX0 outer P w H s Q E (.error e'') s'') s') { s with heap:=h₁,toks:=s.toks+1 }:=fun us r2=>by
  have rr:Vals (cv++[v]) (us++[u]):=r2.append (.cons rv .nil)
  have hl:(us++[u]).length=ps.length:=by rw[<- rr.length];exact F.len _ _ _ _ h
  have hb2:=hb { s with heap:=h₁,toks:=s.toks+1 } (us++[u]) KX (by rw[List.append_nil];exact hl)
  rw[List.append_nil] at hb2
  refine wpAny_call (codeAny_mono (F.run _ _ _ H ⟨us++[u],[]⟩ (us++[u]) (cv++[v]) Q E1 (hr.deeper _) e1 hb2 rr h) fun r s' hq=>?_)
  cases r with
  | error e=>exact False.elim hq
  | ok fl=>
   cases fl with
   | ret z=>
    obtain⟨y,H',os,bare,un,hok,r,q⟩:=(show CE _ P w H _ Q z s' from hq)
    have old:∀{b:Addr} {o:Obj},s.heap.get? b=some o->b∉frs outer->b∉frs (PySem.W.envX qual scope s.heap.objs.size p (.ref c') clos::outer):=fun{b o} e n z=>by
     rw[hL] at z
     rcases List.mem_cons.mp z with z | z
     ·exact absurd (Heap.lt_size e) (by rw[z];exact Nat.lt_irrefl _)
     ·exact n z
    exact⟨y,H',os,bare,⟨fun b o e n hb' hx=>un.keep b o (keep1 b o e) n (old e hb') hx,fun b o e n hb' hx=>un.slot b o (keep1 b o e) n (by rw[hL];exact List.mem_cons_of_mem _ hb') hx,fun b o e n hx=>un.free b o (keep1 b o e) n hx,fun b o e hx=>un.there b o (keep1 b o e) hx,un.mM,un.lK,un.m8⟩,hok,r,q⟩
   | next=>exact False.elim hq
   | brk=>exact False.elim hq
   | cont=>exact False.elim hq
 have main:=sf (P:=P) (w:=w) (H:=H) (clos:=clos) (env:=PySem.W.envX qual scope s.heap.objs.size p (.ref c') clos) (A:=A.deeper (PySem.W.envX qual scope s.heap.objs.size p (.ref c') clos)) (s:={ s with heap:=h₁,toks:=s.toks+1 }) (x:=x) (p2:=p2) (pos:=p3) (u:=u)
  (E:=fun e' s'=>wpAny (model P w) (A.deeper (PySem.W.envX qual scope s.heap.objs.size p (.ref c') clos)) (leaving (PySem.W.envX qual scope s.heap.objs.size p (.ref c') clos) e') (fun _ s''=>CR CX0 outer P w H s Q E (.error e') s'') (fun e'' s''=>CR CX0 outer P w H s Q E (.error e'') s'') s')
  T.kind rfl hok1 T.loc T.nd.2 hns (by simp) qs cv (fun us s2=>K.In s2.heap/\wpAny (model P w) (A.deeper (PySem.W.envX qual scope s.heap.objs.size p (.ref c') clos)) (call (.ref f) ([]++us)) (fun z s'=>CR CX0 outer P w H s Q E (.ok (.ret z)) s')
   (fun e' s'=>wpAny (model P w) (A.deeper (PySem.W.envX qual scope s.heap.objs.size p (.ref c') clos)) (leaving (PySem.W.envX qual scope s.heap.objs.size p (.ref c') clos) e') (fun _ s''=>CR CX0 outer P w H s Q E (.error e') s'') (fun e'' s''=>CR CX0 outer P w H s Q E (.error e'') s'') s') s2) cs T.free fun us r2=>⟨KX,fin us r2⟩
 cases qs with
 | nil=>exact PySem.W.callWith_K (h₀:=h₁) KX hkp main gc rfl
 | cons q qs=>exact PySem.W.callWith_K (h₀:=h₁) KX hkp main gc (nE qs)
noncomputable def jf (tab:Str->Option (Nat × MF)) (f:ME) (a:MA):ME:=fun env h=>(f env h).bind fun d h1=>match d with
 | .clo x ds=>match tab x with
  | some (np,m)=>if ds.length+1=np then (a env h1).bind fun es h2=>m (ds++es) h2 else .bad
  | none=>.bad
 | _=>.bad
theorem oW {X:Cx} {g:GG} {k:Nat} {tab:Str->Option (Nat × MF)} {fe e:Expr} {pos:Pos} {mf:ME} {mr:MA}
  (T:∀x np m,tab x=some (np,m)->∃f fd ps,X.mg x=some (.ref f)/\dA X.prog X.w X.K X.mg X.base CX0 k f fd ps (spM X.K g np m)/\PySem.W.keepIn X.K (.ref f)=true/\Binds X.K fd ps [])
  (hr:dw (k+1) X.A) (hf:PE X fe (tM X.K g E00 mf)) (ha:PA X [e] (tMA X.K g E00 mr)) (hlen:∀env h ds h',mr env h=.ok ds h'->ds.length=1)
  (hc:eval (.Call fe [e] [] pos) X.env=(do callWith pos (← eval fe X.env) [] (backTo pos (starEach [e] X.env)) (backToKw pos (keywordEach [] X.env))):=by rfl)
  (he:starEach [e] X.env=(false,eval e X.env)::starEach [] X.env:=by rfl) :
  PE X (.Call fe [e] [] pos) (tM X.K g E00 (jf tab mf mr)):=by
 intro pins s σ H Q I ⟨α,env,h,s0,w⟩
 refine Call_ (thn (hf pins s σ H (fun v H1=>∃α1 h1 p o clos ys cv c' oc qual t vc x ds np m,v=.ref p/\H1 p=some (AtO p o)/\Gx x clos ys o c' qual/\H1 c'=some (AtO c' oc)/\oc.data=.fields vc/\vc[1]?=some (.str qual t)/\lJ H1 clos ys cv/\ax X.K g α1 H1 ds cv ∧
   tab x=some (np,m)/\ds.length+1=np/\dW X.K g α1 H1 env σ h1/\WQ X.K g E00 α1 H1 ((mr env h1).bind fun es h2=>m (ds++es) h2) (aM X.K g α1 H1 Q)) I ?_) fun v s1 ⟨x,H1,I1,r1,q1⟩=>?_) hc
 ·refine tM.use s0 w.bind fun d1 h1 v1 H1 α1 e1 s1 r1 w1=>?_
  cases r1 with
  | @clo x ds p o clos ys vs c' oc qual t vc hp hl hc' hd hv cs rs=>
   simp only at w1
   cases et:tab x with
   | none=>rw[et] at w1;exact w1.elim
   | some q=>
    obtain⟨np,m⟩:=q
    rw[et] at w1
    obtain⟨hn,w1⟩:=WQ.eF w1
    exact⟨α1,h1,p,o,clos,ys,vs,c',oc,qual,t,vc,x,ds,np,m,rfl,hp,hl,hc',hd,hv,cs,rs,et,hn,s1,WQ.post e1 w1⟩
  | _=>exact w1.elim
 ·obtain⟨α1,h1,p,o,clos,ys,cv,c',oc,qual,t,vc,x,ds,np,m,rfl,hp,⟨params,body,scope,pm,ctv,xa,rfl,tx⟩,hc',hd,hv,cs,rs,et,hn,s2,w2⟩:=q1
  cases r1
  obtain⟨f,fd,ps,hm,F,hk,hb⟩:=T x np m et
  have fn:∀{h:Heap},h.get? p=some (PySem.W.kla_obj "<lambda>" qual params body scope clos pm c' ctv)->PySem.W.FnAt p h:=fun e=>⟨_,_,_,_,e⟩
  refine PySem.W.callWith_F (fn (kQ I1.hok hp)) (thn (ha pos pins s1 σ H1 (fun vs H2=>∃v,vs=[v]/\H2 p=some (AtO p (PySem.W.kla_obj "<lambda>" qual params body scope clos pm c' ctv))/\H2 c'=some (AtO c' oc)/\lJ H2 clos ys cv/\spM X.K g np m (cv++[v]) H2 Q E0) I1 ?_) fun us s3 ⟨vs,H2,I2,r,v,ev,hp2,hc2,cs2,q⟩=>⟨fn (kQ I2.hok hp2),?_⟩) he rfl
  ·refine⟨α1,env,h1,s2,w2.bind.mono fun es h3 eq w3 v3 H3 α3 e3 hr3 r3=>?_⟩
   have l1:=hlen env h1 es h3 eq
   obtain⟨d,rfl⟩:∃d,es=[d]:=List.length_eq_one_iff.mp l1
   cases r3 with
   | @cons _ v _ _ rd rn=>
    cases rn
    refine⟨v,rfl,e3.frz _ _ _ hp,e3.frz _ _ _ hc',L2.Paired.sH cs fun _ _ ⟨c,o,u,l,a,b⟩=>⟨c,o,u,l,e3.frz _ _ _ a,b⟩,?_,α3,ds++[d],h3,(rs.ext e3).append (.cons rd .nil),hr3,w3.post e3⟩
    rw[List.length_append,<- rs.length];exact hn
  ·subst ev
   cases r with
   | @cons _ u _ _ ru rn=>
    cases rn
    refine wpAny_call (codeAny_mono (Fx F hk hb hm tx (E:=E0) hr I2.GH hp2 hc2 hd hv cs2 ru q) fun r s' hq=>?_)
    cases r with
    | error e=>exact False.elim hq
    | ok fl=>
     cases fl with
     | ret u=>exact I2.after hq
     | next=>exact False.elim hq
     | brk=>exact False.elim hq
     | cont=>exact False.elim hq
open Classical in
noncomputable def mkH (S:Addr->Prop) (h2:Heap) (PT:Addr) (T:Array Value) (H1:Hp):Hp:=fun b=>if S b then (h2.get? b).map (AtO b) else if b=PT then some (.tbl T) else H1 b
structure MkS (P:Program) (w:World) (S:Addr->Prop) (h1 h2:Heap) (PT:Addr) (ps more:Array Value) (H1:Hp):Prop where
 hok:HOk P w H1 h1
 hPT:H1 PT=some (.tbl ps)
 k:∀b o,b≠PT->h1.get? b=some o->h2.get? b=some o
 hT:h2.get? PT=some (PySem.W.tabObj (ps++more))
 hS:∀b,S b->b≠PT/\(∃o,h2.get? b=some o)/\(H1 b=none\/∃o,H1 b=some (AtO b o))
section
variable {P:Program} {w:World} {S:Addr->Prop} {h0 h1 h2:Heap} {PT:Addr} {ps more:Array Value} {H H1:Hp} {K:PySem.W.Frag} {g:GG} {α:List Addr} {h:Hh} {fs:List Addr}
theorem MkS.at_ (M:MkS P w S h1 h2 PT ps more H1) {b:Addr} (hb:S b) {o:Obj} (e:h2.get? b=some o):mkH S h2 PT (ps++more) H1 b=some (AtO b o):=by
 unfold mkH;rw[if_pos hb,e];rfl
theorem MkS.pt (M:MkS P w S h1 h2 PT ps more H1):mkH S h2 PT (ps++more) H1 PT=some (.tbl (ps++more)):=by
 unfold mkH;rw[if_neg fun z=>(M.hS PT z).1 rfl,if_pos rfl]
theorem MkS.off (M:MkS P w S h1 h2 PT ps more H1) {b:Addr} {o:HO} (e:H1 b=some o) (n:b≠PT):mkH S h2 PT (ps++more) H1 b=some o:=by
 by_cases hb:S b
 ·obtain⟨_,⟨o2,e2⟩,z | ⟨o1,z⟩⟩:=M.hS b hb
  ·rw[e] at z;cases z
  ·rw[e] at z;cases z
   have e1:=M.k b o1 n (kQ M.hok e)
   exact M.at_ hb e1
 ·unfold mkH;rw[if_neg hb,if_neg n];exact e
theorem MkS.non (M:MkS P w S h1 h2 PT ps more H1) {b:Addr} (e:H1 b=none) (n:¬ S b):mkH S h2 PT (ps++more) H1 b=none:=by
 unfold mkH;rw[if_neg n,if_neg (aP M.hPT e).symm];exact e
theorem MkS.Lx (M:MkS P w S h1 h2 PT ps more H1):HOk P w (mkH S h2 PT (ps++more) H1) h2:=by
 intro b u e
 by_cases hb:S b
 ·obtain⟨_,⟨o2,e2⟩,_⟩:=M.hS b hb
  rw[M.at_ hb e2] at e
  cases e
  exact⟨e2,e2,⟨o2,e2⟩,fun a c x y=>y _ x⟩
 ·by_cases hp:b=PT
  ·subst hp
   rw[M.pt] at e
   cases e
   exact M.hT
  ·have e1:H1 b=some u:=by unfold mkH at e;rw[if_neg hb,if_neg hp] at e;exact e
   refine(M.hok b u e1).kr (fun c x hc hx=>M.k c x ?_ hx) (fun c z=>M.off z fun q=>?_) fun c xs z=>M.off z fun q=>?_
   ·rcases hc with rfl | hc
    ·exact hp
    ·rintro rfl;rw[M.hPT] at hc;cases hc
   ·subst q;rw[M.hPT] at z;cases z
   ·subst q;rw[M.hPT] at z;cases z
theorem MkS.un (M:MkS P w S h1 h2 PT ps more H1) (u:Un fs [] H H1 h0 h1) (hn:∀b,S b->h0.objs.size<=b\/H1 b≠none):Un fs [] H (mkH S h2 PT (ps++more) H1) h0 h2:=by
 have nt:∀b o,h0.get? b=some o->H b=none->b≠PT:=fun b o e n=>(aP M.hPT (u.free b o e n (by simp))).symm
 refine⟨fun b o e n hf hx=>M.k b o (nt b o e n) (u.keep b o e n hf hx),fun b o e n hf hx=>?_,fun b o e n hx=>?_,fun b o e hx=>?_,fun b xs e=>M.off (u.mM b xs e) fun z=>?_,fun b o x e=>M.off (u.lK b o x e) fun z=>?_,fun b qs e=>?_⟩
 ·obtain⟨sl,e1⟩:=u.slot b o e n hf hx
  exact⟨sl,M.k b _ (nt b o e n) e1⟩
 ·have z:=u.free b o e n hx
  refine M.non z fun hb=>?_
  rcases hn b hb with q | q
  ·exact absurd (Heap.lt_size e) (Nat.not_lt.mpr q)
  ·exact q z
 ·obtain⟨o1,e1⟩:=u.there b o e hx
  by_cases z:b=PT
  ·exact⟨_,z ▸ M.hT⟩
  ·exact⟨o1,M.k b o1 z e1⟩
 ·have:=u.mM b xs e;rw[z,M.hPT] at this;cases this
 ·have:=u.lK b o x e;rw[z,M.hPT] at this;cases this
 ·obtain⟨m1,e1⟩:=u.m8 b qs e
  by_cases z:b=PT
  ·subst z
   rw[M.hPT] at e1
   cases e1
   exact⟨m1++more,by rw[M.pt,Array.append_assoc]⟩
  ·exact⟨m1,M.off e1 z⟩
theorem MkS.ext (M:MkS P w S h1 h2 PT ps more H1):Ext K α H1 α (mkH S h2 PT (ps++more) H1):=
 ⟨⟨List.prefix_refl _,fun p xs e=>M.off e (fun z=>by rw[z,M.hPT] at e;cases e),fun p o x e=>M.off e (fun z=>by rw[z,M.hPT] at e;cases e),fun p qs e=>by
  by_cases z:p=PT
  ·subst z
   rw[M.hPT] at e;cases e
   exact⟨more,M.pt⟩
  ·exact⟨#[],by rw[M.off e z];simp⟩⟩,fun p o e _ t=>M.off e (fun z=>by rw[z,M.hPT] at e;cases e;exact t _ rfl),fun _ z n=>absurd z n⟩
theorem MkS.L4 (M:MkS P w S h1 h2 PT ps more H1) (r:aX K g α H1 h) {ns:Pos × Str} (uq:∀f q,l4 K f=some q->q.1=PT->q.2=ns) (t:wB (mkH S h2 PT (ps++more) H1) (PT,ns)):aX K g α (mkH S h2 PT (ps++more) H1) h:=by
 refine⟨r.len,r.inj,fun n p o a b=>(r.here n p o a b).ex0 M.ext.toEx0 fun x e=>M.off e fun z=>?_,fun f q e=>?_⟩
 ·obtain⟨u,e1,_,_,nt⟩:=r.mem (List.mem_of_getElem? a)
  rw[z,M.hPT] at e1;cases e1;exact nt _ rfl
 ·by_cases z:q.1=PT
  ·have:=uq f q e z
   obtain⟨a,b⟩:=q
   cases z;cases this
   exact t
  ·rcases r.tab f q e with x | ⟨c',oc,vc,tk,x,hc,hd⟩
   ·exact .inl (M.off x z)
   ·exact .inr ⟨c',oc,vc,tk,M.off x z,M.off hc (fun y=>by rw[y,M.hPT] at hc;cases hc),hd⟩
end
theorem Ar {h h':Heap} {mg:Str->Option Value} {PT:Addr} (k:∀b o,h.get? b=some o->h'.get? b=some o) (x:h.BuiltinsAt mg PT):h'.BuiltinsAt mg PT:=
 let ⟨bm,o,a,b,c,d,e,r⟩:=x;⟨bm,o,a,b,c,d,k _ _ e,r⟩
noncomputable def Made (X:Cx) (g:GG) (α:List Addr) (h:Hh) (H1:Hp) (s1:Shared) (d:D) (u:Value) (s2:Shared):Prop:=∃p H2,u=.ref p/\s2.os=s1.os/\s2.gens=s1.gens/\HOk X.prog X.w H2 s2.heap/\Un X.fs [] X.aL H2 X.aF.heap s2.heap/\Ext X.K α H1 α H2/\aX X.K g α H2 h/\aO X.K g α H2 d (.ref p) ∧
 (∀b o,H1 b=none->s1.heap.get? b=some o->s2.heap.get? b=some o)/\(∀b o,s1.heap.get? b=some o->H1 b=none->(∀x c,X.env.cells.lookup x=some c->c≠b)->H2 b=none)
theorem Bj {X:Cx} {g:GG} {pins:List (Addr × Obj)} {σ:St} {H1:Hp} {s1:Shared} {α:List Addr} {h:Hh} {params:Arguments} {body:Expr} {scope:Scope} {pos:Pos} {clos:List (Str × Addr)} {c PT f:Addr} {lf x ql:Str} {ys:List Str} {vs:List V} {ds:List D} {E:Value->Shared->Prop}
  (J:Inv X pins σ H1 s1) (hex:X.ex=[]) (hdef:defaultsOf params X.env=([],[])) (hq:X.env.qual++"<lambda>" = ql) (hcode:X.env.code=.ref c) (C:PySem.W.codeHdIn X.K c PT=true) (hB:X.base.BuiltinsAt X.mg PT) (hgP:mainGlobals≠PT)
  (hmk:l4 X.K f=some (PT,pos,ql)) (uq:∀f q,l4 X.K f=some q->q.1=PT->q.2=(pos,ql)) (hcl:closureFor scope X.env=pure clos) (hcs:∀y c,clos.lookup y=some c->X.env.cells.lookup y=some c) (hfn:∀y,X.fn y=true)
  (T:vp lf x ql ys params body scope) (hr:aX X.K g α H1 h) (hvs:Paired (fun y v=>(∃c,clos.lookup y=some c)/\X.env.kindOf y=some .cell/\∃i:Nat,X.N[i]?=some y/\σ[i]?=some (some v)) ys vs) (rds:ax X.K g α H1 ds vs) :
  wpAny (model X.prog X.w) X.A (eval (.Lambda params body scope pos) X.env) (Made X g α h H1 s1 (.clo lf ds)) E s1:=by
 subst hq
 refine PySem.W.kla_eval hdef ?_
 have Ch:PySem.W.CodeHd s1.heap c PT:=PySem.W.codeHd_of_K J.kIn C
 have hg:s1.heap.Ns mainGlobals X.mg:=J.mod.glob.keeps J.bk
 have hb:=Ar J.bk hB
 obtain⟨m,hns,hloc⟩:=J.loc
 have fin:∀(h':Heap) (tk:Tok) (c':Addr) (ctv:Value) (oc:Obj) (vc:Array Value) (t:Tok) (ps more:Array Value),H1 PT=some (.tbl ps)->(∀b o,b≠PT->s1.heap.get? b=some o->h'.get? b=some o)->s1.heap.objs.size<=h'.objs.size->h'.get? PT=some (PySem.W.tabObj (ps++more)) →
   ps++more = #[rawInt pos.line,rawInt pos.col,.ref c']->h'.get? c'=some oc->oc.data=.fields vc->vc[1]?=some (.str (X.env.qual++"<lambda>") t)->c'≠PT->((H1 c'=none/\s1.heap.objs.size<=c')\/H1 c'=some (AtO c' oc)) →
   Made X g α h H1 s1 (.clo lf ds) (.ref h'.objs.size) { s1 with heap:=h'.push (PySem.W.kla_obj "<lambda>" (X.env.qual++"<lambda>") params body scope clos ((X.mg "__name__").getD .none) c' ctv),toks:=tk }:=by
  intro h' tk c' ctv oc vc t ps more hPT hk hsz hT hT2 hc hd hv hcP hc1
  have kp:∀b o,h'.get? b=some o->(h'.push (PySem.W.kla_obj "<lambda>" (X.env.qual++"<lambda>") params body scope clos ((X.mg "__name__").getD .none) c' ctv)).get? b=some o:=fun b o e=>Heap.get?_push_of_some _ e
  have pp:(h'.push (PySem.W.kla_obj "<lambda>" (X.env.qual++"<lambda>") params body scope clos ((X.mg "__name__").getD .none) c' ctv)).get? h'.objs.size=some (PySem.W.kla_obj "<lambda>" (X.env.qual++"<lambda>") params body scope clos ((X.mg "__name__").getD .none) c' ctv):=Heap.get?_push_size _ rfl
  have M:MkS X.prog X.w (fun b=>b=h'.objs.size\/b=c'\/∃y,clos.lookup y=some b) s1.heap (h'.push (PySem.W.kla_obj "<lambda>" (X.env.qual++"<lambda>") params body scope clos ((X.mg "__name__").getD .none) c' ctv)) PT ps more H1:=by
   refine⟨J.hok,hPT,fun b o n e=>kp b o (hk b o n e),kp _ _ hT,fun b hb=>?_⟩
   rcases hb with rfl | rfl | ⟨y,hy⟩
   ·exact⟨fun z=>absurd (Heap.lt_size hT) (by rw[<- z];exact Nat.lt_irrefl _),⟨_,pp⟩,.inl (J.hok.fresh hsz)⟩
   ·refine⟨hcP,⟨_,kp _ _ hc⟩,?_⟩
    rcases hc1 with⟨z,_⟩ | z
    ·exact .inl z
    ·exact .inr ⟨_,z⟩
   ·have z:=J.dR y b (hcs y b hy)
    obtain⟨v,o,e,_⟩:=J.cell y b (hcs y b hy)
    have n:=(aP hPT z).symm
    exact⟨n,⟨o,kp _ _ (hk b o n e)⟩,.inl z⟩
  have atp:=M.at_ (.inl rfl) pp
  have atc:=M.at_ (.inr (.inl rfl)) (kp _ _ hc)
  refine⟨h'.objs.size,_,rfl,rfl,rfl,M.Lx,M.un (hex ▸ J.base) fun b hb=>?_,M.ext,M.L4 hr uq (.inr ⟨c',oc,vc,t,?_,atc,hd,hv⟩),?_,fun b o n e=>kp b o (hk b o (aP hPT n).symm e),fun b o e n hcc=>M.non n fun hb=>?_⟩
  ·rcases hb with rfl | rfl | ⟨y,hy⟩
   ·exact .inl (Nat.le_trans J.sz hsz)
   ·rcases hc1 with⟨_,z⟩ | z
    ·exact .inl (Nat.le_trans J.sz z)
    ·exact .inr (by rw[z];exact fun q=>nomatch q)
   ·exact .inl (J.ok.cab y b (hfn y) (hcs y b hy))
  ·rw[M.pt,hT2]
  ·refine .clo atp ⟨params,body,scope,_,ctv,x,rfl,T⟩ atc hd hv (L2.Paired.sH hvs fun y v ⟨⟨cc,hcc⟩,kd,i,hN,hσ⟩=>?_) (rds.ext M.ext)
   obtain⟨u,ru,lk⟩:=hloc i y v hN hσ (.inr (.inl kd))
   rcases lk with⟨z,_⟩ | ⟨_,c2,hc2,o,e,hdo⟩
   ·rw[kd] at z;cases z
   ·rw[hcs y cc hcc] at hc2
    cases hc2
    have z:=J.dR y cc (hcs y cc hcc)
    exact⟨cc,o,u,hcc,M.at_ (.inr (.inr ⟨y,hcc⟩)) (kp _ _ (hk cc o (aP hPT z).symm e)),hdo,ru⟩
  ·rcases hb with rfl | rfl | ⟨y,hy⟩
   ·exact absurd (Heap.lt_size e) (Nat.not_lt.mpr hsz)
   ·rcases hc1 with⟨_,z⟩ | z
    ·exact absurd (Heap.lt_size e) (Nat.not_lt.mpr z)
    ·rw[n] at z;cases z
   ·exact hcc y b (hcs y b hy) rfl
 rcases hr.tab f _ hmk with hPT | ⟨c',oc,vc,t,hPT,hc,hd,hv⟩
 ·have hP:s1.heap.get? PT=some (PySem.W.tabObj #[]):=J.hok PT _ hPT
  refine PySem.W.kla_makeFunction hcl J.ok.glob hg hcode Ch hP trivial rfl hgP hb fun c' ctv h' tk hx hge hlt hrec htb=>?_
  obtain⟨c2,oc,vc,t,z,hc,hd,hv⟩:=hrec
  cases z
  refine fin h' tk c' ctv oc vc t _ _ hPT (fun b o n e=>hx b o n e) (by omega) htb (by simp) hc hd hv (fun z=>?_) (.inl ⟨J.hok.fresh hge,hge⟩)
  exact absurd (Heap.lt_size hP) (by rw[<- z];exact Nat.not_lt.mpr hge)
 ·have hP:s1.heap.get? PT=some (PySem.W.tabObj #[rawInt pos.line,rawInt pos.col,.ref c']):=J.hok PT _ hPT
  refine PySem.W.kla_makeFunctionHit (cv:=.ref c') hcl J.ok.glob hg hcode Ch hP trivial (by simp[codeAmong,rawInt]) hb fun ctv h' tk hk hsz=>?_
  refine fin h' tk c' ctv oc vc t _ #[] hPT (fun b o n e=>hk b o e) hsz (by rw[Array.append_empty];exact hk _ _ hP) (by simp) (hk _ _ (kQ J.hok hc)) hd hv (fun z=>?_) (.inr hc)
  rw[z,hPT] at hc;cases hc
theorem vx {last:Stmt} {env:Env}:∀rows:List Stmt,execs (rows++[last]) env=(execs rows env >>= fun f=>match f with
  | .next=>exec last env
  | f=>pure f)
 | []=>by
  show(exec last env >>= fun f=>match f with | .next=>pure .next | f=>pure f)=_
  rw[show(execs [] env:Sem Flow)=pure .next from rfl,pure_bind]
  refine Eq.trans ?_ (bind_pure _)
  congr 1
  funext f
  cases f<;>rfl
 | r::rows=>by
  show(exec r env >>= fun f=>match f with | .next=>execs (rows++[last]) env | f=>pure f)=((exec r env >>= fun f=>match f with | .next=>execs rows env | f=>pure f) >>= _)
  rw[bind_assoc]
  congr 1
  funext f
  cases f with
  | next=>exact vx rows
  | ret v=>exact(pure_bind _ _).symm
  | brk=>exact(pure_bind _ _).symm
  | cont=>exact(pure_bind _ _).symm
theorem FZ {CX:CXT} {P:Program} {w:World} {K:PySem.W.Frag} {mg:Str->Option Value} {base:Heap} {k:Nat} {f:Addr} {name qual:Str} {params:Arguments} {body rows:List Stmt} {last:Stmt} {scope:Scope} {dV kV doc pm cdv ct oc:Value} {an od:Option Addr}
  {osl:Array (Option Value)} {N ps:List Str} {sp:Sp} (lk:K.lookup f=some ⟨oc,od,.func (PySem.W.fnOf name qual params body scope dV kV doc pm an cdv ct),osl⟩) (hcd:PySem.W.codeIn K cdv qual=true) (S:aC N ps scope)
  (len:∀vs H Q E,sp vs H Q E->vs.length=ps.length) (hbd:body=rows++[last])
  (hbody:∀(A:Around) (outer:List Env) (s:Shared) (H:Hp) (vs:List V) (Q:VK) (E:XK),dw k (A.deeper (envOfC qual scope s.heap.objs.size f cdv))->sp vs H Q E →
   ∃t R,PSs (gC CX P w K mg base N qual scope f cdv A outer s H E) rows t/\t { nx:=R,rt:=fun _ _=>False } (start N vs) H/\∀σ H1 s1,Inv (gC CX P w K mg base N qual scope f cdv A outer s H E) [] σ H1 s1->R σ H1 →
    wpAny (model P w) (gC CX P w K mg base N qual scope f cdv A outer s H E).A (exec last (envOfC qual scope s.heap.objs.size f cdv)) (fun fl s2=>∃u,fl=.ret u/\CE outer P w H s Q u s2) (gC CX P w K mg base N qual scope f cdv A outer s H E).xe s1) :
  dA P w K mg base CX (k+1) f (PySem.W.fnOf name qual params body scope dV kV doc pm an cdv ct) ps sp:=by
 subst hbd
 refine⟨len,fun A outer s H args us vs Q E hr e0 hb r hsp=>?_⟩
 have hl:=len _ _ _ _ hsp
 have KX:K.In s.heap:=e0.mod.kin.keeps fun b o e=>(e0.bs b o e).1
 have lim:s.heap.NoLimit:=e0.mod.nolimit.keeps fun b o e=>(e0.bs b o e).1
 have hkind:∀y∈ps.zip us,scope.names.lookup y.1=some .local\/(scope.names.lookup y.1=some .cell/\((cellsFrom (s.heap.objs.size+1) scope.names []).lookup y.1).isSome=true):=fun⟨n,v⟩ hy=>by
  rcases S.par n (List.of_mem_zip hy).1 with q | q
  ·exact .inl q
  ·exact .inr ⟨q,PySem.W.cellsFrom_some _ _ _ (.inl q)⟩
 refine codeAny_call_function hr.depth (KX _ _ lk) rfl S.co S.gen rfl (PySem.W.codeRec_of KX hcd) (hb _ _ _ _ ?_)
 refine wpAny_newFunctionEnv_cells S.kind hkind fun env he s1 x=>?_
 subst he
 refine⟨lim.keeps x.toInCall.keep,codeAny_func ?_⟩
 obtain⟨t,R,ht,hq,hlast⟩:=hbody A outer s H vs Q E (hr.deeper _) hsp
 have I:Inv (gC CX P w K mg base N qual scope f cdv A outer s H E) [] (start N vs) H s1:=l_ S hr.hd e0 hl r x
 rw[vx]
 refine wpAny_mono (wpAny_bind (thn (ht [] s1 (start N vs) H _ I hq) fun fl s' hs=>?_)) (Q:=fun fl s2=>∃u,fl=Flow.ret u/\CE outer P w H s Q u s2) (fun fl s' hs=>?_) fun e s' hs=>hs
 ·cases fl with
  | next=>
   obtain⟨σ',H',J,q⟩:=hs
   exact hlast σ' H' s' J q
  | ret u=>obtain⟨_,_,_,_,_,q⟩:=hs;exact False.elim q
  | brk=>obtain⟨_,_,_,q⟩:=hs;exact False.elim q
  | cont=>obtain⟨_,_,_,q⟩:=hs;exact False.elim q
 ·obtain⟨u,rfl,q⟩:=hs
  exact q
noncomputable def xy:List Nat->En->Option (List D)
 | [],_=>some []
 | i::r,e=>match (e[i]?:Option (Option D)),xy r e with
  | some (some d),some ds=>some (d::ds)
  | _,_=>none
noncomputable def FW (n:Nat) (m:MS) (lf:Str) (ix:List Nat):MF:=fun ds h=>(m (ds.map some++List.replicate (n - ds.length) none) h).bind fun fl h1=>match fl with
 | .nx e=>(match xy ix e with
  | some cs=>.ok (.clo lf cs) h1
  | none=>.bad)
 | _=>.bad
theorem vJ {K:PySem.W.Frag} {g:GG} {α:List Addr} {H:Hp} {N:List Str} {σ:St} {e:En} (v:kn K g α H e σ):∀{ix:List Nat} {ys:List Str} {cs:List D},ix.map (fun i=>N[i]?)=ys.map some->xy ix e=some cs →
  ∃vs,Paired (fun y v=>∃i:Nat,N[i]?=some y/\σ[i]?=some (some v)) ys vs/\ax K g α H cs vs
 | [],[],_,_,h=>by cases h;exact⟨[],.nil,.nil⟩
 | [],_::_,_,e,_=>by cases e
 | _::_,[],_,e,_=>by cases e
 | i::ix,y::ys,cs,hi,h=>by
  simp only[List.map_cons,List.cons.injEq] at hi
  unfold xy at h
  split at h
  ·rename_i d ds e1 e2
   cases h
   obtain⟨u,hu,ru⟩:=v.vars i d e1
   obtain⟨vs,p,r⟩:=vJ v hi.2 e2
   exact⟨u::vs,.cons ⟨i,hi.1,hu⟩ p,.cons ru r⟩
  ·cases h
noncomputable def mkU (K:PySem.W.Frag):Bool:=(K.filterMap fun p=>l4 K p.1).all fun a=>(K.filterMap fun p=>l4 K p.1).all fun b=>!(Nat.beq a.1 b.1) || decide (a.2=b.2)
theorem DJ {K:PySem.W.Frag} {f:Addr} {o:Obj} (h:K.lookup f=some o):∃p∈K,p.1=f:=by
 induction K with
 | nil=>cases h
 | cons q r ih=>
  rw[List.lookup_cons] at h
  split at h
  ·rename_i e;exact⟨q,List.mem_cons_self ..,(beq_iff_eq.mp e).symm⟩
  ·obtain⟨p,a,b⟩:=ih h;exact⟨p,List.mem_cons_of_mem _ a,b⟩
theorem t4 {K:PySem.W.Frag} {f:Addr} {q:Addr × Pos × Str} (h:l4 K f=some q):q∈K.filterMap fun p=>l4 K p.1:=by
 cases e:K.lookup f with
 | none=>unfold l4 at h;rw[e] at h;cases h
 | some o=>
  obtain⟨p,hp,e1⟩:=DJ e
  exact List.mem_filterMap.mpr ⟨p,hp,by rw[e1];exact h⟩
theorem Ih {K:PySem.W.Frag} (u:mkU K=true) {f f':Addr} {q q':Addr × Pos × Str} (h:l4 K f=some q) (h':l4 K f'=some q') (e:q'.1=q.1):q'.2=q.2:=by
 have:=List.all_eq_true.mp (List.all_eq_true.mp u q' (t4 h')) q (t4 h)
 rw[e,show Nat.beq q.1 q.1=true from Nat.beq_refl _] at this
 simpa using this
structure Mkr (K:PySem.W.Frag) (mg:Str->Option Value) (base:Heap) (fd:FuncData) (c PT:Addr):Prop where
 code:fd.code=.ref c
 hd:PySem.W.codeHdIn K c PT=true
 bat:base.BuiltinsAt mg PT
 ne:mainGlobals≠PT
 uq:mkU K=true
theorem FK {K:PySem.W.Frag} {c PT:Addr} (e:PySem.W.codeHdIn K c PT=true):∃k d vs s,K.lookup c=some ⟨k,d,.fields vs,s⟩/\vs[11]?=some (.ref PT):=by
 unfold PySem.W.codeHdIn at e
 split at e
 ·rename_i vs _ hk
  simp only[Bool.and_eq_true] at e
  obtain⟨⟨⟨⟨⟨e1,_⟩,_⟩,_⟩,_⟩,_⟩:=e
  split at e1
  ·rename_i P' h11
   have hP:P'=PT:=beq_iff_eq.mp e1
   subst hP
   exact⟨_,_,vs,_,hk,h11⟩
  ·cases e1
 ·cases e
theorem FQ {K:PySem.W.Frag} {f c PT:Addr} {fd:FuncData} {pos:Pos} {oc:Value} {od:Option Addr} {osl:Array (Option Value)} (lk:K.lookup f=some ⟨oc,od,.func fd,osl⟩) (hc:fd.code=.ref c) (C:PySem.W.codeHdIn K c PT=true) (hm:FN fd=some pos) :
  l4 K f=some (PT,pos,fd.qualname++".<locals>." ++ "<lambda>"):=by
 obtain⟨k,d,vs,s,e,e11⟩:=FK C
 unfold l4
 rw[lk]
 simp only[hm,hc,e,e11]
section
variable {P:Program} {w:World} {K:PySem.W.Frag} {mg:Str->Option Value} {base:Heap} {g:GG}
theorem Jx {x:Str} {st:Stmt} {f:Addr} {fd:FuncData} {N ps:List Str} {k:Nat} {mb:MS} {rows:List Stmt} {params:Arguments} {body:Expr} {scope:Scope} {pos rpos:Pos} {lf y:Str} {ys:List Str} {ix:List Nat} {c PT:Addr} (F:Fun K x x st f fd) (S:aC N ps (ai st)) (M:Mkr K mg base fd c PT)
  (hbd:bK st=rows++[.Return (some (.Lambda params body scope pos)) rpos]) (hdef:∀env,defaultsOf params env=([],[]))
  (hcl:∀(L:Addr) (cdv:Value),∃clos,closureFor scope (envOfC x (ai st) L f cdv)=pure clos/\(∀z c,clos.lookup z=some c->(envOfC x (ai st) L f cdv).cells.lookup z=some c)/\∀z∈ys,∃c,clos.lookup z=some c)
  (hys:∀z∈ys,(ai st).names.lookup z=some .cell) (hix:ix.map (fun i=>N[i]?)=ys.map some) (T:vp lf y (x++".<locals>." ++ "<lambda>") ys params body scope)
  (hb:∀(cdv:Value) (A:Around) (outer:List Env) (s:Shared) (H:Hp) (E:XK),dw k (A.deeper (envOfC x (ai st) s.heap.objs.size f cdv)) →
   PSs (gC CX0 P w K mg base N x (ai st) f cdv A outer s H E).nox rows (tMS K g E00 mb)):dA P w K mg base CX0 (k+1) f fd ps (spM K g ps.length (FW N.length mb lf ix)):=by
 obtain⟨oc,od,kV,doc,pm,an,cdv,ct,osl,rfl,lk,hcd⟩:=F.ex
 have hmk:FN (PySem.W.fnOf x x (eJ st) (bK st) (ai st) .none kV doc pm an cdv ct)=some pos:=by
  unfold FN PySem.W.fnOf
  dsimp only
  rw[hbd,List.getLast?_concat]
 have hT:=FQ lk M.code M.hd hmk
 obtain rfl:cdv=.ref c:=M.code
 refine FZ lk hcd S (fun vs H Q E h=>h.1) hbd fun A outer s H vs Q E hr hsp=>?_
 obtain⟨hl,α,ds,h,rs,hh,w1⟩:=hsp
 refine⟨_,fun σ H1=>∃α1 e h1 cs,Ext K α H α1 H1/\dW K g α1 H1 e σ h1/\xy ix e=some cs/\aM K g α H Q (.clo lf cs) h1,(hb (.ref c) A outer s H E hr).nox,?_,fun σ H1 s1 J hR=>?_⟩
 ·refine tMS.use ⟨hh,kg rs⟩ w1.bind fun fl h' H' α' e r kk=>?_
  cases fl with
  | nx e'=>
   intro σ' s'
   dsimp only at kk
   cases ec:xy ix e' with
   | none=>rw[ec] at kk;exact kk.elim
   | some cs=>rw[ec] at kk;exact⟨α',e',h',cs,e,s',ec,kk⟩
  | bk e'=>exact kk.elim
  | ct e'=>exact kk.elim
  | rt d=>exact kk.elim
 ·obtain⟨α1,e,h1,cs,ex,sr,ec,po⟩:=hR
  obtain⟨clos,hc1,hc2,hc3⟩:=hcl s.heap.objs.size (.ref c)
  obtain⟨vs',pv,rds⟩:=vJ sr.vs hix ec
  have pv2:Paired (fun z v=>(∃c,clos.lookup z=some c)/\(ai st).names.lookup z=some .cell/\∃i:Nat,N[i]?=some z/\σ[i]?=some (some v)) ys vs':=by
   clear ec rds hix T hcl
   induction pv with
   | nil=>exact .nil
   | cons q t ih=>exact .cons ⟨hc3 _ (List.mem_cons_self ..),hys _ (List.mem_cons_self ..),q⟩ (ih (fun z hz=>hys z (List.mem_cons_of_mem _ hz)) (fun z hz=>hc3 z (List.mem_cons_of_mem _ hz)))
  refine wpAny_Return_some (thn (Bj (X:=gC CX0 P w K mg base N x (ai st) f (.ref c) A outer s H E) (g:=g) (α:=α1) (h:=h1) J rfl (hdef _) rfl rfl M.hd M.bat M.ne hT (fun f' q e1 e2=>Ih M.uq hT e1 e2) hc1 hc2 (fun _=>rfl) T sr.heap pv2 rds) fun u s2 md=>?_)
  obtain⟨p,H2,rfl,os,gn,hok,un,ex2,hr2,rd,_,_⟩:=md
  exact⟨_,rfl,.ref p,H2,os.trans J.os,by rw[gn];exact J.bare,un,hok,rfl,po _ H2 α1 (ex.trans ex2) hr2 rd⟩
end
noncomputable def jA (ts:List Addr) (Hs:Hp):Hp:=fun b=>if b∈ts then some (.tbl #[]) else Hs b
theorem zA {P:Program} {w:World} {K:PySem.W.Frag} {mg mb:Str->Option Value} {k:Nat} {fa a:Addr} {fd:FuncData} {x:Str} {sp:Sp} {s₁:Shared} {vs:List Value} {ns:List Int} {ts:List Addr}
  (KX:K.In s₁.heap) (hns:s₁.heap.Ns mainGlobals mg) (hb:s₁.heap.Ns builtinsNs mb) (hbb:∀x:Str,x≠"__name__" -> mb x=bootBuiltins x) (hlim:s₁.heap.NoLimit) (hg:s₁.gens = #[])
  (hbm:∃bm ob,mg "__builtins__" = some (.ref bm)/\bm≠builtinsNs/\s₁.heap.get? bm=some ob/\ob.cls=.type "module" /\ ob.dict=some builtinsNs/\ob.data=.plain)
  (hts:∀P∈ts,s₁.heap.get? P=some (PySem.W.tabObj #[])) (hct:∀P∈ts,∃c,PySem.W.CodeHd s₁.heap c P) (hKt:∀P∈ts,K.lookup P=none)
  (ha:s₁.heap.get? a=some { cls:=.type "list", data:=.seq vs.toArray }) (hi:IntsAre vs ns) (hl:ns.length<=sizeLine) (hr:dw k callerA)
  (F:∀base:Heap,K.In base->base.Ns mainGlobals mg->(∀P∈ts,base.BuiltinsAt mg P)->dA P w K mg base CX0 k fa fd [x] sp) (hbind:∀(s:Shared) (u:Value),BindsTo s fd ⟨[u],[]⟩ [(x,u)])
  (hsp:∀H:Hp,(∀P∈ts,H P=some (.tbl #[]))->Fro K H a (ns.map V.int)->sp [.ref a] H (fun v _=>v=.bl true) fun _ _ _=>False) :
  codeAny (model P w) callerA (.call (.ref fa) ⟨[.ref a],[]⟩) (fun r s'=>r=.ok (.ret (.bool true))/\OldK s₁.heap s'.heap/\s'.os=s₁.os/\AllBare s'.gens) s₁:=by
 have rv:=rM hi
 have lenV:=hi.length
 have aT:a∉ts:=fun z=>by rw[hts a z] at ha;cases ha
 have core:∀Hs:Hp,KS Hs->Fro K (jA ts Hs) a (ns.map V.int)->HOk P w Hs s₁.heap->(∀b,Hs b≠none->b=a)->(Hs a≠none->K.lookup a=none) →
   codeAny (model P w) callerA (.call (.ref fa) ⟨[.ref a],[]⟩) (fun r s'=>r=.ok (.ret (.bool true))/\OldK s₁.heap s'.heap/\s'.os=s₁.os/\AllBare s'.gens) s₁:=by
  intro Hs hO hS hok0 hA hK
  have inT:∀{b:Addr},b∈ts->jA ts Hs b=some (.tbl #[]):=fun h=>by unfold jA;rw[if_pos h]
  have offT:∀{b:Addr},b∉ts->jA ts Hs b=Hs b:=fun h=>by unfold jA;rw[if_neg h]
  have hok:HOk P w (jA ts Hs) s₁.heap:=fun b u e=>by
   by_cases hb:b∈ts
   ·rw[inT hb] at e;cases e;exact hts b hb
   ·rw[offT hb] at e
    refine(hok0 b u e).kr (fun _ _ _ z=>z) (fun c z=>?_) fun c xs z=>?_
    ·rcases hO c with q | ⟨_,_,q⟩
     ·rw[z] at q;cases q
     ·rw[z] at q;cases q
    ·rcases hO c with q | ⟨_,_,q⟩
     ·rw[z] at q;cases q
     ·rw[z] at q;cases q
  have non:∀{b:Addr} {o:Obj},s₁.heap.get? b=some o->(∀a n,o.data≠.seq a n)->(∀a,o.data≠.fields a)->jA ts Hs b=none:=fun{b o} e d1 d2=>by
   by_cases hb:b∈ts
   ·rw[hts b hb] at e;cases e;exact absurd rfl (d2 _)
   ·rw[offT hb]
    cases q:Hs b with
    | none=>rfl
    | some u=>
     have e':b=a:=hA b (by rw[q];simp)
     subst e'
     rw[ha] at e;cases e;exact absurd rfl (d1 _ _)
  have base_of:∀{b:Addr} {o:Obj},s₁.heap.get? b=some o->jA ts Hs b=none->(qr s₁.heap (jA ts Hs)).get? b=some o:=fun e n=>C5 e n
  have nsK:∀{b:Addr} {m:Str->Option Value},s₁.heap.Ns b m->(qr s₁.heap (jA ts Hs)).Ns b m:=fun{b m} ⟨o,es,ep,e,d,r⟩=>⟨o,es,ep,base_of e (non e (fun _ _ z=>by rw[d] at z;cases z) fun _ z=>by rw[d] at z;cases z),d,r⟩
  have hKb:K.In (qr s₁.heap (jA ts Hs)):=fun b o e=>base_of (KX b o e) (by
   have hb:b∉ts:=fun z=>by rw[hKt b z] at e;cases e
   rw[offT hb]
   cases q:Hs b with
   | none=>rfl
   | some u=>
    have e':b=a:=hA b (by rw[q];simp)
    subst e'
    rw[hK (by rw[q];simp)] at e;cases e)
  have hM:Mod K mg (qr s₁.heap (jA ts Hs)):=⟨hKb,nsK hns,⟨mb,nsK hb,hbb⟩,let ⟨mc,h1,h2⟩:=hlim;⟨mc,nsK h1,h2⟩⟩
  have hBA:∀P∈ts,(qr s₁.heap (jA ts Hs)).BuiltinsAt mg P:=fun PT hP=>by
   obtain⟨bm,ob,b1,b2,b3,b4,b5,b6⟩:=hbm
   refine⟨bm,ob,b1,b2,fun z=>?_,fun z=>?_,base_of b3 (non b3 (fun _ _ z=>by rw[b6] at z;cases z) fun _ z=>by rw[b6] at z;cases z),b4,b5,b6⟩
   ·obtain⟨o,es,ep,e,d,_⟩:=hns
    rw[<- z,b3] at e;cases e;rw[b6] at d;cases d
   ·rw[z,hts PT hP] at b3;cases b3;cases b6
  have e0:xP P w K mg (qr s₁.heap (jA ts Hs)) callerA [] s₁ (jA ts Hs):=⟨rfl,hM,fun b o e=>Ec e,Nat.le_of_eq (Ac _ _),trivial,fun b hb=>absurd (show b∈([]:List Addr) from hb) (by simp),hok,.of_eq hg⟩
  refine codeAny_mono ((F _ hKb (nsK hns) hBA).run callerA [] s₁ (jA ts Hs) ⟨[.ref a],[]⟩ [.ref a] [.ref a] _ _ hr e0 (hbind s₁ (.ref a)) (.cons rfl .nil) (hsp _ (fun P hP=>inT hP) hS)) fun r s' h=>?_
  cases r with
  | error e=>exact h.elim
  | ok fl=>
   cases fl with
   | next=>exact False.elim h
   | brk=>exact False.elim h
   | cont=>exact False.elim h
   | ret u=>
    obtain⟨v,H',os,bare,un,hok',r',q⟩:=h
    have q':v=.bl true:=q
    subst q'
    obtain rfl:u=Value.bool true:=r'
    have old:∀b o,s₁.heap.get? b=some o->b∉ts->s'.heap.get? b=some o:=fun b o e hb=>by
     cases q:jA ts Hs b with
     | none=>exact un.keep b o e q (by intro z;exact absurd (show b∈([]:List Addr) from z) (by simp)) (by simp)
     | some u=>
      rw[offT hb] at q
      rcases hO b with z | ⟨ob,xs,z⟩
      ·rw[q] at z;cases z
      ·have z2:=un.lK b ob _ ((offT hb).trans z)
       obtain⟨e1,_⟩:=hok0 b _ z
       obtain⟨e2,_⟩:=hok' b _ z2
       rw[e] at e1;cases e1
       exact e2
    have grown:∀b∈ts,∃ps,s'.heap.get? b=some (PySem.W.tabObj ps):=fun b hb=>by
     obtain⟨more,e1⟩:=un.m8 b _ (inT hb)
     exact⟨_,hok' b _ e1⟩
    refine⟨rfl,⟨fun b o e=>?_,fun b o e=>?_⟩,os,bare⟩
    ·by_cases hb:b∈ts
     ·obtain⟨ps,e1⟩:=grown b hb
      obtain⟨c,C⟩:=hct b hb
      have e2:=hts b hb
      rw[e] at e2;cases e2
      exact .inr (.inl ⟨(C.tab (hts b hb)).isCodeTable,rfl,#[],ps,rfl,by rw[e1];simp⟩)
     ·exact .inl (old b o e hb)
    ·by_cases hb:b∈ts
     ·obtain⟨ps,e1⟩:=grown b hb;exact⟨_,e1⟩
     ·exact⟨o,old b o e hb⟩
 cases hk:K.lookup a with
 | some o=>
  have e:=KX a o hk
  rw[ha] at e
  cases e
  refine core (fun _=>none) (fun _=>.inl rfl) (.inr ⟨_,vs.toArray,_,hk,rfl,rfl,rfl,by rw[List.size_toArray,lenV];exact hl,by simpa using rv⟩) (fun b u z=>by have z':(none:Option HO)=some u:=z;cases z') (fun b z=>absurd rfl z) fun z=>absurd rfl z
 | none=>
  refine core (fun b=>if b=a then some (.frz { cls:=.type "list", data:=.seq vs.toArray } (.lst (ns.map V.int))) else none) (fun b=>?_) (.inl ⟨{ cls:=.type "list", data:=.seq vs.toArray },?_⟩) (fun b u z=>?_) (fun b z=>?_) fun _=>hk
  ·by_cases hb:b=a
   ·exact .inr ⟨_,_,if_pos hb⟩
   ·exact .inl (if_neg hb)
  ·unfold jA;rw[if_neg aT];exact if_pos rfl
  ·by_cases hb:b=a
   ·have z':=(if_pos hb).symm.trans z
    cases z'
    subst hb
    exact⟨ha,by rw[List.length_map];exact hl,vs,_,rv,ha⟩
   ·have z':=(if_neg hb).symm.trans z
    cases z'
  ·by_cases hb:b=a
   ·exact hb
   ·exact absurd (if_neg hb) z
noncomputable def tabOf (K:PySem.W.Frag) (c:Addr):Addr:=match K.lookup c with
 | some ⟨_,_,.fields vs,_⟩=>(match (vs[11]?:Option Value) with | some (.ref P)=>P | _=>0)
 | _=>0
noncomputable def IA (K:PySem.W.Frag) (ts:List Addr):Bool:=(K.filterMap fun p=>l4 K p.1).all (fun q=>ts.any (Nat.beq q.1))&&ts.all fun P=>(K.lookup P).isNone&&K.any fun p=>match p.2.data with
 | .func fd=>(match fd.code with
  | .ref c=>PySem.W.codeHdIn K c P
  | _=>false)
 | _=>false
noncomputable def HB (K:PySem.W.Frag) (ts:List Addr) (x:Str) (st:Stmt):Prop:=∃f fd c,PySem.W.nsIn K mainGlobals x=some (some (.ref f))/\Fun K x x st f fd/\fd.code=.ref c/\PySem.W.codeHdIn K c (tabOf K c)=true/\ts.any (Nat.beq (tabOf K c))=true/\Nat.beq mainGlobals (tabOf K c)=false
noncomputable def ER (K:PySem.W.Frag) (mg:Str->Option Value) (base:Heap) (x:Str) (st:Stmt):Prop:=∀f fd,mg x=some (.ref f)->Fun K x x st f fd->∃c PT,Mkr K mg base fd c PT
theorem JP {K:PySem.W.Frag} {ts:List Addr} {x:Str} {st:Stmt} {f c:Addr} {oc:Value} {od an:Option Addr} {osl:Array (Option Value)} {kV doc pm ct:Value} (a:PySem.W.nsIn K mainGlobals x=some (some (.ref f)))
  (l:K.lookup f=some ⟨oc,od,.func (PySem.W.fnOf x x (eJ st) (bK st) (ai st) .none kV doc pm an (.ref c) ct),osl⟩) (cc:PySem.W.codeIn K (.ref c) x=true) (k:PySem.W.keepIn K (.ref f)=true)
  (h1:PySem.W.codeHdIn K c (tabOf K c)=true) (h2:ts.any (Nat.beq (tabOf K c))=true) (h3:Nat.beq mainGlobals (tabOf K c)=false):HB K ts x st:=⟨f,_,c,a,xq l cc k,rfl,h1,h2,h3⟩
theorem ER.of {K:PySem.W.Frag} {mg:Str->Option Value} {base h:Heap} {ts:List Addr} {x:Str} {st:Stmt} (X:K.In h) (G:h.Ns mainGlobals mg) (hB:∀P∈ts,base.BuiltinsAt mg P) (hU:mkU K=true) (m:HB K ts x st):ER K mg base x st:=by
 intro f fd hm F
 obtain⟨f2,fd2,c,a,F2,hc,h1,h2,h3⟩:=m
 have hm2:=PySem.W.mg_of X G a
 rw[hm] at hm2
 cases hm2
 obtain⟨oc,od,osl,l1⟩:=bA F
 obtain⟨oc',od',osl',l2⟩:=bA F2
 rw[l1] at l2
 cases l2
 obtain⟨P,hP,e⟩:=List.any_eq_true.mp h2
 have e:=Nat.eq_of_beq_eq_true e
 refine⟨c,tabOf K c,hc,h1,hB _ (by rw[e];exact hP),fun z=>?_,hU⟩
 rw[<- z,Nat.beq_refl] at h3;cases h3
theorem Ex {k:Nat} {m:MF} {l:PySem.W.OpenLaw} {q:Program} {loose:List Str} {XP:(Str->Option Value)->Heap->Prop} {YP:World->Heap->Prop} {d:DefRec} {K:Params->PySem.W.Frag} {ts:List Addr} (hn:l.most=some 63) (hdf:d.params.defaults=[]) (hr:dw k callerA)
  (hY:∀(w:World) (h:Heap),YP w h->(K w.params).In h) (hT:∀(w:World) (h:Heap),YP w h->∀P∈ts,h.get? P=some (PySem.W.tabObj #[])) (hI:∀P,IA (K P) ts=true)
  (ok:∀ns:List Int,ns.length<=63->∃h,m [.scr (ns.map D.int)] []=.ok (.bl true) h)
  (F:∀(w:World) (mg:Str->Option Value) (fa:Addr) (h:Heap),(K w.params).In h->h.Ns mainGlobals mg->mg d.name=some (.ref fa) →
   ∃fd:FuncData,(∀(s:Shared) (u:Value),BindsTo s fd ⟨[u],[]⟩ [("_law_script", u)])/\∀base:Heap,(K w.params).In base->base.Ns mainGlobals mg->(∀P∈ts,base.BuiltinsAt mg P)->dA l.prog w (K w.params) mg base CX0 k fa fd ["_law_script"] (spM (K w.params) (gOf mg) 1 m)) :
  PySem.W.WalkO q loose XP YP l.row.toRowW d [] (fun f vs=>PySem.call f vs):=by
 refine Att.vf hn hdf fun w aF s₁ mg mb fa o pm cd doc a vs ns G Y ho hd hcd hmg hobj hints hlen hg=>?_
 have KX:=hY w _ Y
 obtain⟨fd,hb,hF⟩:=F w mg fa _ KX G.T.g hmg
 have i:=hI w.params
 unfold IA at i
 obtain⟨i1,i2⟩:=Bool.and_eq_true_iff.mp i
 have tq:∀P∈ts,∃c,(K w.params).lookup P=none/\PySem.W.codeHdIn (K w.params) c P=true:=fun P hP=>by
  have z:=Bool.and_eq_true_iff.mp (List.all_eq_true.mp i2 P hP)
  obtain⟨p,_,y⟩:=List.any_eq_true.mp z.2
  split at y
  ·split at y
   ·rename_i c _;exact⟨c,by simpa using z.1,y⟩
   ·cases y
  ·cases y
 refine zA (sp:=fun vs H Q _=>∃a ns,vs=[V.ref a]/\ns.length<=63/\(∀P∈ts,H P=some (.tbl #[]))/\Fro (K w.params) H a (ns.map V.int)/\∀v H',v=V.bl true->Q v H') KX G.T.g G.T.b G.T.builtins G.T.nolimit hg G.T.bmain (hT w _ Y) (fun P hP=>let ⟨c,_,e⟩:=tq P hP;⟨c,PySem.W.codeHd_of_K KX e⟩) (fun P hP=>let ⟨_,e,_⟩:=tq P hP;e) hobj hints (Nat.le_trans hlen (by decide)) hr
  (fun base kb nb bb=>(hF base kb nb bb).imp fun vs H Q E z=>?_) hb (fun H h1 h2=>⟨a,ns,rfl,hlen,h1,h2,fun _ _ z=>z⟩)
 obtain⟨a,ns,rfl,hl,hO,hS,hQ⟩:=z
 obtain⟨hh,e⟩:=ok ns hl
 refine⟨rfl,[],[.scr (ns.map D.int)],[],.cons (.scr hS (ax.ints ns)) .nil,⟨rfl,fun n m p z=>by simp at z,fun n p o z=>by simp at z,fun f q e=>.inl (hO _ ?_)⟩,?_⟩
 ·obtain⟨p,hp,z⟩:=List.any_eq_true.mp (List.all_eq_true.mp i1 q (t4 e))
  rw[Nat.eq_of_beq_eq_true z]
  exact hp
 ·rw[e]
  intro v H' α' _ _ rd
  cases rd
  exact hQ _ _ rfl
noncomputable def jS (cells:List (Str × Addr)):List (Str × NameKind)->List (Str × Addr)->List (Str × Addr)
 | [],cs=>cs
 | (n,k)::r,cs=>jS cells r (if k == .free then (n,(cells.lookup n).getD 0)::cs else cs)
theorem yL {env:Env}:∀(ns:List (Str × NameKind)) (cs:List (Str × Addr)),(∀q∈ns,q.2=.free->(env.cells.lookup q.1).isSome=true) →
  (forIn ns cs fun(x:Str × NameKind) (r:List (Str × Addr))=>match x with
   | (name,kind)=>if (kind == .free)=true then do let c ← cellOf env name;pure (ForInStep.yield ((name,c)::r)) else pure (ForInStep.yield r):Sem (List (Str × Addr)))=pure (jS env.cells ns cs)
 | [],cs,_=>by rfl
 | (n,k)::r,cs,h=>by
  rw[List.forIn_cons]
  have ih:=fun cs=>yL (env:=env) r cs fun q hq=>h q (List.mem_cons_of_mem _ hq)
  by_cases hk:(k == .free)=true
  ·obtain⟨c,hc⟩:=Option.isSome_iff_exists.mp (h (n,k) (List.mem_cons_self ..) (beq_iff_eq.mp hk))
   have hc:env.cells.lookup n=some c:=hc
   simp only[hk,if_true,jS,hc,Option.getD_some,cellOf,pure_bind]
   exact ih _
  ·simp only[Bool.not_eq_true] at hk
   simp only[hk,Bool.false_eq_true,if_false,jS,pure_bind]
   exact ih _
theorem Ew {scope:Scope} {env:Env} (h:∀q∈scope.names,q.2=.free->(env.cells.lookup q.1).isSome=true):closureFor scope env=pure (jS env.cells scope.names []):=by
 exact(congrArg (fun m:Sem (List (Str × Addr))=>m >>= fun s=>pure s) (yL scope.names [] h)).trans (pure_bind _ _)
theorem vh {cells:List (Str × Addr)} {z:Str} {c:Addr}:∀(ns:List (Str × NameKind)) (cs:List (Str × Addr)),(∀q∈ns,q.2=.free->(cells.lookup q.1).isSome=true)->(∀z c,cs.lookup z=some c->cells.lookup z=some c)->(jS cells ns cs).lookup z=some c->cells.lookup z=some c
 | [],cs,_,h,e=>h z c e
 | (n,k)::r,cs,hf,h,e=>by
  refine vh r _ (fun q hq=>hf q (List.mem_cons_of_mem _ hq)) (fun z c=>?_) e
  split
  ·rename_i hk
   rw[List.lookup_cons]
   split
   ·rename_i hz
    intro q
    cases q
    obtain⟨c,hc⟩:=Option.isSome_iff_exists.mp (hf (n,k) (List.mem_cons_self ..) (beq_iff_eq.mp hk))
    rw[beq_iff_eq.mp hz,hc];rfl
   ·exact h z c
  ·exact h z c
theorem rQ {cells:List (Str × Addr)} {z:Str}:∀(ns:List (Str × NameKind)) (cs:List (Str × Addr)),(∃c,cs.lookup z=some c)->∃c,(jS cells ns cs).lookup z=some c
 | [],cs,h=>h
 | (n,k)::r,cs,h=>by
  refine rQ r _ ?_
  split
  ·rw[List.lookup_cons]
   split
   ·exact⟨_,rfl⟩
   ·exact h
  ·exact h
theorem wL {cells:List (Str × Addr)} {z:Str}:∀(ns:List (Str × NameKind)) (cs:List (Str × Addr)),(z,NameKind.free)∈ns->∃c,(jS cells ns cs).lookup z=some c
 | (n,k)::r,cs,h=>by
  rcases List.mem_cons.mp h with e | e
  ·cases e
   refine rQ r _ ?_
   rw[if_pos (by rfl),List.lookup_cons]
   simp
  ·exact wL r _ e
section
variable {P:Program} {w:World} {K:PySem.W.Frag} {mg:Str->Option Value} {base:Heap} {g:GG}
theorem GQ {x:Str} {st:Stmt} {f:Addr} {fd:FuncData} {N ps:List Str} {k:Nat} {mb:MS} (rows:List Stmt) {params:Arguments} {body:Expr} {scope:Scope} {pos rpos:Pos} (lf y:Str) (ys:List Str) (ix:List Nat) {c PT:Addr} (F:Fun K x x st f fd) (S:aC N ps (ai st)) (M:Mkr K mg base fd c PT)
  (hbd:bK st=rows++[.Return (some (.Lambda params body scope pos)) rpos]) (hdef:∀env,defaultsOf params env=([],[]))
  (hfr:∀q∈scope.names,q.2=.free->(ai st).names.lookup q.1=some .cell) (hyf:∀z∈ys,(z,NameKind.free)∈scope.names)
  (hix:ix.map (fun i=>N[i]?)=ys.map some) (T:vp lf y (x++".<locals>." ++ "<lambda>") ys params body scope)
  (hb:∀(cdv:Value) (A:Around) (outer:List Env) (s:Shared) (H:Hp) (E:XK),dw k (A.deeper (envOfC x (ai st) s.heap.objs.size f cdv)) →
   PSs (gC CX0 P w K mg base N x (ai st) f cdv A outer s H E).nox rows (tMS K g E00 mb)):dA P w K mg base CX0 (k+1) f fd ps (spM K g ps.length (FW N.length mb lf ix)):=by
 refine Jx (rows:=rows) (lf:=lf) (y:=y) (ys:=ys) (ix:=ix) F S M hbd hdef (fun L cdv=>?_) (fun z hz=>hfr (z,.free) (hyf z hz) rfl) hix T hb
 have hs:∀q∈scope.names,q.2=.free->((envOfC x (ai st) L f cdv).cells.lookup q.1).isSome=true:=fun q hq e=>PySem.W.cellsFrom_some _ _ _ (.inl (hfr q hq e))
 exact⟨_,Ew hs,fun z c e=>vh scope.names [] hs (fun _ _ z=>nomatch z) e,fun z hz=>wL scope.names [] (hyf z hz)⟩
end
end L2.FE
namespace L2.FE
open PySem
section
variable {β γ:Type} {h h1:Hh} {env:En}
@[simp] theorem bS {b:β} {f:β->Hh->R γ}:(R.ok b h).bind f=f b h:=Eq.trans rfl rfl
@[simp] theorem A3 {x:Xc} {f:β->Hh->R γ}:(R.err x h).bind f=.err x h:=Eq.trans rfl rfl
@[simp] theorem e_C {d:D}:cC d env h=.ok d h:=Eq.trans rfl rfl
@[simp] theorem KI {d:D} {r:En}:ag 0 (some d::r) h=.ok d h:=Eq.trans rfl rfl
@[simp] theorem Lb {i:Nat} {x:Option D} {r:En}:ag (i+1) (x::r) h=ag i r h:=Eq.trans rfl rfl
@[simp] theorem JM {f:D->D->Hh->R D} {a b:ME}:au f a b env h=(a env h).bind fun x h1=>(b env h1).bind fun y h2=>f x y h2:=Eq.trans rfl rfl
@[simp] theorem M6 {f:D->Hh->R D} {a:ME}:cUn f a env h=(a env h).bind fun x h1=>f x h1:=Eq.trans rfl rfl
@[simp] theorem MM:aq env h=.ok [] h:=Eq.trans rfl rfl
@[simp] theorem KN {a:ME} {r:MA}:ae a r env h=(a env h).bind fun x h1=>(r env h1).bind fun xs h2=>.ok (x::xs) h2:=Eq.trans rfl rfl
@[simp] theorem K2 {f:List D->Hh->R D} {a:MA}:aj f a env h=(a env h).bind f:=Eq.trans rfl rfl
@[simp] theorem KC {f:D->List D->Hh->R D} {o:ME} {a:MA}:j1 f o a env h=(o env h).bind fun x h1=>if isL x h1=true then (a env h1).bind fun xs h2=>f x xs h2 else .bad:=Eq.trans rfl rfl
@[simp] theorem Hm {f:D->Hh->R Bool} {a:ME}:aU f a env h=(a env h).bind f:=Eq.trans rfl rfl
@[simp] theorem Lg {a:MT}:lG a env h=(a env h).bind fun b h1=>.ok (!b) h1:=Eq.trans rfl rfl
@[simp] theorem KR {a b:MT}:Bz a b env h=(a env h).bind fun x h1=>if x=true then b env h1 else .ok false h1:=Eq.trans rfl rfl
@[simp] theorem Mi {a b:MT}:tu a b env h=(a env h).bind fun x h1=>if x=true then .ok true h1 else b env h1:=Eq.trans rfl rfl
@[simp] theorem MZ {c:MT} {a b:ME}:cIf c a b env h=(c env h).bind fun x h1=>if x=true then a env h1 else b env h1:=Eq.trans rfl rfl
@[simp] theorem MW {b:Bool}:asB (.bl b) h=.ok b h:=Eq.trans rfl rfl
@[simp] theorem LX {a b:ME}:yY a b env h=(a env h).bind fun x h1=>(asB x h1).bind fun k h2=>if k=true then b env h2 else .ok (.bl false) h2:=Eq.trans rfl rfl
@[simp] theorem LA {a:ME}:B4 a env h=(a env h).bind fun x h1=>(asB x h1).bind fun k h2=>.ok (.bl (!k)) h2:=Eq.trans rfl rfl
@[simp] theorem Ky {f f':D->D->Hh->R D} {a b c:ME}:uJ f f' a b c env h=(a env h).bind fun x h1=>(b env h1).bind fun y h2=>(f x y h2).bind fun z h3=>(asB z h3).bind fun k h4=>if k=true then (c env h4).bind fun w h5=>f' y w h5 else .ok (.bl false) h4:=Eq.trans rfl rfl
@[simp] theorem Jd:fE env h=.ok none h:=Eq.trans rfl rfl
noncomputable def Gb:D->Hh->R (Option Int):=fun d h1=>match d with
 | .int i=>.ok (some i) h1
 | _=>.bad
@[simp] theorem Ku {i:Int}:Gb (.int i) h=.ok (some i) h:=Eq.trans rfl rfl
@[simp] theorem K3 {a:ME}:gK a env h=(a env h).bind Gb:=Eq.trans rfl rfl
@[simp] theorem Ks {nl:NL} {a:ME} {l u:MO}:fV nl a l u env h=(a env h).bind fun x h1=>(l env h1).bind fun lo h2=>(u env h2).bind fun hi h3=>AN nl x lo hi h3:=Eq.trans rfl rfl
@[simp] theorem KP:cL env h=.ok (.nx env) h:=Eq.trans rfl rfl
@[simp] theorem Mb:FL env h=.ok (.bk env) h:=Eq.trans rfl rfl
noncomputable def E5 (b:MS):Fl->Hh->R Fl:=fun fl h1=>match fl with
 | .nx e=>b e h1
 | fl=>.ok fl h1
@[simp] theorem M0 {b:MS} {e:En}:E5 b (.nx e) h=b e h:=Eq.trans rfl rfl
@[simp] theorem MX {b:MS} {e:En}:E5 b (.bk e) h=.ok (.bk e) h:=Eq.trans rfl rfl
@[simp] theorem M5 {b:MS} {d:D}:E5 b (.rt d) h=.ok (.rt d) h:=Eq.trans rfl rfl
@[simp] theorem Mj {a b:MS}:aE a b env h=(a env h).bind (E5 b):=by
 unfold aE
 first | rfl | (congr 1;funext fl h1;cases fl<;>rfl)
@[simp] theorem LF {a:ME}:eB a env h=(a env h).bind fun _ h1=>.ok (.nx env) h1:=Eq.trans rfl rfl
@[simp] theorem ML {a:ME}:bD a env h=(a env h).bind fun d h1=>.ok (.rt d) h1:=Eq.trans rfl rfl
@[simp] theorem MC {c:MT} {a b:MS}:eL c a b env h=(c env h).bind fun x h1=>if x=true then a env h1 else b env h1:=Eq.trans rfl rfl
@[simp] theorem JT {i:Nat} {a:ME}:bC i a env h=(a env h).bind fun d h1=>.ok (.nx (env.set i (some d))) h1:=Eq.trans rfl rfl
noncomputable def JA (i j:Nat) (env:En):List D->Hh->R Fl:=fun ds h1=>match ds with
 | [x,y]=>.ok (.nx ((env.set i (some x)).set j (some y))) h1
 | _=>.bad
@[simp] theorem Ld {i j:Nat} {x y:D}:JA i j env [x,y] h=.ok (.nx ((env.set i (some x)).set j (some y))) h:=Eq.trans rfl rfl
@[simp] theorem Me {i j:Nat} {a:MA}:uV i j a env h=(a env h).bind (JA i j env):=by
 rfl
@[simp] theorem AF {i:Nat} {d:D}:gN i d env h=.ok (env.set i (some d)) h:=Eq.trans rfl rfl
@[simp] theorem MU {i j:Nat} {x y:D}:gT2 i j (.tup [x,y]) env h=.ok ((env.set i (some x)).set j (some y)) h:=Eq.trans rfl rfl
@[simp] theorem Mn {i j:Nat} {a:ME}:GV i j a env h=(a env h).bind fun d h1=>(gT2 i j d env h1).bind fun e h2=>.ok (.nx e) h2:=Eq.trans rfl rfl
@[simp] theorem Mu {i:Nat} {f:D->D->Hh->R D} {a:ME}:Aj i f a env h=(ag i env h).bind fun x h0=>(a env h0).bind fun y h1=>(f x y h1).bind fun z h2=>.ok (.nx (env.set i (some z))) h2:=Eq.trans rfl rfl
@[simp] theorem Kw {f:D->D->D->Hh->R Unit} {o i v:ME}:sX f o i v env h=(v env h).bind fun x h1=>(o env h1).bind fun y h2=>(i env h2).bind fun z h3=>(f y z x h3).bind fun _ h4=>.ok (.nx env) h4:=Eq.trans rfl rfl
noncomputable def HM:Fl->Hh->R D:=fun fl h1=>match fl with
 | .rt d=>.ok d h1
 | .nx _=>.ok .non h1
 | _=>.bad
@[simp] theorem MY {d:D}:HM (.rt d) h=.ok d h:=Eq.trans rfl rfl
@[simp] theorem M3 {e:En}:HM (.nx e) h=.ok .non h:=Eq.trans rfl rfl
theorem aY {n:Nat} {m:MS} {ds:List D}:cu n m ds h=(m (ds.map some++List.replicate (n - ds.length) none) h).bind HM:=by
 unfold cu
 first | rfl | (congr 1;funext fl h1;cases fl<;>rfl)
section
variable {nl:NL}
@[simp] theorem LH {i j:Int}:cG nl (.int i) (.int j) h=.ok (.int (i+j)) h:=Eq.trans rfl rfl
@[simp] theorem Lq {i j:Int}:cy (.int i) (.int j) h=.ok (.int (i - j)) h:=Eq.trans rfl rfl
@[simp] theorem LL {i:Int}:lq (.int i) h=.ok (.int (-i)) h:=Eq.trans rfl rfl
@[simp] theorem Ml {i j:Int}:dLt (.int i) (.int j) h=.ok (.bl (decide (i<j))) h:=by unfold dLt;rw[oZ];rfl
@[simp] theorem MD {i j:Int}:dLe (.int i) (.int j) h=.ok (.bl (decide (i<=j))) h:=by unfold dLe;rw[tm];rfl
@[simp] theorem MR {i j:Int}:dGt (.int i) (.int j) h=.ok (.bl (decide (j<i))) h:=by unfold dGt;rw[oZ];rfl
@[simp] theorem MQ {i j:Int}:dGe (.int i) (.int j) h=.ok (.bl (decide (j<=i))) h:=by unfold dGe;rw[tm];rfl
@[simp] theorem L9 {i j:Int}:f_ nl (.int i) (.int j) h=if sml i=true/\sml j=true then .ok (.int (i*j)) h else .bad:=Eq.trans rfl rfl
@[simp] theorem Lu {i j:Int}:Ah (.int i) (.int j) h=if 0<j/\sml j=true then .ok (.int (i / j)) h else .bad:=Eq.trans rfl rfl
@[simp] theorem K6 {i j:Int}:oh (.int i) (.int j) h=if 0<j then .ok (.int (i % j)) h else .bad:=Eq.trans rfl rfl
@[simp] theorem Ly {i j:Int}:sY (.int i) (.int j) h=if 0<=j/\j.natAbs<=1000/\sml i=true then .ok (.int (i ^ j.toNat)) h else .bad:=Eq.trans rfl rfl
@[simp] theorem KZ {i j:Int}:vR [.int i,.int j] h=.ok (.int (max i j)) h:=by
 have:(if j > i then j else i)=max i j:=by split<;>omega
 rw[<- this];rfl
@[simp] theorem L8 {b:Bool}:BU [.bl b] h=.ok (.int (if b then 1 else 0)) h:=Eq.trans rfl rfl
@[simp] theorem Mg {ds:List D}:bY ds h=if ds.length<=1000000 then .ok (.tup ds) h else .bad:=Eq.trans rfl rfl
@[simp] theorem Mr {ds:List D}:dH nl ds h=if ds.length<=1000000 then nl ds h else .bad:=Eq.trans rfl rfl
@[simp] theorem LM {ds:List D}:wN ds h=.ok (.ref h.length) (h++[.lst ds]):=Eq.trans rfl rfl
@[simp] theorem Li {ds:List D}:aG ds h=.ok (.frl ds) h:=Eq.trans rfl rfl
@[simp] theorem Lj {ds:List D}:km [.tup ds] h=.ok (.int ds.length) h:=Eq.trans rfl rfl
@[simp] theorem K0 {ds:List D}:km [.frl ds] h=.ok (.int ds.length) h:=Eq.trans rfl rfl
@[simp] theorem LY {ds:List D}:km [.scr ds] h=.ok (.int ds.length) h:=Eq.trans rfl rfl
noncomputable def ixK (ds:List D) (i:Int) (h:Hh):R D:=match atI ds i with
 | some d=>.ok d h
 | none=>.bad
@[simp] theorem Kc {ds:List D} {i:Int}:dIx (.tup ds) (.int i) h=ixK ds i h:=Eq.trans rfl rfl
@[simp] theorem Md {ds:List D} {i:Int}:dIx (.frl ds) (.int i) h=ixK ds i h:=Eq.trans rfl rfl
@[simp] theorem MP {ds:List D} {i:Int}:dIx (.scr ds) (.int i) h=ixK ds i h:=Eq.trans rfl rfl
theorem pj {n:Nat} {ds:List D} {i:Int} (e:aN h n=some ds):dIx (.ref n) (.int i) h=ixK ds i h:=by
 have z:fY (.ref n) h=some ds:=e
 delta dIx;rw[z];rfl
theorem DE {ds:List D} {i:Int} {d:D} (e:atI ds i=some d):ixK ds i h=.ok d h:=by simp only[ixK,e]
theorem Cs {β:Type} {xs:List β} {j:Nat} {v:β} {i:Int} (h:xs[j]?=some v) (e:i=(j:Int)):atI xs i=some v:=by rw[e];exact D9 h
theorem dZ {ds:List D} {i:Int} {j:Nat} {d:D} (e:i=(j:Int)) (e2:ds[j]?=some d):ixK ds i h=.ok d h:=DE (Cs e2 e)
noncomputable def gI (ns:List Int) (i:Nat):Int:=ns.getD i 0
theorem gH {ns:List Int} {j:Nat} (hj:j<ns.length):gI ns j=ns[j]:=by
 unfold gI;rw[List.getD_eq_getElem?_getD,List.getElem?_eq_getElem hj];rfl
theorem By {ns:List Int} {j:Nat} (hj:j<ns.length):gI ns j∈ns:=by rw[gH hj];exact List.getElem_mem hj
theorem lY {ns:List Int} {i:Int} {j:Nat} (e:i=(j:Int)) (hj:j<ns.length):ixK (ns.map D.int) i h=.ok (.int (gI ns j)) h:=by
 refine dZ e ?_
 rw[List.getElem?_map,List.getElem?_eq_getElem hj,gH hj];rfl
@[simp] theorem Ma {d:D} {ds:List D}:ixK (d::ds) 0 h=.ok d h:=dZ (j:=0) rfl rfl
@[simp] theorem MN {d d1:D} {ds:List D}:ixK (d::d1::ds) 1 h=.ok d1 h:=dZ (j:=1) rfl rfl
theorem Bs {β:Type} {xs:List β} {x:β}:atI (xs++[x]) (-1)=some x:=by
 unfold atI ixN
 rw[if_neg (by decide),if_pos (by simp;omega)]
 have:((-1:Int)+((xs++[x]).length:Nat)).toNat=xs.length:=by simp;omega
 rw[this];simp
@[simp] theorem pY {xs:List D} {x:D}:ixK (xs++[x]) (-1) h=.ok x h:=DE Bs
@[simp] theorem LK {ds:List D} {lo hi:Option Int}:AN nl (.tup ds) lo hi h=.ok (.tup (cutD ds lo hi)) h:=Eq.trans rfl rfl
@[simp] theorem Ll {ds:List D} {lo hi:Option Int}:AN nl (.frl ds) lo hi h=nl (cutD ds lo hi) h:=Eq.trans rfl rfl
@[simp] theorem LI {ds:List D} {lo hi:Option Int}:AN nl (.scr ds) lo hi h=nl (cutD ds lo hi) h:=Eq.trans rfl rfl
@[simp] theorem LP {a b:List D}:cG nl (.tup a) (.tup b) h=if a.length+b.length<=1000000 then .ok (.tup (a++b)) h else .bad:=Eq.trans rfl rfl
@[simp] theorem Lp {a b:List D}:cG nl (.frl a) (.frl b) h=if a.length+b.length<=1000000 then nl (a++b) h else .bad:=Eq.trans rfl rfl
@[simp] theorem LD {a:List D} {k:Int}:f_ nl (.frl a) (.int k) h=if k.natAbs<=1000000/\a.length*k.toNat<=1000000 then nl (List.replicate k.toNat a).flatten h else .bad:=Eq.trans rfl rfl
@[simp] theorem Kv {ds:List D}:dList nl [.tup ds] h=nl ds h:=Eq.trans rfl rfl
@[simp] theorem LN {ds:List D}:kR [.frl ds] h=.ok (.tup ds) h:=Eq.trans rfl rfl
@[simp] theorem Lh {ns:List Int}:tL [.frl (ns.map D.int)] h=.ok (.int ns.sum) h:=by simp only[tL,fY,k7]
@[simp] theorem LB {b:Bool}:kU (.bl b) h=.ok b h:=Eq.trans rfl rfl
@[simp] theorem K5 {ds:List D}:kU (.tup ds) h=.ok (!ds.isEmpty) h:=Eq.trans rfl rfl
@[simp] theorem Mt {i j:Int}:dEq (.int i) (.int j) h=.ok (.bl (i == j)) h:=Eq.trans rfl rfl
@[simp] theorem MV {i j:Str}:dNe (.str i) (.str j) h=.ok (.bl (!(i == j))) h:=Eq.trans rfl rfl
@[simp] theorem Lk {i:Int}:qT "int" (.int i) h=.ok (.bl true) h:=Eq.trans rfl rfl
@[simp] theorem LV {i:Int}:qT "bool" (.int i) h=.ok (.bl false) h:=Eq.trans rfl rfl
@[simp] theorem KD {ds:List D}:qT "tuple" (.tup ds) h=.ok (.bl true) h:=Eq.trans rfl rfl
@[simp] theorem Ji {i j:Int}:mV nl [.int i,.int j] h=if (i.natAbs<=1000000/\j.natAbs<=1000000)/\(j - i).toNat<=1000000 then nl (bW i (j - i).toNat) h else .bad:=by
 by_cases z:(i.natAbs<=1000000/\j.natAbs<=1000000)/\(j - i).toNat<=1000000
 ·rw[if_pos z];simp only[mV,Al,if_pos z]
 ·rw[if_neg z];simp only[mV,Al,if_neg z]
@[simp] theorem iH {ds:List D} {t:Hh}:aN (h++.lst ds::t) h.length=some ds:=by
 unfold aN;rw[List.getElem?_append_right (Nat.le_refl _)];simp
@[simp] theorem uK {o o':O} {t:Hh}:(h++o::t).set h.length o'=h++o'::t:=by
 rw[List.set_append_right _ _ (Nat.le_refl _)];simp
theorem Iz {n:Nat} {ds:List D} (e:aN h n=some ds):isL (.ref n) h=true:=by simp[isL,e]
theorem uX {n:Nat} {ds:List D} {d:D} (e:aN h n=some ds):fC (.ref n) [d] h=if ds.length<1000000 then .ok .non (h.set n (.lst (ds++[d]))) else .bad:=by delta fC;dsimp only;rw[e]
theorem tE {n:Nat} {ds:List D} {i:Int} {j:Nat} {v:D} (e:aN h n=some ds) (e2:ixN ds.length i=some j):mS (.ref n) (.int i) v h=.ok () (h.set n (.lst (ds.set j v))):=by delta mS;dsimp only;rw[e];dsimp only;rw[e2]
@[simp] theorem Lm {ds:List D} {t:Hh}:isL (.ref h.length) (h++.lst ds::t)=true:=Iz iH
@[simp] theorem IG {ds:List D} {d:D} {t:Hh}:fC (.ref h.length) [d] (h++.lst ds::t)=if ds.length<1000000 then .ok .non (h++.lst (ds++[d])::t) else .bad:=by rw[uX iH,uK]
@[simp] theorem Mx {ds:List D} {i:Int} {t:Hh}:dIx (.ref h.length) (.int i) (h++.lst ds::t)=ixK ds i (h++.lst ds::t):=pj iH
end
@[simp] theorem Lo {a:MA}:iz iN a env h=(a env h).bind iN:=Eq.trans rfl rfl
@[simp] theorem Ls {a:MA}:iz x9 a env h=(a env h).bind x9:=Eq.trans rfl rfl
@[simp] theorem Lc {j:Int}:iN [.int j] h=if j.natAbs<=1000000 then .ok (.snap (bW 0 j.toNat)) h else .bad:=Eq.trans rfl rfl
@[simp] theorem Le {i j:Int}:x9 [.int i,.int j] h=if i.natAbs<=1000000/\j.natAbs<=1000000 then .ok (.snap (bW i (j - i).toNat)) h else .bad:=Eq.trans rfl rfl
@[simp] theorem Mo {a:ME}:cT a env h=(a env h).bind uj:=Eq.trans rfl rfl
@[simp] theorem LG {a:ME}:tP a env h=(a env h).bind zh:=Eq.trans rfl rfl
@[simp] theorem MJ {ds:List D}:uj (.tup ds) h=.ok (.snap ds) h:=Eq.trans rfl rfl
@[simp] theorem Mh {ds:List D}:uj (.frl ds) h=.ok (.snap ds) h:=Eq.trans rfl rfl
theorem iJ {tab:Str->Option MF} {f:ME} {a:MA} {x:Str} {m:MF} {h1:Hh} (e:f env h=.ok (.fn x) h1) (t:tab x=some m):pN tab f a env h=(a env h1).bind m:=by simp only[pN,e,R.bind,t]
@[simp] theorem Kt {nl:NL} {ns:List Int}:pX nl [.tup (ns.map D.int)] h=if ns.length<64 then nl ((sortI ns).map D.int) h else .bad:=by simp only[pX,fY,k7]
@[simp] theorem Mp {i j k:Nat} {x y z:D}:gT3 i j k (.tup [x,y,z]) env h=.ok (((env.set i (some x)).set j (some y)).set k (some z)) h:=Eq.trans rfl rfl
@[simp] theorem Mv {i j k:Nat} {a:ME}:Et i j k a env h=(a env h).bind fun d h1=>(gT3 i j k d env h1).bind fun e h2=>.ok (.nx e) h2:=Eq.trans rfl rfl
@[simp] theorem Kq {ds:List D}:zh (.frl ds) h=.ok (.snap (jj ds)) h:=Eq.trans rfl rfl
theorem JZ {n:Nat} {ds:List D} (e:aN h n=some ds):uj (.ref n) h=.ok (.live n) h:=by simp only[uj,e]
noncomputable def Jh (tg:D->En->Hh->R En) (body:MS) (env:En):Src->Hh->R Fl:=fun sr h1=>match sr with
 | .snap ds=>eE tg body ds env h1
 | .live n=>m4 (Src.live n).rdr tg body ((aN h1 n).getD []).length 0 env h1
 | .liveE n=>m4 (Src.liveE n).rdr tg body ((aN h1 n).getD []).length 0 env h1
@[simp] theorem K9 {tg:D->En->Hh->R En} {body:MS} {ds:List D}:Jh tg body env (.snap ds) h=eE tg body ds env h:=Eq.trans rfl rfl
@[simp] theorem Mz {mi:MI} {tg:D->En->Hh->R En} {body:MS}:fq mi tg body env h=(mi env h).bind (Jh tg body env):=by
 unfold fq
 congr 1
noncomputable def Kl (nl:NL) (tt:MT) (te:ME) (ee:D->En):Src->Hh->R D:=fun sr h1=>if sr.fuel h1<=1000000 then
 (match sr with
  | .snap ds=>dg tt te ee ds h1
  | .live n=>jk (Src.live n).rdr tt te ee ((aN h1 n).getD []).length 0 [] h1
  | .liveE n=>jk (Src.liveE n).rdr tt te ee ((aN h1 n).getD []).length 0 [] h1).bind nl else .bad
@[simp] theorem KL {nl:NL} {mi:MI} {ix:List Nat} {tt:MT} {te:ME}:eW nl mi ix tt te env h=(mi env h).bind (Kl nl tt te (lr ix env)):=Eq.trans rfl rfl
@[simp] theorem KA {nl:NL} {tt:MT} {te:ME} {ee:D->En} {ds:List D}:Kl nl tt te ee (.snap ds) h=if ds.length<=1000000 then (dg tt te ee ds h).bind nl else .bad:=Eq.trans rfl rfl
@[simp] theorem IH {lo:Int} {n:Nat}:(bW lo n).length=n:=by simp[bW]
@[simp] theorem Mk {ix:List Nat}:lr ix env=fun d=>some d::ix.map fun i=>(env[i]?).join:=Eq.trans rfl rfl
@[simp] theorem MG:tt1 env h=.ok true h:=Eq.trans rfl rfl
noncomputable def Ft (tg:D->En->Hh->R En) (body:MS) (ds:List D):Fl->Hh->R Fl:=fun fl h2=>match fl with
 | .nx e=>eE tg body ds e h2
 | .ct e=>eE tg body ds e h2
 | .bk e=>.ok (.nx e) h2
 | .rt d=>.ok (.rt d) h2
theorem ip {tg:D->En->Hh->R En} {body:MS} {d:D} {ds:List D}:eE tg body (d::ds) env h=(tg d env h).bind fun e1 h1=>(body e1 h1).bind (Ft tg body ds):=rfl
@[simp] theorem uT {tg:D->En->Hh->R En} {body:MS} {ds:List D} {e:En}:Ft tg body ds (.nx e) h=eE tg body ds e h:=Eq.trans rfl rfl
@[simp] theorem MB {tg:D->En->Hh->R En} {body:MS} {ds:List D} {e:En}:Ft tg body ds (.bk e) h=.ok (.nx e) h:=Eq.trans rfl rfl
@[simp] theorem MH {tg:D->En->Hh->R En} {body:MS} {ds:List D} {d:D}:Ft tg body ds (.rt d) h=.ok (.rt d) h:=Eq.trans rfl rfl
theorem zF (ns:List Int):jj (ns.map D.int)=(List.range ns.length).map fun(i:Nat)=>D.tup [.int i,.int (gI ns i)]:=by
 unfold jj
 rw[List.length_map]
 apply List.map_congr_left
 intro i hi
 have hi:i<ns.length:=List.mem_range.mp hi
 rw[List.getD_eq_getElem?_getD,List.getElem?_map,List.getElem?_eq_getElem hi,gH hi];rfl
theorem comp_map {X:Type} {tt:MT} {te:ME} {ee:D->En} (enc:X->D) (p:X->Bool) (g:X->D):∀(xs:List X),(∀x∈xs,tt (ee (enc x)) h=.ok (p x) h/\(p x=true->te (ee (enc x)) h=.ok (g x) h)) →
  dg tt te ee (xs.map enc) h=.ok ((xs.filter p).map g) h
 | [],_=>rfl
 | x::xs,st=>by
  obtain⟨e1,e2⟩:=st x List.mem_cons_self
  have ih:=comp_map enc p g xs fun y hy=>st y (List.mem_cons_of_mem _ hy)
  rw[List.map_cons,dg,e1,bS]
  cases hp:p x with
  | false=>rw[if_neg Bool.false_ne_true,ih,List.filter_cons_of_neg (by simp[hp])]
  | true=>rw[if_pos rfl,e2 hp,bS,ih,bS,List.filter_cons_of_pos hp,List.map_cons]
theorem BQ {X:Type} {te:ME} {ee:D->En} (enc:X->D) (g:X->D) (xs:List X) (st:∀x∈xs,te (ee (enc x)) h=.ok (g x) h):dg tt1 te ee (xs.map enc) h=.ok (xs.map g) h:=by
 have:=comp_map (tt:=tt1) (ee:=ee) (h:=h) enc (fun _=>true) g xs fun x hx=>⟨rfl,fun _=>st x hx⟩
 rw[List.filter_eq_self.mpr fun _ _=>rfl] at this
 exact this
theorem ft (n:Nat):bW 0 n=(List.range n).map fun(i:Nat)=>D.int i:=by
 unfold bW
 apply List.map_congr_left
 intro i _
 rw[Int.zero_add]
theorem CM {n:Nat} {tt:MT} {te:ME} {ee:D->En} (p:Nat->Bool) (g:Nat->D) (st:∀i,i<n->tt (ee (.int (i:Nat))) h=.ok (p i) h/\(p i=true->te (ee (.int (i:Nat))) h=.ok (g i) h)) :
  dg tt te ee (bW 0 n) h=.ok (((List.range n).filter p).map g) h:=by
 rw[ft,comp_map (fun(i:Nat)=>D.int i) p g (List.range n) fun i hi=>st i (List.mem_range.mp hi)]
theorem AJ {n:Nat} {te:ME} {ee:D->En} (g:Nat->D) (st:∀i,i<n->te (ee (.int (i:Nat))) h=.ok (g i) h) :
  dg tt1 te ee (bW 0 n) h=.ok ((List.range n).map g) h:=by
 rw[ft,BQ (fun(i:Nat)=>D.int i) g (List.range n) fun i hi=>st i (List.mem_range.mp hi)]
theorem FD {σ:Type} {tg:D->En->Hh->R En} {body:MS} (enc:Nat->D) (n:Nat) (E:σ->En) (G:σ->Hh) (f:σ->Nat->σ) (I:Nat->σ->Prop) (s:σ) (i0:I 0 s)
  (st:∀i s,i<n->I i s->I (i+1) (f s i)/\((tg (enc i) (E s) (G s)).bind body=.ok (.nx (E (f s i))) (G (f s i))\/(tg (enc i) (E s) (G s)).bind body=.ok (.ct (E (f s i))) (G (f s i)))) :
  eE tg body ((List.range n).map enc) (E s) (G s)=.ok (.nx (E ((List.range n).foldl f s))) (G ((List.range n).foldl f s))/\I n ((List.range n).foldl f s):=by
 have key:∀(k:Nat) (xs:List Nat) (s:σ),(∀j x,xs[j]?=some x->x=k+j/\x<n)->I k s->eE tg body (xs.map enc) (E s) (G s)=.ok (.nx (E (xs.foldl f s))) (G (xs.foldl f s))/\I (k+xs.length) (xs.foldl f s):=by
  intro k xs
  induction xs generalizing k with
  | nil=>intro s _ i;exact⟨rfl,i⟩
  | cons x xs ih=>
   intro s hx i
   obtain⟨h1,h2⟩:=hx 0 x rfl
   have h1:x=k:=by omega
   subst h1
   obtain⟨i1,e⟩:=st x s h2 i
   obtain⟨e2,i2⟩:=ih (x+1) (f s x) (fun j y hj=>by have:=hx (j+1) y hj;omega) i1
   refine⟨?_,by rw[List.length_cons,List.foldl_cons];rw[show x+(xs.length+1)=x+1+xs.length by omega];exact i2⟩
   rw[List.map_cons,eE,<- cH]
   rcases e with e | e<;>rw[e]<;>exact e2
 have hr:∀j x,(List.range n)[j]?=some x->x=0+j/\x<n:=fun j x hj=>by
  have hl:j<n:=by
   by_cases hl:j<n
   ·exact hl
   ·rw[List.getElem?_eq_none (by simpa using hl)] at hj;cases hj
  rw[List.getElem?_range hl] at hj
  cases hj
  omega
 have:=key 0 (List.range n) s hr i0
 rw[List.length_range,Nat.zero_add] at this
 exact this
theorem zc {σ:Type} {tg:D->En->Hh->R En} {body:MS} (n:Nat) (E:σ->En) (G:σ->Hh) (f:σ->Nat->σ) (I:Nat->σ->Prop) (s:σ) (i0:I 0 s)
  (st:∀i s,i<n->I i s->I (i+1) (f s i)/\((tg (.int (i:Nat)) (E s) (G s)).bind body=.ok (.nx (E (f s i))) (G (f s i))\/(tg (.int (i:Nat)) (E s) (G s)).bind body=.ok (.ct (E (f s i))) (G (f s i)))) :
  eE tg body (bW 0 n) (E s) (G s)=.ok (.nx (E ((List.range n).foldl f s))) (G ((List.range n).foldl f s))/\I n ((List.range n).foldl f s):=by
 rw[ft]
 exact FD (fun(i:Nat)=>D.int i) n E G f I s i0 st
noncomputable def Wf (h:Hh):Prop:=h.all (nU h.length)=true
mutual
theorem zD {j k:Nat} (h:j<=k):∀(d:D),iq j d=true->iq k d=true
 | .non,_=>rfl | .bl _,_=>rfl | .int _,_=>rfl | .str _,_=>rfl | .fn _,_=>rfl | .edic,_=>rfl | .exc _ _,_=>rfl
 | .clo _ ds,e=>by simp only[iq] at e ⊢;exact dG h ds e
 | .ref n,e=>by simp only[iq,decide_eq_true_eq] at e ⊢;omega
 | .tup ds,e=>by simp only[iq] at e ⊢;exact dG h ds e
 | .frl ds,e=>by simp only[iq] at e ⊢;exact dG h ds e
 | .scr ds,e=>by simp only[iq] at e ⊢;exact dG h ds e
theorem dG {j k:Nat} (h:j<=k):∀(ds:List D),cE j ds=true->cE k ds=true
 | [],_=>rfl
 | d::ds,e=>by
  simp only[cE,Bool.and_eq_true] at e ⊢
  exact⟨zD h d e.1,dG h ds e.2⟩
end
theorem zZ {j k:Nat} (h:j<=k) (o:O) (e:nU j o=true):nU k o=true:=by
 cases o with
 | lst ds=>exact dG h ds e
 | set n=>rfl
 | dic kvs=>exact dG h _ e
 | dit kvs=>exact dG h _ e
theorem mz {k:Nat}:∀{ds:List D},(∀d∈ds,iq k d=true)->cE k ds=true
 | [],_=>rfl
 | d::ds,h=>by simp only[cE,Bool.and_eq_true];exact⟨h d List.mem_cons_self,mz fun e he=>h e (List.mem_cons_of_mem _ he)⟩
@[simp] theorem AL {X:Type} {k:Nat} {f:X->D} {xs:List X} (h:∀x,iq k (f x)=true):cE k (xs.map f)=true:=mz fun d hd=>by
 obtain⟨x,_,rfl⟩:=List.mem_map.mp hd;exact h x
@[simp] theorem pe {k:Nat} {ns:List Int}:cE k (ns.map D.int)=true:=AL fun _=>rfl
theorem Wf.nil:Wf []:=rfl
theorem Wf.app {h:Hh} {o:O} (w:Wf h) (l:nU (h.length+1) o=true):Wf (h++[o]):=by
 unfold Wf at w ⊢
 rw[List.all_append,List.length_append,List.length_singleton]
 simp only[List.all_cons,List.all_nil,Bool.and_true,Bool.and_eq_true]
 refine⟨?_,l⟩
 rw[List.all_eq_true] at w ⊢
 exact fun x hx=>zZ (Nat.le_succ _) x (w x hx)
noncomputable def deep:Nat->D->Bool
 | 0,_=>false
 | f+1,d=>match d with
  | .ref _=>false
  | .scr _=>false
  | .tup ds=>ds.all (deep f)
  | .frl ds=>ds.all (deep f)
  | .clo _ ds=>cE 0 ds
  | _=>true
theorem lD {f:D->Option D}:∀{ds:List D},(∀d∈ds,f d=some d)->mI f ds=some ds
 | [],_=>rfl
 | d::ds,h=>by simp only[mI,h d List.mem_cons_self,lD fun e he=>h e (List.mem_cons_of_mem _ he)]
theorem iD {k:Nat} {h:Hh}:∀(f:Nat) (d:D),deep f d=true->gk k h f d=some d
 | 0,_,e=>by cases e
 | f+1,d,e=>by
  unfold deep at e
  unfold gk
  cases d with
  | ref n=>cases e
  | scr n=>cases e
  | tup ds=>simp only[List.all_eq_true] at e;show Option.map D.tup (mI (gk k h f) ds)=_;rw[lD (f:=gk k h f) fun d hd=>iD f d (e d hd)];rfl
  | frl ds=>simp only[List.all_eq_true] at e;show Option.map D.frl (mI (gk k h f) ds)=_;rw[lD (f:=gk k h f) fun d hd=>iD f d (e d hd)];rfl
  | clo g ds=>show(if cE 0 ds=true then some (D.clo g ds) else none)=_;rw[if_pos (show cE 0 ds=true from e)]
  | _=>rfl
theorem p8 {d:D} {t:Hh} (w:Wf h) (e:deep 8 d=true):eM h d (h++t)=.ok d h:=by
 unfold eM
 rw[List.take_left' rfl,if_pos (show h.all (nU h.length)=true from w),iD 8 d e]
theorem Ao {ds:List D} {t:Hh} (w:Wf h) (e:ds.all (deep 7)=true):eM h (.ref h.length) (h++.lst ds::t)=.ok (.frl ds) h:=by
 unfold eM
 rw[List.take_left' rfl,if_pos (show h.all (nU h.length)=true from w)]
 have:gk h.length (h++.lst ds::t) 8 (.ref h.length)=some (.frl ds):=by
  unfold gk
  simp only[Nat.lt_irrefl,if_false,iH]
  rw[List.all_eq_true] at e
  rw[lD fun d hd=>iD 7 d (e d hd)];rfl
 rw[this]
@[simp] theorem JB {f:Nat} {i:Int}:deep (f+1) (.int i)=true:=rfl
@[simp] theorem Kr {f:Nat} {i:Bool}:deep (f+1) (.bl i)=true:=rfl
@[simp] theorem IP {f:Nat} {i:Str}:deep (f+1) (.str i)=true:=rfl
@[simp] theorem JG {f:Nat}:deep (f+1) .non=true:=rfl
@[simp] theorem IF {f:Nat}:deep (f+1) .edic=true:=rfl
@[simp] theorem IT {f:Nat} {ds:List D}:deep (f+1) (.tup ds)=ds.all (deep f):=rfl
@[simp] theorem IS {f:Nat} {ds:List D}:deep (f+1) (.frl ds)=ds.all (deep f):=rfl
end
noncomputable def Ok {β:Type} (r:R β) (Q:β->Hh->Prop):Prop:=∃b h,r=.ok b h/\Q b h
section
variable {β γ:Type} {Q:β->Hh->Prop} {h h1 h2:Hh}
theorem Ok.mono {r:R β} {Q':β->Hh->Prop} (o:Ok r Q) (q:∀b h,Q b h->Q' b h):Ok r Q':=let ⟨b,h,e,z⟩:=o;⟨b,h,e,q b h z⟩
end
theorem sR {X:Type} {tg:D->En->Hh->R En} {body:MS} {QS:Fl->Hh->Prop} (enc:X->D) (I:En->Hh->Prop) :
  ∀(xs:List X) (env:En) (h:Hh),I env h->(∀x e h,x∈xs->I e h->Ok ((tg (enc x) e h).bind body) fun fl h2=>match fl with
   | .nx e=>I e h2
   | .ct e=>I e h2
   | .bk e=>QS (.nx e) h2
   | .rt d=>QS (.rt d) h2)->(∀e h,I e h->QS (.nx e) h)->Ok (eE tg body (xs.map enc) env h) QS
 | [],env,h,i,_,q=>⟨_,_,rfl,q _ _ i⟩
 | x::xs,env,h,i,st,q=>by
  obtain⟨fl,h2,e,z⟩:=st x env h List.mem_cons_self i
  rw[List.map_cons,eE,<- cH,e,bS]
  cases fl with
  | nx e'=>exact sR enc I xs e' h2 z (fun y e h hy=>st y e h (List.mem_cons_of_mem _ hy)) q
  | ct e'=>exact sR enc I xs e' h2 z (fun y e h hy=>st y e h (List.mem_cons_of_mem _ hy)) q
  | bk e=>exact⟨_,_,rfl,z⟩
  | rt d=>exact⟨_,_,rfl,z⟩
end L2.FE
namespace L2.FE
open PySem PySem.Spec PyProof.Rows
noncomputable def Gv (h:Hh) (n:Nat):Option (List (Key × D)):=match h[n]? with
 | some (.dic kvs)=>some kvs
 | _=>none
noncomputable abbrev PD (K:PySem.W.Frag) (g:GG) (α:List Addr) (H:Hp):List (Key × D)->List (Key × V)->Prop:=Paired (fun(a:Key × D) (b:Key × V)=>a.1=b.1/\aO K g α H a.2 b.2)
section
variable {K:PySem.W.Frag} {g:GG} {α:List Addr} {H:Hp} {h:Hh}
theorem aX.dic {n:Nat} {p:Addr} {kvs:List (Key × D)} (r:aX K g α H h) (e:Gv h n=some kvs) (hp:α[n]?=some p):∃kws,H p=some (.dK kws)/\PD K g α H kvs kws:=by
 unfold Gv at e
 cases eo:h[n]? with
 | none=>rw[eo] at e;cases e
 | some o=>
  rw[eo] at e
  cases o with
  | dic k=>cases e;exact r.here n p _ hp eo
  | _=>cases e
theorem PD.ext {α':List Addr} {H':Hp} {kvs:List (Key × D)} {kws:List (Key × V)} (e:Ext K α H α' H') (r:PD K g α H kvs kws):PD K g α' H' kvs kws:=Paired.Jy e.toEx0 r
theorem aM.dic {Q:VK} {kvs:List (Key × D)} {kws:List (Key × V)} {p:Addr} (w:aM K g α H Q (.ref h.length) (h++[.dic kvs])) (r:aX K g α H h) (rs:PD K g α H kvs kws) (hp:H p=none):Q (.ref p) (upd H p (.dK kws)):=by
 have x:=Ext.push (K:=K) (α:=α) (o:=.dK kws) hp
 exact w _ _ _ x (r.push hp ⟨_,aZ,rs.ext x⟩) (.ref (by rw[<- r.len];simp))
end
section
variable {X:Cx} {g:GG} {ε:EE} {o i e f:Expr} {mo mi me mf:ME} {pos:Pos}
theorem tY:PE X (.Dict [] [] pos) (tM X.K g ε (cC .edic)):=
 PE.imp (PE.frz Ce) fun σ H Q ⟨α,env,h,s,w⟩ p hp=>by
  refine .inr ⟨p,_,rfl,aZ,trivial,fun o=>?_⟩
  rw[D1]
  exact(show aM X.K g α H Q .edic h from w) _ _ α (Ext.fresh hp) (s.heap.grow hp) (.edic aZ)
end
end L2.FE
namespace L2
open PySem PySem.Spec PyProof.Rows
theorem Bf (o:Obj) (f:Array Value->Array Value):(Obj.mapFields f o).cls=o.cls:=Obj.cls_mapFields _ _
theorem As (o:Obj) (f:Array Value->Array Value):(Obj.mapFields f o).dict=o.dict:=by
 unfold Obj.mapFields
 split<;>rfl
structure Gn (h h':Heap):Prop where
 up:h.UpToSlots h'
 there:∀b o,h.get? b=some o->∃o',h'.get? b=some o'
theorem Gn.trans {h h1 h2:Heap} (a:Gn h h1) (b:Gn h1 h2):Gn h h2:=⟨a.up.trans b.up,fun c o q=>let ⟨_,q'⟩:=a.there c o q;b.there c _ q'⟩
structure Fly (B:Heap) (l:List Env) (e:Addr) (C:Value) (dc:Option Addr) (fl:Value) (h:Heap):Prop where
 stays:B.StaysIn h
 new:B.get? e=none
 fr:h.FunFrames B l
 obj:∃oe ws T oT ts,h.get? e=some oe/\oe.cls=C/\oe.dict=dc/\oe.data=.fields ws/\ws[1]?=some (.ref T)/\B.get? T=none/\T≠e/\h.get? T=some oT/\oT.data=.fields ts/\ts[3]?=some fl
theorem Fly.pop {B:Heap} {env:Env} {l:List Env} {e:Addr} {C:Value} {dc:Option Addr} {fl:Value} {h:Heap} (x:Fly B (env::l) e C dc fl h):Fly B l e C dc fl h:=
 ⟨x.stays,x.new,x.fr.2.2,x.obj⟩
theorem Fly.there {B:Heap} {l:List Env} {e:Addr} {C:Value} {dc:Option Addr} {fl:Value} {h:Heap} (x:Fly B l e C dc fl h):∃oe ws,h.get? e=some oe/\oe.cls=C/\oe.dict=dc/\oe.data=.fields ws:=by
 obtain⟨oe,ws,T,oT,ts,a,b,c,d,_⟩:=x.obj
 exact⟨oe,ws,a,b,c,d⟩
section
variable {M:Model} {A:Around} {E:Value->Shared->Prop} {s:Shared} {B:Heap} {env:Env} {l outer:List Env} {e L:Addr} {C:Value} {dc:Option Addr} {fl:Value} {Q:Unit->Shared->Prop}
theorem sV (x:Fly B l e C dc fl s.heap) (k:∀h',Fly B l e C dc .none h'->Gn s.heap h'->Q () { s with heap:=h' }):wpAny M A (setFlight (.ref e) none) Q E s:=by
 obtain⟨st,nw,fr,oe,ws,T,oT,ts,q1,q2,q3,q4,q5,q6,q7,q8,q9,q10⟩:=x
 have hlt:3<ts.size:=(Array.getElem?_eq_some_iff.mp q10).1
 have off:∀b,b≠T->(s.heap.update T (Obj.mapFields (·.setIfInBounds 3 ((none:Option Addr).elim Value.none fun f=>rawInt f)))).get? b=s.heap.get? b:=fun b z=>Heap.get?_update_other _ _ (Ne.symm z)
 have noF:∀b o,s.heap.get? b=some o->(∀vs,o.data≠.fields vs)->b≠T:=by
  rintro b o q n rfl
  rw[q8] at q;cases q;exact n ts q9
 unfold setFlight
 refine wpAny_bind (wpAny_field q1 q4 q5 ?_)
 rw[if_pos (by simp:(Value.ref T != Value.none)=true)]
 refine wpAny_setField q8 q9 hlt (k _ ⟨fun b o q=>(off b ?_).trans (st b o q),nw,fr.of_keeps fun b o q n=>⟨o,(off b (noF b o q n)).trans q,rfl⟩,oe,ws,T,_,_,(off e (Ne.symm q7)).trans q1,q2,q3,q4,q5,q6,q7,Heap.get?_update_self _ q8 (Obj.isFreed_of_fields (Obj.data_mapFields q9 _)),Obj.data_mapFields q9 _,by simp[hlt]⟩
  ⟨fun b o q n=>⟨o.slots,(off b (noF b o q n)).trans q⟩,fun b o q=>?_⟩)
 ·rintro rfl;rw[q6] at q;cases q
 ·by_cases z:b=T
  ·subst z;exact⟨_,Heap.get?_update_self _ q8 (Obj.isFreed_of_fields (Obj.data_mapFields q9 _))⟩
  ·exact⟨o,(off b z).trans q⟩
theorem rK {head:Value} {had:Bool} {oe:Obj} {ws:Array Value} (hA:A.frames=some (env::outer)) (fr:s.heap.FunFrames B (env::outer)) (hL:env.frame=some L) (q1:s.heap.get? e=some oe) (st:B.StaysIn s.heap) (nw:B.get? e=none) (q4:oe.data=.fields ws) (hlt:1<ws.size)
  (k:∀h',Fly B (env::outer) e oe.cls oe.dict (rawInt L) h'->Gn s.heap h'->Q () { s with heap:=h' }) :
  wpAny M A (do let fo ← frameOf env;let pl ← entryPlaceOf L had;let t ← EntryCells.newEntry head fo .none (rawInt L) .none pl;setField (.ref e) 1 t) Q E s:=by
 have hnf:e∉(env::outer).filterMap (·.frame):=fun z=>by
  obtain⟨_,o,ho,n⟩:=fr.mem z
  rw[q1] at ho;cases ho;exact n ws q4
 refine wpAny_bind (wpAny_frameOf_fun hA fr hL fun h1 so=>wpAny_bind (wpAny_entryPlaceOf fun pl hpl=>?_))
 obtain⟨z1,z2,z3⟩:=so
 unfold EntryCells.newEntry newFields
 refine wpAny_bind (wpAny_newObj_type ?_ (hpl.sizeOk5 _ _ _ _ _))
 have e1:h1.get? e=some oe:=by rw[z2 e hnf];exact q1
 have st1:B.StaysIn h1:=fun b o q=>by
  rw[z2 b fun z=>by rw[(fr.mem z).1] at q;cases q]
  exact st b o q
 generalize hT:({ cls:=.type "traceback", dict:=none,data:=.fields ([head,.ref L,.none,rawInt L,.none]++(if pl.isEmpty then List.replicate 6 Value.none else pl)).toArray }:Obj)=oT
 have e2:(h1.push oT).get? e=some oe:=Heap.get?_push_of_some _ e1
 have dT:oT.data=.fields ([head,.ref L,.none,rawInt L,.none]++(if pl.isEmpty then List.replicate 6 Value.none else pl)).toArray:=by rw[<- hT]
 have ne:h1.objs.size≠e:=Nat.ne_of_gt (Heap.lt_size e1)
 refine wpAny_setField e2 q4 hlt (k _ ?_ ?_)
 ·have off:∀b o,b≠e->h1.get? b=some o->((h1.push oT).update e (Obj.mapFields (·.setIfInBounds 1 (Value.ref h1.objs.size)))).get? b=some o:=fun b o n q=>by
   rw[Heap.get?_update_other _ _ (Ne.symm n)]
   exact Heap.get?_push_of_some _ q
  have noF:∀b o,h1.get? b=some o->(∀vs,o.data≠.fields vs)->b≠e:=by
   rintro b o q n rfl
   rw[e1] at q;cases q;exact n ws q4
  refine⟨fun b o q=>off b o ?_ (st1 b o q),nw,?_,_,_,h1.objs.size,oT,_,Heap.get?_update_self _ e2 (Obj.isFreed_of_fields (Obj.data_mapFields q4 _)),Bf _ _,As _ _,Obj.data_mapFields q4 _,by simp[hlt],?_,ne,?_,dT,?_⟩
  ·rintro rfl;rw[nw] at q;cases q
  ·exact fr.of_keeps fun b o q n=>by
    obtain⟨sl,q'⟩:=z3 b o q
    exact⟨_,off b _ (noF b _ q' n) q',rfl⟩
  ·cases q:B.get? h1.objs.size with
   | none=>rfl
   | some o=>exact absurd (Heap.lt_size (st1 _ _ q)) (Nat.lt_irrefl _)
  ·rw[Heap.get?_update_other _ _ (Ne.symm ne)]
   rw[<- hT]
   exact Heap.get?_push_size h1 rfl
  ·first | (simp;done) | (rcases hpl with rfl | ⟨_,_,_,_,_,_,_,rfl⟩<;>simp)
 ·refine⟨fun b o q n=>?_,fun b o q=>?_⟩
  ·obtain⟨sl,q'⟩:=z3 b o q
   refine⟨sl,?_⟩
   rw[Heap.get?_update_other _ _ ?_]
   ·exact Heap.get?_push_of_some _ q'
   ·rintro rfl
    rw[q1] at q;cases q;exact n ws q4
  ·obtain⟨sl,q'⟩:=z3 b o q
   by_cases z:b=e
   ·subst z;exact⟨_,Heap.get?_update_self _ e2 (Obj.isFreed_of_fields (Obj.data_mapFields q4 _))⟩
   ·exact⟨_,by rw[Heap.get?_update_other _ _ (Ne.symm z)];exact Heap.get?_push_of_some _ q'⟩
theorem zY {oe:Obj} {ws:Array Value} (hA:A.frames=some (env::outer)) (fr:s.heap.FunFrames B (env::outer)) (hL:env.frame=some L) (q1:s.heap.get? e=some oe) (st:B.StaysIn s.heap) (nw:B.get? e=none) (q4:oe.data=.fields ws) (q5:ws[1]?=some .none)
  (k:∀h',Fly B (env::outer) e oe.cls oe.dict (rawInt L) h'->Gn s.heap h'->Q () { s with heap:=h' }):wpAny M A (noteFrame (.ref e) env) Q E s:=by
 unfold noteFrame
 simp only[hL]
 refine wpAny_bind (wpAny_field q1 q4 q5 ?_)
 rw[if_neg (by decide)]
 exact rK hA fr hL q1 st nw q4 (Array.getElem?_eq_some_iff.mp q5).1 k
theorem C4 (hA:A.frames=some (env::outer)) (hL:env.frame=some L) (x:Fly B (env::outer) e C dc .none s.heap)
  (k:∀h',Fly B (env::outer) e C dc (rawInt L) h'->Gn s.heap h'->Q () { s with heap:=h' }):wpAny M A (noteFrame (.ref e) env) Q E s:=by
 obtain⟨st,nw,fr,oe,ws,T,oT,ts,q1,q2,q3,q4,q5,q6,q7,q8,q9,q10⟩:=x
 have off:∀b,b≠T->(s.heap.update T (Obj.mapFields (·.setIfInBounds 3 Value.none))).get? b=s.heap.get? b:=fun b z=>Heap.get?_update_other _ _ (Ne.symm z)
 have noF:∀b o,s.heap.get? b=some o->(∀vs,o.data≠.fields vs)->b≠T:=by
  rintro b o q n rfl
  rw[q8] at q;cases q;exact n ts q9
 unfold noteFrame
 simp only[hL]
 refine wpAny_bind (wpAny_field q1 q4 q5 ?_)
 rw[if_pos (by simp:(Value.ref T != Value.none)=true)]
 refine wpAny_bind (wpAny_field q8 q9 q10 ?_)
 rw[if_neg (by simp[rawInt]:¬ ((Value.none == rawInt L)=true))]
 refine wpAny_bind (wpAny_setField q8 q9 (Array.getElem?_eq_some_iff.mp q10).1 ?_)
 refine rK (B:=B) (oe:=oe) hA (fr.of_keeps fun b o q n=>⟨o,(off b (noF b o q n)).trans q,rfl⟩) hL ((off e (Ne.symm q7)).trans q1) (fun b o q=>(off b ?_).trans (st b o q)) nw q4 (Array.getElem?_eq_some_iff.mp q5).1 fun h' y u=>?_
 ·rintro rfl;rw[q6] at q;cases q
 ·subst q2 q3
  refine k h' y ⟨fun b o q n=>u.up b o ((off b (noF b o q n)).trans q) n,fun b o q=>?_⟩
  by_cases z:b=T
  ·subst z;exact u.there _ _ (Heap.get?_update_self _ q8 (Obj.isFreed_of_fields (Obj.data_mapFields q9 _)))
  ·exact u.there b o ((off b z).trans q)
end
theorem HH {P:Program} {w:World} {H:Hp} {h:Heap} {a:Addr} {o:HO} (x:cF P w H h a o):∃u,h.get? a=some u:=by
 cases o with
 | lst xs=>obtain⟨_,_,_,_,e⟩:=x;exact⟨_,e⟩
 | tup xs=>obtain⟨_,_,_,ob,e,_⟩:=x;exact⟨_,e⟩
 | dK kvs=>obtain⟨_,_,_,_,o,_,_,e,_⟩:=x;exact⟨_,e⟩
 | dT kvs=>obtain⟨_,_,_,_,o,_,_,e,_⟩:=x;exact⟨_,e⟩
 | set S n=>obtain⟨o,_,_,_,e,_⟩:=x;exact⟨_,e⟩
 | ins C dx fs=>obtain⟨_,_,_,e,_⟩:=x;exact⟨_,e⟩
 | own y=>exact x
 | xd fs=>obtain⟨_,⟨_,_,_,e,_⟩,_⟩:=x;exact⟨_,e⟩
 | rng lo hi=>obtain⟨_,_,_,e⟩:=x;exact⟨_,e⟩
 | frz ob u=>obtain⟨e,_⟩:=x;exact⟨_,e⟩
 | tbl ps=>exact⟨_,(show h.get? a=some _ from x)⟩
 | met f y=>exact⟨_,(show h.get? a=some _ from x)⟩
 | ext φ=>obtain⟨_,e,_⟩:=x;exact e
noncomputable def Arr (B:Heap) (l:List Env) (e:Addr) (C:Value) (dc:Option Addr) (h:Heap):Prop:=
 (B.StaysIn h/\B.get? e=none/\h.FunFrames B l/\∃oe ws,h.get? e=some oe/\oe.cls=C/\oe.dict=dc/\oe.data=.fields ws/\ws[1]?=some .none)\/Fly B l e C dc .none h
theorem Arr.stays {B:Heap} {l:List Env} {e:Addr} {C:Value} {dc:Option Addr} {h:Heap} (x:Arr B l e C dc h):B.StaysIn h:=x.elim (·.1) (·.stays)
theorem Arr.new {B:Heap} {l:List Env} {e:Addr} {C:Value} {dc:Option Addr} {h:Heap} (x:Arr B l e C dc h):B.get? e=none:=x.elim (·.2.1) (·.new)
theorem Arr.fr {B:Heap} {l:List Env} {e:Addr} {C:Value} {dc:Option Addr} {h:Heap} (x:Arr B l e C dc h):h.FunFrames B l:=x.elim (·.2.2.1) (·.fr)
section
variable {M:Model} {A:Around} {E:Value->Shared->Prop} {s:Shared} {B:Heap} {env:Env} {outer:List Env} {e L:Addr} {C:Value} {dc:Option Addr} {Q:Unit->Shared->Prop}
theorem wx (hA:A.frames=some (env::outer)) (hL:env.frame=some L) (x:Arr B (env::outer) e C dc s.heap)
  (k:∀h',Fly B (env::outer) e C dc (rawInt L) h'->Gn s.heap h'->Q () { s with heap:=h' }):wpAny M A (noteFrame (.ref e) env) Q E s:=by
 rcases x with⟨st,nw,fr,oe,ws,q1,rfl,rfl,q4,q5⟩ | x
 ·exact zY hA fr hL q1 st nw q4 q5 k
 ·exact C4 hA hL x k
theorem AK (hA:A.frames=some (env::outer)) (hL:env.frame=some L) (x:Arr B (env::outer) e C dc s.heap)
  (k:∀h',Fly B outer e C dc .none h'->Gn s.heap h'->Q () { s with heap:=h' }):wpAny M A (leaving env (.ref e)) Q E s:=by
 unfold leaving
 exact wpAny_bind (wx hA hL x fun h1 x1 u1=>sV x1 fun h2 x2 u2=>k h2 x2.pop (u1.trans u2))
end
structure Cov (B:Heap) (fs:List Addr) (aL:Hp) (h₀:Heap) (H':Hp):Prop where
 trk:∀b o,H' b=some o->∃u,B.get? b=some u
 old:∀b o,h₀.get? b=some o->aL b=none->b∉fs->B.get? b=some o
noncomputable def CXE (P:Program) (w:World):CXT:=fun outer H s E e s'=>∃(H':Hp) (B:Heap) (a:Addr) (C:Value) (dc:Option Addr),e=.ref a/\s'.os=s.os/\AllBare s'.gens/\Un (frs outer) [] H H' s.heap s'.heap/\HOk P w H' s'.heap/\Fly B outer a C dc .none s'.heap/\Cov B (frs outer) H s.heap H'/\E C dc H'
noncomputable def XeB (X:Cx) (E:XK) (e:Value) (s':Shared):Prop:=∃(σ:St) (H':Hp) (B:Heap) (a:Addr) (C:Value) (dc:Option Addr),e=.ref a/\Inv X [] σ H' s'/\Arr B X.stack a C dc s'.heap/\Cov B X.fs X.aL X.aF.heap H'/\(∀p∈X.pn,B.get? p.1=some p.2)/\E C dc H'
noncomputable def ku (X:Cx) (E:XK):Prop:=∀e s',XeB X E e s'->X.xe e s'
structure Plain (X:Cx):Prop where
 ex:X.ex=[]
 stk:X.stack=X.env::X.outer/\X.env.frame=some X.env.locals
theorem HOk.flew {P:Program} {w:World} {H':Hp} {B h h':Heap} (x:HOk P w H' h) (tr:∀b o,H' b=some o->∃u,B.get? b=some u) (st:B.StaysIn h) (st':B.StaysIn h'):HOk P w H' h':=fun a o e=>
 (x a o e).kr (fun b u hb q=>by
  obtain⟨u',q'⟩:∃u,B.get? b=some u:=by
   rcases hb with rfl | hb
   ·exact tr _ _ e
   ·exact tr _ _ hb
  have:=st _ _ q'
  rw[q] at this;cases this
  exact st' _ _ q') (fun _ q=>q) fun _ _ q=>q
theorem Inv.drop {X:Cx} {pins:List (Addr × Obj)} {σ:St} {H:Hp} {s:Shared} (I:Inv X pins σ H s):Inv X [] σ H s:=
 ⟨I.ok,I.os,I.bare,I.base,I.loc,I.cell,I.free,I.dR,fun p hp=>I.pin p (by simp only[List.append_nil] at hp;exact List.mem_append_left _ hp),I.hok,I.len⟩
theorem yl {fs:List Addr} {aL H':Hp} {B h₀ h h':Heap} (u:Un fs [] aL H' h₀ h) (c:Cov B fs aL h₀ H') (st':B.StaysIn h') (g:Gn h h') (nf:∀b∈fs,∀o,h.get? b=some o->∀vs,o.data≠.fields vs):Un fs [] aL H' h₀ h':=
 ⟨fun b o e n hb _=>st' b o (c.old b o e n hb),fun b o e n hb hx=>by
  obtain⟨sl,q⟩:=u.slot b o e n hb hx
  obtain⟨sl',q'⟩:=g.up b _ q (nf b hb _ q)
  exact⟨sl',q'⟩,u.free,fun b o e hx=>by
  obtain⟨o',q⟩:=u.there b o e hx
  exact g.there b o' q,u.mM,u.lK,u.m8⟩
theorem Inv.flew {X:Cx} {σ:St} {H':Hp} {s':Shared} {B h':Heap} {t':Nat} (I:Inv X [] σ H' s') (p:Plain X) (c:Cov B X.fs X.aL X.aF.heap H') (pn:∀p∈X.pn,B.get? p.1=some p.2) (st:B.StaysIn s'.heap) (fr:s'.heap.FunFrames B X.stack) (st':B.StaysIn h') (g:Gn s'.heap h'):Inv X [] σ H' { s' with heap:=h',toks:=t' }:=by
 have cellK:∀{c':Addr} {v:Option Value},s'.heap.IsCell c' v->h'.IsCell c' v:=fun{c' v} ⟨o,ho,hd⟩=>by
  obtain⟨sl,q⟩:=g.up c' o ho fun vs z=>by rw[hd] at z;cases z
  exact⟨_,q,hd⟩
 refine⟨I.ok,I.os,I.bare,?_,?_,fun x c' e=>let ⟨v,q⟩:=I.cell x c' e;⟨v,cellK q⟩,I.free,I.dR,fun q hq=>?_,I.hok.flew c.trk st st',I.len⟩
 ·have u:=I.base
  rw[p.ex] at u ⊢
  refine yl u c st' g fun b hb o q vs z=>?_
  have:b∈X.stack.filterMap (·.frame):=by
   rw[p.stk.1,List.filterMap_cons,p.stk.2]
   exact List.mem_cons_of_mem _ hb
  obtain⟨_,o',q',n⟩:=fr.mem this
  rw[q] at q';cases q';exact n vs z
 ·obtain⟨m,hn,k⟩:=I.loc
  refine⟨m,g.up.ns hn,fun i x v a b c=>?_⟩
  obtain⟨u,r,l⟩:=k i x v a b c
  refine⟨u,r,l.imp (fun z=>z) fun⟨z,c',e,q⟩=>⟨z,c',e,cellK q⟩⟩
 ·have:=I.pin q hq
  rw[List.append_nil] at hq
  exact⟨st' _ _ (pn q hq),this.2⟩
section
variable {P:Program} {w:World} {K:PySem.W.Frag} {mg:Str->Option Value} {base:Heap}
theorem zy {N:List Str} {qual:Str} {scope:Scope} {f:Addr} {cd:Value} {A:Around} {outer:List Env} {s:Shared} {H:Hp} {E:XK}:ku (gC (CXE P w) P w K mg base N qual scope f cd A outer s H E) E:=by
 rintro e s' ⟨σ,H',B,a,C,dc,rfl,I,ar,c,_,q⟩
 have fr:=ar.fr
 have hA:(gC (CXE P w) P w K mg base N qual scope f cd A outer s H E).A.frames=some (envOfC qual scope s.heap.objs.size f cd::outer):=I.ok.frames
 refine AK hA rfl ar fun h' x g=>?_
 refine⟨H',B,a,C,dc,rfl,I.os,I.bare,yl (show Un (frs outer) [] H H' s.heap s'.heap from I.base) c x.stays g fun b hb o q vs z=>?_,I.hok.flew c.trk ar.stays x.stays,x,c,q⟩
 have:b∈(envOfC qual scope s.heap.objs.size f cd::outer).filterMap (·.frame):=List.mem_cons_of_mem _ hb
 obtain⟨_,o',q',n⟩:=(show s'.heap.FunFrames B (envOfC qual scope s.heap.objs.size f cd::outer) from fr).mem this
 rw[q] at q';cases q';exact n vs z
end
theorem pS {X:Cx} {E:XK} (p:Plain X) (fl:ku X E):Passes (CXE X.prog X.w) X E:=by
 rintro pins σ H s e s' I ⟨H',B,a,C,dc,rfl,os,bare,un,hok,x,c,q⟩
 refine fl _ _ ⟨σ,H',B,a,C,dc,rfl,(I.sy os un hok bare fun b z=>absurd z (by simp)).drop,.inr x,⟨c.trk,fun b o e n hb=>?_⟩,fun p' hp=>?_,q⟩
 rotate_left
 ·obtain⟨q1,q2,q3,q4,q5⟩:=I.pin p' (List.mem_append_left _ hp)
  refine c.old _ _ q1 q2 fun z=>?_
  rcases List.mem_cons.mp (I.gQ _ z) with z | z
  ·exact q3 z
  ·exact q4 z
 have hx:b∉X.ex:=by rw[p.ex];simp
 refine c.old b o (I.base.keep b o e n hb hx) (I.base.free b o e n hx) fun z=>?_
 rcases List.mem_cons.mp (I.gQ b z) with rfl | z
 ·exact absurd (Heap.lt_size e) (Nat.not_lt_of_le I.ok.above)
 ·exact hb z
theorem zm {X:Cx} {E:XK} {pins:List (Addr × Obj)} {σ:St} {H:Hp} {s:Shared} {a:Addr} {h':Heap} {C:Value} {dc:Option Addr} {oe:Obj} {ws:Array Value} {t':Nat} (p:Plain X) (fl:ku X E) (I:Inv X pins σ H s) (k:∀b o,s.heap.get? b=some o->h'.get? b=some o)
  (nw:s.heap.get? a=none) (q1:h'.get? a=some oe) (q2:oe.cls=C) (q3:oe.dict=dc) (q4:oe.data=.fields ws) (q5:ws[1]?=some .none) (q:E C dc H):X.xe (.ref a) { s with heap:=h',toks:=t' }:=by
 have fr:=I.stack
 have nfr:∀b,b∈frs X.stack->H b=none:=I.oH
 refine fl _ _ ⟨σ,H,PySem.W.hideAll s.heap (frs X.stack),a,C,dc,rfl,(I.kept k).drop,.inl ⟨fun b o z=>k b o (PySem.W.of_hideAll _ z),?_,?_,oe,ws,q1,q2,q3,q4,q5⟩,⟨fun b o z=>?_,fun b o e n hb=>?_⟩,fun p' hp=>?_,q⟩
 rotate_right
 ·obtain⟨q1,q2,q3,q4,q5⟩:=I.pin p' (List.mem_append_left _ hp)
  refine PySem.W.hideAll_get _ q1 fun z=>?_
  rcases List.mem_cons.mp (I.gQ _ z) with z | z
  ·exact q3 z
  ·exact q4 z
 ·cases z:(PySem.W.hideAll s.heap (frs X.stack)).get? a with
  | none=>rfl
  | some o=>have:=PySem.W.of_hideAll _ z;rw[nw] at this;cases this
 ·exact(PySem.W.funFrames_hide fr fun env he b hb=>List.mem_filterMap.mpr ⟨env,he,hb⟩).of_keeps fun b o z _=>⟨o,k b o z,rfl⟩
 ·obtain⟨u,hu⟩:=HH (I.hok b o z)
  exact⟨u,PySem.W.hideAll_get _ hu fun hm=>by rw[nfr b hm] at z;cases z⟩
 ·have hx:b∉X.ex:=by rw[p.ex];simp
  refine PySem.W.hideAll_get _ (I.base.keep b o e n hb hx) fun z=>?_
  rcases List.mem_cons.mp (I.gQ b z) with rfl | z
  ·exact absurd (Heap.lt_size e) (Nat.not_lt_of_le I.ok.above)
  ·exact hb z
noncomputable abbrev bmV:List Value:=[.type "ValueError", .type "Exception", .type "BaseException", .type "object"]
theorem Eb {K:PySem.W.Frag} {h:Heap} {C:Addr} {bmB:List Value} {newId:String} (X:K.In h) (q:PySem.W.excIn K C bmB newId=true) :
  ∃bm N nm q' bs hdct sn sub ab col dd k0 k1 k2 k3 k5 mN,h.get? C=some (excClassObj nm q' C N bs bm hdct sn sub ab col dd k0 k1 k2 k3 k5 newId)/\h.Ns N mN/\mN "__init__" = none/\OwnTail h bmB bm:=by
 unfold PySem.W.excIn at q
 split at q
 ·rename_i dd cd sl ho
  split at q
  ·rename_i C' bm k0 k1 k2 k3 n k5 hm hs
   simp only[Bool.and_eq_true,beq_iff_eq,Bool.not_eq_true'] at q
   obtain⟨⟨⟨⟨⟨rfl,rfl⟩,hdel⟩,ht⟩,hok⟩,hni⟩:=q
   obtain⟨nm,bs,mro,ns,qn,hd,sn,sub,ab,col,del⟩:=cd
   dsimp only at hm hdel hok hni
   subst hm hdel
   obtain rfl:sl = #[k0,k1,k2,k3,some (.builtin n),k5]:=by
    obtain⟨l⟩:=sl
    simp only at hs
    rw[hs]
   exact⟨bm,ns,nm,qn,bs,hd,sn,sub,ab,col,dd,k0,k1,k2,k3,k5,_,X _ _ ho,.of_isNs (PySem.W.isNs_of_in X hok),PySem.W.nsMap_none_of_in X hok hni,PySem.W.tail_of_in X ht⟩
  ·cases q
 ·cases q
theorem Ii {X:Cx} {E:XK} {pins:List (Addr × Obj)} {σ:St} {H:Hp} {s:Shared} {x:Str} {C:Addr} {np cpos pos:Pos} {Q:Flow->Shared->Prop} (p:Plain X) (fl:ku X E) (hc:X.calm=true) (I:Inv X pins σ H s) (hg:Gl X x) (hm:X.mg x=some (.ref C)) (hC:PySem.W.excIn X.K C bmV "ValueError.__new__" = true)
  (q:E (.ref C) none H) (hdb:(x == ("__debug__" : Str))=false:=by decide):wpAny (model X.prog X.w) X.A (exec (.Raise (some (.Call (.Name x np) [] [] cpos)) none pos) X.env) Q X.xe s:=by
 obtain⟨tl,N,nm,q',bs,hdct,sn,sub,ab,col,dd,k0,k1,k2,k3,k5,mN,hC',hN,hni,T⟩:=Eb I.kIn hC
 refine wpAny_Raise_call_subT (C:=C) (nm:=nm) (q:=q') (N:=N) (bs:=bs) (bm:=tl) (hdct:=hdct) (sn:=sn) (sub:=sub) (ab:=ab) (col:=col) (dd:=dd) (k0:=k0) (k1:=k1) (k2:=k2) (k3:=k3) (k5:=k5) PySem.F.excBase_ValueError (mN:=mN) (T.hasType PySem.F.excBase_ValueError.hasBase) (I.ok.hd hc) rfl hni (kh I hg hm ⟨rfl,?_⟩ hdb)
 refine evalArgs_empty ⟨rfl,Nat.zero_le _,hC',hN,T,fun h' e me=>?_⟩
 obtain⟨t,he,_,_⟩:=me.there
 exact zm p fl I me.keeps me.new he rfl rfl rfl rfl q
end L2
namespace L2.FE
open PySem PySem.Spec PyProof.Rows
noncomputable def εX (g:GG) (E:XK):EE:=fun _ H' x=>∀(C:Addr) (dc:Option Addr),g x.cls=some C->XFs H' dc x.fs->E (.ref C) dc H'
noncomputable abbrev spE (K:PySem.W.Frag) (g:GG) (np:Nat) (m:MF):Sp:=spG K g (εX g) np m
noncomputable def dO (P:Program) (w:World) (K:PySem.W.Frag) (mg:Str->Option Value) (base:Heap) (g:GG) (x:Str) (k:Nat) (ps:List Str) (m:MF):Prop:=
 ∃f fd,dA P w K mg base (CXE P w) k f fd ps (spE K g ps.length m)/\PySem.W.keepIn K (.ref f)=true/\Binds K fd ps []/\mg x=some (.ref f)
noncomputable def uO (x:Str):MS:=fun _ h=>.err ⟨x,[]⟩ h
noncomputable def noR {β:Type}:R β->R β
 | .ok b h=>.ok b h
 | _=>.bad
@[simp] theorem LS {β:Type} (b:β) (h:Hh):noR (.ok b h)=.ok b h:=rfl
noncomputable def up {β:Type} (m:En->Hh->R β):En->Hh->R β:=fun env h=>noR (m env h)
theorem ue {K:PySem.W.Frag} {g:GG} {ε:EE} {α:List Addr} {H:Hp} {β:Type} {r:R β} {k:β->Hh->Prop} (w:WQ K g ε α H (noR r) k):WQ K g E00 α H r k:=by
 cases r with
 | ok b h=>exact w
 | err x h=>exact w.elim
 | bad=>exact w.elim
section
variable {P:Program} {w:World} {K:PySem.W.Frag} {mg:Str->Option Value} {base:Heap} {g:GG}
theorem jm {x qual:Str} {st:Stmt} {f:Addr} {fd:FuncData} {N ps:List Str} {k:Nat} {mb:MS} (F:Fun K x qual st f fd) (S:aC N ps (ai st))
  (hb:∀(cdv:Value) (A:Around) (outer:List Env) (s:Shared) (H:Hp) (E:XK),dw k (A.deeper (envOfC qual (ai st) s.heap.objs.size f cdv)) →
   ku (gC (CXE P w) P w K mg base N qual (ai st) f cdv A outer s H E) E->Plain (gC (CXE P w) P w K mg base N qual (ai st) f cdv A outer s H E) →
   PassesOwn (model P w) (A.deeper (envOfC qual (ai st) s.heap.objs.size f cdv)) (envOfC qual (ai st) s.heap.objs.size f cdv) (gC (CXE P w) P w K mg base N qual (ai st) f cdv A outer s H E).xe →
   PSs (gC (CXE P w) P w K mg base N qual (ai st) f cdv A outer s H E) (bK st) (tMS K g (εX g E) mb)):dA P w K mg base (CXE P w) (k+1) f fd ps (spE K g ps.length (cu N.length mb)):=by
 obtain⟨oc,od,kV,doc,pm,an,cdv,ct,osl,rfl,lk,hcd⟩:=F.ex
 refine Gr lk hcd S (fun vs H Q E h=>h.1) fun A outer s H vs Q E hr hsp=>⟨_,hb cdv A outer s H E hr zy ⟨rfl,rfl,rfl⟩ PassesOwn.leaving,?_⟩
 obtain⟨hl,α,ds,h,rs,hh,w⟩:=hsp
 refine tMS.use ⟨hh,kg rs⟩ w.bind fun fl h' H' α' e r kk=>?_
 cases fl with
 | nx e'=>exact fun σ' s'=>(show aM K g α H Q .non h' from kk) _ H' α' e r .non
 | bk e'=>exact kk.elim
 | ct e'=>exact kk.elim
 | rt d=>exact fun v rv=>(show aM K g α H Q d h' from kk) _ H' α' e r rv
end
section
variable {X:Cx} {g:GG} {E:XK} {ε:EE}
theorem zi {x:Str} {C:Addr} {np cpos pos:Pos} (fl:ku X E) (pl:Plain X) (hc:X.calm=true) (hg:Gl X x) (hm:X.mg x=some (.ref C)) (hgx:g x=some C) (hC:PySem.W.excIn X.K C bmV "ValueError.__new__" = true) (hdb:(x == ("__debug__" : Str))=false:=by decide) :
  PS X (.Raise (some (.Call (.Name x np) [] [] cpos)) none pos) (tMS X.K g (εX g E) (uO x)):=fun pins s σ H D I ⟨α,env,h,sr,w⟩=>
 Ii pl fl hc I hg hm hC (w α H Ext.refl sr.heap C none hgx (.inl ⟨rfl,rfl⟩)) hdb
theorem cj {k:Nat} {f:Addr} {fd:FuncData} {ps:List Str} {m:MF} {np:Nat} {x:Str} {p pos:Pos} {e:Expr} {es:List Expr} {mr:MA} (fl:ku X E) (pl:Plain X) (F:dA X.prog X.w X.K X.mg X.base (CXE X.prog X.w) k f fd ps (spE X.K g np m)) (hr:dw k X.A) (hg:Gl X x) (hm:X.mg x=some (.ref f)) (hk:PySem.W.keepIn X.K (.ref f)=true) (hb:Binds X.K fd ps [])
  (ha:PA X (e::es) (tMA X.K g (εX g E) mr)) (hlen:∀env h ds h',mr env h=.ok ds h'->ds.length=np) (hdb:(x == ("__debug__" : Str))=false:=by decide) (he:starEach (e::es) X.env=(false,eval e X.env)::starEach es X.env:=by rfl) (hpl:(backTo pos (starEach es X.env)).any (·.1)=false:=by rfl) :
  PE X (.Call (.Name x p) (e::es) [] pos) (tM X.K g (εX g E) (aj m mr)):=
 PE.imp (yo F hr hg hm hk hb .nil (pS pl fl) ha hdb he hpl) fun σ H Q ⟨α,env,h,s,w⟩=>⟨α,env,h,s,w.bind.mono fun d1 h1 eq w1 v1 H1 α1 e1 hr1 r1=>by
  show spE X.K g np m (v1++[]) H1 Q E
  rw[List.append_nil]
  refine⟨?_,α1,d1,h1,r1,hr1,w1.post e1⟩
  rw[<- r1.length]
  exact hlen env h d1 h1 eq⟩
theorem _root_.L2.PS.nox {e:Stmt} {t:TS} (h:PS X.nox e t):PS X e t:=fun pins s σ H D I hw=>
 wpAny_mono (h pins s σ H D (I.nq _) hw) (fun _ _ q=>q.gw) fun _ _ z=>False.elim z
theorem bE {e:Expr} {m:ME} (h:PE X.nox e (tM X.K g E00 m)):PE X e (tM X.K g ε (up m)):=PE.imp h.nox fun σ H Q ⟨α,env,h,s,w⟩=>⟨α,env,h,s,ue w⟩
theorem Bm {e:Expr} {m:MT} (h:PT X.nox e (tMT X.K g E00 m)):PT X e (tMT X.K g ε (up m)):=PT.imp h.nox fun σ H Q ⟨α,env,h,s,w⟩=>⟨α,env,h,s,ue w⟩
theorem lh {e:Stmt} {m:MS} (h:PS X.nox e (tMS X.K g E00 m)):PS X e (tMS X.K g ε (up m)):=PS.imp h.nox fun σ H Q ⟨α,env,h,s,w⟩=>⟨α,env,h,s,ue w⟩
theorem CC {e:Expr}:PE X e (tM X.K g ε fun _ _=>.bad):=fun pins s σ H Q I ⟨α,env,h,sr,w⟩=>w.elim
end
end L2.FE
namespace L2
open PySem PySem.Spec PyProof.Rows
noncomputable abbrev unm (A:Around):Around:={ A with handled:=none }
section
variable {X:Cx} {pins:List (Addr × Obj)} {σ:St} {H:Hp} {s:Shared}
noncomputable abbrev Cx.hand (X:Cx) (A:Around) (pn:List (Addr × Obj)) (E:Value->Shared->Prop):Cx:={ X with A:=A,calm:=false,pn:=pn,xe:=E }
theorem Inv.hand (I:Inv X pins σ H s) {A:Around} (hA:A.frames=X.A.frames) {pn pins':List (Addr × Obj)} (hp:∀p∈pn++pins',p∈X.pn++pins) (E:Value->Shared->Prop):Inv (X.hand A pn E) pins' σ H s:=
 ⟨⟨I.ok.mod,I.ok.kind,I.ok.glob,I.ok.blt,I.ok.above,I.ok.inj,I.ok.has,I.ok.cab,fun z=>(nomatch z),hA.trans I.ok.frames,I.ok.stk,I.ok.exf,I.ok.bs,I.ok.bsz,I.ok.qA,I.ok.vj,I.ok.jQ,I.ok.frf⟩,I.os,I.bare,I.base,I.loc,I.cell,I.free,I.dR,fun p h=>I.pin p (hp p h),I.hok,I.len⟩
noncomputable abbrev Cx.wpn (X:Cx) (pn:List (Addr × Obj)) (E:Value->Shared->Prop):Cx:={ X with pn:=pn,xe:=E }
theorem Inv.wpn (I:Inv X pins σ H s) {pn pins':List (Addr × Obj)} (hp:∀p∈pn++pins',p∈X.pn++pins) (E:Value->Shared->Prop):Inv (X.wpn pn E) pins' σ H s:=
 ⟨⟨I.ok.mod,I.ok.kind,I.ok.glob,I.ok.blt,I.ok.above,I.ok.inj,I.ok.has,I.ok.cab,I.ok.hd,I.ok.frames,I.ok.stk,I.ok.exf,I.ok.bs,I.ok.bsz,I.ok.qA,I.ok.vj,I.ok.jQ,I.ok.frf⟩,I.os,I.bare,I.base,I.loc,I.cell,I.free,I.dR,fun p h=>I.pin p (hp p h),I.hok,I.len⟩
theorem Inv.back {A:Around} {pn pins':List (Addr × Obj)} {E:Value->Shared->Prop} (J:Inv (X.hand A pn E) pins' σ H s) (ok:X.Ok) (hp:∀p∈X.pn++pins,p∈pn++pins'):Inv X pins σ H s:=
 ⟨ok,J.os,J.bare,J.base,J.loc,J.cell,J.free,J.dR,fun p h=>J.pin p (hp p h),J.hok,J.len⟩
theorem Inv.adopt {B:Heap} {a:Addr} {oe:Obj} {ws:Array Value} (I:Inv X [] σ H s) (p:Plain X) (c:Cov B X.fs X.aL X.aF.heap H) (pn:∀p∈X.pn,B.get? p.1=some p.2) (fr:s.heap.FunFrames B X.stack) (nw:B.get? a=none) (q1:s.heap.get? a=some oe) (q4:oe.data=.fields ws) :
  H a=none/\Inv X [] σ (upd H a (FE.AtO a oe)) s:=by
 have hn:H a=none:=by
  cases z:H a with
  | none=>rfl
  | some o=>obtain⟨u,hu⟩:=c.trk a o z;rw[nw] at hu;cases hu
 have nfr:∀b∈X.env.locals::X.fs,b≠a:=by
  rintro b hb rfl
  have:b∈X.stack.filterMap (·.frame):=by
   rw[p.stk.1,List.filterMap_cons,p.stk.2]
   exact hb
  obtain⟨_,o',q',n⟩:=fr.mem this
  rw[q1] at q';cases q';exact n ws q4
 refine⟨hn,I.ok,I.os,I.bare,?_,I.loc,I.cell,?_,fun x c' e=>?_,fun q hq=>?_,fun b o e=>?_,I.len⟩
 ·obtain⟨u1,u2,u3,u4,u5,u6,u7⟩:=I.base
  refine⟨u1,u2,fun b o e n hx=>?_,u4,fun b xs q=>?_,fun b o u q=>?_,fun b ps q=>?_⟩
  ·rw[aD ?_];exact u3 b o e n hx
   rintro rfl
   by_cases hb:b∈X.fs
   ·exact nfr b (List.mem_cons_of_mem _ hb) rfl
   ·have:=c.old b o e n hb
    rw[nw] at this;cases this
  ·have:=u5 b xs q
   rw[aD (aP this hn)];exact this
  ·have:=u6 b o u q
   rw[aD (aP this hn)];exact this
  ·obtain⟨more,this⟩:=u7 b ps q
   exact⟨more,by rw[aD (aP this hn)];exact this⟩
 ·rw[aD (nfr _ List.mem_cons_self)];exact I.free
 ·rw[aD ?_];exact I.dR x c' e
  rintro rfl
  obtain⟨v,o,ho,hd⟩:=I.cell x c' e
  rw[q1] at ho;cases ho;rw[q4] at hd;cases hd
 ·have z:=I.pin q hq
  refine⟨z.1,?_,z.2.2⟩
  rw[aD ?_];exact z.2.1
  rintro e
  rw[List.append_nil] at hq
  have:=pn q hq
  rw[e,nw] at this;cases this
 ·by_cases hb:b=a
  ·subst hb
   rw[aZ] at e;cases e
   exact⟨q1,q1,⟨_,q1⟩,fun h1 h2 z k=>k _ z⟩
  ·rw[aD hb] at e
   exact(I.hok b o e).kr (fun _ _ _ z=>z) (fun c' z=>by rw[aD (aP z hn)];exact z) fun c' xs z=>by rw[aD (aP z hn)];exact z
theorem Inv.forget {i:Nat} {x:Str} {m m':Str->Option Value} {h':Heap} {t':Nat} (I:Inv X pins σ H s) (hN:X.N.Nodup) (hi:X.N[i]?=some x) (hn:s.heap.Ns X.env.locals m) (hn':h'.Ns X.env.locals m') (hm:∀y,y≠x->m' y=m y) (sb:Heap.SameBut X.env.locals s.heap h'):Inv X pins (σ.set i none) H { s with heap:=h',toks:=t' }:=by
 have kp:∀b,b≠X.env.locals->h'.get? b=s.heap.get? b:=fun b n=>sb.2 b n
 have cellK:∀y c v,X.env.cells.lookup y=some c->s.heap.IsCell c v->h'.IsCell c v:=fun y c v e ⟨o,ho,hd⟩=>⟨o,by rw[kp c (I.cne y c e)];exact ho,hd⟩
 refine⟨I.ok,I.os,I.bare,?_,⟨m',hn',fun j y v a b c=>?_⟩,fun y c e=>let ⟨v,q⟩:=I.cell y c e;⟨v,cellK y c v e q⟩,I.free,I.dR,fun q hq=>?_,fun b o e=>?_,by rw[List.length_set];exact I.len⟩
 ·obtain⟨u1,u2,u3,u4,u5,u6,u7⟩:=I.base
  have ne:∀b o,X.aF.heap.get? b=some o->b≠X.env.locals:=fun b o e=>Nat.ne_of_lt (Nat.lt_of_lt_of_le (Heap.lt_size e) I.ok.above)
  exact⟨fun b o e n h1 h2=>by rw[kp b (ne b o e)];exact u1 b o e n h1 h2,fun b o e n h1 h2=>by rw[kp b (ne b o e)];exact u2 b o e n h1 h2,u3,fun b o e h2=>by rw[kp b (ne b o e)];exact u4 b o e h2,u5,u6,u7⟩
 ·rw[List.getElem?_set] at b
  by_cases hj:i=j
  ·rw[if_pos hj] at b
   split at b<;>cases b
  ·rw[if_neg hj] at b
   obtain⟨m0,hn0,k⟩:=I.loc
   obtain⟨u,r,l⟩:=k j y v a b c
   have hy:y≠x:=by
    rintro rfl
    exact hj ((List.getElem?_inj (List.getElem?_eq_some_iff.mp hi).1 hN).mp (hi.trans a.symm))
   have e0:m0=m:=by
    obtain⟨o1,es1,ep1,a1,a2,a3,a4⟩:=hn0
    obtain⟨o2,es2,ep2,b1,b2,b3,b4⟩:=hn
    rw[a1] at b1;cases b1
    rw[a2] at b2;cases b2
    funext y;rw[<- a4,<- b4]
   subst e0
   refine⟨u,r,l.imp (fun z=>⟨z.1,by rw[hm y hy];exact z.2⟩) fun⟨z,c',e,q⟩=>⟨z,c',e,cellK y c' _ e q⟩⟩
 ·have z:=I.pin q hq
  exact⟨by rw[kp _ z.2.2.1];exact z.1,z.2⟩
 ·exact(I.hok b o e).kr (fun c' u hc q=>by
   rw[kp c' ?_];exact q
   rintro rfl
   rcases hc with rfl | hc
   ·rw[I.free] at e;cases e
   ·rw[I.free] at hc;cases hc) (fun _ q=>q) fun _ _ q=>q
end
structure FnH (P:Program) (w:World) (K:PySem.W.Frag) (mg:Str->Option Value) (base:Heap) (k:Nat) (f:Addr) (fd:FuncData) (ps:List Str) (sp:Sp):Prop where
 len:∀vs H Q E,sp vs H Q E->vs.length=ps.length
 run:∀(A:Around) (outer:List Env) (s:Shared) (H:Hp) (args:Args) (us:List Value) (vs:List V) (Q:VK) (E:XK),dw k (unm A)->xP P w K mg base A outer s H->BindsTo s fd args (ps.zip us)->Vals vs us->sp vs H Q E →
  codeAny (model P w) A (.call (.ref f) args) (CR CX0 outer P w H s Q E) s
theorem FnH.mono {P:Program} {w:World} {K:PySem.W.Frag} {mg:Str->Option Value} {base:Heap} {j k:Nat} {f:Addr} {fd:FuncData} {ps:List Str} {sp:Sp} (F:FnH P w K mg base j f fd ps sp) (h:j<=k):FnH P w K mg base k f fd ps sp:=
 ⟨F.len,fun A outer s H args us vs Q E hr=>F.run A outer s H args us vs Q E (hr.mono h)⟩
section
variable {P:Program} {w:World} {K:PySem.W.Frag} {mg:Str->Option Value} {base:Heap}
noncomputable abbrev cxH (P:Program) (w:World) (K:PySem.W.Frag) (mg:Str->Option Value) (base:Heap) (N:List Str) (qual:Str) (scope:Scope) (f:Addr) (cd:Value) (A:Around) (outer:List Env) (s:Shared) (H:Hp) (E:XK):Cx:=
 (gC CX0 P w K mg base N qual scope f cd A outer s H E).hand (A.deeper (envOfC qual scope s.heap.objs.size f cd)) [] fun _ _=>False
theorem G6 {x qual:Str} {st:Stmt} {f:Addr} {fd:FuncData} {N ps:List Str} {k:Nat} {sp:Sp} (F:Fun K x qual st f fd) (S:aC N ps (ai st)) (len:∀vs H Q E,sp vs H Q E->vs.length=ps.length)
  (hbody:∀(cdv:Value) (A:Around) (outer:List Env) (s:Shared) (H:Hp) (vs:List V) (Q:VK) (E:XK),dw k (unm (A.deeper (envOfC qual (ai st) s.heap.objs.size f cdv)))->sp vs H Q E →
   ∃t,PSs (cxH P w K mg base N qual (ai st) f cdv A outer s H E) (bK st) t/\t { nx:=fun _ H'=>Q .non H',rt:=Q } (start N vs) H):FnH P w K mg base (k+1) f fd ps sp:=by
 obtain⟨oc,od,kV,doc,pm,an,cdv,ct,osl,rfl,lk,hcd⟩:=F.ex
 refine⟨len,fun A outer s H args us vs Q E hr e0 hb r hsp=>?_⟩
 have hl:=len _ _ _ _ hsp
 have KX:K.In s.heap:=e0.mod.kin.keeps fun b o e=>(e0.bs b o e).1
 have lim:s.heap.NoLimit:=e0.mod.nolimit.keeps fun b o e=>(e0.bs b o e).1
 have hkind:∀y∈ps.zip us,(ai st).names.lookup y.1=some .local\/((ai st).names.lookup y.1=some .cell/\((cellsFrom (s.heap.objs.size+1) (ai st).names []).lookup y.1).isSome=true):=fun⟨n,v⟩ hy=>by
  rcases S.par n (List.of_mem_zip hy).1 with q | q
  ·exact .inl q
  ·exact .inr ⟨q,PySem.W.cellsFrom_some _ _ _ (.inl q)⟩
 have hdp:A.depth<recursionLimit:=dw.depth (A:=unm A) hr
 refine codeAny_call_function hdp (KX _ _ lk) rfl S.co S.gen rfl (PySem.W.codeRec_of KX hcd) (hb _ _ _ _ ?_)
 refine wpAny_newFunctionEnv_cells S.kind hkind fun env he s1 x=>?_
 subst he
 refine⟨lim.keeps x.toInCall.keep,codeAny_func ?_⟩
 obtain⟨t,ht,hq⟩:=hbody cdv A outer s H vs Q E (hr.deeper _) hsp
 have I0:Inv (gC CX0 P w K mg base N qual (ai st) f cdv (unm A) outer s H E) [] (start N vs) H s1:=l_ S rfl ⟨e0.frames,e0.mod,e0.bs,e0.bsz,e0.jQ,e0.frf,e0.hok,e0.bare⟩ hl r x
 have I:Inv (cxH P w K mg base N qual (ai st) f cdv A outer s H E) [] (start N vs) H s1:=
  ⟨⟨I0.ok.mod,I0.ok.kind,I0.ok.glob,I0.ok.blt,I0.ok.above,I0.ok.inj,I0.ok.has,I0.ok.cab,fun z=>(nomatch z),Around.frames_deeper e0.frames,I0.ok.stk,I0.ok.exf,I0.ok.bs,I0.ok.bsz,I0.ok.qA,I0.ok.vj,I0.ok.jQ,I0.ok.frf⟩,I0.os,I0.bare,I0.base,I0.loc,I0.cell,I0.free,I0.dR,I0.pin,I0.hok,I0.len⟩
 refine wpAny_mono (ht [] s1 (start N vs) H _ I hq) (fun fl s' hs=>?_) fun e s' hs=>hs.elim
 have fin:∀{σ':St} {H':Hp} {v:V} {u:Value},Inv (cxH P w K mg base N qual (ai st) f cdv A outer s H E) [] σ' H' s'->RelV v u->Q v H'->CE outer P w H s Q u s':=
  fun{σ' H' v u} J rv q=>⟨v,H',J.os,J.bare,J.base,J.hok,rv,q⟩
 cases fl with
 | ret u=>
  obtain⟨v,σ',H',J,rv,q⟩:=hs
  exact fin J rv q
 | next=>
  obtain⟨σ',H',J,q⟩:=hs
  exact fin (v:=V.non) (u:=Value.none) J rfl q
 | brk=>
  obtain⟨_,_,_,q⟩:=hs
  exact q.elim
 | cont=>
  obtain⟨_,_,_,q⟩:=hs
  exact q.elim
end
section
variable {X:Cx} {k:Nat} {f:Addr} {fd:FuncData} {ps:List Str} {sp:Sp} {x:Str} {p pos:Pos} {e:Expr} {es:List Expr} {t:TA}
theorem uW (F:FnH X.prog X.w X.K X.mg X.base k f fd ps sp) (hr:dw k (unm X.A)) (hg:Gl X x) (hm:X.mg x=some (.ref f)) (hk:PySem.W.keepIn X.K (.ref f)=true) (hb:Binds X.K fd ps [])
  (ha:PA X (e::es) t) (hdb:(x == ("__debug__" : Str))=false:=by decide) (he:starEach (e::es) X.env=(false,eval e X.env)::starEach es X.env:=by rfl) (hpl:(backTo pos (starEach es X.env)).any (·.1)=false:=by rfl) :
  PE X (.Call (.Name x p) (e::es) [] pos) (Gd sp [] E0 t):=by
 intro pins s σ H Q I h
 refine wpAny_Call_Name_kw (kh I hg hm ?_ hdb)
 refine PySem.W.callWith_K (h₀:=X.base) I.ok.mod.kin hk (thn (ha pos pins s σ H _ I h) fun us s1 ⟨vs,H1,I1,r,q⟩=>⟨I1.kIn,?_⟩) he hpl
 replace q:sp vs H1 Q E0:=by simpa using q
 have hl:us.length=ps.length:=by rw[<- r.length];exact F.len _ _ _ _ q
 have hbb:=hb s1 us I1.kIn (by rw[List.append_nil];exact hl)
 rw[List.append_nil] at hbb
 refine wpAny_call (codeAny_mono (F.run X.A X.stack s1 H1 ⟨us,[]⟩ us vs Q E0 hr I1.GH hbb r q) fun r s' hq=>?_)
 cases r with
 | error e=>exact hq.elim
 | ok fl=>
  cases fl with
  | ret u=>exact I1.after hq
  | next=>exact hq.elim
  | brk=>exact hq.elim
  | cont=>exact hq.elim
end
end L2
namespace L2
open PySem PySem.Spec PyProof.Rows PySem.W
theorem zP:plainId "BaseException.__getattribute__" = true:=by decide +kernel
theorem Dy:builtinKind "BaseException.__getattribute__" = some .slot:=by decide +kernel
theorem zz:splitId "BaseException.__getattribute__" = some ("BaseException", "__getattribute__"):=by decide +kernel
theorem A8 (v:Value):bindSpecial (.builtin "BaseException.__getattribute__") v=pure (.builtin "BaseException.__getattribute__", [v]):=F.excAttr_ValueError.ga.bind v
section
variable {prog:Program} {w:World} {A:Around} {E:Value->Shared->Prop} {s:Shared} {K:Frag} {x D:Addr} {ox:Obj} {odo:Option Obj} {name:Str}
theorem E8 {g0 a0:Value} {tk:Tok} {Q:Fin->Shared->Prop} (X:K.In s.heap) (I:InstAt s.heap x ox D odo) (hf:findObj K D odo name=some (.bind g0 a0)) (h:wpAny (model prog w) A (call g0 [a0,.ref x,.ref D]) (fun v s'=>Q (.done (.ret v)) s') E s) :
  wpAny (model prog w) A (Builtin.«object.__getattribute__» ⟨[.ref x,.str name tk],[]⟩) Q E s:=by
 obtain⟨hh,gg,d,t,os⟩:=s
 have L0:=I.type (M:=model prog w)
 have L1:=looks_find (M:=model prog w) X I hf
 unfold Builtin.«object.__getattribute__»
 refine wpAny_bind (wpAny_pure (wpAny_bind (wpAny_pure (wpAny_bind (L0.at (wpAny_bind (L1.at ?_)))))))
 exact wpAny_bind (wpAny_holding (wpAny_mono h (fun v s' z=>wpAny_pure z) fun _ _ z=>z))
theorem Ck {g0 a0:Value} {tk:Tok} {R:Result->Shared->Prop} (X:K.In s.heap) (I:InstAt s.heap x ox D odo) (hsub:mroIn K D (.type "BaseException")=some true) (hf:findObj K D odo name=some (.bind g0 a0))
  (h:wpAny (model prog w) A.in1 (call g0 [a0,.ref x,.ref D]) (fun v s'=>R (.ok (.ret v)) s') (fun e s'=>R (.error e) s') s) :
  codeAny (model prog w) A (.call (.builtin "BaseException.__getattribute__") ⟨[.ref x,.str name tk],[]⟩) R s:=by
 have L0:=I.type (M:=model prog w)
 have L3:Looks (model prog w) s.heap (isInstance (.ref x) (.type "BaseException")) true:=L0.andThen (looks_mroIn X hsub)
 refine codeAny_call_builtin zP F.entry_bexc_ga ?_
 refine check_slot (i:="BaseException.__getattribute__") Dy zz L3 (F.args_bexc_ga (.ref x) (.str name tk)) ?_
 exact E8 X I hf h
theorem A5 {g0 a0 v0:Value} {Q:Option Value->Shared->Prop} (X:K.In s.heap) (I:InstAt s.heap x ox D odo) (hga:findIn K (.ref D) "__getattribute__" = some (some (.builtin "BaseException.__getattribute__"))) (hhk:findIn K (.ref D) "__getattr__" = some none) (hsub:mroIn K D (.type "BaseException")=some true)
  (hf:findObj K D odo name=some (.bind g0 a0)) (hv:handedIn v0=true)
  (h:∀(A:Around) (E:Value->Shared->Prop) (Q':Value->Shared->Prop),Q' v0 { s with toks:=s.toks+1 }->wpAny (model prog w) A (call g0 [a0,.ref x,.ref D]) Q' E { s with toks:=s.toks+1 })
  (q:Q (some v0) { s with toks:=s.toks+1 }):wpAny (model prog w) A (getAttr? (.ref x) name) Q E s:=by
 obtain⟨hh,gg,d,t,os⟩:=s
 have L0:=I.type (M:=model prog w)
 have L1:=looks_findIn (M:=model prog w) X hga
 have L2:=looks_findIn (M:=model prog w) X hhk
 have L3:Looks (model prog w) hh (isInstance (.ref x) (.type "BaseException")) true:=L0.andThen (looks_mroIn X hsub)
 unfold getAttr? getAttrBy? getAttrBy
 refine wpAny_bind (wpAny_mkText (wpAny_bind (wpAny_attempt (wpAny_holding (wpAny_bind (L0.at (wpAny_bind (L1.at ?_))))))))
 dsimp only
 rw[if_neg (show ¬ ((onTheHeap (Value.ref D)&&(Value.builtin "BaseException.__getattribute__" == Value.builtin "object.__getattribute__"))=true) from by rw[show(Value.builtin "BaseException.__getattribute__" == Value.builtin "object.__getattribute__")=false from by decide +kernel,Bool.and_false];decide)]
 unfold getAttrByItsOwn hookBefore
 rw[if_pos (show onTheHeap (.ref D)=true from rfl)]
 refine wpAny_bind (L2.at (wpAny_bind (wpAny_attempt (wpAny_holding ?_))))
 unfold callGetattribute
 rw[if_neg (show ¬ ((false&&_)=true) from by simp)]
 unfold boundAndCalled
 rw[A8]
 refine wpAny_bind (wpAny_pure ?_)
 show wpAny (model prog w) A (call (.builtin "BaseException.__getattribute__") [.ref x,.str name t]) _ _ _
 refine wpAny_call (Ck (s:=⟨hh,gg,d,t+1,os⟩) X I hsub hf (h _ _ _ ?_))
 exact handed_on hv (wpAny_pure q)
end
theorem Cb {K:Frag} {x D:Addr} {ox:Obj} {odo:Option Obj} (hga:findIn K (.ref D) "__getattribute__" = some (some (.builtin "BaseException.__getattribute__"))) (hhk:findIn K (.ref D) "__getattr__" = some none) (hsub:mroIn K D (.type "BaseException")=some true) (hdct:hasDictIn K D=true) (ha:findIn K (.ref D) "__class__" = some (some (.builtin "object.__class__")))
  (hn:specialIn K (.builtin "object.__class__") "__get__" = some (some (.builtin "getset_descriptor.__get__"))) (htk:takesIn K (.builtin "object.__class__")=some true) (hm:mroIn K D (.type "object")=some true) :
  KitX K (.ref x) (.ref D) (fun h=>InstAt h x ox D odo):=by
 obtain⟨cdD,hcD,_⟩:=any_some hdct
 have hlk:∃c' d' cd' sl',K.lookup D=some ⟨c',d',.cls cd',sl'⟩:=by
  unfold clsIn at hcD
  split at hcD
  ·exact⟨_,_,_,_,by assumption⟩
  ·cases hcD
 obtain⟨c',d',cd',sl',ho⟩:=hlk
 refine⟨fun _ _ _ I=>I.type,fun _ _ X _=>?_,fun h tp dd its n sl X htp=>?_,fun{prog w A E Q s} X I k=>?_⟩
 ·intro A' Q' E' s' k q
  unfold isType loadHead
  exact wpAny_bind (wpAny_loadPart (k _ _ (X _ _ ho)) (wpAny_pure q))
 ·refine Bool.eq_false_iff.mpr fun q=>?_
  have e:D=tp:=Value.ref.inj (beq_iff_eq.mp q)
  subst e
  have z:=(X _ _ ho).symm.trans htp
  cases z
 ·have hf:findObj K D odo "__class__" = some (.bind (.builtin "getset_descriptor.__get__") (.builtin "object.__class__")):=by
   unfold findObj
   rw[hcD,Option.bind_some,ha,Option.bind_some]
   simp[hn,htk]
  exact A5 X I hga hhk hsub hf rfl (fun A E Q' q'=>wpAny_call (class_get (s:={ s with toks:=s.toks+1 }) (ox:=ox) (od:=odo) X I hm q')) k
noncomputable abbrev bM:List Str:=["FallError", "NoOrder", "NoNumber", "NoSet", "NoRow", "NoLine", "NoText", "TooGreat"]
noncomputable def xH (c x:Str):Bool:=c == x || x == "FallError"
noncomputable def Cj (c:Str):Bool:=!(c == "NoText" || c == "TooGreat")
noncomputable def xc (K:Frag) (D:Addr):Bool:=findIn K (.ref D) "__getattribute__" == some (some (.builtin "BaseException.__getattribute__"))&&findIn K (.ref D) "__getattr__" == some none&&mroIn K D (.type "BaseException") == some true&&hasDictIn K D&&findIn K (.ref D) "__class__" == some (some (.builtin "object.__class__"))&&specialIn K (.builtin "object.__class__") "__get__" == some (some (.builtin "getset_descriptor.__get__"))&&takesIn K (.builtin "object.__class__") == some true&&mroIn K D (.type "object") == some true
noncomputable def Ga (K:Frag) (l:List (Str × Addr)):Bool:=l.all fun p=>xc K p.2&&kitOne K (.ref p.2) (.type "ValueError") == some true&&(!Cj p.1 || excIn K p.2 bmV "ValueError.__new__")&&l.all fun q=>kitOne K (.ref p.2) (.ref q.2) == some (xH p.1 q.1)&&(!(q.1 == "FallError") || exmOne K (.ref p.2) (.ref q.2) == some true)
noncomputable def Dg (K:Frag):Prop:=∃l:List (Str × Addr),l.map (·.1)=bM/\(∀p∈l,nsIn K mainGlobals p.1=some (some (.ref p.2)))/\Ga K l=true
theorem Hi {K:Frag} {a0 a1 a2 a3 a4 a5 a6 a7:Addr} (e0:nsIn K mainGlobals "FallError" = some (some (.ref a0))) (e1:nsIn K mainGlobals "NoOrder" = some (some (.ref a1))) (e2:nsIn K mainGlobals "NoNumber" = some (some (.ref a2))) (e3:nsIn K mainGlobals "NoSet" = some (some (.ref a3)))
  (e4:nsIn K mainGlobals "NoRow" = some (some (.ref a4))) (e5:nsIn K mainGlobals "NoLine" = some (some (.ref a5))) (e6:nsIn K mainGlobals "NoText" = some (some (.ref a6))) (e7:nsIn K mainGlobals "TooGreat" = some (some (.ref a7)))
  (c:Ga K [("FallError", a0),("NoOrder", a1),("NoNumber", a2),("NoSet", a3),("NoRow", a4),("NoLine", a5),("NoText", a6),("TooGreat", a7)]=true):Dg K:=
 ⟨_,rfl,by
  intro p hp
  simp only[List.mem_cons,List.not_mem_nil,or_false] at hp
  rcases hp with rfl | rfl | rfl | rfl | rfl | rfl | rfl | rfl<;>assumption,c⟩
structure n6 (K:Frag) (mg:Str->Option Value):Prop where
 at_:∀c∈bM,∃C,mg c=some (.ref C)
 one:∀c∈bM,∀C,mg c=some (.ref C)->xc K C=true/\kitOne K (.ref C) (.type "ValueError")=some true/\(Cj c=true->excIn K C bmV "ValueError.__new__" = true)
 two:∀c∈bM,∀C,mg c=some (.ref C)->∀x∈bM,∀X,mg x=some (.ref X)->kitOne K (.ref C) (.ref X)=some (xH c x)
 exm:∀c∈bM,∀C,mg c=some (.ref C)->∀X,mg "FallError" = some (.ref X)->exmOne K (.ref C) (.ref X)=some true
theorem n6.of {K:Frag} {h:Heap} {mg:Str->Option Value} (X:K.In h) (G:h.Ns mainGlobals mg) (k:Dg K):n6 K mg:=by
 obtain⟨l,h1,h2,h3⟩:=k
 have mem:∀c∈bM,∀C,mg c=some (.ref C)->(c,C)∈l:=fun c hc C e=>by
  rw[<- h1] at hc
  obtain⟨p,hp,rfl⟩:=List.mem_map.mp hc
  have:=mg_of X G (h2 p hp)
  rw[e] at this;cases this
  exact hp
 have al:=List.all_eq_true.mp h3
 refine⟨fun c hc=>?_,fun c hc C e=>?_,fun c hc C e x hx D e'=>?_,fun c hc C e D e'=>?_⟩
 ·rw[<- h1] at hc
  obtain⟨p,hp,rfl⟩:=List.mem_map.mp hc
  exact⟨_,mg_of X G (h2 p hp)⟩
 ·have:=al _ (mem c hc C e)
  simp only[Bool.and_eq_true,beq_iff_eq,Bool.or_eq_true,Bool.not_eq_true'] at this
  refine⟨this.1.1.1,this.1.1.2,fun z=>this.1.2.elim (fun y=>?_) fun y=>y⟩
  rw[z] at y;cases y
 ·have:=al _ (mem c hc C e)
  simp only[Bool.and_eq_true] at this
  have:=List.all_eq_true.mp this.2 _ (mem x hx D e')
  simp only[Bool.and_eq_true,beq_iff_eq] at this
  exact this.1
 ·have:=al _ (mem c hc C e)
  simp only[Bool.and_eq_true] at this
  have:=List.all_eq_true.mp this.2 _ (mem "FallError" (by decide) D e')
  simp only[Bool.and_eq_true,beq_iff_eq,Bool.or_eq_true,Bool.not_eq_true'] at this
  rcases this.2 with z | z
  ·exact absurd z (by decide)
  ·exact z
theorem Ak {P:Program} {w:World} {H:Hp} {h:Heap} {p C:Addr} {o:Obj} {fs:List (Str × Int)} (ok:HOk P w H h) (q:H p=some (FE.AtO p o)) (hc:o.cls=.ref C) (hd:∃vs,o.data=.fields vs) (xf:FE.XFs H o.dict fs):∃odo,InstAt h p o C odo:=by
 obtain⟨q1,_⟩:=ok p _ q
 obtain⟨vs,hd⟩:=hd
 have nc:notCls o=true:=by unfold notCls;rw[hd]
 rcases xf with⟨z,_⟩ | ⟨dx,od,z,q2⟩
 ·exact⟨none,q1,hc,nc,by rw[z];trivial⟩
 ·obtain⟨q3,_⟩:=ok dx _ q2
  exact⟨some od,q1,hc,nc,by rw[z];exact q3⟩
end L2
namespace L2.FE
open PySem PySem.Spec PyProof.Rows
section
variable {X:Cx} {g:GG} {ε:EE} {K:PySem.W.Frag}
noncomputable def tU (x:Str):D->Hh->R D:=fun d h=>match d with
 | .exc c _=>if (bM.contains c&&bM.contains x)=true then .ok (.bl (xH c x)) h else .bad
 | _=>.bad
noncomputable def GJ:D->Hh->R D:=fun d h=>match d with
 | .exc c _=>if bM.contains c=true then .ok (.bl true) h else .bad
 | _=>.bad
theorem lO {mg:Str->Option Value} {x:Str} {f:Addr} (h:gOf mg x=some f):mg x=some (.ref f):=by
 unfold gOf at h
 split at h
 ·cases h;assumption
 ·cases h
theorem u_ (hc:n6 X.K X.mg) (hgo:g=gOf X.mg):bp X (.builtin "isinstance") (fun vs H Q=>∃p D o c fs C b,vs=[.ref p,D]/\g c=some C/\H p=some (AtO p o)/\o.cls=.ref C/\(∃us,o.data=.fields us)/\XFs H o.dict fs/\bM.contains c=true/\(∀u,RelV D u->PySem.W.kitOne X.K (.ref C) u=some b)/\Q (.bl b) H):=by
 intro pins s σ H xs us Q I r h
 obtain⟨p,D,o,c,fs,C,b,rfl,hg,hp,hcl,hd,xf,hcn,hk,q⟩:=h
 cases r with
 | @cons _ _ _ _ r1 r2=>
  cases r2 with
  | @cons _ u _ _ r3 r4=>
   cases r4
   cases r1
   obtain⟨odo,ia⟩:=Ak I.hok hp hcl hd xf
   subst hgo
   have hC:=lO hg
   have k1:=(hc.one c (by simpa using hcn) C hC).1
   unfold xc at k1
   simp only[Bool.and_eq_true,beq_iff_eq] at k1
   obtain⟨⟨⟨⟨⟨⟨⟨a1,a1b⟩,a1c⟩,a2⟩,a3⟩,a4⟩,a5⟩,a6⟩:=k1
   refine PySem.W.kia_one (Cb a1 a1b a1c a2 a3 a4 a5 a6) I.kIn ia (hk u r3) (by intro z;cases z) fun tk=>?_
   exact⟨.bl b,H,I.kept (h':=s.heap) (t':=tk) fun _ _ z=>z,rfl,q⟩
theorem GS {x:Str} {p:Pos} {C:Addr} (hg:Gl X x) (hm:X.mg x=some (.ref C)) (hd:(x == ("__debug__" : Str))=false:=by decide):PE X (.Name x p) (tC (.ref C)):=fun pins s σ H Q I h=>kh I hg hm ⟨.ref C,H,I,rfl,h⟩ hd
theorem kG {e:Expr} {me:ME} {x:Str} {p1 p2 pos:Pos} (hc:n6 X.K X.mg) (hgo:g=gOf X.mg) (he:PE X e (tM X.K g ε me)) (hg:Gl X "isinstance") (hm:X.mg "isinstance" = none) (hg2:Gl X x) (hx:x∈bM) (hd:(x == ("__debug__" : Str))=false:=by decide)
  (hs1:starEach [e,.Name x p2] X.env=(false,eval e X.env)::starEach [.Name x p2] X.env:=by rfl) (hs2:starEach [.Name x p2] X.env=[(false,eval (.Name x p2) X.env)]:=by rfl) (hpl:(backTo pos (starEach [.Name x p2] X.env)).any (·.1)=false:=by rfl) :
  PE X (.Call (.Name "isinstance" p1) [e,.Name x p2] [] pos) (tM X.K g ε (cUn (tU x) me)):=by
 obtain⟨C2,hC2⟩:=hc.at_ x hx
 refine PE.imp (lS (u_ hc hgo) hg hm PyProof.Rows.boot_isinstance (fD he (fD (GS hg2 hC2 hd) k6 hs2) hs1) (by decide) (by decide) hs1 hpl) fun σ H Q ⟨α,env,h,s,w⟩=>tM.use s w.bind fun d1 h1 v1 H1 α1 e1 s1 r1 w1=>?_
 unfold tU at w1
 cases r1 with
 | @exc c C p o fs hgc hp hcl hdd xf=>
  obtain⟨hh,w1⟩:=WQ.eF w1
  rw[Bool.and_eq_true] at hh
  refine⟨p,.ref C2,o,c,fs,C,_,rfl,hgc,hp,hcl,hdd,xf,hh.1,fun u ru=>?_,aM.now (aM.ext e1 w1) s1.heap (.bl _)⟩
  cases ru
  subst hgo
  exact hc.two c (by simpa using hh.1) C (lO hgc) x hx C2 hC2
 | _=>exact w1.elim
theorem Ho {e:Expr} {me:ME} {p1 p2 pos:Pos} (hc:n6 X.K X.mg) (hgo:g=gOf X.mg) (he:PE X e (tM X.K g ε me)) (hg:Gl X "isinstance") (hm:X.mg "isinstance" = none) (hg2:Gl X "ValueError") (hm2:X.mg "ValueError" = none)
  (hs1:starEach [e,.Name "ValueError" p2] X.env=(false,eval e X.env)::starEach [.Name "ValueError" p2] X.env:=by rfl) (hs2:starEach [.Name "ValueError" p2] X.env=[(false,eval (.Name "ValueError" p2) X.env)]:=by rfl) (hpl:(backTo pos (starEach [.Name "ValueError" p2] X.env)).any (·.1)=false:=by rfl) :
  PE X (.Call (.Name "isinstance" p1) [e,.Name "ValueError" p2] [] pos) (tM X.K g ε (cUn GJ me)):=by
 refine PE.imp (lS (u_ hc hgo) hg hm PyProof.Rows.boot_isinstance (fD he (fD (yQ (v:=.ty "ValueError") hg2 hm2 PyProof.Rows.Boot.«ValueError» rfl (by decide) (by decide)) k6 hs2) hs1) (by decide) (by decide) hs1 hpl) fun σ H Q ⟨α,env,h,s,w⟩=>tM.use s w.bind fun d1 h1 v1 H1 α1 e1 s1 r1 w1=>?_
 unfold GJ at w1
 cases r1 with
 | @exc c C p o fs hgc hp hcl hdd xf=>
  obtain⟨hh,w1⟩:=WQ.eF w1
  refine⟨p,.ty "ValueError", o,c,fs,C,_,rfl,hgc,hp,hcl,hdd,xf,hh,fun u ru=>?_,aM.now (aM.ext e1 w1) s1.heap (.bl _)⟩
  cases ru
  subst hgo
  exact(hc.one c (by simpa using hh) C (lO hgc)).2.1
 | _=>exact w1.elim
theorem vy {h:Heap} {l:Addr} {its:Array Value} (x:h.IsList l its):∃dd n sl,h.get? l=some { cls:=.type "list", dict:=dd,data:=.seq its n,slots:=sl }:=by
 obtain⟨⟨c,d,da,sl⟩,h1,h2,n,h3⟩:=x
 dsimp only at h2 h3
 subst h2 h3
 exact⟨_,_,_,h1⟩
noncomputable def eqB (b:Bool):Value->Bool
 | .bool c=>c == b
 | _=>false
theorem pF:∀{bs:List Bool} {us:List Value},Vals (bs.map V.bl) us->us=bs.map Value.bool
 | [],_,.nil=>rfl
 | b::bs,_,.cons r t=>by
  have e:_=Value.bool b:=r
  rw[e,pF t];rfl
noncomputable def yE (K:PySem.W.Frag):V->List V->Hp->VK->Prop:=fun x vs H Q=>∃(l:Addr) (bs:List Bool) (b:Bool),x=.ref l/\vs=[.bl b]/\SqL K H l (bs.map V.bl)/\Q (.int (bs.countP (· == b):Nat)) H
theorem zK:MtM X "list.count" (yE X.K):=by
 intro pins s σ H x vs v us Q I rx rv h
 obtain⟨l,bs,b,rfl,rfl,hq,q⟩:=h
 cases rx
 obtain⟨u,rfl,ru⟩:=rv.one
 have e0:u=Value.bool b:=ru
 subst e0
 obtain⟨its,rs,pl,hz⟩:=I.list hq
 have ei:=pF rs
 subst ei
 obtain⟨dd,n,sl,ho⟩:=vy pl.isList
 refine call_meets F.slot_list_count ⟨_,ho,rfl⟩ F.entry_list_count (F.args_list_count_2 _ _) (SeqAt.list_countAt l _ n dd sl (.bool b) (eqB b)) ⟨ho,fun y hy=>?_,?_⟩
 ·obtain⟨c,_,rfl⟩:=List.mem_map.mp (by simpa using hy:y∈bs.map Value.bool)
  exact SeqAt.EqAt.bool_bool c b
 ·refine⟨.int (bs.countP (· == b):Nat),H,I.kept (h':=s.heap) (t':=s.toks+1) fun _ _ z=>z,⟨s.toks,?_⟩,q⟩
  rw[List.toList_toArray,List.countP_map]
  rfl
noncomputable def yP (K:PySem.W.Frag):V->List V->Hp->VK->Prop:=fun x vs H Q=>∃(l:Addr) (bs:List Bool) (b:Bool) (j:Nat),x=.ref l/\vs=[.bl b]/\SqL K H l (bs.map V.bl)/\bs.findIdx? (· == b)=some j/\bs.length<1000000/\Q (.int (j:Nat)) H
theorem Ad:MtM X "list.index" (yP X.K):=by
 intro pins s σ H x vs v us Q I rx rv h
 obtain⟨l,bs,b,j,rfl,rfl,hq,hj,hlen,q⟩:=h
 cases rx
 obtain⟨u,rfl,ru⟩:=rv.one
 have e0:u=Value.bool b:=ru
 subst e0
 obtain⟨its,rs,pl,hz⟩:=I.list hq
 have ei:=pF rs
 subst ei
 obtain⟨dd,n,sl,ho⟩:=vy pl.isList
 obtain⟨hlt,hit,hno⟩:=List.findIdx?_eq_some_iff_getElem.mp hj
 refine call_meets F.slot_list_index ⟨_,ho,rfl⟩ F.entry_list_index (F.args_list_index_2 _ _) (SeqAt.list_indexAt l _ n dd sl (.bool b) (eqB b) j (by simpa using hlt) (by omega) ?_ ?_) ⟨ho,fun y hy=>?_,?_⟩
 ·simpa [eqB] using hit
 ·intro m hm h2
  have:=hno m h2
  simpa [eqB] using this
 ·obtain⟨c,_,rfl⟩:=List.mem_map.mp (by simpa using hy:y∈bs.map Value.bool)
  exact SeqAt.EqAt.bool_bool c b
 ·exact⟨.int (j:Nat),H,I.kept (h':=s.heap) (t':=s.toks+1) fun _ _ z=>z,⟨s.toks,rfl⟩,q⟩
noncomputable def sM:D->List D->Hh->R D:=fun o ds h=>match o,ds with
 | .frl xs,[.bl b]=>match nB xs with
  | some bs=>.ok (.int (bs.countP (· == b):Nat)) h
  | none=>.bad
 | _,_=>.bad
noncomputable def sL:D->List D->Hh->R D:=fun o ds h=>match o,ds with
 | .frl xs,[.bl b]=>match nB xs with
  | some bs=>match bs.findIdx? (· == b) with
   | some j=>if bs.length<1000000 then .ok (.int (j:Nat)) h else .bad
   | none=>.bad
  | none=>.bad
 | _,_=>.bad
theorem zp:F0 K g ε sM (yE K):=by
 intro α H h o a y x Q r ro ra w
 unfold sM at w
 cases ro with
 | @frl ds p vs hq rs=>
  cases ra with
  | nil=>exact w.elim
  | cons rd rr=>
   cases rr with
   | cons _ _=>cases rd<;>exact w.elim
   | nil=>
    cases rd with
    | bl b=>
     simp only at w
     cases e2:nB ds with
     | none=>rw[e2] at w;exact w.elim
     | some bs=>
      rw[e2] at w
      have e3:=kP e2
      subst e3
      have e4:=rs.Hb
      subst e4
      exact⟨p,bs,b,rfl,rfl,hq.sq,aM.now w r (.int _)⟩
    | _=>exact w.elim
 | _=>exact w.elim
theorem Ae:F0 K g ε sL (yP K):=by
 intro α H h o a y x Q r ro ra w
 unfold sL at w
 cases ro with
 | @frl ds p vs hq rs=>
  cases ra with
  | nil=>exact w.elim
  | cons rd rr=>
   cases rr with
   | cons _ _=>cases rd<;>exact w.elim
   | nil=>
    cases rd with
    | bl b=>
     simp only at w
     cases e2:nB ds with
     | none=>rw[e2] at w;exact w.elim
     | some bs=>
      rw[e2] at w
      simp only at w
      cases e5:bs.findIdx? (· == b) with
      | none=>rw[e5] at w;exact w.elim
      | some j=>
       rw[e5] at w
       obtain⟨hl,w⟩:=WQ.eF w
       have e3:=kP e2
       subst e3
       have e4:=rs.Hb
       subst e4
       exact⟨p,bs,b,j,rfl,rfl,hq.sq,e5,hl,aM.now w r (.int _)⟩
    | _=>exact w.elim
 | _=>exact w.elim
end
end L2.FE
namespace L2
open PySem PySem.Spec PyProof.Rows
theorem Inv.IQ {X:Cx} {pins pins' pn:List (Addr × Obj)} {σ:St} {H:Hp} {s:Shared} {E:Value->Shared->Prop} (J:Inv (X.wpn pn E) pins' σ H s) (hp:∀p∈X.pn++pins,p∈pn++pins'):Inv X pins σ H s:=
 ⟨⟨J.ok.mod,J.ok.kind,J.ok.glob,J.ok.blt,J.ok.above,J.ok.inj,J.ok.has,J.ok.cab,J.ok.hd,J.ok.frames,J.ok.stk,J.ok.exf,J.ok.bs,J.ok.bsz,J.ok.qA,J.ok.vj,J.ok.jQ,J.ok.frf⟩,J.os,J.bare,J.base,J.loc,J.cell,J.free,J.dR,fun p h=>J.pin p (hp p h),J.hok,J.len⟩
end L2
namespace L2.FE
open PySem PySem.Spec PyProof.Rows
noncomputable def Bg (P:Program) (w:World) (K:PySem.W.Frag) (mg:Str->Option Value) (base:Heap) (g:GG) (x:Str) (k:Nat) (ps:List Str) (m:MF):Prop:=
 ∃f fd,FnH P w K mg base k f fd ps (spM K g ps.length m)/\PySem.W.keepIn K (.ref f)=true/\Binds K fd ps []/\mg x=some (.ref f)
section
variable {P:Program} {w:World} {K:PySem.W.Frag} {mg:Str->Option Value} {base:Heap} {g:GG}
theorem F5 {x qual:Str} {st:Stmt} {f:Addr} {fd:FuncData} {N ps:List Str} {k:Nat} {mb:MS} (F:Fun K x qual st f fd) (S:aC N ps (ai st))
  (hb:∀(cdv:Value) (A:Around) (outer:List Env) (s:Shared) (H:Hp) (E:XK),dw k (unm (A.deeper (envOfC qual (ai st) s.heap.objs.size f cdv))) →
   PSs (cxH P w K mg base N qual (ai st) f cdv A outer s H E) (bK st) (tMS K g E00 mb)):FnH P w K mg base (k+1) f fd ps (spM K g ps.length (cu N.length mb)):=by
 refine G6 F S (fun vs H Q E h=>h.1) fun cdv A outer s H vs Q E hr h=>⟨_,hb cdv A outer s H E hr,?_⟩
 obtain⟨hl,α,ds,h,rs,hh,w⟩:=h
 refine tMS.use ⟨hh,kg rs⟩ w.bind fun fl h' H' α' e r kk=>?_
 cases fl with
 | nx e'=>exact fun σ' s'=>(show aM K g α H Q .non h' from kk) _ H' α' e r .non
 | bk e'=>exact kk.elim
 | ct e'=>exact kk.elim
 | rt d=>exact fun v rv=>(show aM K g α H Q d h' from kk) _ H' α' e r rv
end
section
variable {X:Cx} {g:GG} {ε:EE}
theorem Dw {k:Nat} {f:Addr} {fd:FuncData} {ps:List Str} {m:MF} {np:Nat} {x:Str} {p pos:Pos} {e:Expr} {es:List Expr} {mr:MA} (F:FnH X.prog X.w X.K X.mg X.base k f fd ps (spM X.K g np m)) (hr:dw k (unm X.A)) (hg:Gl X x) (hm:X.mg x=some (.ref f)) (hk:PySem.W.keepIn X.K (.ref f)=true) (hb:Binds X.K fd ps [])
  (ha:PA X (e::es) (tMA X.K g E00 mr)) (hlen:∀env h ds h',mr env h=.ok ds h'->ds.length=np) (hdb:(x == ("__debug__" : Str))=false:=by decide) (he:starEach (e::es) X.env=(false,eval e X.env)::starEach es X.env:=by rfl) (hpl:(backTo pos (starEach es X.env)).any (·.1)=false:=by rfl) :
  PE X (.Call (.Name x p) (e::es) [] pos) (tM X.K g E00 (aj m mr)):=
 PE.imp (uW F hr hg hm hk hb ha hdb he hpl) fun σ H Q ⟨α,env,h,s,w⟩=>⟨α,env,h,s,w.bind.mono fun d1 h1 eq w1 v1 H1 α1 e1 hr1 r1=>by
  show spM X.K g np m (v1++[]) H1 Q E0
  rw[List.append_nil]
  refine⟨?_,α1,d1,h1,r1,hr1,w1.post e1⟩
  rw[<- r1.length]
  exact hlen env h d1 h1 eq⟩
noncomputable def pw (mb:MS) (mr:MF):MS:=fun env h=>match mb env h with
 | .ok fl h'=>.ok fl h'
 | .err x h'=>if (bM.contains x.cls&&(h'.take h.length).all (nU h.length))=true then (noR (mr [.exc x.cls x.fs] (h'.take h.length))).bind fun d h2=>.ok (.rt d) h2 else .bad
 | .bad=>.bad
theorem Gz {body:List Stmt} {mb:MS} {mr:MF} {k:Nat} {f:Addr} {fd:FuncData} {ps:List Str} {i:Nat} {n y:Str} {np p1 p2 cpos rpos hpos pos:Pos}
  (hcl:n6 X.K X.mg) (hgo:g=gOf X.mg) (pl:Plain X) (hN:X.N.Nodup) (hi:X.N[i]?=some n) (hl:X.env.scope.names.lookup n=some .local) (hgF:Gl X "FallError") (hgR:Gl X y)
  (F:FnH X.prog X.w X.K X.mg X.base k f fd ps (spM X.K g 1 mr)) (hr:dw k (unm X.A)) (hm:X.mg y=some (.ref f)) (hk:PySem.W.keepIn X.K (.ref f)=true) (hb:Binds X.K fd ps [])
  (hbd:∀(pn:List (Addr × Obj)) (xe:Value->Shared->Prop) (E:XK),ku (X.wpn pn xe) E->Plain (X.wpn pn xe)->PassesOwn (model X.prog X.w) X.A X.env xe->PSs (X.wpn pn xe) body (tMS X.K g (εX g E) mb))
  (hdn:(n == ("__debug__" : Str))=false:=by decide) (hdc:(n == ("__classdict__" : Str))=false:=by decide) (hdb:(y == ("__debug__" : Str))=false:=by decide)
  (hst:starEach [.Name n p2] X.env=(false,eval (.Name n p2) X.env)::starEach [] X.env:=by rfl) (hpl:(backTo cpos (starEach [] X.env)).any (·.1)=false:=by rfl) :
  PS X (.Try body [.ExceptHandler (some (.Name "FallError" np)) (some n) [.Return (some (.Call (.Name y p1) [.Name n p2] [] cpos)) rpos] hpos] [] [] pos) (tMS X.K g ε (pw mb mr)):=by
 intro pins s σ H D I ⟨α,env,h,sr,w⟩
 obtain⟨CF,hmF⟩:=hcl.at_ "FallError" (by decide)
 refine wpAny_Try_except ?_
 let K1:Value->Shared->Prop:=fun e s₁=>wpAny (model X.prog X.w) X.A (noteFrame e X.env) (fun _ s₂=>wpAny (model X.prog X.w) X.A (setFlight e none) (fun _ s₃=>wpAny (model X.prog X.w) X.A (handleBy e X.env [.ExceptHandler (some (.Name "FallError" np)) (some n) [.Return (some (.Call (.Name y p1) [.Name n p2] [] cpos)) rpos] hpos]) (SP X pins D) X.xe s₃) X.xe s₂) X.xe s₁
 let E1:XK:=fun C dc H'=>∃α' x h',mb env h=.err x h'/\Ext X.K α H α' H'/\aX X.K g α' H' h'/\(∃C0,C=.ref C0/\g x.cls=some C0)/\XFs H' dc x.fs
 have un:∀{σ:St} {H:Hp} {s:Shared},Inv (X.wpn (X.pn++pins) K1) [] σ H s->Inv X pins σ H s:=fun J=>J.IQ fun p hp=>by simpa using hp
 have fl:ku (X.wpn (X.pn++pins) K1) E1:=by
  rintro e s1 ⟨σ1,H1,B,a,C,dc,rfl,J,ar,cv,pn,α',x,h',eq,ext,hr',⟨C0,rfl,hgC⟩,xf⟩
  have ar':Arr B (X.env::X.outer) a (.ref C0) dc s1.heap:=by rw[<- pl.stk.1];exact ar
  have hA:X.A.frames=some (X.env::X.outer):=by rw[<- pl.stk.1];exact J.ok.frames
  have pl1:Plain (X.wpn (X.pn++pins) K1):=⟨pl.ex,pl.stk⟩
  unfold pw at w
  rw[eq] at w
  obtain⟨low,w⟩:=WQ.eF w
  rw[Bool.and_eq_true] at low
  obtain⟨hcn,low⟩:=low
  refine wx hA pl.stk.2 ar' fun h2 y2 g2=>sV y2 fun h3 y3 g3=>?_
  have J3:Inv (X.wpn (X.pn++pins) K1) [] σ1 H1 { s1 with heap:=h3 }:=J.flew (t':=s1.toks) pl1 cv pn ar.stays ar.fr y3.stays (g2.trans g3)
  refine wpAny_handleBy_cons (codeAny_handlers_test ?_) (by intro q;cases q)
  have J3h:Inv ((X.wpn (X.pn++pins) K1).hand (X.A.mark (some (.ref a))) (X.pn++pins) fun _ _=>False) [] σ1 H1 { s1 with heap:=h3 }:=Inv.hand (A:=X.A.mark (some (.ref a))) (pn:=X.pn++pins) J3 rfl (fun p hp=>hp) _
  refine kh J3h hgF hmF ?_
  obtain⟨ob,ws0,hob,hoc,_,_⟩:=y3.there
  have LT:PySem.W.Looks (model X.prog X.w) h3 (typeOf (.ref a)) (.ref C0):=hoc ▸ (PySem.W.Looks.ld hob).andThen .now
  have hx:PySem.W.exmOne X.K (.ref C0) (.ref CF)=some true:=by
   subst hgo
   exact hcl.exm x.cls (by simpa using hcn) C0 (lO hgC) CF hmF
  refine(PySem.W.exm_one J3.kIn LT hx).here ?_
  refine codeAny_handlers_suite_as ?_
  refine sV y3 fun h4 y4 g4=>?_
  have J4:Inv (X.wpn (X.pn++pins) K1) [] σ1 H1 { s1 with heap:=h4 }:=J.flew (t':=s1.toks) pl1 cv pn ar.stays ar.fr y4.stays (g2.trans (g3.trans g4))
  obtain⟨oe,ws,q1,q2,q3,q4⟩:=y4.there
  have fr4:h4.FunFrames B X.stack:=by rw[pl.stk.1];exact y4.fr
  obtain⟨hn,J5⟩:=J4.adopt pl1 cv pn fr4 y4.new q1 q4
  refine fJ (X:=X.wpn (X.pn++pins) K1) J5 hN hi (.inl hl) (v:=.ref a) (u:=.ref a) rfl (fun s6 J6=>?_) (.inr hl)
  have J7:Inv ((X.wpn (X.pn++pins) K1).hand (X.A.mark (some (.ref a))) (X.pn++pins) fun _ _=>False) [] (σ1.set i (some (.ref a))) (upd H1 a (AtO a oe)) s6:=Inv.hand (A:=X.A.mark (some (.ref a))) (pn:=X.pn++pins) J6 rfl (fun p hp=>hp) _
  have T:=yN (DL (pos:=rpos) (uW (X:=(X.wpn (X.pn++pins) K1).hand (X.A.mark (some (.ref a))) (X.pn++pins) fun _ _=>False) (p:=p1) (pos:=cpos) F hr hgR hm hk hb (fD (Ds (pos:=p2) hi (.inl hl) hdn hdc) k6 hst) hdb hst hpl))
  have lenσ:i<σ1.length:=by rw[J.len];exact(List.getElem?_eq_some_iff.mp hi).1
  refine wpAny_mono (T [] s6 _ _ { nx:=fun _ _=>False,rt:=D.rt } J7 ⟨.ref a,by simp[lenσ],?_⟩) (fun fl s7 q=>?_) fun _ _ z=>z.elim
  ·show spM X.K g 1 mr ([.ref a]++[]) (upd H1 a (AtO a oe)) D.rt E0
   have k0:α.length=h.length:=sr.heap.len
   have fz:∀p o u,H1 p=some (.frz o u)->upd H1 a (AtO a oe) p=some (.frz o u):=fun p o u z=>by rw[aD (aP z hn)];exact z
   have Lw:rJ X.K α α' H1 (upd H1 a (AtO a oe)) h.length:=⟨fun m hm=>oB ext.pre (by omega),fun p xs z=>by rw[aD (aP z hn)];exact z,fz⟩
   have kp:∀m p u,m<h.length->α'[m]?=some p->H1 p=some u->upd H1 a (AtO a oe) p=some u:=fun m p u _ _ z=>by rw[aD (aP z hn)];exact z
   have ex2:Ext X.K α H α (upd H1 a (AtO a oe)):=⟨⟨List.prefix_refl _,fun p xs z=>Lw.tup p xs (ext.tup p xs z),fun p o u z=>fz p o u (ext.frz p o u z),fun p ps z=>by
    obtain⟨m,q⟩:=ext.tbl p ps z
    exact⟨m,by rw[aD (aP q hn)];exact q⟩⟩,fun p u z m nt=>by
    have:=ext.kept p u z m nt
    rw[aD (aP this hn)];exact this,fun _ z m=>absurd z m⟩
   refine⟨rfl,α,[.exc x.cls x.fs],h'.take h.length,.cons (.exc hgC aZ q2 ⟨ws,q4⟩ ?_) .nil,⟨?_,sr.heap.inj,fun m p ob h1 h2=>?_,hr'.tab.upd (.inl hn)⟩,?_⟩
   ·rw[q3]
    exact xf.elim .inl fun⟨dx,od,z1,z2⟩=>.inr ⟨dx,od,z1,fz _ _ _ z2⟩
   ·rw[List.length_take,<- hr'.len,k0]
    have:=ext.pre.length_le
    omega
   ·have hm:m<h.length:=(p_ h2).1
    rw[oB ext.pre (by omega)] at h1
    exact vA k0 ext hr' low Lw kp m p ob hm h1 h2
   ·refine((ue w.bind).ext ex2).mono fun d h2 _ kk v H2 α2 e2 r2 rd=>?_
    exact(show dh X.K g α H D (.rt d) h2 from kk) H2 α2 (ex2.trans e2) r2 v rd
  ·cases fl with
   | ret u=>
    obtain⟨v,σ7,H7,J8,rv,q⟩:=q
    obtain⟨m,hm7,_⟩:=J8.loc
    have J9:Inv X pins σ7 H7 s7:=un (Inv.back (pins:=[]) J8 J.ok fun p hp=>hp)
    refine wpAny_nameGoes_keeps hl hm7 (by rw[I.ok.kind];rfl) fun h8 v8 hn8 sb=>?_
    exact⟨v,σ7.set i none,H7,J9.forget hN hi hm7 hn8 (fun z hz=>if_neg hz) sb,rv,q⟩
   | next=>obtain⟨_,_,_,q⟩:=q;exact q.elim
   | brk=>obtain⟨_,_,_,q⟩:=q;exact q.elim
   | cont=>obtain⟨_,_,_,q⟩:=q;exact q.elim
 have I1:Inv (X.wpn (X.pn++pins) K1) [] σ H s:=I.wpn (fun p hp=>by simpa using hp) _
 refine wpAny_mono (hbd (X.pn++pins) K1 E1 fl ⟨pl.ex,pl.stk⟩ PassesOwn.looking [] s σ H D I1 ⟨α,env,h,sr,?_⟩) (fun f s1 q=>?_) fun _ _ z=>z
 ·unfold pw at w
  cases eq:mb env h with
  | ok fl h'=>rw[eq] at w;exact w
  | err x h'=>exact fun α' H' e r C dc hg xf=>⟨α',x,h',eq,e,r,⟨C,rfl,hg⟩,xf⟩
  | bad=>rw[eq] at w;exact w.elim
 ·cases f with
  | next=>obtain⟨σ',H',J,q⟩:=q;exact wpAny_execs_nil ⟨σ',H',un J,q⟩
  | brk=>obtain⟨σ',H',J,q⟩:=q;exact⟨σ',H',un J,q⟩
  | cont=>obtain⟨σ',H',J,q⟩:=q;exact⟨σ',H',un J,q⟩
  | ret u=>obtain⟨v,σ',H',J,r,q⟩:=q;exact⟨v,σ',H',un J,r,q⟩
end
end L2.FE
namespace L2
open PySem PySem.Spec PyProof.Rows
theorem vX {k:Nat} {A:Around} (h:dw k A):dw k (unm A):=⟨rfl,h.dp,h.un,h.gd⟩
end L2
namespace L2.FE
open PySem PySem.Spec PyProof.Rows
section
variable {X:Cx} {g:GG} {ε:EE} {K:PySem.W.Frag}
noncomputable def eqI (i:Int):Value->Bool
 | .int c _=>c == i
 | _=>false
noncomputable def Cp (P:Program) (w:World) (K:PySem.W.Frag) (mg:Str->Option Value) (base:Heap) (g:GG) (k np:Nat) (tab:Str->Option MF):Prop:=
 ∀x m,tab x=some m->∃f fd ps,g x=some f/\dA P w K mg base (CXE P w) k f fd ps (spE K g np m)/\PySem.W.keepIn K (.ref f)=true/\Binds K fd ps []
theorem Av {E:XK} {k np:Nat} {tab:Str->Option MF} {fe e:Expr} {es:List Expr} {pos:Pos} {mf:ME} {mr:MA} (fl:ku X E) (pl:Plain X) (T:Cp X.prog X.w X.K X.mg X.base g k np tab) (hr:dw k X.A) (hf:PE X fe (tM X.K g (εX g E) mf)) (ha:PA X (e::es) (tMA X.K g (εX g E) mr)) (hlen:∀env h ds h',mr env h=.ok ds h'->ds.length=np)
  (hc:eval (.Call fe (e::es) [] pos) X.env=(do callWith pos (← eval fe X.env) [] (backTo pos (starEach (e::es) X.env)) (backToKw pos (keywordEach [] X.env))):=by rfl)
  (he:starEach (e::es) X.env=(false,eval e X.env)::starEach es X.env:=by rfl) (hpl:(backTo pos (starEach es X.env)).any (·.1)=false:=by rfl) :
  PE X (.Call fe (e::es) [] pos) (tM X.K g (εX g E) (pN tab mf mr)):=by
 intro pins s σ H Q I ⟨α,env,h,s0,w⟩
 refine Call_ (thn (hf pins s σ H (fun v H1=>∃α1 h1 f fd ps m,v=.ref f/\dA X.prog X.w X.K X.mg X.base (CXE X.prog X.w) k f fd ps (spE X.K g np m)/\PySem.W.keepIn X.K (.ref f)=true/\Binds X.K fd ps []/\dW X.K g α1 H1 env σ h1/\WQ X.K g (εX g E) α1 H1 ((mr env h1).bind m) (aM X.K g α1 H1 Q)) I ?_) fun v s1 ⟨x,H1,I1,r1,q1⟩=>?_) hc
 ·refine tM.use s0 w.bind fun d1 h1 v1 H1 α1 e1 s1 r1 w1=>?_
  cases r1 with
  | @fn x f hx=>
   simp only at w1
   cases et:tab x with
   | none=>rw[et] at w1;exact w1.elim
   | some m=>
    rw[et] at w1
    obtain⟨f',fd,ps,h1',h2',h3',h4'⟩:=T x m et
    rw[hx] at h1'
    cases h1'
    exact⟨α1,h1,f,fd,ps,m,rfl,h2',h3',h4',s1,WQ.post e1 w1⟩
  | _=>exact w1.elim
 ·obtain⟨α1,h1,f,fd,ps,m,rfl,F,hk,hb,s2,w2⟩:=q1
  cases r1
  refine PySem.W.callWith_K (h₀:=X.base) I.ok.mod.kin hk (thn (ha pos pins s1 σ H1 (fun vs H2=>spE X.K g np m vs H2 Q E) I1 ?_) fun us s3 ⟨vs,H2,I2,r,q⟩=>⟨I2.kIn,?_⟩) he hpl
  ·exact⟨α1,env,h1,s2,w2.bind.mono fun d3 h3 eq w3 v3 H3 α3 e3 hr3 r3=>⟨by rw[<- r3.length];exact hlen env h1 d3 h3 eq,α3,d3,h3,r3,hr3,w3.post e3⟩⟩
  ·exact Cg F hr hb .nil (pS pl fl) I2 r (by rw[List.append_nil];exact q)
end
end L2.FE
namespace L2
open PySem PySem.Spec PyProof.Rows
inductive RdE (K:PySem.W.Frag) (H:Hp):V->PyData->Prop
 | non:RdE K H .non .none
 | bl (b:Bool):RdE K H (.bl b) (.bool b)
 | int (i:Int):RdE K H (.int i) (.int i)
 | str (x:Str):RdE K H (.str x) (.str x)
 | tup {a:Addr} {xs:List V} {ds:List PyData} (h:SqT K H a xs) (hl:xs.length=ds.length) (hx:∀(i:Nat) x d,xs[i]?=some x->ds[i]?=some d->RdE K H x d):RdE K H (.ref a) (.tuple ds)
 | edic {a:Addr} {o:Obj} (h:H a=some (.frz o (.dK []))):RdE K H (.ref a) (.dict [])
theorem rN {h:Heap}:∀{us:List Value} {ds:List PyData},us.length=ds.length->(∀(i:Nat) u d,us[i]?=some u->ds[i]?=some d->∃as,Reads h u d as/\sysModules∉as)->∃as,ReadsAll h us ds as/\sysModules∉as
 | [],[],_,_=>⟨_,.nil,by simp⟩
 | [],_::_,hl,_=>by simp at hl
 | _::_,[],hl,_=>by simp at hl
 | u::us,d::ds,hl,hx=>by
  obtain⟨as,h1,n1⟩:=hx 0 u d rfl rfl
  obtain⟨bs,h2,n2⟩:=rN (us:=us) (ds:=ds) (by simpa using hl) fun i u d e1 e2=>hx (i+1) u d (by simpa using e1) (by simpa using e2)
  exact⟨_,.cons h1 h2,by simp[n1,n2]⟩
section
variable {X:Cx}
theorem Inv.Hk {pins:List (Addr × Obj)} {σ:St} {H:Hp} {s:Shared} (I:Inv X pins σ H s) {x:V} {d:PyData} (r:RdE X.K H x d):∀u,RelV x u->∃as,Reads s.heap u d as/\sysModules∉as:=by
 induction r with
 | non=>intro u ru;cases (show u=Value.none from ru);exact⟨_,.none,by simp⟩
 | bl b=>intro u ru;cases (show u=Value.bool b from ru);exact⟨_,.bool b,by simp⟩
 | int i=>intro u ru;obtain⟨t,q⟩:=(show ∃t,u=Value.int i t from ru);cases q;exact⟨_,.int i t,by simp⟩
 | str y=>intro u ru;obtain⟨t,q⟩:=(show ∃t,u=Value.str y t from ru);cases q;exact⟨_,.str y t,by simp⟩
 | @tup a xs ds h hl hx ih=>
  intro u ru
  cases (show u=Value.ref a from ru)
  obtain⟨its,rv,p,hz⟩:=I.tuple h
  obtain⟨o,ho,hc,n,hd⟩:=p
  obtain⟨as,ra,na⟩:=rN (h:=s.heap) (us:=its) (ds:=ds) (by rw[<- rv.length,hl]) fun i u d e1 e2=>by
   obtain⟨y,e3,ry⟩:=rv.get' e1
   exact ih i y d e3 e2 u ry
  exact⟨_,.tuple ho hc hd (by simpa using ra),na⟩
 | @edic a o h=>
  intro u ru
  cases (show u=Value.ref a from ru)
  obtain⟨_,_,na,vs,kv,o',es,ep,e1,e2,e3,e4⟩:=I.hok a _ h
  have hv:vs=[]:=by cases kv;rfl
  subst hv
  have he:es.toList=[]:=by
   have:=e4.2.1.length
   simpa using this
  exact⟨_,.dict (kvs:=[]) (as:=[]) (bs:=[]) e1 e2.1 e3 (by rw[he];exact .nil) (by rw[he];exact .nil),by simpa using fun z=>(by rw[<- z] at na;simp at na)⟩
theorem xI (hg:X.A.guards=some []) (hu:X.A.units+64<cLine):bp X (.builtin "repr") (fun vs H Q=>∃p d,vs=[.ref p]/\RdE X.K H (.ref p) d/\d.showable=true/\d.depth<=60/\d.shown.length<=sizeLine/\Q (.str d.shown) H):=by
 intro pins s σ H xs us Q I r h
 obtain⟨p,d,rfl,rd,hs,hdp,hz,q⟩:=h
 obtain⟨u,rfl,rx⟩:=vals1 r
 cases rx
 obtain⟨as,ra,na⟩:=I.Hk rd (.ref p) rfl
 exact repr_of_reads' ra hs (fun _=>na) hg (by omega) (fun _ _ e=>e) (fun h' u tk kp=>⟨.str d.shown,H,I.kept kp,⟨_,rfl⟩,q⟩) hz
theorem x_:bp X (.builtin "repr") (fun vs H Q=>vs=[.non]/\Q (.str "None") H):=by
 intro pins s σ H xs us Q I r h
 obtain⟨rfl,q⟩:=h
 obtain⟨u,rfl,rx⟩:=vals1 r
 cases (show u=Value.none from rx)
 exact PySem.P.repr_of_none ⟨.str "None", H,I.tok _,⟨_,rfl⟩,q⟩
theorem xh:bp X (.builtin "repr") (fun vs H Q=>∃b,vs=[.bl b]/\Q (.str (if b then "True" else "False")) H):=by
 intro pins s σ H xs us Q I r h
 obtain⟨b,rfl,q⟩:=h
 obtain⟨u,rfl,rx⟩:=vals1 r
 cases (show u=Value.bool b from rx)
 exact PySem.P.repr_of_bool ⟨.str (if b then "True" else "False"),H,I.tok _,⟨_,rfl⟩,q⟩
theorem xg:bp X (.builtin "repr") (fun vs H Q=>∃x,vs=[.str x]/\(reprText x).length<=sizeLine/\Q (.str (reprText x)) H):=by
 intro pins s σ H xs us Q I r h
 obtain⟨x,rfl,hz,q⟩:=h
 obtain⟨u,rfl,t,rfl⟩:=vals1 r
 exact PySem.P.repr_of_str ⟨.str (reprText x),H,I.tok _,⟨_,rfl⟩,q⟩ hz
end
end L2
namespace L2.FE
open PySem PySem.Spec PyProof.Rows
noncomputable def lW:Nat->D->Option PyData
 | 0,_=>none
 | k+1,d=>match d with
  | .non=>some .none
  | .bl b=>some (.bool b)
  | .int i=>if sml i=true then some (.int i) else none
  | .str x=>if x.cps.toList.all (fun c=>decide (c<16 ^ 8))=true then some (.str x) else none
  | .tup ds=>(eV (lW k) ds).map .tuple
  | .edic=>some (.dict [])
  | _=>none
structure Gs (k:Nat) (d:PyData):Prop where
 sh:d.showable=true
 dp:d.depth<=k
 lv:d.leavesShort 1921=true
structure HV (k:Nat) (ds:List PyData):Prop where
 sh:PyData.showableAll ds=true
 dp:PyData.depthAll ds<=k
 lv:PyData.leavesShortAll 1921 ds=true
section
variable {K:PySem.W.Frag} {g:GG} {α:List Addr} {H:Hp} {h:Hh} {X:Cx} {ε:EE}
theorem sv {f:D->Option PyData} {k:Nat} (hf:∀d x p,aO K g α H d x->f d=some p->RdE K H x p/\Gs k p):∀{ds:List D} {vs:List V} {ps:List PyData},ax K g α H ds vs->eV f ds=some ps →
  HV k ps/\vs.length=ps.length/\∀(i:Nat) x d,vs[i]?=some x->ps[i]?=some d->RdE K H x d
 | _,_,_,.nil,e=>by
  cases e
  exact⟨⟨by simp[PyData.showableAll],by simp[PyData.depthAll],by simp[PyData.leavesShortAll]⟩,rfl,fun i x d h=>by simp at h⟩
 | _,_,_,.cons r t,e=>by
  unfold eV at e
  split at e
  ·rename_i p ps h1 h2
   cases e
   obtain⟨a1,a2⟩:=hf _ _ _ r h1
   obtain⟨b1,b2,b3⟩:=sv hf t h2
   refine⟨⟨by rw[PyData.showableAll,a2.sh,b1.sh];rfl,by rw[PyData.depthAll];exact Nat.max_le.mpr ⟨a2.dp,b1.dp⟩,by rw[PyData.leavesShortAll,a2.lv,b1.lv];rfl⟩,by simp[b2],fun i x d hx hd=>?_⟩
   cases i with
   | zero=>simp at hx hd;subst hx hd;exact a1
   | succ i=>exact b3 i x d (by simpa using hx) (by simpa using hd)
  ·cases e
theorem wg:∀(k:Nat) (d:D) (x:V) (p:PyData),aO K g α H d x->lW k d=some p->RdE K H x p/\Gs k p
 | 0,_,_,_,_,e=>by cases e
 | k+1,d,x,p,rd,e=>by
  unfold lW at e
  cases rd with
  | non=>cases e;exact⟨.non,by simp[PyData.showable],by simp[PyData.depth],by simp[PyData.leavesShort]⟩
  | bl b=>cases e;exact⟨.bl b,by simp[PyData.showable],by simp[PyData.depth],by simp[PyData.leavesShort]⟩
  | int i=>
   simp only at e
   split at e
   ·rename_i hs
    cases e
    have hl:i.natAbs.log2<1920:=Nat.lt_trans (oJ hs) (by decide)
    exact⟨.int i,by simp[PyData.showable,hl],by simp[PyData.depth],by simp only[PyData.leavesShort,decide_eq_true_eq];exact int_text_len_1921 hl⟩
   ·cases e
  | str z=>
   simp only at e
   split at e
   ·rename_i hs
    cases e
    exact⟨.str z,by simp[PyData.showable],by simp[PyData.depth],by simpa only[PyData.leavesShort] using hs⟩
   ·cases e
  | edic hp=>cases e;exact⟨.edic hp,by simp[PyData.showable,PyData.showableKv],by simp[PyData.depth,PyData.depthKv],by simp[PyData.leavesShort,PyData.leavesShortKv]⟩
  | tup hp rs=>
   simp only at e
   cases e1:eV (lW k) _ with
   | none=>rw[e1] at e;cases e
   | some ps=>
    rw[e1] at e
    cases e
    obtain⟨b1,b2,b3⟩:=sv (fun d x p=>wg k d x p) rs e1
    exact⟨.tup (SqT.of hp) b2 b3,by rw[PyData.showable];exact b1.sh,by rw[PyData.depth];exact Nat.succ_le_succ b1.dp,by rw[PyData.leavesShort];exact b1.lv⟩
  | _=>cases e
noncomputable def zr (d:D) (h:Hh):R D:=match lW 12 d with
 | some p=>if p.bulk<=8000 then .ok (.str p.shown) h else .bad
 | none=>.bad
noncomputable def t6:List D->Hh->R D:=fun ds h=>match ds with
 | [.non]=>.ok (.str "None") h
 | [.bl b]=>.ok (.str (if b then "True" else "False")) h
 | [.str x]=>if (reprText x).length<=1000000 then .ok (.str (reprText x)) h else .bad
 | [.tup ds]=>zr (.tup ds) h
 | [.edic]=>zr .edic h
 | _=>.bad
noncomputable def ie:List D->Hh->R D:=fun ds h=>match rX ds h with
 | .ok d h'=>.ok d h'
 | _=>t6 ds h
noncomputable abbrev oK (K:PySem.W.Frag):List V->Hp->VK->Prop:=fun vs H Q=>tj K vs H Q\/(∃p d,vs=[.ref p]/\RdE K H (.ref p) d/\d.showable=true/\d.depth<=60/\d.shown.length<=sizeLine/\Q (.str d.shown) H)\/(vs=[.non]/\Q (.str "None") H)\/(∃b,vs=[.bl b]/\Q (.str (if b then "True" else "False")) H)\/∃x,vs=[.str x]/\(reprText x).length<=sizeLine/\Q (.str (reprText x)) H
theorem vL (hg:X.A.guards=some []) (hu:X.A.units+64<cLine):bp X (.builtin "repr") (oK X.K):=bp.or (E7 hg hu) (bp.or (xI hg hu) (bp.or x_ (bp.or xh xg)))
theorem wC:nY K g ε ie (oK K):=by
 intro α H h a x Q r ra w
 unfold ie at w
 cases e:rX a h with
 | ok d h'=>rw[e] at w;exact .inl (ET α H h a x Q r ra (by rw[e];exact w))
 | err z h'=>rw[e] at w;exact im α H h a x Q r ra w
 | bad=>rw[e] at w;exact im α H h a x Q r ra w
where
 im (α H h a x Q) (r:aX K g α H h) (ra:ax K g α H a x) (w:WQ K g ε α H (t6 a h) (aM K g α H Q)):oK K x H Q:=by
  unfold t6 at w
  have gen:∀{d:D} {v:V},aO K g α H d v->(∃p,v=.ref p)->WQ K g ε α H (zr d h) (aM K g α H Q)->oK K [v] H Q:=by
   intro d v rd ⟨p,hp⟩ w
   subst hp
   unfold zr at w
   cases e:lW 12 d with
   | none=>simp only[e] at w;exact w.elim
   | some pd=>
    simp only[e] at w
    obtain⟨hb,w⟩:=WQ.eF w
    obtain⟨q1,q2⟩:=wg 12 d _ pd rd e
    have:=PyData.shown_le_bulk 1921 (by decide) pd q2.lv
    exact .inr (.inl ⟨p,pd,rfl,q1,q2.sh,Nat.le_trans q2.dp (by decide),by rw[sizeLine_eq];omega,aM.now w r (.str _)⟩)
  cases ra with
  | nil=>exact w.elim
  | cons rd rr=>
   cases rr with
   | cons _ _=>cases rd<;>exact w.elim
   | nil=>
    cases rd with
    | non=>exact .inr (.inr (.inl ⟨rfl,aM.now w r (.str _)⟩))
    | bl b=>exact .inr (.inr (.inr (.inl ⟨b,rfl,aM.now w r (.str _)⟩)))
    | str z=>
     obtain⟨hz,w⟩:=WQ.eF w
     exact .inr (.inr (.inr (.inr ⟨z,rfl,gJ hz,aM.now w r (.str _)⟩)))
    | tup hp rs=>exact gen (.tup hp rs) ⟨_,rfl⟩ w
    | edic hp=>exact gen (.edic hp) ⟨_,rfl⟩ w
    | _=>exact w.elim
theorem pM {ds:List D} {d:D} {h h':Hh} (e:rX ds h=.ok d h'):ie ds h=.ok d h':=by unfold ie;rw[e]
end
theorem us0 {P:List Value->Prop} {us:List Value} (hl:us.length=0) (h:P []):P us:=by cases us with | nil=>exact h | cons _ _=>cases hl
theorem us1 {P:List Value->Prop} {us:List Value} (hl:us.length=1) (h:∀a,P [a]):P us:=by cases us with | nil=>cases hl | cons a us=>exact us0 (P:=fun us=>P (a::us)) (Nat.succ.inj hl) (h a)
theorem us2 {P:List Value->Prop} {us:List Value} (hl:us.length=2) (h:∀a b,P [a,b]):P us:=by cases us with | nil=>cases hl | cons a us=>exact us1 (P:=fun us=>P (a::us)) (Nat.succ.inj hl) (h a)
theorem us3 {P:List Value->Prop} {us:List Value} (hl:us.length=3) (h:∀a b c,P [a,b,c]):P us:=by cases us with | nil=>cases hl | cons a us=>exact us2 (P:=fun us=>P (a::us)) (Nat.succ.inj hl) (h a)
theorem us4 {P:List Value->Prop} {us:List Value} (hl:us.length=4) (h:∀a b c d,P [a,b,c,d]):P us:=by cases us with | nil=>cases hl | cons a us=>exact us3 (P:=fun us=>P (a::us)) (Nat.succ.inj hl) (h a)
theorem qz {fd:FuncData} {ps:List Str} {us:List Value} (hl:us.length=1) (h:∀a:Value,bindArgs fd ⟨[a],[]⟩=pure (ps.zip [a])):bindArgs fd ⟨us,[]⟩=pure (ps.zip us):=us1 (P:=fun us=>bindArgs fd ⟨us,[]⟩=pure (ps.zip us)) hl h
theorem jy {fd:FuncData} {ps:List Str} {us:List Value} (hl:us.length=2) (h:∀a b:Value,bindArgs fd ⟨[a,b],[]⟩=pure (ps.zip [a,b])):bindArgs fd ⟨us,[]⟩=pure (ps.zip us):=us2 (P:=fun us=>bindArgs fd ⟨us,[]⟩=pure (ps.zip us)) hl h
theorem uf {fd:FuncData} {ps:List Str} {us:List Value} (hl:us.length=3) (h:∀a b c:Value,bindArgs fd ⟨[a,b,c],[]⟩=pure (ps.zip [a,b,c])):bindArgs fd ⟨us,[]⟩=pure (ps.zip us):=us3 (P:=fun us=>bindArgs fd ⟨us,[]⟩=pure (ps.zip us)) hl h
theorem LJ {fd:FuncData} {ps:List Str} {us:List Value} (hl:us.length=4) (h:∀a b c d:Value,bindArgs fd ⟨[a,b,c,d],[]⟩=pure (ps.zip [a,b,c,d])):bindArgs fd ⟨us,[]⟩=pure (ps.zip us):=us4 (P:=fun us=>bindArgs fd ⟨us,[]⟩=pure (ps.zip us)) hl h
end L2.FE
namespace PySem.W
open PySem PySem.Calls PyProof.Rows PySem.Spec Builtin Builtin.ObjectAttr
noncomputable abbrev Ka:List Value:=[.type "ValueError", .type "Exception", .type "BaseException", .type "object"]
noncomputable def Bn:Value->Bool
 | .ref _=>true
 | _=>false
noncomputable def sA (l:List Value):Bool:=l.dropWhile Bn == Ka
theorem vk {l:List Value} (e:sA l=true):l=Ka\/∃c r,l=.ref c::r/\sA r=true:=by
 cases l with
 | nil=>cases e
 | cons a r=>
  by_cases h:Bn a=true
  ·cases a with
   | ref c=>exact .inr ⟨c,r,rfl,by unfold sA at e ⊢;rw[List.dropWhile_cons_of_pos h] at e;exact e⟩
   | _=>cases h
  ·unfold sA at e
   rw[List.dropWhile_cons_of_neg h] at e
   exact .inl (beq_iff_eq.mp e)
noncomputable def oP (K:Frag) (C:Addr):Bool:=(clsIn K C).any fun cd=>sA cd.mro
end PySem.W
namespace L2
open PySem PySem.Spec PyProof.Rows PySem.W
noncomputable def C8 (K:PySem.W.Frag) (C fI:Addr):Bool:=match K.lookup C with
 | some ⟨.type "type", _,.cls cd,sl⟩=>(match cd.mro,sl.toList with
  | .ref C'::bm,[_,_,_,_,some (.builtin n),_]=>C' == C&&n == "ValueError.__new__" && !cd.hasDel&&tailIn K bmV bm&&nsOkIn K cd.ns&&nsIn K cd.ns "__init__" == some (some (.ref fI))
  | _,_=>false)
 | _=>false
inductive kC:List Stmt->List Str->Prop
 | nil:kC [] []
 | cons {f:Str} {p1 p2 p3 p4:Pos} {r:List Stmt} {fs:List Str}:(f == ("__debug__" : Str))=false->kC r fs->kC (.Assign [.Attribute (.Name "self" p1) f p2] (.Name f p3) p4::r) (f::fs)
noncomputable def cZ:Stmt->Stmt
 | .ClassDef _ _ _ (st::_) ..=>st
 | st=>st
structure IK (K:PySem.W.Frag) (x:Str) (cst:Stmt) (C:Addr) (fs:List Str):Prop where
 ex:∃fI fd qual,C8 K C fI=true/\Fun K "__init__" qual (cZ cst) fI fd/\Binds K fd ("self" :: fs) []/\typeIn K (.ref fI)=some (.type "function")
 sc:aC ("self" :: fs) ("self" :: fs) (ai (cZ cst))
 loc:∀y∈("self" : Str)::fs,(ai (cZ cst)).names.lookup y=some .local
 body:kC (bK (cZ cst)) fs
 sa:findIn K (.ref C) "__setattr__" = some (some (.builtin "object.__setattr__"))
 ov:oP K C=true
 tk:∀f∈fs,takerIn K C f=some none
 hd:hasDictIn K C=true
 ne:fs≠[]
noncomputable abbrev ws0 (t:Addr):Array Value:=#[.ref t,.none,.none,.none,.bool false,.none]
end L2
namespace PySem.W
open PySem PySem.Calls PyProof.Rows PySem.Spec Builtin Builtin.ObjectAttr
theorem rV:∀(n:Nat) {l:List Value},l.length<=n->sA l=true->l.contains (.type "BaseException")=true
 | 0,l,hl,e=>by
  have:l=[]:=List.eq_nil_of_length_eq_zero (by omega)
  subst this;cases e
 | n+1,l,hl,e=>by
  rcases vk e with rfl | ⟨c,r,rfl,e'⟩
  ·simp
  ·rw[List.contains_cons,rV n (by simp at hl;omega) e',Bool.or_true]
section
variable {K:Frag} {prog:Program} {w:World} {A:Around} {E:Value->Shared->Prop} {s:Shared} {x C dx:Addr} {ox:Obj} {mA:Str->Option Value} {name:Str} {v:Value}
theorem zJ {tk:Tok} {Q:Fin->Shared->Prop} (X:K.In s.heap) (hx:s.heap.get? x=some ox) (hc:ox.cls=.ref C) (hf:∃ws,ox.data=.fields ws) (hd:ox.dict=some dx) (hn:s.heap.Ns dx mA) (hv:mA name=some v)
  (hna:findIn K (.ref C) name=some none) (hh:hasDictIn K C=true) (h:Q (.done (.ret v)) s):wpAny (model prog w) A (Builtin.«object.__getattribute__» ⟨[.ref x,.str name tk],[]⟩) Q E s:=by
 obtain⟨cd,hcd,hd'⟩:=any_some hh
 obtain⟨oc,od,oda,osl⟩:=ox
 obtain⟨ws,hf⟩:=hf
 dsimp only at hc hd hf
 subst hc hd hf
 have I:InstAt s.heap x ⟨.ref C,some dx,.fields ws,osl⟩ C (some hn.choose):=⟨hx,rfl,rfl,hn.choose_spec.choose_spec.choose_spec.1⟩
 have e:Builtin.«object.__getattribute__» ⟨[.ref x,.str name tk],[]⟩=(typeOf (.ref x) >>= fun tp=>find (.ref x) tp name >>= fun f=>match f with
   | .value v=>(ret v:Sem Fin)
   | .bind g a=>bindTo g a (.ref x) tp
   | .missing=>do
    if tp == .type "module" then
     if ← isOpaqueModuleObj (.ref x) then
      let byTheModulesOwnEntry:=match (← stack).drop 1 with
       | (.builtin "module.__getattribute__" ⟨m::_,_⟩,_)::_=>m == .ref x
       | _=>false
      if !byTheModulesOwnEntry then unsupported "thirdparty:object.__getattribute__:a-miss-on-an-opaque-module"
    if tp == .type "type" then
     if let some key ← opaqueClassAbove (.ref x) then unsupported s!"thirdparty:{key.toString}.{name.toString}:object.__getattribute__-misses-on-an-opaque-class"
    noSuchAttribute (.ref x) name):=by rfl
 rw[e]
 refine wpAny_bind (I.type.here ?_)
 refine wpAny_bind ?_
 unfold find
 refine wpAny_bind ((looks_findIn X hna).here ?_)
 refine wpAny_bind (wpAny_pure (wpAny_bind (wpAny_pure ?_)))
 show wpAny _ _ (ownThenClass (.ref x) name none none) _ _ _
 unfold ownThenClass inOwnDict
 refine wpAny_bind (wpAny_bind ?_)
 show wpAny _ _ (loadPart x (some headPart) >>= _) _ _ _
 refine wpAny_bind (wpAny_loadPart hx ?_)
 show wpAny _ _ (instanceDict x false) _ _ _
 unfold instanceDict
 refine wpAny_bind (wpAny_loadPart hx ?_)
 refine wpAny_bind ?_
 refine(looks_clsIn X hcd).here ?_
 rw[hd']
 refine wpAny_pure (a:=some dx) ?_
 show wpAny _ _ (nsGet dx name) _ _ _
 refine wpAny_nsGet hn ?_
 rw[hv]
 refine wpAny_bind (wpAny_rule (wpAny_pure ?_))
 exact wpAny_pure h
theorem D7 {b:Bool} {Q:Value->Shared->Prop} (X:K.In s.heap) (hx:s.heap.get? x=some ox) (hc:ox.cls=.ref C) (hf:∃ws,ox.data=.fields ws) (hd:ox.dict=some dx) (hn:s.heap.Ns dx mA) (hv:mA name=some v)
  (hga:findIn K (.ref C) "__getattribute__" = some (some (.builtin "BaseException.__getattribute__"))) (hgh:findIn K (.ref C) "__getattr__" = some none) (hna:findIn K (.ref C) name=some none) (ov:oP K C=true) (hh:hasDictIn K C=true) (hv2:handedOut v=pure v)
  (h:Q v { s with toks:=s.toks+1 }):wpAny (model prog w) A (getAttr (.ref x) name b) Q E s:=by
 have FB:=PySem.F.attrBase_ValueError
 have I:InstAt s.heap x ox C (some hn.choose):=⟨hx,hc,by obtain⟨ws,e⟩:=hf;unfold notCls;rw[e],by rw[hd];exact hn.choose_spec.choose_spec.choose_spec.1⟩
 obtain⟨cd,hcd,ho⟩:=any_some ov
 have ne:cd.mro.isEmpty=false:=by cases q:cd.mro with | nil=>rw[q] at ho;cases ho | cons _ _=>rfl
 have sub:Looks (model prog w) s.heap (isInstance (.ref x) (.type "BaseException")) true:=I.type.andThen (looks_mroIn X (by unfold mroIn;rw[hcd,Option.bind_some,if_neg (by rw[ne];decide),rV _ (Nat.le_refl _) ho]))
 unfold getAttr getAttrBy
 refine wpAny_bind (wpAny_mkText (wpAny_holding (wpAny_bind (Looks.here (s:={ s with toks:=s.toks+1 }) I.type (wpAny_bind (Looks.here (s:={ s with toks:=s.toks+1 }) (looks_findIn X hga) ?_))))))
 dsimp only
 have hx2:(Value.builtin "BaseException.__getattribute__" == Value.builtin "object.__getattribute__")=false:=by decide +kernel
 rw[if_neg (by rw[hx2,Bool.and_false];decide)]
 unfold getAttrByItsOwn
 refine wpAny_bind ?_
 show wpAny _ _ (typeLookup (.ref C) "__getattr__") _ _ _
 refine Looks.here (s:={ s with toks:=s.toks+1 }) (looks_findIn X hgh) ?_
 refine wpAny_bind (wpAny_attempt (wpAny_holding ?_))
 have hcall:callGetattribute (.ref x) (.str name s.toks) (.builtin "BaseException.__getattribute__") b=boundAndCalled (.builtin "BaseException.__getattribute__") (.ref x) (.str name s.toks):=by cases b<;>rfl
 rw[hcall]
 unfold boundAndCalled
 refine wpAny_bind ?_
 rw[FB.ga.bind (.ref x)]
 refine wpAny_pure ?_
 have hk:builtinKind "BaseException.__getattribute__" = some .slot:=by decide +kernel
 have hsplit:splitId "BaseException.__getattribute__" = some ("BaseException", "__getattribute__"):=by decide +kernel
 refine wpAny_call (codeAny_call_builtin FB.ga.plain PySem.F.entry_bexc_ga (@check_slot (model prog w) _ _ { s with toks:=s.toks+1 } "BaseException.__getattribute__" "BaseException" "__getattribute__" (.ref x) [.str name s.toks] [] _ hk hsplit sub (PySem.F.args_bexc_ga (.ref x) (.str name s.toks)) ?_))
 refine zJ (s:={ s with toks:=s.toks+1 }) X hx hc hf hd hn hv hna hh ?_
 show wpAny _ _ (handedOut v) _ _ _
 rw[hv2]
 exact wpAny_pure h
end
end PySem.W
namespace L2
open PySem PySem.Spec PyProof.Rows PySem.W
structure HZ (K:PySem.W.Frag) (C:Addr) (f:Str):Prop where
 ga:findIn K (.ref C) "__getattribute__" = some (some (.builtin "BaseException.__getattribute__"))
 gh:findIn K (.ref C) "__getattr__" = some none
 na:findIn K (.ref C) f=some none
 ov:oP K C=true
 hd:hasDictIn K C=true
end L2
namespace L2.FE
open PySem PySem.Spec PyProof.Rows
noncomputable def AO (c f:Str):D->Hh->R D:=fun d h=>match d with
 | .exc c' fs=>if c'=c then (match fs.lookup f with | some i=>.ok (.int i) h | none=>.bad) else .bad
 | _=>.bad
theorem nv:∀{fs:List (Str × Int)} {f:Str} {i:Int},fs.lookup f=some i->(fs.map fun x=>(x.1,V.int x.2)).lookup f=some (.int i)
 | [],f,i,h=>by cases h
 | (y,j)::fs,f,i,h=>by
  simp only[List.map_cons,List.lookup] at h ⊢
  cases q:f == y with
  | true=>rw[q] at h;cases h;rfl
  | false=>rw[q] at h;exact nv h
section
variable {X:Cx} {g:GG} {ε:EE}
theorem Iu {e:Expr} {c f:Str} {C:Addr} {pos:Pos} {m:ME} (he:PE X e (tM X.K g ε m)) (hgc:g c=some C) (cr:HZ X.K C f) (hb:attributeBase e f X.env (eval e X.env)=eval e X.env:=by rfl):PE X (.Attribute e f pos) (tM X.K g ε (cUn (AO c f) m)):=by
 intro pins s σ H Q I ⟨α,env,h,sr,w⟩
 have A0:=he pins s σ H (fun v H1=>∃(p dx:Addr) (o od:Obj) (i:Int) (fs:List (Str × Int)),v=.ref p/\H1 p=some (AtO p o)/\o.cls=.ref C/\(∃vs,o.data=.fields vs)/\o.dict=some dx/\H1 dx=some (.frz od (.xd (fs.map fun x=>(x.1,V.int x.2))))/\fs.lookup f=some i/\Q (.int i) H1) I ⟨α,env,h,sr,w.bind.mono fun d h1 eq w1 v H1 α1 e1 hr1 r1=>by
  unfold AO at w1
  cases r1 with
  | exc hg hp hcl hda hfs=>
   rename_i c' C' p o fs
   dsimp only at w1
   by_cases hc:c'=c
   ·rw[if_pos hc] at w1
    subst hc
    rw[hgc] at hg;cases hg
    cases el:fs.lookup f with
    | none=>rw[el] at w1;exact w1.elim
    | some i=>
     rw[el] at w1
     rcases hfs with⟨_,rfl⟩ | ⟨dx,od,hd1,hd2⟩
     ·cases el
     ·exact⟨p,dx,o,od,i,fs,rfl,hp,hcl,hda,hd1,hd2,el,w1 (.int i) H1 α1 e1 hr1 (.int i)⟩
   ·rw[if_neg hc] at w1;exact w1.elim
  | _=>exact w1.elim⟩
 refine Fe hb (thn A0 fun u s1 ⟨v,H1,I1,rv,p,dx,o,od,i,fs,ev,hp,hcl,hda,hd1,hd2,el,q⟩=>?_)
 subst ev
 obtain rfl:u=Value.ref p:=rv
 obtain⟨ho,_⟩:=I1.hok p _ hp
 obtain⟨hod,mA,hns,rel⟩:=I1.hok dx _ hd2
 have rl:=rel f
 rw[nv el] at rl
 cases em:mA f with
 | none=>rw[em] at rl;exact rl.elim
 | some u=>
  rw[em] at rl
  obtain⟨t,rfl⟩:=rl
  exact PySem.W.D7 I1.kIn ho hcl hda hd1 hns.ns em cr.ga cr.gh cr.na cr.ov cr.hd rfl ⟨.int i,H1,I1.tok _,⟨t,rfl⟩,q⟩
end
end L2.FE
namespace L2
open PySem PySem.Spec PyProof.Rows PySem.W
noncomputable def CIs (K:PySem.W.Frag) (x:Str) (cst:Stmt) (fs:List Str):Prop:=∃C,nsIn K mainGlobals x=some (some (.ref C))/\IK K x cst C fs/\∀f∈fs,HZ K C f
noncomputable def Km (K:PySem.W.Frag) (C fI:Addr) (fs:List Str):Bool:=C8 K C fI&&typeIn K (.ref fI) == some (.type "function")&&findIn K (.ref C) "__setattr__" == some (some (.builtin "object.__setattr__"))&&oP K C&&hasDictIn K C&&
 findIn K (.ref C) "__getattribute__" == some (some (.builtin "BaseException.__getattribute__"))&&findIn K (.ref C) "__getattr__" == some none&&fs.all fun f=>takerIn K C f == some none&&findIn K (.ref C) f == some none
noncomputable def CIm (K:PySem.W.Frag) (mg:Str->Option Value) (x:Str) (cst:Stmt) (fs:List Str):Prop:=∃C,mg x=some (.ref C)/\IK K x cst C fs/\∀f∈fs,HZ K C f
theorem CIm.of {K:PySem.W.Frag} {h:Heap} {mg:Str->Option Value} {x:Str} {cst:Stmt} {fs:List Str} (X:K.In h) (G:h.Ns mainGlobals mg) (c:CIs K x cst fs):CIm K mg x cst fs:=
 let ⟨C,a,b,d⟩:=c;⟨C,mg_of X G a,b,d⟩
end L2
namespace L2.FE
open PySem PySem.Spec PyProof.Rows
section
variable {X:Cx} {g:GG} {E:XK}
theorem uE {ε:EE} {e:Expr} {c f:Str} {cst:Stmt} {fs:List Str} {pos:Pos} {m:ME} (he:PE X e (tM X.K g ε m)) (cm:CIm X.K X.mg c cst fs) (hgo:g=gOf X.mg) (hf:f∈fs) (hb:attributeBase e f X.env (eval e X.env)=eval e X.env:=by rfl):PE X (.Attribute e f pos) (tM X.K g ε (cUn (AO c f) m)):=by
 obtain⟨C,hm,_,cr⟩:=cm
 exact Iu he (by rw[hgo];unfold gOf;rw[hm]) (cr f hf) hb
end
end L2.FE
namespace L2
open PySem PySem.Spec PyProof.Rows PySem.W
theorem yV {K:PySem.W.Frag} {x qual:Str} {cst:Stmt} {C fI:Addr} {fs:List Str} {oc:Value} {od an:Option Addr} {osl:Array (Option Value)} {kV doc pm cdv ct:Value} (a:nsIn K mainGlobals x=some (some (.ref C))) (_b:findIn K (.ref C) "__init__" = some (some (.ref fI)))
  (l:K.lookup fI=some ⟨oc,od,.func (fnOf "__init__" qual (eJ (cZ cst)) (bK (cZ cst)) (ai (cZ cst)) .none kV doc pm an cdv ct),osl⟩) (c:codeIn K cdv qual=true) (k:keepIn K (.ref fI)=true) (o:Km K C fI fs=true)
  (sc:aC ("self" :: fs) ("self" :: fs) (ai (cZ cst))) (loc:∀y∈("self" : Str)::fs,(ai (cZ cst)).names.lookup y=some .local) (body:kC (bK (cZ cst)) fs)
  (bd:∀(kV doc pm:Value) (an:Option Addr) (cdv ct:Value) (us:List Value),us.length=(("self" : Str)::fs).length->bindArgs (fnOf "__init__" qual (eJ (cZ cst)) (bK (cZ cst)) (ai (cZ cst)) .none kV doc pm an cdv ct) ⟨us,[]⟩=pure ((("self" : Str)::fs).zip us)) (ne:fs≠[]):CIs K x cst fs:=by
 unfold Km at o
 simp only[Bool.and_eq_true,beq_iff_eq,List.all_eq_true] at o
 obtain⟨⟨⟨⟨⟨⟨⟨o1,o2⟩,o3⟩,o4⟩,o5⟩,o6⟩,o7⟩,o8⟩:=o
 have F:Fun K "__init__" qual (cZ cst) fI _:=xq l c k
 exact⟨C,a,⟨⟨fI,_,qual,o1,F,F.binds bd,o2⟩,sc,loc,body,o3,o4,fun f hf=>(o8 f hf).1,o5,ne⟩,fun f hf=>⟨o6,o7,(o8 f hf).2,o4,o5⟩⟩
theorem Gm {P:Program} {w:World} {H:Hp} {h':Heap} {a:Addr} {o:Obj} (e:h'.get? a=some o):cF P w H h' a (FE.AtO a o):=⟨e,e,⟨o,e⟩,fun h1 h2 q k=>k o q⟩
end L2
namespace L2.Srt
open PySem PySem.W PyProof.Rows
section
variable {n:Nat} {key:Nat->Int}
structure Pm (n:Nat) (p:Array Nat):Prop where
 size:p.size=n
 perm:p.Perm (List.range n).toArray
theorem Pm.lt {p:Array Nat} (h:Pm n p) {i:Nat} (hi:i<n):p.getD i 0<n:=by
 have hi':i<p.size:=by rw[h.size];exact hi
 have e:p.getD i 0=p[i]:=by simp[Array.getD,hi']
 rw[e]
 have:=h.perm.mem_iff.mp (Array.getElem_mem hi')
 simpa using this
variable (inj:∀i j,i<n->j<n->key i=key j->i=j)
include inj
omit inj in
omit inj in
omit inj in
omit inj in
omit inj in
omit inj in
end
end L2.Srt
namespace L2.Srt
open PySem PySem.W PyProof.Rows PySem.Calls
section
variable {prog:Program} {w:World} {A:Around} {E:Value->Shared->Prop} {s:Shared} {vs:List Value}
inductive Prs (h:Heap):List Value->List (Int × Int)->Prop
 | nil:Prs h [] []
 | cons {a:Addr} {o:Obj} {k:Nat} {t u:Tok} {x y:Int} {vs:List Value} {ps:List (Int × Int)}:h.get? a=some o->o.cls=.type "tuple" -> o.data=.seq #[.int x t,.int y u] k->Prs h vs ps->Prs h (.ref a::vs) ((x,y)::ps)
theorem Prs.len {h:Heap} {vs:List Value} {ps:List (Int × Int)} (r:Prs h vs ps):vs.length=ps.length:=by
 induction r with
 | nil=>rfl
 | cons _ _ _ _ ih=>simp[ih]
theorem Prs.at_ {h:Heap} {vs:List Value} {ps:List (Int × Int)} (r:Prs h vs ps):∀{i:Nat},i<ps.length->∃a o k t u,vs.getD i Value.none=.ref a/\h.get? a=some o/\o.data=.seq #[.int (ps.getD i (0,0)).1 t,.int (ps.getD i (0,0)).2 u] k:=by
 induction r with
 | nil=>intro i hi;simp at hi
 | @cons a o k t u x y vs ps ha hc hd r ih=>
  intro i hi
  cases i with
  | zero=>exact⟨a,o,k,t,u,rfl,ha,hd⟩
  | succ i=>
   obtain⟨a',o',k',t',u',e1,e2,e3⟩:=ih (i:=i) (by simpa using hi)
   exact⟨a',o',k',t',u',by simpa using e1,e2,by simpa using e3⟩
end
end L2.Srt
namespace L2
open PySem PySem.Spec PyProof.Rows L2.Srt
inductive PrV (K:PySem.W.Frag) (H:Hp):List V->List (Int × Int)->Prop
 | nil:PrV K H [] []
 | cons {a:Addr} {x y:Int} {xs:List V} {ps:List (Int × Int)}:SqT K H a [.int x,.int y]->PrV K H xs ps->PrV K H (.ref a::xs) ((x,y)::ps)
section
variable {X:Cx}
theorem PrV.len {K:PySem.W.Frag} {H:Hp} {xs:List V} {ps:List (Int × Int)} (r:PrV K H xs ps):xs.length=ps.length:=by
 induction r with
 | nil=>rfl
 | cons _ _ ih=>simp[ih]
end
end L2
namespace L2.FE
open PySem PySem.Spec PyProof.Rows
noncomputable def setOf (h:Hh) (n:Nat):Option (List Int):=match h[n]? with
 | some (.set ns)=>some ns
 | _=>none
section
variable {X:Cx} {g:GG} {ε:EE} {K:PySem.W.Frag}
theorem aX.set {α:List Addr} {H:Hp} {h:Hh} {n:Nat} {p:Addr} {ns:List Int} (r:aX K g α H h) (e:setOf h n=some ns) (hp:α[n]?=some p):H p=some (.set (fun k=>ns.any (· == k)) ns.length):=by
 unfold setOf at e
 cases eo:h[n]? with
 | none=>rw[eo] at e;cases e
 | some o=>
  rw[eo] at e
  cases o with
  | set k=>cases e;exact r.here n p _ hp eo
  | _=>cases e
end
noncomputable def Gi (h:Hh) (n:Nat):Option (List (List Key × D)):=match h[n]? with
 | some (.dit kvs)=>some kvs
 | _=>none
noncomputable abbrev PDT (K:PySem.W.Frag) (g:GG) (α:List Addr) (H:Hp):List (List Key × D)->List (List Key × V)->Prop:=Paired (fun(a:List Key × D) (b:List Key × V)=>a.1=b.1/\aO K g α H a.2 b.2)
section
variable {K:PySem.W.Frag} {g:GG} {α:List Addr} {H:Hp} {h:Hh}
theorem aX.dit {n:Nat} {p:Addr} {kvs:List (List Key × D)} (r:aX K g α H h) (e:Gi h n=some kvs) (hp:α[n]?=some p):∃kws,H p=some (.dT kws)/\PDT K g α H kvs kws:=by
 unfold Gi at e
 cases eo:h[n]? with
 | none=>rw[eo] at e;cases e
 | some o=>
  rw[eo] at e
  cases o with
  | dit k=>cases e;exact r.here n p _ hp eo
  | _=>cases e
theorem PDT.ext {α':List Addr} {H':Hp} {kvs:List (List Key × D)} {kws:List (List Key × V)} (e:Ext K α H α' H') (r:PDT K g α H kvs kws):PDT K g α' H' kvs kws:=Paired.JV e.toEx0 r
theorem aM.dit {Q:VK} {kvs:List (List Key × D)} {kws:List (List Key × V)} {p:Addr} (w:aM K g α H Q (.ref h.length) (h++[.dit kvs])) (r:aX K g α H h) (rs:PDT K g α H kvs kws) (hp:H p=none):Q (.ref p) (upd H p (.dT kws)):=by
 have x:=Ext.push (K:=K) (α:=α) (o:=.dT kws) hp
 exact w _ _ _ x (r.push hp ⟨_,aZ,rs.ext x⟩) (.ref (by rw[<- r.len];simp))
end
end L2.FE
namespace L2
open PySem PySem.Spec PyProof.Rows
noncomputable abbrev Hy (J:It) (ix:List Nat) (σ:St) (wi2:TI) (te:TE) (acc:Addr) (H1:Hp) (Q:VK):Prop:=
 ∃W:Nat->Nat->List V->Hp->Prop,(∃m,W 0 m [] (upd H1 acc (.lst [])))/\∀i m ys H,W i m ys H →
  (J.stop i H/\Q (.ref acc) H)\/(J.go i H/\∀σ0 x H',jw 2 ix σ σ0->J.yld i H x H'->wi2 (σ0.set 0 (some x)) H' fun J2 H2=>
   ∃U:Nat->Nat->List V->Hp->Prop,(∃m2,U 0 m2 ys H2)/\∀j m2 zs H,U j m2 zs H->(J2.stop j H/\∃m',m'<m/\W (i+1) m' zs H) ∨
    (J2.go j H/\∀y H',J2.yld j H y H'->te ((σ0.set 0 (some x)).set 1 (some y)) H' fun v H3=>∃ks,H3 acc=some (.lst ks)/\ks.length<sizeLine/\∃m',m'<m2/\U (j+1) m' (ks++[v]) (upd H3 acc (.lst (ks++[v])))))
noncomputable def xj (wi:TI) (ix:List Nat) (wi2:TI) (te:TE):TE:=fun σ H Q=>wi σ H fun J H1=>∀acc,H1 acc=none->Hy J ix σ wi2 te acc H1 Q
section
variable {prog:Program} {w:World} {A:Around} {R:Result->Shared->Prop} {s:Shared} {elt tg iter tg2 iter2:Expr} {scope:Scope} {pos:Pos} {it acc:Value} {env:Env}
noncomputable abbrev e2 (elt tg iter tg2 iter2:Expr) (scope:Scope) (pos:Pos):Expr:=.ListComp elt [⟨tg,iter,[],0⟩,⟨tg2,iter2,[],0⟩] scope pos
theorem A1:compTurn (e2 elt tg iter tg2 iter2 scope pos) 0 it acc env=(standAt iter.pos >>= fun _=>pyNext it >>= fun r=>match r with
  | none=>pure (.done .next)
  | some v=>letOwnedTupleGo tg it v >>= fun _=>assign tg env v >>= fun _=>
   eval iter2 env >>= fun x=>standAt iter2.pos >>= fun _=>foldedSetIterable iter2 env x >>= fun x=>holding [x] (pyIter x) >>= fun i2=>runOwn (.compStart (e2 elt tg iter tg2 iter2 scope pos) 1 i2 acc env) env >>= fun _=>
    again (.compLoop (e2 elt tg iter tg2 iter2 scope pos) 0 it acc env)):=by rfl
theorem Ee:compTurn (e2 elt tg iter tg2 iter2 scope pos) 1 it acc env=(standAt iter2.pos >>= fun _=>pyNext it >>= fun r=>match r with
  | none=>pure (.done .next)
  | some v=>letOwnedTupleGo tg2 it v >>= fun _=>assign tg2 env v >>= fun _=>
   (eval elt env >>= fun x=>call (.builtin "list.append") [acc,x] >>= fun _=>pure ()) >>= fun _=>
    again (.compLoop (e2 elt tg iter tg2 iter2 scope pos) 1 it acc env)):=by rfl
theorem BY (I:Nat->Shared->Prop)
  (turn:∀n s,I n s->wpAny (model prog w) A (pyNext it) (fun r s₁=>match r with
   | none=>R (.ok .next) s₁
   | some v=>wpAny (model prog w) A (letOwnedTupleGo tg2 it v) (fun _ s₁=>wpAny (model prog w) A (assign tg2 env v) (fun _ s₂=>
     wpAny (model prog w) A (eval elt env) (fun x s₄=>wpAny (model prog w) A (call (.builtin "list.append") [acc,x]) (fun _ s₅=>∃m,m<n/\I m s₅) (fun _ _=>False) s₄) (fun _ _=>False) s₂) (fun _ _=>False) s₁) (fun _ _=>False) s₁) (fun _ _=>False) s)
  (n:Nat) (h:I n s):codeAny (model prog w) A (.compLoop (e2 elt tg iter tg2 iter2 scope pos) 1 it acc env) R s:=by
 refine codeAny_loop rfl I (fun n s hI=>?_) n h
 show wpAny _ A ((compTurn (e2 elt tg iter tg2 iter2 scope pos) 1 it acc env).onRaise (fun x=>do noteFrame x env;theTreesLotGoes x)) _ _ s
 refine wpAny_noted ?_
 rw[Ee]
 refine wpAny_noRaise ?_
 refine wpAny_bind (wpAny_standAt (wpAny_bind (thn (turn n s hI) fun r s₁ h₁=>?_)))
 cases r with
 | none=>exact wpAny_pure h₁
 | some v=>exact wpAny_bind (thn h₁ fun _ s₂ h₂=>wpAny_bind (thn h₂ fun _ s₃ h₃=>wpAny_bind (wpAny_bind (thn h₃ fun x s₄ h₄=>wpAny_bind (thn h₄ fun _ s₅ h₅=>wpAny_pure (wpAny_pure ⟨rfl,h₅⟩))))))
theorem z0 (I:Nat->Shared->Prop) (hf:∀x,foldedSetIterable iter2 env x=pure x)
  (turn:∀n s,I n s->wpAny (model prog w) A (pyNext it) (fun r s₁=>match r with
   | none=>R (.ok .next) s₁
   | some v=>wpAny (model prog w) A (letOwnedTupleGo tg it v) (fun _ s₁=>wpAny (model prog w) A (assign tg env v) (fun _ s₂=>
     wpAny (model prog w) A (eval iter2 env) (fun x s₃=>wpAny (model prog w) A (pyIter x) (fun i2 s₄=>
      codeAny (model prog w) A (.compStart (e2 elt tg iter tg2 iter2 scope pos) 1 i2 acc env) (fun r s'=>match r with
       | .ok _=>∃m,m<n/\I m s'
       | .error _=>False) s₄) (fun _ _=>False) s₃) (fun _ _=>False) s₂) (fun _ _=>False) s₁) (fun _ _=>False) s₁) (fun _ _=>False) s)
  (n:Nat) (h:I n s):codeAny (model prog w) A (.compLoop (e2 elt tg iter tg2 iter2 scope pos) 0 it acc env) R s:=by
 refine codeAny_loop rfl I (fun n s hI=>?_) n h
 show wpAny _ A ((compTurn (e2 elt tg iter tg2 iter2 scope pos) 0 it acc env).onRaise (fun x=>do noteFrame x env;theTreesLotGoes x)) _ _ s
 refine wpAny_noted ?_
 rw[A1]
 refine wpAny_noRaise ?_
 refine wpAny_bind (wpAny_standAt (wpAny_bind (thn (turn n s hI) fun r s₁ h₁=>?_)))
 cases r with
 | none=>exact wpAny_pure h₁
 | some v=>
  refine wpAny_bind (thn h₁ fun _ s₂ h₂=>wpAny_bind (thn h₂ fun _ s₃ h₃=>wpAny_bind (thn h₃ fun x s₄ h₄=>wpAny_bind (wpAny_standAt (wpAny_bind (wpAny_of_eq (hf x) (wpAny_bind (wpAny_holding (thn h₄ fun i2 s₅ h₅=>?_)))))))))
  refine wpAny_bind (wpAny_runOwn (codeAny_mono h₅ fun r s' hr=>?_))
  cases r with
  | ok f=>exact wpAny_pure ⟨rfl,hr⟩
  | error e=>exact hr.elim
theorem BB:compStart (e2 elt tg iter tg2 iter2 scope pos) 1 it acc env=(ask >>= fun st=>if st.params.followText "comprehension-iter-twice" = true then again (.compLoop (e2 elt tg iter tg2 iter2 scope pos) 1 it acc env) else
  rule "comprehension.iter-twice" >>= fun _=>standAt iter2.pos >>= fun _=>pyIter it >>= fun i'=>again (.compLoop (e2 elt tg iter tg2 iter2 scope pos) 1 i' acc env)):=by rfl
theorem B_ (h0:codeAny (model prog w) A (.compLoop (e2 elt tg iter tg2 iter2 scope pos) 1 it acc env) R s)
  (h:wpAny (model prog w) A (pyIter it) (fun i' s'=>codeAny (model prog w) A (.compLoop (e2 elt tg iter tg2 iter2 scope pos) 1 i' acc env) R s') (fun _ _=>False) s) :
  codeAny (model prog w) A (.compStart (e2 elt tg iter tg2 iter2 scope pos) 1 it acc env) R s:=by
 refine codeAny_of_tree ?_
 show wpAny _ _ ((compStart (e2 elt tg iter tg2 iter2 scope pos) 1 it acc env).onRaise (fun x=>do noteFrame x env;standAt theWindowsPlace)) _ _ s
 refine wpAny_notedAt ?_
 refine wpAny_noRaise ?_
 rw[BB]
 refine wpAny_bind (wpAny_askSetting ?_)
 split
 ·exact wpAny_pure ⟨rfl,h0⟩
 ·exact wpAny_bind (wpAny_rule (wpAny_bind (wpAny_standAt (wpAny_bind (thn h fun i' s' h'=>wpAny_pure ⟨rfl,h'⟩)))))
end
theorem zC {X:Cx} {use:Option (Value->Sem Unit)} {Q2:Value->Shared->Prop} {pins:List (Addr × Obj)} {s:Shared} {σ:St} {H:Hp} {Q:VK} {elt iter tg iter2 tg2:Expr} {tn':List Str} {scope osc:Scope} {pos:Pos} {wi wi2:TI} {te:TE} (ix:List Nat) (N':List Str)
  (hxe:X.xe=fun _ _=>False) (hc:X.calm=true) (ho:X.env.scope=osc) (hN:N'=tn'++ix.map fun i=>(X.N[i]?).getD ("" : Str)) (hnd:N'.Nodup)
  (hall:(∀y∈scope.names,y.2=.free->osc.names.lookup y.1=some .cell)/\(∀y∈scope.names,y.2≠.cell)/\scope.kind=.function/\(∀y∈scope.names,y.2=.local->scope.names.lookup y.1=some .local)/\(∀y∈N'.drop tn'.length,scope.names.lookup y=some .free))
  (hi:PI X tg iter wi) (hg:∀cl C aF aL fp,PG (bq X scope cl C aF aL fp N') tg (fG 0)) (hi2:∀cl C aF aL fp,PI (bq X scope cl C aF aL fp N') tg2 iter2 wi2) (hg2:∀cl C aF aL fp,PG (bq X scope cl C aF aL fp N') tg2 (fG 1))
  (he:∀cl C aF aL fp,PE (bq X scope cl C aF aL fp N') elt te)
  (hs:∀x,foldedSetIterable iter X.env x=pure x) (hs2:∀env x,foldedSetIterable iter2 env x=pure x) (h2n:tn'.length=2) (I:Inv X pins σ H s) (h:xj wi ix wi2 te σ H Q)
  (hfin:∀(acc C:Addr) (H5:Hp) (s5:Shared) (o:Obj),Inv X (pins++[(C,o)]) σ H5 s5->(∀x c,X.env.cells.lookup x=some c->c≠C)->X.aF.heap.objs.size<=C->(∀p∈X.pn++pins,p.1≠C)->(∃m,∀h':Heap,h'.get? C=some o->h'.Ns C m)->Q (.ref acc) H5->compPost (model X.prog X.w) X.A X.xe use Q2 (.ref acc) C (.ok .next) s5) :
  wpAny (model X.prog X.w) X.A (comprehension (.ListComp elt [⟨tg,iter,[],0⟩,⟨tg2,iter2,[],0⟩] scope pos) scope X.env (firstIterPos [⟨tg,iter,[],0⟩,⟨tg2,iter2,[],0⟩] pos) (newList []) false (eval iter X.env) use) Q2 X.xe s:=by
 obtain⟨hfr,hcell,hkind,hnames,hcap⟩:=hall
 subst ho
 have outc:∀y∈scope.names,y.2=.free->X.env.kindOf y.1=some .cell:=fun y hy q=>hfr y hy q
 obtain⟨cl,hclos,hcl1,hcl2⟩:=kA (env:=X.env) (scope:=scope) fun y hy q=>I.ok.has y.1 (.inl (outc y hy q))
 refine wpAny_comprehension_free (use:=use) rfl hs hclos hkind hnames (thn (hi pins s σ H _ I h) fun v s1 h1=>thn h1 fun itv s2 h2=>?_)
 obtain⟨it,fp,tn,J,H2,e,I2,T,st2,f2,rest⟩:=h2
 subst e
 have hf2:H2 s2.heap.objs.size=none:=I2.hok.fresh (Nat.le_refl _)
 obtain⟨W,⟨m0,w0⟩,turn⟩:=rest s2.heap.objs.size hf2
 -- the list
 refine wpAny_newObj_type ?_
 have I3:Inv X pins σ (upd H2 s2.heap.objs.size (.lst [])) { s2 with heap:=s2.heap.push { cls:=.type "list", dict:=none,data:=.seq ([]:List Value).toArray } }:=I2.Fc (its:=[]) (t':=s2.toks) .nil (Nat.zero_le _)
 have keep3:∀b o,s2.heap.get? b=some o->(s2.heap.push { cls:=.type "list", dict:=none,data:=.seq ([]:List Value).toArray }).get? b=some o:=fun b o q=>Heap.get?_push_of_some _ q
 have fp3:∀b∈fp,∃o,s2.heap.get? b=some o/\∀v,o.data≠.cell v:=T.obj _ _ st2
 have st3:tn 0 (s2.heap.push { cls:=.type "list", dict:=none,data:=.seq ([]:List Value).toArray }):=T.keep _ _ _ st2 fun b _ o q=>keep3 b o q
 have fpn:∀b∈fp,(upd H2 s2.heap.objs.size (HO.lst [])) b=none:=fun b hb=>by
  obtain⟨o,q,_⟩:=fp3 b hb
  rw[aD (Nat.ne_of_lt (Heap.lt_size q))]
  exact(f2 b hb).1
 revert I3 keep3 st3 fpn w0
 generalize hS3:({ s2 with heap:=s2.heap.push { cls:=.type "list", dict:=none,data:=.seq ([]:List Value).toArray } }:Shared)=s3
 generalize hH3:upd H2 s2.heap.objs.size (HO.lst [])=H3
 intro w0 I3 keep3 st3 fpn
 have acc3:H3 s2.heap.objs.size=some (.lst []):=by rw[<- hH3];exact aZ
 generalize s2.heap.objs.size=acc at *
 have e3:s2.heap.push { cls:=.type "list", dict:=none,data:=.seq ([]:List Value).toArray }=s3.heap:=by rw[<- hS3]
 have keep3':∀b o,s2.heap.get? b=some o->s3.heap.get? b=some o:=fun b o q=>by rw[<- e3];exact keep3 b o q
 have st3':tn 0 s3.heap:=by rw[<- e3];exact st3
 refine wpAny_newFunctionEnv hcell (by intro y hy;simp at hy) (fun h₁ hns₁ hsb₁=>?_) hkind
 have hC:s3.heap.objs.size=s3.heap.objs.size:=rfl
 have keep4:∀b o,s3.heap.get? b=some o->h₁.get? b=some o:=fun b o q=>hsb₁.extBut b o (Nat.ne_of_lt (Heap.lt_size q)) (Heap.get?_push_of_some _ q)
 have fpC:∀b∈fp,b≠s3.heap.objs.size:=fun b hb=>by
  obtain⟨o,q,_⟩:=fp3 b hb
  exact Nat.ne_of_lt (Heap.lt_size (keep3' b o q))
 -- the block's context
 generalize hX':bq X scope cl s3.heap.objs.size s3 H3 fp N'=X'
 have hXp:X'.prog=X.prog:=by rw[<- hX'];rfl
 have hXw:X'.w=X.w:=by rw[<- hX'];rfl
 have hXK:X'.K=X.K:=by rw[<- hX'];rfl
 have hXA:X'.A=X.A:=by rw[<- hX'];rfl
 have hXe:X'.env=compEnvC scope cl s3.heap.objs.size X.env:=by rw[<- hX'];rfl
 have hXc:X'.calm=true:=by rw[<- hX'];exact hc
 have hXx:X'.xe=fun _ _=>False:=by rw[<- hX'];exact hxe
 have hXf:X'.fs=frs X.stack:=by rw[<- hX'];rfl
 have hXex:X'.ex=fp:=by rw[<- hX'];rfl
 have hXN:X'.N=N':=by rw[<- hX'];rfl
 have hXs:X'.aF=s3:=by rw[<- hX'];rfl
 have hXH:X'.aL=H3:=by rw[<- hX'];rfl
 have hXpn:X'.pn=[]:=by rw[<- hX'];rfl
 have okX:X'.Ok:=by
  rw[<- hX']
  refine⟨I3.ok.mod,hkind,I3.ok.glob,I3.ok.blt,Nat.le_refl _,fun a b c p q=>I3.ok.inj a b c (hcl1 a c p) (hcl1 b c q),fun y hy=>?_,fun _ _ z=>(by cases z),I3.ok.hd,I3.ok.frames,.inl rfl,fun b hb=>⟨fpC b hb,fun y c p=>(f2 b hb).2.2.2.2.1 y c (hcl1 y c p)⟩,
   I3.bs,Nat.le_trans I3.ok.bsz I3.sz,fun b o p hb=>?_,fun b hb z=>?_,I3.stack,I3.oH⟩
  ·have hy':(relabel scope X.env).names.lookup y=some .cell\/(relabel scope X.env).names.lookup y=some .free:=hy
   have free:scope.names.lookup y=some .free->∃c,cl.lookup y=some c:=fun q=>hcl2 y (lookup_mem q)
   rcases hy' with q | q
   ·rcases eQ q with z | ⟨z,_⟩
    ·exact absurd rfl (hcell _ (lookup_mem z))
    ·exact free z
   ·rcases eQ q with z | ⟨_,z⟩
    ·exact free z
    ·cases z
  ·rcases(f2 b hb).2.2.2.1 with z | z
   ·exact I3.ok.qA b o p z
   ·exact absurd (Nat.lt_of_lt_of_le (Heap.lt_size p) (Nat.le_trans I3.ok.bsz z)) (Nat.lt_irrefl _)
  ·rcases List.mem_cons.mp (I3.gQ b z) with q | q
   ·exact(f2 b hb).2.1 q
   ·exact(f2 b hb).2.2.1 q
 have I4:∀tk,Inv X' [] (qP tn'.length ix σ) H3 { s3 with heap:=h₁,toks:=tk }:=fun tk=>by
  have hloc:=I3.loc
  refine⟨okX,by rw[hXs],I3.bare,?_,⟨fun y=>([]:List (Str × Value)).reverse.lookup y,by rw[hXe];exact hns₁,fun i y v e1 e2 e3=>?_⟩,fun y c p=>?_,?_,fun y c p=>?_,fun p hp=>?_,?_,?_⟩
  ·rw[hXf,hXex,hXH,hXs];exact Un.kept keep4
  ·rw[hXN,hN] at e1
   by_cases hit':i<tn'.length
   ·exfalso
    unfold qP at e2
    rw[List.getElem?_append_left (by simpa using hit'),List.getElem?_replicate,if_pos hit'] at e2
    cases e2
   ·have e10:N'[i]?=some y:=by rw[hN];exact e1
    obtain⟨j,rfl⟩:∃j,i=tn'.length+j:=⟨i - tn'.length,by omega⟩
    have e1':(ix.map fun i=>(X.N[i]?).getD ("" : Str))[j]?=some y:=by
     rw[List.getElem?_append_right (by omega)] at e1
     rw[show tn'.length+j - tn'.length=j by omega] at e1
     exact e1
    have e2':(ix.map fun i=>(σ[i]?).join)[j]?=some (some v):=by
     unfold qP at e2
     rw[List.getElem?_append_right (by simp)] at e2
     simpa using e2
    rw[List.getElem?_map] at e1' e2'
    cases hj:ix[j]? with
    | none=>rw[hj] at e1';cases e1'
    | some i0=>
     rw[hj] at e1' e2'
     have e1'':(X.N[i0]?).getD ("" : Str)=y:=by simpa using e1'
     have e2'':(σ[i0]?).join=some v:=by simpa using e2'
     have hsv:σ[i0]?=some (some v):=by
      cases q:σ[i0]? with
      | none=>rw[q] at e2'';cases e2''
      | some z=>rw[q] at e2'';have:z=some v:=by simpa using e2''
                rw[this]
     have hlt:i0<X.N.length:=by
      have:=(List.getElem?_eq_some_iff.mp hsv).1
      rw[I3.len] at this;exact this
     have hNy:X.N[i0]?=some y:=by
      rw[List.getElem?_eq_getElem hlt] at e1'' ⊢
      simpa using e1''
     have hyt:y∈N'.drop tn'.length:=by
      refine List.mem_of_getElem? (i:=j) ?_
      rw[List.getElem?_drop];exact e10
     have hyf:=hcap y hyt
     have hyc:=outc (y,.free) (lookup_mem hyf) rfl
     obtain⟨m,hn,hl⟩:=hloc
     obtain⟨u,r,l⟩:=hl i0 y v hNy hsv (.inr (.inl hyc))
     refine⟨u,r,?_⟩
     rcases l with⟨k1,_⟩ | ⟨_,c,p,z⟩
     ·have hyc':X.env.kindOf y=some .cell:=hyc
      rw[k1] at hyc';cases hyc'
     ·obtain⟨c',p'⟩:=hcl2 y (lookup_mem hyf)
      have pc:c'=c:=by
       have:=hcl1 y c' p'
       rw[p] at this;cases this;rfl
      subst pc
      refine .inr ⟨.inl ?_,c',by rw[hXe];exact p',?_⟩
      ·rw[hXe];exact dU I3.ok.kind hyf hyc
      ·obtain⟨o,q1,q2⟩:=z
       exact⟨o,keep4 c' o q1,q2⟩
  ·rw[hXe] at p
   obtain⟨v,o,q1,q2⟩:=I3.cell y c (hcl1 y c p)
   exact⟨v,o,keep4 c o q1,q2⟩
  ·rw[hXe];exact I3.hok.fresh (Nat.le_refl _)
  ·rw[hXe] at p;exact I3.dR y c (hcl1 y c p)
  ·rw[hXpn] at hp;cases hp
  ·rw[hXp,hXw];exact I3.hok.kept keep4
  ·rw[hXN,hN];simp[qP]
 -- the loop
 have stat:∀{H':Hp},(∀b∈fp,H' b=none)->∀b∈fp,n_ X' [] H' b:=fun hn b hb=>by
  refine⟨hn b hb,by rw[hXe];exact fpC b hb,?_,.inl (by rw[hXex];exact hb),fun y c p=>?_,fun p hp=>by rw[hXpn] at hp;cases hp⟩
  ·rw[hXf];intro z
   rcases List.mem_cons.mp (I3.gQ b z) with q | q
   ·exact(f2 b hb).2.1 q
   ·exact(f2 b hb).2.2.1 q
  ·rw[hXe] at p;exact(f2 b hb).2.2.2.2.1 y c (hcl1 y c p)
 have fin:∀{H5:Hp} {s5:Shared} {σ5:St},Inv X' [] σ5 H5 s5->Q (.ref acc) H5->compPost (model X.prog X.w) X.A X.xe use Q2 (.ref acc) s3.heap.objs.size (.ok .next) s5:=fun{H5 s5 σ5} I5 q=>by
  obtain⟨m,hn,_⟩:=I5.loc
  rw[hXe] at hn
  have hn':s5.heap.Ns s3.heap.objs.size m:=hn
  obtain⟨oC,esC,epC,hC1,hC2,hC3⟩:=hn'
  have u5:=I5.base
  rw[hXf,hXex,hXH,hXs] at u5
  have fr:H5 s3.heap.objs.size=none:=by have:=I5.free;rw[hXe] at this;exact this
  have hok5:=I5.hok
  rw[hXp,hXw] at hok5
  have hos:s5.os=s3.os:=by have:=I5.os;rw[hXs] at this;exact this
  have IX:Inv X pins σ H5 s5:=I3.sy (s':=s5) (ch:=fp) hos u5 hok5 I5.bare (fun b hb=>by
   obtain⟨g0,g1,g2,g3,g4,g5⟩:=f2 b hb
   exact⟨g3,g1,g4,g5⟩)
  have cC:∀x c,X.env.cells.lookup x=some c->c≠s3.heap.objs.size:=fun x c z e=>by
   obtain⟨v,q⟩:=I3.cell x c z
   exact absurd q.lt (by rw[e];exact Nat.lt_irrefl _)
  have pC:∀p∈X.pn++pins,p.1≠s3.heap.objs.size:=fun p hp e=>by
   have:=Heap.lt_size (I3.pin p hp).1
   rw[e] at this
   exact Nat.lt_irrefl _ this
  refine hfin acc s3.heap.objs.size H5 s5 oC (IX.lM fun p hp=>?_) cC I3.sz pC ⟨m,fun h' z=>⟨oC,esC,epC,z,hC2,hC3⟩⟩ q
  rcases List.mem_append.mp hp with z | z
  ·exact IX.pin p (List.mem_append_right _ z)
  ·have e:=List.mem_singleton.mp z
   subst e
   refine⟨hC1,fr,Nat.ne_of_gt I3.lt,I3.HI (Nat.le_refl _),fun v e=>?_⟩
   have e':oC.data=.cell v:=e
   rw[hC2] at e';cases e'
 have IsC:∀{σ0:St} {i:Nat} {v:Option V},jw 2 ix σ σ0->i<2->jw 2 ix σ (σ0.set i v):=fun{σ0 i v} ⟨ts,hl,e⟩ hi=>⟨ts.set i v,by rw[List.length_set];exact hl,by rw[e,List.set_append_left _ _ (by rw[hl];exact hi)]⟩
 have loop:∀tk,codeAny (model X.prog X.w) X.A (.compLoop (.ListComp elt [⟨tg,iter,[],0⟩,⟨tg2,iter2,[],0⟩] scope pos) 0 (.ref it) (.ref acc) (compEnvC scope cl s3.heap.objs.size X.env))
   (compPost (model X.prog X.w) X.A X.xe use Q2 (.ref acc) s3.heap.objs.size) { s3 with heap:=h₁,toks:=tk }:=fun tk=>by
  refine z0 (fun n s'=>∃i ys σ' H',Inv X' [] σ' H' s'/\jw 2 ix σ σ'/\tn i s'.heap/\(∀b∈fp,H' b=none)/\W i n ys H') (hs2 _) (fun n s5 h5=>?_) m0
   ⟨0,[],qP tn'.length ix σ,H3,I4 tk,⟨_,by rw[List.length_replicate];exact h2n,rfl⟩,T.keep _ _ _ st3' fun b _ o q=>keep4 b o q,fpn,w0⟩
  obtain⟨i,ys,σ5,H5,I5,hσ,st5,fr5,w5⟩:=h5
  rcases turn i n ys H5 w5 with⟨stop,q⟩ | ⟨go,step⟩
  ·have d:=T.done X' hXp hXw hXK hXc i [] s5 σ5 H5 (fun _ _=>False) I5 (stat fr5) st5 stop
   rw[hXA] at d
   refine thn d fun r s6 ⟨hr,I6⟩=>?_
   subst hr
   exact fin I6 q
  ·have d:=T.item X' hXp hXw hXK hXc i [] s5 σ5 H5 (fun _ _=>False) I5 (stat fr5) st5 go
   rw[hXA] at d
   refine thn d fun r s6 ⟨u,hr,h6⟩=>?_
   subst hr
   refine thn h6 fun _ s7 ⟨z,H7,I7,r7,y7,st7,fr7⟩=>?_
   have I7':=I7.pinned (stat fr7) (T.obj _ _ st7)
   have again:∀{H9:Hp} {s9:Shared} {ys9:List V} {σ9:St},Inv X' ([]++j9 fp s7.heap) σ9 H9 s9->jw 2 ix σ σ9->(∃m',m'<n/\W (i+1) m' ys9 H9)->∃m',m'<n/\∃i ys σ' H',Inv X' [] σ' H' s9/\jw 2 ix σ σ'/\tn i s9.heap/\(∀b∈fp,H' b=none)/\W i m' ys H':=fun{H9 s9 ys9 σ9} I9 c9 ⟨m',hm,w9⟩=>by
    refine⟨m',hm,i+1,ys9,_,H9,I9.iw,c9,T.keep _ _ _ st7 fun b hb o e=>(I9.pin (b,o) (List.mem_append_right _ (List.mem_append_right _ (dJ hb e)))).1,fun b hb=>?_,w9⟩
    obtain⟨o,e,_⟩:=T.obj _ _ st7 b hb
    exact(I9.pin (b,o) (List.mem_append_right _ (List.mem_append_right _ (dJ hb e)))).2.1
   have he':=he cl s3.heap.objs.size s3 H3 fp
   have hg':=hg cl s3.heap.objs.size s3 H3 fp
   have hg2':=hg2 cl s3.heap.objs.size s3 H3 fp
   have hi2':=hi2 cl s3.heap.objs.size s3 H3 fp
   rw[hX'] at he' hg' hg2' hi2'
   rw[<- hXe]
   have a0:=hg' _ s7 σ5 H7 z u (fun σ2 Hn=>σ2=σ5.set 0 (some z)/\Hn=H7) I7' r7 ⟨rfl,rfl⟩
   rw[hXp,hXw,hXA,hXx] at a0
   refine thn a0 fun _ s8 ⟨σ8,H8,I8,e8,e8'⟩=>?_
   subst e8 e8'
   have a1:=hi2' _ s8 _ H8 _ I8 (step σ5 z H8 hσ y7)
   rw[hXp,hXw,hXA,hXx] at a1
   refine thn a1 fun v2 s9 h9=>thn h9 fun itv2 s10 h10=>?_
   obtain⟨it2,fp2,tn2,J2,H10,e10,I10,T2,st10,f10,V,⟨m2,v0⟩,turn2⟩:=h10
   subst e10
   rw[hXp,hXw,hXK] at T2
   have stat2:∀{H':Hp},(∀b∈fp2,H' b=none)->∀b∈fp2,n_ X' ([]++j9 fp s7.heap) H' b:=fun hn b hb=>⟨hn b hb,(f10 b hb).2⟩
   have inner:codeAny (model X.prog X.w) X.A (.compLoop (.ListComp elt [⟨tg,iter,[],0⟩,⟨tg2,iter2,[],0⟩] scope pos) 1 (.ref it2) (.ref acc) X'.env) (fun r s'=>match r with
     | .ok _=>∃m',m'<n/\∃i ys σ' H',Inv X' [] σ' H' s'/\jw 2 ix σ σ'/\tn i s'.heap/\(∀b∈fp,H' b=none)/\W i m' ys H'
     | .error _=>False) s10:=by
    refine BY (fun m s'=>∃j zs uo H',Inv X' ([]++j9 fp s7.heap) ((σ5.set 0 (some z)).set 1 uo) H' s'/\tn2 j s'.heap/\(∀b∈fp2,H' b=none)/\V j m zs H') (fun m s11 h11=>?_) m2 ⟨0,ys,((σ5.set 0 (some z))[1]?).join,H10,?_,st10,fun b hb=>(f10 b hb).1,v0⟩
    ·obtain⟨j,zs,uo,H11,I11,st11,fr11,v11⟩:=h11
     rcases turn2 j m zs H11 v11 with⟨stop2,q2⟩ | ⟨go2,step2⟩
     ·have d:=T2.done X' hXp hXw hXK hXc j _ s11 _ H11 (fun _ _=>False) I11 (stat2 fr11) st11 stop2
      rw[hXA] at d
      refine thn d fun r s12 ⟨hr,I12⟩=>?_
      subst hr
      exact again I12 (IsC (IsC hσ (by decide)) (by decide)) q2
     ·have d:=T2.item X' hXp hXw hXK hXc j _ s11 _ H11 (fun _ _=>False) I11 (stat2 fr11) st11 go2
      rw[hXA] at d
      refine thn d fun r s12 ⟨u2,hr,h12⟩=>?_
      subst hr
      refine thn h12 fun _ s13 ⟨z2,H13,I13,r13,y13,st13,fr13⟩=>?_
      have I13':=I13.pinned (stat2 fr13) (T2.obj _ _ st13)
      have b0:=hg2' _ s13 _ H13 z2 u2 (fun σ2 Hn=>σ2=((σ5.set 0 (some z)).set 1 uo).set 1 (some z2)/\Hn=H13) I13' r13 ⟨rfl,rfl⟩
      rw[hXp,hXw,hXA,hXx] at b0
      refine thn b0 fun _ s14 ⟨σ14,H14,I14,e14,e14'⟩=>?_
      subst e14 e14'
      rw[List.set_set] at I14
      have b1:=he' _ s14 _ H14 _ I14 (step2 z2 H14 y13)
      rw[hXp,hXw,hXA,hXx] at b1
      refine thn b1 fun yv s15 ⟨y,H15,I15,r15,ks,q1,q2,q3⟩=>?_
      have b2:=kf (X:=X') _ s15 _ H15 (.ref acc) [y] (.ref acc) [yv] (fun _ Hq=>∃m',m'<m/\V (j+1) m' (ks++[y]) Hq) I15 rfl (.cons r15 .nil) ⟨acc,ks,y,rfl,rfl,q1,q2,q3⟩
      rw[hXp,hXw,hXA,hXx] at b2
      refine thn b2 fun _ s16 ⟨_,H16,I16,_,m',hm',w16⟩=>?_
      refine⟨m',hm',j+1,ks++[y],some z2,H16,I16.iw,T2.keep _ _ _ st13 fun b hb o e=>(I16.pin (b,o) (List.mem_append_right _ (List.mem_append_right _ (dJ hb e)))).1,fun b hb=>?_,w16⟩
      obtain⟨o,e,_⟩:=T2.obj _ _ st13 b hb
      exact(I16.pin (b,o) (List.mem_append_right _ (List.mem_append_right _ (dJ hb e)))).2.1
    ·have:(σ5.set 0 (some z)).set 1 ((σ5.set 0 (some z))[1]?).join=σ5.set 0 (some z):=by
      obtain⟨ts,hl,e⟩:=hσ
      match ts,hl with
      | [p,q],_=>rw[e];rfl
     rw[this];exact I10
   refine B_ inner ?_
   exact T2.self _ 0 _ _ _ st10 inner
 refine codeAny_compStart_list (loop _) ?_
 exact T.self _ 0 _ _ _ (T.keep _ _ _ st3' fun b _ o q=>keep4 b o q) (loop _)
section
variable {X:Cx} {elt iter tg iter2 tg2:Expr} {scope osc:Scope} {pos:Pos} {wi wi2:TI} {te:TE}
theorem wM {y:Str} {py spos:Pos} {i:Nat} (ix:List Nat) (tn' N':List Str) (h2n:tn'.length=2)
  (hxe:X.xe=fun _ _=>False) (hc:X.calm=true) (ho:X.env.scope=osc) (hN:N'=tn'++ix.map fun i=>(X.N[i]?).getD ("" : Str)) (hnd:N'.Nodup)
  (hall:(∀y∈scope.names,y.2=.free->osc.names.lookup y.1=some .cell)/\(∀y∈scope.names,y.2≠.cell)/\scope.kind=.function/\(∀y∈scope.names,y.2=.local->scope.names.lookup y.1=some .local)/\(∀y∈N'.drop tn'.length,scope.names.lookup y=some .free))
  (hi:PI X tg iter wi) (hg:∀cl C aF aL fp,PG (bq X scope cl C aF aL fp N') tg (fG 0)) (hi2:∀cl C aF aL fp,PI (bq X scope cl C aF aL fp N') tg2 iter2 wi2) (hg2:∀cl C aF aL fp,PG (bq X scope cl C aF aL fp N') tg2 (fG 1))
  (he:∀cl C aF aL fp,PE (bq X scope cl C aF aL fp N') elt te)
  (hNN:X.N.Nodup) (hy:X.N[i]?=some y) (hl:X.env.scope.names.lookup y=some .local)
  (hsw:swapsWith (.ListComp elt [⟨tg,iter,[],0⟩,⟨tg2,iter2,[],0⟩] scope pos) (some (.Name y py)) spos.line X.env=pure true:=by rfl)
  (hs:∀x,foldedSetIterable iter X.env x=pure x:=by intro _;rfl) (hs2:∀env x,foldedSetIterable iter2 env x=pure x:=by intro _ _;rfl) :
  PS X (.Assign [.Name y py] (.ListComp elt [⟨tg,iter,[],0⟩,⟨tg2,iter2,[],0⟩] scope pos) spos) (FH (xj wi ix wi2 te) (fG i)):=by
 intro pins s σ H D I h
 rw[exec_Assign_Name_used _ _ _ _ hsw]
 refine wpAny_bind (wpAny_standAt ?_)
 show wpAny _ _ (evalThenUse (.ListComp elt [⟨tg,iter,[],0⟩,⟨tg2,iter2,[],0⟩] scope pos) X.env (assign (.Name y py) X.env) >>= fun _=>pure Flow.next) _ _ _
 refine wpAny_bind ?_
 show wpAny _ _ (comprehension (.ListComp elt [⟨tg,iter,[],0⟩,⟨tg2,iter2,[],0⟩] scope pos) scope X.env (firstIterPos [⟨tg,iter,[],0⟩,⟨tg2,iter2,[],0⟩] pos) (newList []) false (eval iter X.env) (some (assign (.Name y py) X.env)) >>= fun _=>pure ()) _ _ _
 refine wpAny_bind (zC (use:=some (assign (.Name y py) X.env)) ix N' hxe hc ho hN hnd hall hi hg hi2 hg2 he hs hs2 h2n I h fun acc C H5 s5 o I5 cC hC pC hm q=>?_)
 obtain⟨m,hm⟩:=hm
 refine wpAny_assign_Name (fJ (i:=i) (v:=.ref acc) I5 hNN hy (.inl hl) rfl (fun s6 I6=>?_) (.inr hl))
 refine⟨m,hm _ (I6.pin (C,o) (List.mem_append_right _ (List.mem_append_right _ (List.mem_singleton.mpr rfl)))).1,fun h' hs'=>?_⟩
 exact wpAny_pure (wpAny_pure ⟨_,H5,I6.Ir cC hC pC hs',q⟩)
end
end L2
namespace L2.FE
open PySem PySem.Spec PyProof.Rows
noncomputable def iB (ix:List Nat) (env:En) (a b:Option D):En:=a::b::ix.map fun i=>(env[i]?).join
noncomputable def BG (n0:Nat) (y:D) (h:Hh):R Unit:=match aN h n0 with
 | some ds=>if ds.length<1000000 then .ok () (h.set n0 (.lst (ds++[y]))) else .bad
 | none=>.bad
noncomputable def wt (n0:Nat) (rd:Rdr) (te:ME) (ff:D->En):Nat->Nat->Hh->R Unit
 | k,j,h=>match rd h j with
  | none=>.bad
  | some none=>.ok () h
  | some (some e)=>match k with
   | 0=>.bad
   | k+1=>(te (ff e) h).bind fun y h2=>(BG n0 y h2).bind fun _ h3=>wt n0 rd te ff k (j+1) h3
noncomputable def ud (n0:Nat) (rd:Rdr) (mi2:MI) (te:ME) (ff:Option D->Option D->En):Nat->Nat->Hh->R Unit
 | k,i,h=>match rd h i with
  | none=>.bad
  | some none=>.ok () h
  | some (some d)=>match k with
   | 0=>.bad
   | k+1=>(mi2 (ff (some d) none) h).bind fun sr h1=>(wt n0 sr.rdr te (fun e=>ff (some d) (some e)) (sr.fuel h1) 0 h1).bind fun _ h2=>ud n0 rd mi2 te ff k (i+1) h2
noncomputable def g9 (mi:MI) (ix:List Nat) (mi2:MI) (te:ME):ME:=fun env h=>(mi env h).bind fun sr h1=>(ud h1.length sr.rdr mi2 te (iB ix env) (sr.fuel h1) 0 (h1++[.lst []])).bind fun _ h2=>.ok (.ref h1.length) h2
section
variable {K:PySem.W.Frag} {g:GG}
theorem wd {α:List Addr} {H:Hp} {env:En} {σ:St} {ix:List Nat} {a b:Option D} {p q:Option V} (s:kn K g α H env σ) (ra:∀d,a=some d->∃v,p=some v/\aO K g α H d v) (rb:∀d,b=some d->∃v,q=some v/\aO K g α H d v):kn K g α H (iB ix env a b) (p::q::ix.map fun i=>(σ[i]?).join):=by
 refine⟨by simp[iB],fun i e h=>?_⟩
 match i with
 | 0=>
  have:a=some e:=by simpa [iB] using h
  obtain⟨v,rfl,r⟩:=ra e this
  exact⟨v,rfl,r⟩
 | 1=>
  have:b=some e:=by simpa [iB] using h
  obtain⟨v,rfl,r⟩:=rb e this
  exact⟨v,rfl,r⟩
 | i+2=>
  have h':(ix.map fun i=>(env[i]?).join)[i]?=some (some e):=by simpa [iB] using h
  rw[List.getElem?_map] at h'
  cases ei:ix[i]? with
  | none=>rw[ei] at h';cases h'
  | some j=>
   rw[ei] at h'
   have h2:(env[j]?).join=some e:=by simpa using h'
   cases ej:env[j]? with
   | none=>rw[ej] at h2;cases h2
   | some oe=>
    rw[ej] at h2
    have h3:oe=some e:=by simpa using h2
    subst h3
    obtain⟨u,eu,ru⟩:=s.vars j e ej
    refine⟨u,?_,ru⟩
    simp only[List.getElem?_cons_succ,List.getElem?_map,ei,Option.map_some,eu]
    rfl
theorem uQ {α α':List Addr} {n:Nat} {p:Addr} {H H':Hp} (e:Ext K α H α' H') (h:α[n]?=some p):α'[n]?=some p:=by
 obtain⟨l,rfl⟩:=e.toEx0.pre
 rw[List.getElem?_append_left]
 ·exact h
 ·by_cases hl:n<α.length
  ·exact hl
  ·rw[List.getElem?_eq_none (by omega)] at h;cases h
theorem Aw {mi mi2:MI} {te:ME} {ix:List Nat} {σ:St} {H:Hp} {Q:VK} (t:tM K g E00 (g9 mi ix mi2 te) σ H Q):xj (tMI K g E00 mi) ix (tMI K g E00 mi2) (tM K g E00 te) σ H Q:=by
 obtain⟨α,env,h,s,w⟩:=t
 unfold g9 at w
 refine⟨α,env,h,s,w.bind.mono fun sr h1 _ w1 J H1 α1 e1 hr1 rd=>fun acc hacc=>?_⟩
 have s1:=s.ext e1 hr1
 have xp:Ext K α1 H1 (α1++[acc]) (upd H1 acc (.lst [])):=Ext.push hacc
 have hrp:aX K g (α1++[acc]) (upd H1 acc (.lst [])) (h1++[.lst []]):=hr1.push hacc ⟨[],aZ,.nil⟩
 have p0:(α1++[acc])[h1.length]?=some acc:=by rw[<- hr1.len];simp
 refine⟨fun i m ys H=>∃α h,Ext K α1 H1 α H/\α[h1.length]?=some acc/\aX K g α H h ∧
  WQ K g E00 α1 H1 ((ud h1.length sr.rdr mi2 te (iB ix env) m i h).bind fun _ h2=>.ok (.ref h1.length) h2) (aM K g α1 H1 Q),
  ⟨sr.fuel h1,_,_,xp,p0,hrp,w1.post e1⟩,?_⟩
 rintro i m ys H2 ⟨α2,h2,x2,p2,hr2,w2⟩
 have q:=rd α2 H2 h2 x2 hr2 i
 unfold ud at w2
 cases e:sr.rdr h2 i with
 | none=>rw[e] at w2;exact w2.elim
 | some od=>
  rw[e] at w2 q
  cases od with
  | none=>exact .inl ⟨q,(show aM K g α1 H1 Q (.ref h1.length) h2 from w2) _ _ _ x2 hr2 (.ref p2)⟩
  | some d=>
   cases m with
   | zero=>exact w2.elim
   | succ m=>
    rw[cH] at w2
    have w3:=WQ.bind (show WQ K g E00 α1 H1 ((mi2 (iB ix env (some d) none) h2).bind _) _ from w2)
    refine .inr ⟨q.1,fun σ0 x H3 hcap y=>?_⟩
    obtain⟨ts,hl,hσ0⟩:=hcap
    match ts,hl with
    | [v0,q0],_=>
    subst hσ0
    obtain⟨α3,x3,hr3,rx⟩:=q.2 x H3 y
    have s3:dW K g α3 H3 (iB ix env (some d) none) (some x::q0::ix.map fun i=>(σ[i]?).join) h2:=⟨hr3,wd (s1.vs.ext (x2.trans x3)) (fun d' hd=>by cases hd;exact⟨x,rfl,rx⟩) (fun d' hd=>by cases hd)⟩
    refine⟨α3,_,h2,s3,((w3.ext x2).ext x3).mono fun sr2 h4 _ w4 J2 H4 α4 x4 hr4 rd2=>?_⟩
    have x14:=x2.trans (x3.trans x4)
    have p4:=uQ (x3.trans x4) p2
    refine⟨fun j m2 zs H=>∃α h,Ext K α4 H4 α H/\aX K g α H h ∧
     WQ K g E00 α1 H1 (((wt h1.length sr2.rdr te (fun e=>iB ix env (some d) (some e)) m2 j h).bind fun _ h2=>ud h1.length sr.rdr mi2 te (iB ix env) m (i+1) h2).bind fun _ h2=>.ok (.ref h1.length) h2) (aM K g α1 H1 Q),
     ⟨sr2.fuel h4,α4,h4,Ext.refl,hr4,w4⟩,?_⟩
    rintro j m2 zs H5 ⟨α5,h5,x5,hr5,w5⟩
    have q2:=rd2 α5 H5 h5 x5 hr5 j
    have p5:=uQ x5 p4
    unfold wt at w5
    cases e2:sr2.rdr h5 j with
    | none=>rw[e2] at w5;exact w5.elim
    | some od2=>
     rw[e2] at w5 q2
     cases od2 with
     | none=>exact .inl ⟨q2,m,Nat.lt_succ_self _,α5,h5,x14.trans x5,p5,hr5,w5⟩
     | some d2=>
      cases m2 with
      | zero=>exact w5.elim
      | succ m2=>
       have w6:WQ K g E00 α1 H1 ((te (iB ix env (some d) (some d2)) h5).bind fun y h2=>(((BG h1.length y h2).bind fun _ h3=>wt h1.length sr2.rdr te (fun e=>iB ix env (some d) (some e)) m2 (j+1) h3).bind fun _ h2=>ud h1.length sr.rdr mi2 te (iB ix env) m (i+1) h2).bind fun _ h2=>.ok (.ref h1.length) h2) (aM K g α1 H1 Q):=by
        have:=w5
        simp only[cH] at this ⊢
        exact this
       refine .inr ⟨q2.1,fun yv H6 yy=>?_⟩
       obtain⟨α6,x6,hr6,ry⟩:=q2.2 yv H6 yy
       have s6:dW K g α6 H6 (iB ix env (some d) (some d2)) (some x::some yv::ix.map fun i=>(σ[i]?).join) h5:=⟨hr6,wd (s1.vs.ext (x14.trans (x5.trans x6))) (fun d' hd=>by cases hd;exact⟨x,rfl,rx.ext (x4.trans (x5.trans x6))⟩) (fun d' hd=>by cases hd;exact⟨yv,rfl,ry⟩)⟩
       refine tM.use s6 ((WQ.bind w6).ext (x14.trans (x5.trans x6))) fun y h7 v7 H7 α7 x7 s7 r7 w7=>?_
       have p7:=uQ (x6.trans x7) p5
       unfold BG at w7
       cases el:aN h7 h1.length with
       | none=>rw[el] at w7;exact w7.elim
       | some ds=>
        rw[el] at w7
        dsimp only at w7
        by_cases hlen:ds.length<1000000
        ·rw[if_pos hlen] at w7
         obtain⟨vs,hv,rs⟩:=s7.heap.lst el p7
         have x:=Ext.write (K:=K) (o:=.lst (vs++[v7])) s7.heap p7
         exact⟨vs,hv,by rw[<- rs.length,sizeLine_eq];omega,m2,Nat.lt_succ_self _,α7,_,(x5.trans (x6.trans x7)).trans x,s7.heap.write (u':=.lst (ds++[y])) p7 ⟨_,aZ,(rs.append (.cons r7 .nil)).ext x⟩,w7⟩
        ·rw[if_neg hlen] at w7;exact w7.elim
end
section
variable {X:Cx} {g:GG}
theorem wZ {elt iter iter2:Expr} {x y z:Str} {px py pz:Pos} {scope osc:Scope} {pos spos:Pos} {mi mi2:MI} {te:ME} {i:Nat} (ix:List Nat) (N':List Str)
  (hxe:X.xe=fun _ _=>False) (hc:X.calm=true) (ho:X.env.scope=osc) (hN:N'=[x,y]++ix.map fun i=>(X.N[i]?).getD ("" : Str)) (hnd:N'.Nodup)
  (hall:(∀y∈scope.names,y.2=.free->osc.names.lookup y.1=some .cell)/\(∀y∈scope.names,y.2≠.cell)/\scope.kind=.function/\(∀y∈scope.names,y.2=.local->scope.names.lookup y.1=some .local)/\(∀z∈N'.drop [x,y].length,scope.names.lookup z=some .free))
  (hi:PI X (.Name x px) iter (tMI X.K g E00 mi))
  (hx:∀cl C aF aL fp,Loc (bq X scope cl C aF aL fp N').env.scope x/\(bq X scope cl C aF aL fp N').env.scope.names.lookup x=some .local) (hy:∀cl C aF aL fp,Loc (bq X scope cl C aF aL fp N').env.scope y/\(bq X scope cl C aF aL fp N').env.scope.names.lookup y=some .local)
  (hi2:∀cl C aF aL fp,PI (bq X scope cl C aF aL fp N') (.Name y py) iter2 (tMI X.K g E00 mi2))
  (he:∀cl C aF aL fp,PE (bq X scope cl C aF aL fp N') elt (tM X.K g E00 te))
  (hNN:X.N.Nodup) (hz:X.N[i]?=some z) (hl:X.env.scope.names.lookup z=some .local:=by rfl)
  (hsw:swapsWith (.ListComp elt [⟨.Name x px,iter,[],0⟩,⟨.Name y py,iter2,[],0⟩] scope pos) (some (.Name z pz)) spos.line X.env=pure true:=by rfl)
  (hs:∀x,foldedSetIterable iter X.env x=pure x:=by intro _;rfl) (hs2:∀env x,foldedSetIterable iter2 env x=pure x:=by intro _ _;rfl) :
  PS X (.Assign [.Name z pz] (.ListComp elt [⟨.Name x px,iter,[],0⟩,⟨.Name y py,iter2,[],0⟩] scope pos) spos) (tMS X.K g E00 (bC i (g9 mi ix mi2 te))):=
 PS.imp (wM ix [x,y] N' rfl hxe hc ho hN hnd hall hi (fun cl C aF aL fp=>bR (X:=bq X scope cl C aF aL fp N') hnd (show N'[0]?=some x by rw[hN];rfl) (hx cl C aF aL fp).1 (.inr (hx cl C aF aL fp).2)) hi2 (fun cl C aF aL fp=>bR (X:=bq X scope cl C aF aL fp N') hnd (show N'[1]?=some y by rw[hN];rfl) (hy cl C aF aL fp).1 (.inr (hy cl C aF aL fp).2)) he hNN hz hl hsw hs hs2) fun E σ H ⟨α,env,h,s,w⟩=>Aw (Q:=fun v H1=>E.nx (σ.set i (some v)) H1) (tM.use s w.bind fun d1 h1 v1 H1 α1 e1 s1 r1 w1=>(show dh X.K g α H E (.nx (env.set i (some d1))) h1 from w1) H1 α1 e1 s1.heap _ (s1.vs.set r1))
end
variable {X:Cx} {g:GG}
theorem yf {K:PySem.W.Frag} {ε:EE} {mi:MI} {ix:List Nat} {tt:TT} {te:TE} {σ:St} {H:Hp} {Q:VK} (t:Gj (tMI K g ε mi) ix tt te σ H Q):tT (tMI K g ε mi) 1 ix (fG 0) tt te σ H Q:=by
 obtain⟨α,env,h,s,w⟩:=t
 refine⟨α,env,h,s,w.mono fun sr h1 _ z J H' α' e hr rd acc ha=>?_⟩
 obtain⟨W,w0,st⟩:=z J H' α' e hr rd acc ha
 refine⟨W,w0,fun i m ys H1 hw=>(st i m ys H1 hw).imp id fun⟨a,b⟩=>⟨a,fun σ0 x H2 hc hy=>?_⟩⟩
 obtain⟨ts,tl,rfl⟩:=hc
 match ts,tl with
 | [t0],_=>exact⟨⟨[some x],rfl,rfl⟩,b x H2 hy⟩
theorem fF {nl:NL} [kW nl] {elt iter:Expr} {x:Str} {px:Pos} {ifs:List Expr} {scope osc:Scope} {pos:Pos} {mi:MI} {tt:MT} {te:ME} (ix:List Nat) (N':List Str)
  (hxe:X.xe=fun _ _=>False) (hc:X.calm=true) (ho:X.env.scope=osc) (hN:N'=x::ix.map fun i=>(X.N[i]?).getD ("" : Str)) (hnd:N'.Nodup)
  (hall:(∀y∈scope.names,y.2=.free->osc.names.lookup y.1=some .cell)/\(∀y∈scope.names,y.2≠.cell)/\scope.kind=.function/\(∀y∈scope.names,y.2=.local->scope.names.lookup y.1=some .local)/\scope.names.lookup x=some .local/\(∀y∈N'.tail,scope.names.lookup y=some .free))
  (hi:PI X (.Name x px) iter (tMI X.K g E00 mi))
  (ht:∀cl C aF aL fp,PTs (bq X scope cl C aF aL fp N') ifs (tMT X.K g E00 tt))
  (he:∀cl C aF aL fp,PE (bq X scope cl C aF aL fp N') elt (tM X.K g E00 te))
  (hs:∀x,foldedSetIterable iter X.env x=pure x:=by intro _;rfl) :
  PE X (.ListComp elt [⟨.Name x px,iter,ifs,0⟩] scope pos) (tM X.K g E00 (eW nl mi ix tt te)):=by
 refine PE.imp (PE.frz (DH (tgr:=fG 0) ix [x] N' hxe hc ho hN hnd ⟨hall.1,hall.2.1,hall.2.2.1,hall.2.2.2.1,fun y hy=>hall.2.2.2.2.2 y (by rw[hN] at hy ⊢;exact hy)⟩ hi (fun cl C aF aL fp=>bR (X:=bq X scope cl C aF aL fp N') hnd (show N'[0]?=some x by rw[hN];rfl) (.inl (lookup_relabel_local hall.2.2.2.2.1)) (.inr (lookup_relabel_local hall.2.2.2.2.1))) ht he hs)) fun σ H Q t=>?_
 exact yf (wF (fun _ _ z=>z) t)
theorem xW {nl:NL} [kW nl] {elt iter:Expr} {x z:Str} {px pz:Pos} {ifs:List Expr} {scope osc:Scope} {pos spos:Pos} {mi:MI} {tt:MT} {te:ME} {i:Nat} (ix:List Nat) (N':List Str)
  (hxe:X.xe=fun _ _=>False) (hc:X.calm=true) (ho:X.env.scope=osc) (hN:N'=x::ix.map fun i=>(X.N[i]?).getD ("" : Str)) (hnd:N'.Nodup)
  (hall:(∀y∈scope.names,y.2=.free->osc.names.lookup y.1=some .cell)/\(∀y∈scope.names,y.2≠.cell)/\scope.kind=.function/\(∀y∈scope.names,y.2=.local->scope.names.lookup y.1=some .local)/\scope.names.lookup x=some .local/\(∀y∈N'.tail,scope.names.lookup y=some .free))
  (hi:PI X (.Name x px) iter (tMI X.K g E00 mi))
  (ht:∀cl C aF aL fp,PTs (bq X scope cl C aF aL fp N') ifs (tMT X.K g E00 tt))
  (he:∀cl C aF aL fp,PE (bq X scope cl C aF aL fp N') elt (tM X.K g E00 te))
  (hNN:X.N.Nodup) (hz:X.N[i]?=some z) (hl:X.env.scope.names.lookup z=some .local:=by rfl)
  (hsw:swapsWith (.ListComp elt [⟨.Name x px,iter,ifs,0⟩] scope pos) (some (.Name z pz)) spos.line X.env=pure true:=by rfl)
  (hs:∀x,foldedSetIterable iter X.env x=pure x:=by intro _;rfl) :
  PS X (.Assign [.Name z pz] (.ListComp elt [⟨.Name x px,iter,ifs,0⟩] scope pos) spos) (tMS X.K g E00 (bC i (eW nl mi ix tt te))):=by
 refine PS.imp (PS.frz (vC (tgr:=fG 0) ix [x] N' hxe hc ho hN hnd ⟨hall.1,hall.2.1,hall.2.2.1,hall.2.2.2.1,fun y hy=>hall.2.2.2.2.2 y (by rw[hN] at hy ⊢;exact hy)⟩ hi (fun cl C aF aL fp=>bR (X:=bq X scope cl C aF aL fp N') hnd (show N'[0]?=some x by rw[hN];rfl) (.inl (lookup_relabel_local hall.2.2.2.2.1)) (.inr (lookup_relabel_local hall.2.2.2.2.1))) ht he hNN hz hl hsw hs)) fun E σ H ⟨α,env,h,s,w⟩=>yf (wF (nl:=nl) (Q:=fun v H1=>E.nx (σ.set i (some v)) H1) (fun v H1 z=>Ey z) (tM.use s w.bind fun d1 h1 v1 H1 α1 e1 s1 r1 w1=>(show dh X.K g α H E (.nx (env.set i (some d1))) h1 from w1) H1 α1 e1 s1.heap _ (s1.vs.set r1)))
end L2.FE
namespace FC
open PySem L2 L2.FE
noncomputable def cA:MF:=cu 2 (aE (eL (aU asB (au dLt (ag 1) (aj km (ae (ag 0) aq)))) (bD (au dIx (ag 0) (ag 1))) cL)
  (bD (cC (.int 0))))
noncomputable def di:MF:=cu 2 (aE (bC 1 (aj vR (ae (ag 0) (ae (au cy (cC (.int 0)) (ag 0)) aq))))
  (bD (aj (dH wN) (ae (ag 1) (ae (aj BU (ae (au dGe (ag 1) (au sY (cC (.int 10)) (cC (.int 18)))) aq)) (ae (au oh (ag 1) (cC (.int 1000003))) aq))))))
noncomputable def eD:MF:=cu 1 (aE (bC 0 (au oh (au (cG aG) (ag 0) (cC (.int 7919))) (cC (.int 2147483647))))
  (bD (au oh (au (cG aG) (au (cG aG) (au (f_ aG) (ag 0) (ag 0)) (au (f_ aG) (cC (.int 48271)) (ag 0))) (cC (.int 12345))) (cC (.int 2147483629)))))
noncomputable def aS:MF:=cu 3 (aE (eL (Bz (aU asB (au dEq (au dIx (ag 0) (cC (.int 1))) (cC (.int 1)))) (aU asB (au dGt (au dIx (ag 0) (cC (.int 0))) (cC (.int 0))))) (aE (bC 2 (au oh (au dIx (ag 0) (cC (.int 0))) (ag 1)))
  (aE (sX mS (ag 0) (cC (.int 0)) (au Ah (au dIx (ag 0) (cC (.int 0))) (ag 1)))
  (bD (ag 2)))) cL)
  (aE (sX mS (ag 0) (cC (.int 2)) (aj eD (ae (au (cG aG) (aj eD (ae (au dIx (ag 0) (cC (.int 2))) aq)) (cC (.int 7))) aq)))
  (bD (au oh (au Ah (au dIx (ag 0) (cC (.int 2))) (cC (.int 64))) (ag 1)))))
noncomputable def cM:MF:=cu 3 (bD (au dIx (aj (dH aG) (ae (au cy (ag 1) (cC (.int 1))) (ae (au (cG aG) (ag 2) (cC (.int 1))) (ae (cC (.bl true)) (ae (cC .non) (ae (cC (.str "2")) (ae (aj bY (ae (cC (.int 2)) aq)) (ae (aj (dH aG) (ae (cC (.int 1)) aq)) (ae (cC (.bl false)) (ae (au sY (cC (.int 10)) (cC (.int 30))) (ae (cC .edic) (ae (au cy (cC (.int 0)) (au sY (cC (.int 10)) (cC (.int 30)))) aq)))))))))))) (aj aS (ae (ag 0) (ae (cC (.int 11)) aq)))))
noncomputable def fm:MF:=cu 3 (aE (bC 2 (au dIx (aj (dH aG) (ae (aj (dH aG) (ae (cC (.int 2)) (ae (cC (.int 1)) aq))) (ae (aj (dH aG) (ae (cC (.int 4)) (ae (cC (.int 1)) aq))) (ae (aj (dH aG) (ae (cC (.int 4)) (ae (cC (.int 3)) aq))) aq)))) (aj aS (ae (ag 0) (ae (cC (.int 3)) aq)))))
  (bD (aj kR (ae (eW aG (iz iN (ae (au cy (ag 1) (cC (.int 1))) aq)) [0,2] (aU asB (au dLt (aj aS (ae (ag 1) (ae (au dIx (ag 2) (cC (.int 0))) aq))) (au dIx (ag 2) (cC (.int 1))))) (ag 0)) aq))))
noncomputable def cW:MF:=cu 7 (aE (uV 3 4 (ae (aj aS (ae (ag 0) (ae (cC (.int 6)) aq))) (ae (aj aS (ae (ag 0) (ae (au (cG aG) (aj km (ae (ag 2) aq)) (cC (.int 1))) aq))) aq)))
  (aE (bC 5 (au dIx (aj (dH aG) (ae (au cy (ag 1) (cC (.int 1))) (ae (cUn lq (cC (.int 1))) (ae (cC (.bl true)) (ae (cC (.bl false)) (ae (cC .non) (ae (cC (.str "0")) (ae (aj (dH aG) (ae (cC (.int 0)) aq)) (ae (cC .edic) (ae (aj bY (ae (cC (.int 0)) aq)) (ae (au sY (cC (.int 10)) (cC (.int 30))) aq))))))))))) (aj aS (ae (ag 0) (ae (cC (.int 10)) aq)))))
  (aE (bC 6 (au (cG aG) (au (cG aG) (fV aG (ag 2) fE (gK (ag 4))) (aj bY (ae (ag 5) aq))) (fV aG (ag 2) (gK (au (cG aG) (ag 4) (cC (.int 1)))) fE)))
  (bD (au dIx (aj (dH aG) (ae (ag 6) (ae (ag 6) (ae (aj (dList aG) (ae (ag 2) aq)) (ae (cIf (aU asB (au dNe (ag 2) (aj bY aq))) (au (cG aG) (ag 2) (aj bY (ae (cC (.int 0)) aq))) (aj bY (ae (ag 1) aq))) (ae (cC .non) (ae (aj bY (ae (au cy (ag 1) (cC (.int 2))) (ae (cC (.int 0)) (ae (au cy (ag 1) (cC (.int 2))) aq)))) aq))))))) (ag 3))))))
noncomputable def gG:MF:=cu 2 (aE (bC 1 (aj (dH aG) (ae (cUn (tU "NoOrder") (ag 0)) (ae (cUn (tU "NoNumber") (ag 0)) (ae (cUn (tU "NoSet") (ag 0)) (ae (cUn (tU "NoRow") (ag 0)) aq))))))
  (aE (bC 1 (au (cG aG) (ag 1) (aj (dH aG) (ae (cUn (tU "NoLine") (ag 0)) (ae (cUn (tU "NoText") (ag 0)) (ae (cUn (tU "TooGreat") (ag 0)) aq))))))
  (aE (eL (tu (lG (aU kU (cUn GJ (ag 0)))) (aU asB (au dNe (j1 sM (ag 1) (ae (cC (.bl true)) aq)) (cC (.int 1))))) (bD (cC (.str "other"))) cL)
  (bD (au dIx (aj (dH aG) (ae (cC (.str "order")) (ae (cC (.str "number")) (ae (cC (.str "set")) (ae (cC (.str "row")) (ae (cC (.str "line")) (ae (cC (.str "text")) (ae (cC (.str "great")) aq)))))))) (j1 sL (ag 1) (ae (cC (.bl true)) aq)))))))
noncomputable def aR:MF:=cu 2 (aE (bC 1 (aj gG (ae (ag 0) aq)))
  (aE (eL (aU asB (au dEq (ag 1) (cC (.str "text")))) (bD (aj bY (ae (ag 1) (ae (cUn (AO "NoText" "row") (ag 0)) aq)))) cL)
  (bD (cIf (aU asB (au dEq (ag 1) (cC (.str "great")))) (aj bY (ae (ag 1) (ae (cUn (AO "TooGreat" "many") (ag 0)) (ae (cUn (AO "TooGreat" "most") (ag 0)) aq)))) (aj bY (ae (ag 1) aq))))))
noncomputable def gj:MF:=cu 1 (bD (yY (cUn (qT "int") (ag 0)) (B4 (cUn (qT "bool") (ag 0)))))
noncomputable def cJ:MF:=cu 3 (bD (yY (aj gj (ae (ag 0) aq)) (uJ dLe dLe (ag 1) (ag 0) (ag 2))))
noncomputable def aB:MF:=cu 3 (eL (up (lG (aU kU (aj cJ (ae (ag 0) (ae (ag 1) (ae (ag 2) aq))))))) (uO "NoNumber") cL)
noncomputable def cf:MF:=cu 4 (aE (eB (aj aB (ae (up (ag 0)) (ae (up (cC (.int 1))) (ae (up (cC (.int 12))) aq)))))
  (aE (up (eL (lG (aU kU (cUn (qT "tuple") (ag 1)))) (bD (cC (.bl false))) cL))
  (aE (up (bC 2 (cC (.int 0))))
  (aE (up (fq (cT (ag 1)) (gN 3) (aE (eL (lG (aU kU (aj cJ (ae (ag 3) (ae (ag 2) (ae (au cy (ag 0) (cC (.int 2))) aq)))))) (bD (cC (.bl false))) cL)
  (bC 2 (au (cG aG) (ag 3) (cC (.int 1)))))))
  (up (bD (cC (.bl true))))))))
noncomputable def aK:MF:=cu 2 (eL (lG (aU kU (aj cf (ae (up (ag 0)) (ae (up (ag 1)) aq))))) (uO "NoSet") cL)
noncomputable def dE:MF:=cu 2 (aE (eB (aj aK (ae (up (ag 0)) (ae (up (ag 1)) aq))))
  lF)
noncomputable def cO:MF:=cu 4 (aE (eB (aj aK (ae (up (ag 0)) (ae (up (ag 1)) aq))))
  (aE lF
  (aE lF
  lF)))
noncomputable def cN:MF:=cu 5 (aE (up (bC 2 (cC (.int 1))))
  (aE (up (bC 3 (ag 0)))
  (aE (fq (cT (aj cO (ae (up (ag 0)) (ae (up (ag 1)) aq)))) (gN 4) (aE (up (Aj 2 Cf (fun _ _=>.bad)))
  (up (Aj 3 cy (ag 4)))))
  (up (bD (ag 2))))))
noncomputable def ey:MF:=cu 3 (aE (eB (aj aK (ae (up (ag 0)) (ae (up (ag 1)) aq))))
  (aE lF
  (aE lF
  lF)))
noncomputable def c_:MF:=cu 2 (aE (eB (aj aK (ae (up (ag 0)) (ae (up (ag 1)) aq))))
  lF)
noncomputable def dF:MF:=cu 3 (aE (eB (aj aK (ae (up (ag 0)) (ae (up (ag 1)) aq))))
  (aE lF
  lF))
noncomputable def fL:MF:=zq (fun ds h=>((cu 6 (aE (bC 2 (aj (dH wN) (ae (aj (dH aG) (ae (cC (.int 1)) aq)) aq)))
  (aE (fq (iz x9 (ae (cC (.int 1)) (ae (ag 0) aq))) (gN 3) (aE (bC 4 (au dIx (ag 2) (cUn lq (cC (.int 1)))))
  (aE (bC 5 (au (dIn false) (au cy (au cy (ag 0) (cC (.int 1))) (ag 3)) (ag 1)))
  (eB (j1 fC (ag 2) (ae (eW aG (iz iN (ae (au (cG aG) (ag 3) (cC (.int 1))) aq)) [5,4] tt1 (aj tL (ae (cIf (aU kU (ag 1)) (fV aG (ag 2) fE (gK (ag 0))) (fV aG (ag 2) (gK (ag 0)) fE)) aq))) aq))))))
  (bD (ag 2))))) ds h).bind (eM h))
noncomputable def bJ:MF:=FW 3 (bC 2 (aj fL (ae (ag 0) (ae (ag 1) aq)))) "just_count" [2,1]
noncomputable def gz:MF:=cu 1 (bD (aj kR (ae (eW aG (iz iN (ae (au cy (aj km (ae (ag 0) aq)) (cC (.int 1))) aq)) [0] (aU asB (au dGt (au dIx (ag 1) (ag 0)) (au dIx (ag 1) (au (cG aG) (ag 0) (cC (.int 1)))))) (ag 0)) aq)))
noncomputable def dN:MF:=cu 1 (aE (eL (aU asB (au dEq (aj km (ae (ag 0) aq)) (cC (.int 0)))) (bD (cC (.int 0))) cL)
  (bD (au cy (au dIx (ag 0) (cUn lq (cC (.int 1)))) (aj km (ae (eW aG (cT (ag 0)) [0] (aU asB (au dLt (ag 0) (au dIx (ag 1) (cUn lq (cC (.int 1)))))) (ag 0)) aq)))))
noncomputable def bO:MF:=cu 3 (aE (eL (aU asB (au dEq (aj km (ae (ag 2) aq)) (cC (.int 0)))) (bD (aj tL (ae (au dIx (ag 0) (cUn lq (cC (.int 1)))) aq))) cL)
  (aE (eL (aU asB (au dNe (aj gz (ae (ag 2) aq)) (aj kR (ae (eW aG (cT (ag 1)) [2] (aU asB (au dLt (ag 0) (au cy (aj km (ae (ag 1) aq)) (cC (.int 1))))) (ag 0)) aq)))) (bD (cC (.int 0))) cL)
  (bD (au dIx (au dIx (ag 0) (au cy (aj km (ae (ag 0) aq)) (aj km (ae (ag 2) aq)))) (aj dN (ae (ag 2) aq))))))
noncomputable def ko:Str->Option (Nat × MF):=fun x=>if x="just_count" then some (3,bO) else none
@[simp] theorem nZ:ko "just_count" = some (3,bO):=by kernel_rfl
noncomputable def dj:MF:=cu 4 (aE (bC 3 (eW aG (iz iN (ae (ag 0) aq)) [1] (aU asB (au (dIn true) (ag 0) (ag 1))) (au (cG aG) (ag 1) (aj bY (ae (ag 0) aq)))))
  (bD (eW aG (cT (ag 3)) [2] (aU asB (au dGt (jf ko (ag 1) (ae (ag 0) aq)) (cC (.int 0)))) (ag 0))))
noncomputable def cR:MF:=cu 7 (aE (bC 3 (aj bY aq))
  (aE (fq (iz iN (ae (ag 0) aq)) (gN 4) (fq (cT (aj dj (ae (ag 0) (ae (ag 3) (ae (ag 2) aq))))) (gN 5) (aE (bC 6 (jf ko (ag 2) (ae (ag 5) aq)))
  (aE (eL (aU asB (au dLt (ag 1) (ag 6))) (aE (bC 3 (ag 5))
  FL) cL)
  (Aj 1 cy (ag 6))))))
  (bD (ag 3))))
noncomputable def cV:MF:=cu 4 (aE (eB (aj aK (ae (up (ag 0)) (ae (up (ag 1)) aq))))
  (aE (up (bC 3 (aj bJ (ae (ag 0) (ae (ag 1) aq)))))
  (aE (eB (aj aB (ae (up (ag 2)) (ae (up (cC (.int 0))) (ae (up (au cy (jf ko (ag 3) (ae (aj bY aq) aq)) (cC (.int 1)))) aq)))))
  (up (bD (aj cR (ae (ag 0) (ae (ag 2) (ae (ag 3) aq)))))))))
noncomputable def b_:MF:=cu 2 (bD (aj (mV aG) (ae (cIf (aU kU (ag 1)) (au (cG aG) (au dIx (ag 1) (cUn lq (cC (.int 1)))) (cC (.int 1))) (cC (.int 0))) (ae (au cy (ag 0) (cC (.int 1))) aq))))
noncomputable def du:MF:=fun ds h=>((cu 4 (aE (eB (aj aB (ae (up (ag 0)) (ae (up (cC (.int 1))) (ae (up (cC (.int 12))) aq)))))
  (aE (eB (aj aB (ae (up (ag 1)) (ae (up (cC (.int 0))) (ae (up (cC (.int 12))) aq)))))
  (aE (up (bC 2 (aj (dH aG) (ae (aj bY aq) aq))))
  (aE (up (fq (iz iN (ae (ag 1) aq)) (gN 3) (bC 2 (g9 (cT (ag 2)) [0] (cT (aj b_ (ae (ag 2) (ae (ag 0) aq)))) (au (cG aG) (ag 0) (aj bY (ae (ag 1) aq)))))))
  (up (bD (ag 2)))))))) ds h).bind (eM h)
noncomputable def eU:Str->Option MF:=fun x=>if x="just_many" then some dE else if x="within_many" then some cN else if x="just_all" then some ey else if x="first_with" then some c_ else if x="last_with" then some dF else if x="sizes_of" then some cO else if x="set_good" then some cf else none
@[simp] theorem AY:eU "just_many" = some dE:=by kernel_rfl
@[simp] theorem zd:eU "within_many" = some cN:=by kernel_rfl
@[simp] theorem Dj:eU "just_all" = some ey:=by kernel_rfl
@[simp] theorem zE:eU "first_with" = some c_:=by kernel_rfl
@[simp] theorem AX:eU "last_with" = some dF:=by kernel_rfl
@[simp] theorem B7:eU "sizes_of" = some cO:=by kernel_rfl
@[simp] theorem BP:eU "set_good" = some cf:=by kernel_rfl
noncomputable def aI:MF:=cu 6 (pw (aE (eL (up (aU asB (au dLt (ag 0) (cC (.int 7))))) (aE (up (bC 4 (aj (dH aG) (ae (cC (.fn "just_many")) (ae (cC (.fn "within_many")) (ae (cC (.fn "just_all")) (ae (cC (.fn "first_with")) (ae (cC (.fn "last_with")) (ae (cC (.fn "sizes_of")) (ae (cC (.fn "set_good")) aq))))))))))
  (bD (pN eU (up (au dIx (ag 4) (ag 0))) (ae (up (ag 1)) (ae (up (ag 2)) aq))))) cL)
  (bD (cIf (up (aU asB (au dEq (ag 0) (cC (.int 7))))) (aj cV (ae (up (ag 1)) (ae (up (ag 2)) (ae (up (ag 3)) aq)))) (aj du (ae (up (ag 1)) (ae (up (ag 2)) aq)))))) aR)
noncomputable def dC:MF:=cu 4 (aE (eB (aj aB (ae (up (ag 0)) (ae (up (cC (.int 1))) (ae (up (cC (.int 10))) aq)))))
  (aE lF
  (aE lF
  (aE lF
  lF))))
noncomputable def eC:MF:=cu 2 (pw (bD (aj dC (ae (up (ag 0)) aq))) aR)
noncomputable def bX:MF:=cu 5 (aE (GV 2 3 (aj bY (ae (cC (.int 1)) (ae (cC (.int 1)) aq))))
  (aE (fq (iz iN (ae (ag 1) aq)) (gN 4) (uV 2 3 (ae (au (f_ aG) (ag 2) (aj vR (ae (cC (.int 0)) (ae (au cy (ag 0) (ag 4)) aq)))) (ae (au (f_ aG) (ag 3) (au (cG aG) (ag 4) (cC (.int 1)))) aq))))
  (bD (au Ah (ag 2) (ag 3)))))
noncomputable def eA:MF:=fun ds h=>((cu 10 (aE (bC 2 (au (cG aG) (aj (pX aG) (ae (ag 1) aq)) (aj (dH aG) (ae (au cy (ag 0) (cC (.int 1))) aq))))
  (aE (bC 3 (aj (dH wN) aq))
  (aE (fq (tP (ag 2)) (gT2 4 5) (aE (bC 6 (au (f_ aG) (au cy (cC (.int 1)) (au (f_ aG) (cC (.int 2)) (au oh (ag 4) (cC (.int 2))))) (aj bX (ae (ag 0) (ae (au (cG aG) (ag 5) (cC (.int 1))) aq)))))
  (aE (fq (iz iN (ae (ag 4) aq)) (gN 7) (aE (uV 8 9 (ae (au cy (cC (.int 1)) (au (f_ aG) (cC (.int 2)) (au oh (au cy (au cy (ag 4) (ag 7)) (cC (.int 1))) (cC (.int 2))))) (ae (au dIx (ag 2) (ag 7)) aq)))
  (bC 6 (au (cG aG) (ag 6) (au (f_ aG) (au (f_ aG) (ag 8) (au dIx (ag 3) (ag 7))) (aj bX (ae (au cy (au cy (ag 0) (ag 9)) (cC (.int 1))) (ae (au cy (ag 5) (ag 9)) aq))))))))
  (eB (j1 fC (ag 3) (ae (ag 6) aq))))))
  (bD (au dIx (ag 3) (cUn lq (cC (.int 1))))))))) ds h).bind (eM h)
noncomputable def pf:MF:=fun ds h=>((cu 13 (aE (fq (cT (au (cG aG) (aj (dH aG) (ae (aj cA (ae (ag 0) (ae (cC (.int 0)) aq))) aq)) (fV aG (ag 0) (gK (cC (.int 1))) (gK (cC (.int 5)))))) (gN 1) (aE (bC 2 (aj di (ae (ag 1) aq)))
  (aE (Et 3 4 5 (aj bY (ae (aj cM (ae (ag 2) (ae (cC (.int 1)) (ae (cC (.int 12)) aq)))) (ae (aj cM (ae (ag 2) (ae (cC (.int 0)) (ae (cC (.int 12)) aq)))) (ae (aj cM (ae (ag 2) (ae (cC (.int 1)) (ae (cC (.int 10)) aq)))) aq)))))
  (aE (bC 6 (au (cG aG) (cC (.int 1)) (aj aS (ae (ag 2) (ae (cC (.int 12)) aq)))))
  (aE (bC 7 (aj fm (ae (ag 2) (ae (ag 6) aq))))
  (aE (bC 8 (aj cW (ae (ag 2) (ae (ag 6) (ae (ag 7) aq)))))
  (aE (bC 9 (aj ie (ae (ag 8) aq)))
  (aE (fq (iz iN (ae (cC (.int 9)) aq)) (gN 10) (eL (aU asB (au dNe (eW aG (cT (aj bY (ae (ag 7) (ae (ag 8) (ae (cC (.int 0)) (ae (cC .non) aq)))))) [10,3,4] tt1 (aj aI (ae (ag 1) (ae (ag 2) (ae (ag 0) (ae (ag 3) aq)))))) (au (f_ aG) (aj (dH aG) (ae (aj bY (ae (cC (.str "number")) aq)) aq)) (cC (.int 4))))) (bD (cC (.bl false))) cL))
  (aE (eL (tu (aU asB (au dNe (eW aG (cT (aj bY (ae (cC (.int 0)) (ae (cC (.int 1)) (ae (cC (.int 2)) (ae (cC (.int 3)) (ae (cC (.int 4)) (ae (cC (.int 5)) (ae (cC (.int 7)) aq))))))))) [6,8,4] tt1 (aj aI (ae (ag 0) (ae (ag 1) (ae (ag 2) (ae (ag 3) aq)))))) (au (f_ aG) (aj (dH aG) (ae (aj bY (ae (cC (.str "set")) aq)) aq)) (cC (.int 7))))) (aU asB (au dNe (aj ie (ae (ag 8) aq)) (ag 9)))) (bD (cC (.bl false))) cL)
  (aE (eL (tu (aU asB (au dNe (aj aI (ae (cC (.int 8)) (ae (ag 6) (ae (ag 4) (ae (cC (.int 0)) aq))))) (aj bY (ae (cC (.str "number")) aq)))) (aU asB (au dNe (aj eC (ae (ag 5) aq)) (aj bY (ae (cC (.str "number")) aq))))) (bD (cC (.bl false))) cL)
  (aE (bC 11 (aj eA (ae (ag 6) (ae (ag 7) aq))))
  (aE (fq (cT (aj bY (ae (ag 11) (ae (au (cG aG) (ag 11) (cC (.int 1))) (ae (cUn lq (cC (.int 1))) (ae (au (cG aG) (ag 11) (au sY (cC (.int 10)) (cC (.int 20)))) (ae (cC (.bl true)) (ae (cC (.bl false)) (ae (cC .non) (ae (cC (.str "0")) (ae (aj (dH aG) (ae (cC (.int 0)) aq)) (ae (aj bY (ae (cC (.int 0)) aq)) (ae (cC .edic) aq))))))))))))) (gN 12) (eL (aU asB (au dNe (aj aI (ae (cC (.int 7)) (ae (ag 6) (ae (ag 7) (ae (ag 12) aq))))) (aj bY (ae (cC (.str "number")) aq)))) (bD (cC (.bl false))) cL))
  (eL (tu (aU asB (au dEq (aj aI (ae (cC (.int 7)) (ae (ag 6) (ae (ag 7) (ae (au cy (ag 11) (cC (.int 1))) aq))))) (aj bY (ae (cC (.str "number")) aq)))) (aU asB (au dEq (aj aI (ae (cC (.int 8)) (ae (ag 6) (ae (cC (.int 12)) (ae (cC (.int 0)) aq))))) (aj bY (ae (cC (.str "number")) aq))))) (bD (cC (.bl false))) cL)))))))))))))
  (bD (cC (.bl true))))) ds h).bind (eM h)
noncomputable def aA (i:Nat):Stmt:=PySem.Challenge.pw_fallcounts_k35_sets_refused.main.body.getD i (.Pass ⟨0,0,0,0⟩)
structure Blt (mg:Str->Option Value):Prop where
 ValueError:mg "ValueError" = none
 bool:mg "bool" = none
 enumerate:mg "enumerate" = none
 int:mg "int" = none
 isinstance:mg "isinstance" = none
 len:mg "len" = none
 list:mg "list" = none
 max:mg "max" = none
 range:mg "range" = none
 repr:mg "repr" = none
 sorted:mg "sorted" = none
 sum:mg "sum" = none
 tuple:mg "tuple" = none
section
variable {P:Program} {w:World} {K:PySem.W.Frag} {mg:Str->Option Value} {base:Heap} {g:GG}
theorem nS:aC ["_law_script", "_law_k"] ["_law_script", "_law_k"] (ai (aA 42)):=⟨rfl,rfl,rfl,by decide +kernel,rfl,by decide +kernel,by decide +kernel⟩
theorem ng (D:aJ K mg "_law_cell_at" (aA 42)) (T:Blt mg):Has P w K mg base g "_law_cell_at" 1 ["_law_script", "_law_k"] cA:=by
 obtain⟨f,fd,hm,F⟩:=D
 refine⟨f,fd,gW F nS (fun cdv A outer s H E hr=>?_),F.kp,F.binds (fun _ _ _ _ _ _ us hl=>jy hl fun _ _=>rfl),hm,bA F⟩
 exact(@av _ _ _ _ _ _ _ (@jz _ _ _ _ _ _ _ _ _ _ (@bU _ _ _ _ _ _ _ _ _ _ _ rY rR (af 1) (cn i4 iE rfl T.len PySem.boot_len (@aa _ _ _ _ _ _ _ (af 0) ak rfl)) (bT _)) (@az _ _ _ _ _ (@bB _ _ _ _ _ _ (@cS _ _ _ _ _ _ _ _ _ _ bV cY (af 0) (af 1) (fun _ _=>rfl)))) cD)
   (@az _ _ _ _ _ (@bB _ _ _ _ _ _ ao)))
theorem j4:aC ["_law_cell", "_law_left"] ["_law_cell"] (ai (aA 44)):=⟨rfl,rfl,rfl,by decide +kernel,rfl,by decide +kernel,by decide +kernel⟩
theorem ou (D:aJ K mg "_law_pen_of" (aA 44)) (T:Blt mg):Has P w K mg base g "_law_pen_of" 1 ["_law_cell"] di:=by
 obtain⟨f,fd,hm,F⟩:=D
 refine⟨f,fd,gW F j4 (fun cdv A outer s H E hr=>?_),F.kp,F.binds (fun _ _ _ _ _ _ us hl=>qz hl fun _=>rfl),hm,bA F⟩
 exact(@av _ _ _ _ _ _ _ (@ck _ _ _ _ _ _ 1 _ _ j4.nd rfl (by first | exact Or.inl rfl | exact Or.inr rfl) (cn (rE rfl) yA rfl T.max PyProof.Rows.boot_max (@aa _ _ _ _ _ _ _ (af 0) (@aa _ _ _ _ _ _ _ (@aw _ _ _ _ _ _ _ _ _ _ _ bZ b8 ao (af 0)) ak rfl) rfl)) rfl (.inl rfl))
   (@az _ _ _ _ _ (@bB _ _ _ _ _ _ (@cz _ _ _ _ _ _ _ _ (@aa _ _ _ _ _ _ _ (af 1) (@aa _ _ _ _ _ _ _ (iu zG G_ rfl T.int PyProof.Rows.boot_int (@aa _ _ _ _ _ _ _ (@BL _ _ _ _ _ _ _ _ _ _ _ Je IW (af 1) (@aw _ _ _ _ _ _ _ _ _ _ _ lU pB ao ao) (bT _)) ak rfl)) (@aa _ _ _ _ _ _ _ (@aw _ _ _ _ _ _ _ _ _ _ _ kI kT (af 1) ao) ak rfl) rfl) rfl)))))
theorem lB:aC ["_law_seed"] ["_law_seed"] (ai (aA 43)):=⟨rfl,rfl,rfl,by decide +kernel,rfl,by decide +kernel,by decide +kernel⟩
theorem qZ (D:aJ K mg "_law_next" (aA 43)) (T:Blt mg):Has P w K mg base g "_law_next" 1 ["_law_seed"] eD:=by
 obtain⟨f,fd,hm,F⟩:=D
 refine⟨f,fd,gW F lB (fun cdv A outer s H E hr=>?_),F.kp,F.binds (fun _ _ _ _ _ _ us hl=>qz hl fun _=>rfl),hm,bA F⟩
 exact(@av _ _ _ _ _ _ _ (@ck _ _ _ _ _ _ 0 _ _ lB.nd rfl (by first | exact Or.inl rfl | exact Or.inr rfl) (@aw _ _ _ _ _ _ _ _ _ _ _ kI kT (@aw _ _ _ _ _ _ _ _ _ _ _ cb cg (af 0) ao) ao) rfl (.inl rfl))
   (@az _ _ _ _ _ (@bB _ _ _ _ _ _ (@aw _ _ _ _ _ _ _ _ _ _ _ kI kT (@aw _ _ _ _ _ _ _ _ _ _ _ cb cg (@aw _ _ _ _ _ _ _ _ _ _ _ cb cg (@aw _ _ _ _ _ _ _ _ _ _ _ gm gp (af 0) (af 0)) (@aw _ _ _ _ _ _ _ _ _ _ _ gm gp ao (af 0))) ao) ao))))
theorem l7:aC ["_law_pen", "_law_many", "_law_found"] ["_law_pen", "_law_many"] (ai (aA 45)):=⟨rfl,rfl,rfl,by decide +kernel,rfl,by decide +kernel,by decide +kernel⟩
theorem qI (D:aJ K mg "_law_draw" (aA 45)) (T:Blt mg) (g_:Has P w K mg base g "_law_next" 1 ["_law_seed"] eD):Has P w K mg base g "_law_draw" 2 ["_law_pen", "_law_many"] aS:=by
 obtain⟨f,fd,hm,F⟩:=D
 obtain⟨DO,BS,ky,kx,kB,kz,_⟩:=g_
 refine⟨f,fd,gW F l7 (fun cdv A outer s H E hr=>?_),F.kp,F.binds (fun _ _ _ _ _ _ us hl=>jy hl fun _ _=>rfl),hm,bA F⟩
 exact(@av _ _ _ _ _ _ _ (@jz _ _ _ _ _ _ _ _ _ _ (PW.pt (@Iv _ _ _ _ _ _ _ _ _ (@bU _ _ _ _ _ _ _ _ _ _ _ (jM hr.units) nK (@cS _ _ _ _ _ _ _ _ _ _ bV cY (af 0) ao (fun _ _=>rfl)) ao (bT _)) (@EZ _ _ _ _ _ _ (@bU _ _ _ _ _ _ _ _ _ _ _ DF Ca (@cS _ _ _ _ _ _ _ _ _ _ bV cY (af 0) ao (fun _ _=>rfl)) ao (bT _))))) (@av _ _ _ _ _ _ _ (@ck _ _ _ _ _ _ 2 _ _ l7.nd rfl (by first | exact Or.inl rfl | exact Or.inr rfl) (@aw _ _ _ _ _ _ _ _ _ _ _ kI kT (@cS _ _ _ _ _ _ _ _ _ _ bV cY (af 0) ao (fun _ _=>rfl)) (af 1)) rfl (.inl rfl))
   (@av _ _ _ _ _ _ _ (yW (@aw _ _ _ _ _ _ _ _ _ _ _ qe xZ (@cS _ _ _ _ _ _ _ _ _ _ bV cY (af 0) ao (fun _ _=>rfl)) (af 1)) (af 0) ao set_list vZ)
   (@az _ _ _ _ _ (@bB _ _ _ _ _ _ (af 2))))) cD)
   (@av _ _ _ _ _ _ _ (yW (aV (ky.mono (by decide)) hr rfl kz kx kB (@aa _ _ _ _ _ _ _ (@aw _ _ _ _ _ _ _ _ _ _ _ cb cg (aV (ky.mono (by decide)) hr rfl kz kx kB (@aa _ _ _ _ _ _ _ (@cS _ _ _ _ _ _ _ _ _ _ bV cY (af 0) ao (fun _ _=>rfl)) ak rfl) (ah ay)) ao) ak rfl) (ah ay)) (af 0) ao set_list vZ)
   (@az _ _ _ _ _ (@bB _ _ _ _ _ _ (@aw _ _ _ _ _ _ _ _ _ _ _ kI kT (@aw _ _ _ _ _ _ _ _ _ _ _ qe xZ (@cS _ _ _ _ _ _ _ _ _ _ bV cY (af 0) ao (fun _ _=>rfl)) ao) (af 1))))))
theorem vK:aC ["_law_pen", "_law_low", "_law_high"] ["_law_pen", "_law_low", "_law_high"] (ai (aA 49)):=⟨rfl,rfl,rfl,by decide +kernel,rfl,by decide +kernel,by decide +kernel⟩
theorem sQ (D:aJ K mg "_law_odd" (aA 49)) (T:Blt mg) (bj:Has P w K mg base g "_law_draw" 2 ["_law_pen", "_law_many"] aS):Has P w K mg base g "_law_odd" 3 ["_law_pen", "_law_low", "_law_high"] cM:=by
 obtain⟨f,fd,hm,F⟩:=D
 obtain⟨hG,gi,bH,bG,bF,bI,_⟩:=bj
 refine⟨f,fd,gW F vK (fun cdv A outer s H E hr=>?_),F.kp,F.binds (fun _ _ _ _ _ _ us hl=>uf hl fun _ _ _=>rfl),hm,bA F⟩
 exact(@az _ _ _ _ _ (@bB _ _ _ _ _ _ (@cS _ _ _ _ _ _ _ _ _ _ bV cY (@cz _ _ _ _ _ _ _ _ (@aa _ _ _ _ _ _ _ (@aw _ _ _ _ _ _ _ _ _ _ _ bZ b8 (af 1) ao) (@aa _ _ _ _ _ _ _ (@aw _ _ _ _ _ _ _ _ _ _ _ cb cg (af 2) ao) (@aa _ _ _ _ _ _ _ fH (@aa _ _ _ _ _ _ _ pI (@aa _ _ _ _ _ _ _ cU (@aa _ _ _ _ _ _ _ (@bQ _ _ _ _ _ _ _ (@aa _ _ _ _ _ _ _ ao ak rfl)) (@aa _ _ _ _ _ _ _ (@cz _ _ _ _ _ _ _ _ (@aa _ _ _ _ _ _ _ ao ak rfl)) (@aa _ _ _ _ _ _ _ fH (@aa _ _ _ _ _ _ _ (@aw _ _ _ _ _ _ _ _ _ _ _ lU pB ao ao) (@aa _ _ _ _ _ _ _ tY (@aa _ _ _ _ _ _ _ (@aw _ _ _ _ _ _ _ _ _ _ _ bZ b8 ao (@aw _ _ _ _ _ _ _ _ _ _ _ lU pB ao ao)) ak rfl) rfl) rfl) rfl) rfl) rfl) rfl) rfl) rfl) rfl) rfl)) (aV (bH.mono (by decide)) hr rfl bI bG bF (@aa _ _ _ _ _ _ _ (af 0) (@aa _ _ _ _ _ _ _ ao ak rfl) rfl) (ah (ah ay))) (fun _ _=>rfl))))
theorem nL:aC ["_law_pen", "_law_n", "_law_rare"] ["_law_pen", "_law_n"] (ai (aA 48)):=⟨rfl,rfl,rfl,by decide +kernel,rfl,by decide +kernel,by decide +kernel⟩
theorem sS (D:aJ K mg "_law_set" (aA 48)) (T:Blt mg) (bj:Has P w K mg base g "_law_draw" 2 ["_law_pen", "_law_many"] aS):Has P w K mg base g "_law_set" 3 ["_law_pen", "_law_n"] fm:=by
 obtain⟨f,fd,hm,F⟩:=D
 obtain⟨hG,gi,bH,bG,bF,bI,_⟩:=bj
 refine⟨f,fd,gW F nL (fun cdv A outer s H E hr=>?_),F.kp,F.binds (fun _ _ _ _ _ _ us hl=>jy hl fun _ _=>rfl),hm,bA F⟩
 exact(@av _ _ _ _ _ _ _ (@ck _ _ _ _ _ _ 2 _ _ nL.nd rfl (by first | exact Or.inl rfl | exact Or.inr rfl) (@cS _ _ _ _ _ _ _ _ _ _ bV cY (@cz _ _ _ _ _ _ _ _ (@aa _ _ _ _ _ _ _ (@cz _ _ _ _ _ _ _ _ (@aa _ _ _ _ _ _ _ ao (@aa _ _ _ _ _ _ _ ao ak rfl) rfl)) (@aa _ _ _ _ _ _ _ (@cz _ _ _ _ _ _ _ _ (@aa _ _ _ _ _ _ _ ao (@aa _ _ _ _ _ _ _ ao ak rfl) rfl)) (@aa _ _ _ _ _ _ _ (@cz _ _ _ _ _ _ _ _ (@aa _ _ _ _ _ _ _ ao (@aa _ _ _ _ _ _ _ ao ak rfl) rfl)) ak rfl) rfl) rfl)) (aV (bH.mono (by decide)) hr rfl bI bG bF (@aa _ _ _ _ _ _ _ (af 0) (@aa _ _ _ _ _ _ _ ao ak rfl) rfl) (ah (ah ay))) (fun _ _=>rfl)) rfl (.inl rfl))
   (@az _ _ _ _ _ (@bB _ _ _ _ _ _ (iu h_ pZ rfl T.tuple PyProof.Rows.boot_tuple (@aa _ _ _ _ _ _ _ (fF (osc:=ai (aA 48)) [0,2] ["_law_place", "_law_pen", "_law_rare"] rfl rfl rfl rfl (by decide +kernel) ⟨by decide +kernel,by decide +kernel,rfl,by decide +kernel,rfl,by decide +kernel⟩ (gb rfl T.range (@aa _ _ _ _ _ _ _ (@aw _ _ _ _ _ _ _ _ _ _ _ bZ b8 (af 1) ao) ak rfl))
    (fun cl C aF aL fp=>(m9 (@bU _ _ _ _ _ _ _ _ _ _ _ rY rR (aV (bH.mono (by decide)) hr rfl bI bG bF (@aa _ _ _ _ _ _ _ (af 1) (@aa _ _ _ _ _ _ _ (@cS _ _ _ _ _ _ _ _ _ _ bV cY (af 2) ao (fun _ _=>rfl)) ak rfl) rfl) (ah (ah ay))) (@cS _ _ _ _ _ _ _ _ _ _ bV cY (af 2) ao (fun _ _=>rfl)) (bT _)))) (fun cl C aF aL fp=>(af 0))) ak rfl)))))
theorem dY:aC ["_law_pen", "_law_n", "_law_some", "_law_way", "_law_spot", "_law_odd_here", "_law_bent"] ["_law_pen", "_law_n", "_law_some"] (ai (aA 54)):=⟨rfl,rfl,rfl,by decide +kernel,rfl,by decide +kernel,by decide +kernel⟩
theorem mB (D:aJ K mg "_law_bad_set" (aA 54)) (T:Blt mg) (bj:Has P w K mg base g "_law_draw" 2 ["_law_pen", "_law_many"] aS):Has P w K mg base g "_law_bad_set" 3 ["_law_pen", "_law_n", "_law_some"] cW:=by
 obtain⟨f,fd,hm,F⟩:=D
 obtain⟨hG,gi,bH,bG,bF,bI,_⟩:=bj
 refine⟨f,fd,gW F dY (fun cdv A outer s H E hr=>?_),F.kp,F.binds (fun _ _ _ _ _ _ us hl=>uf hl fun _ _ _=>rfl),hm,bA F⟩
 exact(@av _ _ _ _ _ _ _ (xU (i:=3) (j:=4) rfl dY.nd rfl rfl (by decide) (@aa _ _ _ _ _ _ _ (aV (bH.mono (by decide)) hr rfl bI bG bF (@aa _ _ _ _ _ _ _ (af 0) (@aa _ _ _ _ _ _ _ ao ak rfl) rfl) (ah (ah ay))) (@aa _ _ _ _ _ _ _ (aV (bH.mono (by decide)) hr rfl bI bG bF (@aa _ _ _ _ _ _ _ (af 0) (@aa _ _ _ _ _ _ _ (@aw _ _ _ _ _ _ _ _ _ _ _ cb cg (cn i4 iE rfl T.len PySem.boot_len (@aa _ _ _ _ _ _ _ (af 2) ak rfl)) ao) ak rfl) rfl) (ah (ah ay))) ak rfl) rfl))
   (@av _ _ _ _ _ _ _ (@ck _ _ _ _ _ _ 5 _ _ dY.nd rfl (by first | exact Or.inl rfl | exact Or.inr rfl) (@cS _ _ _ _ _ _ _ _ _ _ bV cY (@cz _ _ _ _ _ _ _ _ (@aa _ _ _ _ _ _ _ (@aw _ _ _ _ _ _ _ _ _ _ _ bZ b8 (af 1) ao) (@aa _ _ _ _ _ _ _ (@nu _ _ _ _ _ _ _ _ _ jV jB ao) (@aa _ _ _ _ _ _ _ fH (@aa _ _ _ _ _ _ _ fH (@aa _ _ _ _ _ _ _ pI (@aa _ _ _ _ _ _ _ cU (@aa _ _ _ _ _ _ _ (@cz _ _ _ _ _ _ _ _ (@aa _ _ _ _ _ _ _ ao ak rfl)) (@aa _ _ _ _ _ _ _ tY (@aa _ _ _ _ _ _ _ (@bQ _ _ _ _ _ _ _ (@aa _ _ _ _ _ _ _ ao ak rfl)) (@aa _ _ _ _ _ _ _ (@aw _ _ _ _ _ _ _ _ _ _ _ lU pB ao ao) ak rfl) rfl) rfl) rfl) rfl) rfl) rfl) rfl) rfl) rfl)) (aV (bH.mono (by decide)) hr rfl bI bG bF (@aa _ _ _ _ _ _ _ (af 0) (@aa _ _ _ _ _ _ _ ao ak rfl) rfl) (ah (ah ay))) (fun _ _=>rfl)) rfl (.inl rfl))
   (@av _ _ _ _ _ _ _ (@ck _ _ _ _ _ _ 6 _ _ dY.nd rfl (by first | exact Or.inl rfl | exact Or.inr rfl) (@aw _ _ _ _ _ _ _ _ _ _ _ cb cg (@aw _ _ _ _ _ _ _ _ _ _ _ cb cg (jY (af 2) oF (@ki _ _ _ _ _ (af 4))) (@bQ _ _ _ _ _ _ _ (@aa _ _ _ _ _ _ _ (af 5) ak rfl))) (jY (af 2) (@ki _ _ _ _ _ (@aw _ _ _ _ _ _ _ _ _ _ _ cb cg (af 4) ao)) oF)) rfl (.inl rfl))
   (@az _ _ _ _ _ (@bB _ _ _ _ _ _ (@cS _ _ _ _ _ _ _ _ _ _ bV cY (@cz _ _ _ _ _ _ _ _ (@aa _ _ _ _ _ _ _ (af 6) (@aa _ _ _ _ _ _ _ (af 6) (@aa _ _ _ _ _ _ _ (iu (bp.frz uz) Es rfl T.list PyProof.Rows.boot_list (@aa _ _ _ _ _ _ _ (af 2) ak rfl)) (@aa _ _ _ _ _ _ _ (@j6 _ _ _ _ _ _ _ _ _ _ (@bU _ _ _ _ _ _ _ _ _ _ _ (iX hr.units) l6 (af 2) (@bQ _ _ _ _ _ _ _ ak) (bT _)) (@aw _ _ _ _ _ _ _ _ _ _ _ cb cg (af 2) (@bQ _ _ _ _ _ _ _ (@aa _ _ _ _ _ _ _ ao ak rfl))) (@bQ _ _ _ _ _ _ _ (@aa _ _ _ _ _ _ _ (af 1) ak rfl))) (@aa _ _ _ _ _ _ _ pI (@aa _ _ _ _ _ _ _ (@bQ _ _ _ _ _ _ _ (@aa _ _ _ _ _ _ _ (@aw _ _ _ _ _ _ _ _ _ _ _ bZ b8 (af 1) ao) (@aa _ _ _ _ _ _ _ ao (@aa _ _ _ _ _ _ _ (@aw _ _ _ _ _ _ _ _ _ _ _ bZ b8 (af 1) ao) ak rfl) rfl) rfl)) ak rfl) rfl) rfl) rfl) rfl) rfl)) (af 3) (fun _ _=>rfl)))))))
theorem fR:aC ["_law_e", "_law_marks"] ["_law_e"] (ai (aA 46)):=⟨rfl,rfl,rfl,by decide +kernel,rfl,by decide +kernel,by decide +kernel⟩
theorem mC (D:aJ K mg "_law_kind_of" (aA 46)) (T:Blt mg) (hgo:g=gOf mg) (CL:n6 K mg):Bg P w K mg base g "_law_kind_of" 1 ["_law_e"] gG:=by
 obtain⟨f,fd,hm,F⟩:=D
 refine⟨f,fd,F5 F fR (fun cdv A outer s H E hr=>?_),F.kp,F.binds (fun _ _ _ _ _ _ us hl=>qz hl fun _=>rfl),hm⟩
 exact(@av _ _ _ _ _ _ _ (@ck _ _ _ _ _ _ 1 _ _ fR.nd rfl (by first | exact Or.inl rfl | exact Or.inr rfl) (@cz _ _ _ _ _ _ _ _ (@aa _ _ _ _ _ _ _ (kG CL hgo (af 0) rfl T.isinstance rfl (by decide)) (@aa _ _ _ _ _ _ _ (kG CL hgo (af 0) rfl T.isinstance rfl (by decide)) (@aa _ _ _ _ _ _ _ (kG CL hgo (af 0) rfl T.isinstance rfl (by decide)) (@aa _ _ _ _ _ _ _ (kG CL hgo (af 0) rfl T.isinstance rfl (by decide)) ak rfl) rfl) rfl) rfl)) rfl (.inl rfl))
   (@av _ _ _ _ _ _ _ (@ck _ _ _ _ _ _ 1 _ _ fR.nd rfl (by first | exact Or.inl rfl | exact Or.inr rfl) (@aw _ _ _ _ _ _ _ _ _ _ _ cb cg (af 1) (@cz _ _ _ _ _ _ _ _ (@aa _ _ _ _ _ _ _ (kG CL hgo (af 0) rfl T.isinstance rfl (by decide)) (@aa _ _ _ _ _ _ _ (kG CL hgo (af 0) rfl T.isinstance rfl (by decide)) (@aa _ _ _ _ _ _ _ (kG CL hgo (af 0) rfl T.isinstance rfl (by decide)) ak rfl) rfl) rfl))) rfl (.inl rfl))
   (@av _ _ _ _ _ _ _ (@jz _ _ _ _ _ _ _ _ _ _ (PW.pt (@yG _ _ _ _ _ _ _ _ _ (@qc _ _ _ _ _ _ (@gB _ _ _ _ _ _ kX (Ho CL hgo (af 0) rfl T.isinstance rfl T.ValueError) (fun _=>rfl))) (@uI _ _ _ _ _ _ (@bU _ _ _ _ _ _ _ _ _ _ _ (iX hr.units) l6 (uc PySem.F.slot_list_count PySem.F.type_list_count zK zp (af 1) (@aa _ _ _ _ _ _ _ fH ak rfl)) ao (bT _))))) (@az _ _ _ _ _ (@bB _ _ _ _ _ _ cU)) cD)
   (@az _ _ _ _ _ (@bB _ _ _ _ _ _ (@cS _ _ _ _ _ _ _ _ _ _ bV cY (@cz _ _ _ _ _ _ _ _ (@aa _ _ _ _ _ _ _ cU (@aa _ _ _ _ _ _ _ cU (@aa _ _ _ _ _ _ _ cU (@aa _ _ _ _ _ _ _ cU (@aa _ _ _ _ _ _ _ cU (@aa _ _ _ _ _ _ _ cU (@aa _ _ _ _ _ _ _ cU ak rfl) rfl) rfl) rfl) rfl) rfl) rfl)) (uc PySem.F.slot_list_index PySem.F.type_list_index Ad Ae (af 1) (@aa _ _ _ _ _ _ _ fH ak rfl)) (fun _ _=>rfl)))))))
theorem jq:aC ["_law_e", "_law_kind"] ["_law_e"] (ai (aA 47)):=⟨rfl,rfl,rfl,by decide +kernel,rfl,by decide +kernel,by decide +kernel⟩
theorem mO (D:aJ K mg "_law_refused" (aA 47)) (T:Blt mg) (hgo:g=gOf mg) (mn:CIm K mg "NoText" (aA 7) ["row"]) (gM:CIm K mg "TooGreat" (aA 8) ["many", "most"]) (fk:Bg P w K mg base g "_law_kind_of" 1 ["_law_e"] gG):Bg P w K mg base g "_law_refused" 2 ["_law_e"] aR:=by
 obtain⟨f,fd,hm,F⟩:=D
 obtain⟨AE,yR,mq,mP,mJ,mw⟩:=fk
 refine⟨f,fd,F5 F jq (fun cdv A outer s H E hr=>?_),F.kp,F.binds (fun _ _ _ _ _ _ us hl=>qz hl fun _=>rfl),hm⟩
 exact(@av _ _ _ _ _ _ _ (@ck _ _ _ _ _ _ 1 _ _ jq.nd rfl (by first | exact Or.inl rfl | exact Or.inr rfl) (Dw (mq.mono (by decide)) hr rfl mw mP mJ (@aa _ _ _ _ _ _ _ (af 0) ak rfl) (ah ay)) rfl (.inl rfl))
   (@av _ _ _ _ _ _ _ (@jz _ _ _ _ _ _ _ _ _ _ (@bU _ _ _ _ _ _ _ _ _ _ _ (jM hr.units) nK (af 1) cU (bT _)) (@az _ _ _ _ _ (@bB _ _ _ _ _ _ (@bQ _ _ _ _ _ _ _ (@aa _ _ _ _ _ _ _ (af 1) (@aa _ _ _ _ _ _ _ (uE (af 0) mn hgo (by decide)) ak rfl) rfl)))) cD)
   (@az _ _ _ _ _ (@bB _ _ _ _ _ _ (@j6 _ _ _ _ _ _ _ _ _ _ (@bU _ _ _ _ _ _ _ _ _ _ _ (jM hr.units) nK (af 1) cU (bT _)) (@bQ _ _ _ _ _ _ _ (@aa _ _ _ _ _ _ _ (af 1) (@aa _ _ _ _ _ _ _ (uE (af 0) gM hgo (by decide)) (@aa _ _ _ _ _ _ _ (uE (af 0) gM hgo (by decide)) ak rfl) rfl) rfl)) (@bQ _ _ _ _ _ _ _ (@aa _ _ _ _ _ _ _ (af 1) ak rfl)))))))
theorem vS:aC ["thing"] ["thing"] (ai (aA 10)):=⟨rfl,rfl,rfl,by decide +kernel,rfl,by decide +kernel,by decide +kernel⟩
theorem ug (D:aJ K mg "is_whole" (aA 10)) (T:Blt mg):Has P w K mg base g "is_whole" 1 ["thing"] gj:=by
 obtain⟨f,fd,hm,F⟩:=D
 refine⟨f,fd,gW F vS (fun cdv A outer s H E hr=>?_),F.kp,F.binds (fun _ _ _ _ _ _ us hl=>qz hl fun _=>rfl),hm,bA F⟩
 exact(@az _ _ _ _ _ (@bB _ _ _ _ _ _ (@CS _ _ _ _ _ _ _ _ _ (xC (af 0) rfl T.isinstance rfl T.int PyProof.Rows.boot_int) (@DC _ _ _ _ _ _ _ (@Iq _ _ _ _ _ _ (xC (af 0) rfl T.isinstance rfl T.bool PyProof.Rows.boot_bool))))))
theorem uP:aC ["thing", "least", "most"] ["thing", "least", "most"] (ai (aA 11)):=⟨rfl,rfl,rfl,by decide +kernel,rfl,by decide +kernel,by decide +kernel⟩
theorem rj (D:aJ K mg "is_within" (aA 11)) (T:Blt mg) (iW:Has P w K mg base g "is_whole" 1 ["thing"] gj):Has P w K mg base g "is_within" 2 ["thing", "least", "most"] cJ:=by
 obtain⟨f,fd,hm,F⟩:=D
 obtain⟨D3,DR,tI,tf,uy,tN,_⟩:=iW
 refine⟨f,fd,gW F uP (fun cdv A outer s H E hr=>?_),F.kp,F.binds (fun _ _ _ _ _ _ us hl=>uf hl fun _ _ _=>rfl),hm,bA F⟩
 exact(@az _ _ _ _ _ (@bB _ _ _ _ _ _ (@CS _ _ _ _ _ _ _ _ _ (aV (tI.mono (by decide)) hr rfl tN tf uy (@aa _ _ _ _ _ _ _ (af 0) ak rfl) (ah ay)) (@DC _ _ _ _ _ _ _ (CU Gw Gw Gu Gu (af 1) (af 0) (af 2))))))
theorem ni:aC ["thing", "least", "most"] ["thing", "least", "most"] (ai (aA 12)):=⟨rfl,rfl,rfl,by decide +kernel,rfl,by decide +kernel,by decide +kernel⟩
theorem lA (D:aJ K mg "number_needed" (aA 12)) (T:Blt mg) (hgo:g=gOf mg) (CL:n6 K mg) (dk:Has P w K mg base g "is_within" 2 ["thing", "least", "most"] cJ):dO P w K mg base g "number_needed" 3 ["thing", "least", "most"] aB:=by
 obtain⟨f,fd,hm,F⟩:=D
 obtain⟨qF,pK,g8,g6,hZ,hW,_⟩:=dk
 obtain⟨A_NoNumber,lb⟩:=CL.at_ "NoNumber" (by decide)
 refine⟨f,fd,jm F ni (fun cdv A outer s H E hr fl pl po=>?_),F.kp,F.binds (fun _ _ _ _ _ _ us hl=>uf hl fun _ _ _=>rfl),hm⟩
 exact(@az _ _ _ _ _ (@jz _ _ _ _ _ _ _ _ _ _ (@Bm _ _ _ _ _ (@qc _ _ _ _ _ _ (@gB _ _ _ _ _ _ kX (aV (g8.mono (by decide)) hr rfl hW g6 hZ (@aa _ _ _ _ _ _ _ (af 0) (@aa _ _ _ _ _ _ _ (af 1) (@aa _ _ _ _ _ _ _ (af 2) ak rfl) rfl) rfl) (ah (ah (ah ay)))) (fun _=>rfl)))) (@az _ _ _ _ _ (zi fl pl rfl rfl lb (dS hgo lb) ((CL.one _ (by decide) _ lb).2.2 rfl))) cD))
theorem gL:aC ["n", "thing", "least", "place"] ["n", "thing"] (ai (aA 26)):=⟨rfl,rfl,rfl,by decide +kernel,rfl,by decide +kernel,by decide +kernel⟩
theorem uF (D:aJ K mg "set_good" (aA 26)) (T:Blt mg) {eT:Tok} (cB:mg "MOST_NUMBERS" = some (.int 12 eT)) (aQ:dO P w K mg base g "number_needed" 3 ["thing", "least", "most"] aB) (dk:Has P w K mg base g "is_within" 2 ["thing", "least", "most"] cJ):dO P w K mg base g "set_good" 4 ["n", "thing"] cf:=by
 obtain⟨f,fd,hm,F⟩:=D
 obtain⟨eN,eh,br,bu,bx,bt⟩:=aQ
 obtain⟨qF,pK,g8,g6,hZ,hW,_⟩:=dk
 refine⟨f,fd,jm F gL (fun cdv A outer s H E hr fl pl po=>?_),F.kp,F.binds (fun _ _ _ _ _ _ us hl=>jy hl fun _ _=>rfl),hm⟩
 exact(@av _ _ _ _ _ _ _ (fv (cj fl pl (br.mono (by decide)) hr rfl bt bu bx (@aa _ _ _ _ _ _ _ (@bE _ _ _ _ _ (af 0)) (@aa _ _ _ _ _ _ _ (@bE _ _ _ _ _ ao) (@aa _ _ _ _ _ _ _ (@bE _ _ _ _ _ (lV rfl cB)) ak rfl) rfl) rfl) (ah (ah (ah ay)))))
   (@av _ _ _ _ _ _ _ (@lh _ _ _ _ _ (@jz _ _ _ _ _ _ _ _ _ _ (@qc _ _ _ _ _ _ (@gB _ _ _ _ _ _ kX (xC (af 1) rfl T.isinstance rfl T.tuple PyProof.Rows.boot_tuple) (fun _=>rfl))) (@az _ _ _ _ _ (@bB _ _ _ _ _ _ fH)) cD))
   (@av _ _ _ _ _ _ _ (@lh _ _ _ _ _ (@ck _ _ _ _ _ _ 2 _ _ gL.nd rfl (by first | exact Or.inl rfl | exact Or.inr rfl) ao rfl (.inl rfl)))
   (@av _ _ _ _ _ _ _ (@lh _ _ _ _ _ (jn PassesOwn.never rfl (@fP _ _ _ _ _ _ (af 1)) (bR (i:=3) gL.nd rfl (by first | exact Or.inl rfl | exact Or.inr rfl)) eS (@av _ _ _ _ _ _ _ (@jz _ _ _ _ _ _ _ _ _ _ (@qc _ _ _ _ _ _ (@gB _ _ _ _ _ _ kX (aV (g8.mono (by decide)) hr rfl hW g6 hZ (@aa _ _ _ _ _ _ _ (af 3) (@aa _ _ _ _ _ _ _ (af 2) (@aa _ _ _ _ _ _ _ (@aw _ _ _ _ _ _ _ _ _ _ _ bZ b8 (af 0) ao) ak rfl) rfl) rfl) (ah (ah (ah ay)))) (fun _=>rfl))) (@az _ _ _ _ _ (@bB _ _ _ _ _ _ fH)) cD)
   (@az _ _ _ _ _ (@ck _ _ _ _ _ _ 2 _ _ gL.nd rfl (by first | exact Or.inl rfl | exact Or.inr rfl) (@aw _ _ _ _ _ _ _ _ _ _ _ cb cg (af 3) ao) rfl (.inl rfl))))))
   (@az _ _ _ _ _ (@lh _ _ _ _ _ (@bB _ _ _ _ _ _ fH)))))))
theorem qS:aC ["n", "thing"] ["n", "thing"] (ai (aA 27)):=⟨rfl,rfl,rfl,by decide +kernel,rfl,by decide +kernel,by decide +kernel⟩
theorem oY (D:aJ K mg "set_needed" (aA 27)) (T:Blt mg) (hgo:g=gOf mg) (CL:n6 K mg) (dP:dO P w K mg base g "set_good" 4 ["n", "thing"] cf):dO P w K mg base g "set_needed" 5 ["n", "thing"] aK:=by
 obtain⟨f,fd,hm,F⟩:=D
 obtain⟨s_,rk,iZ,iQ,iK,eK⟩:=dP
 obtain⟨A_NoSet,ux⟩:=CL.at_ "NoSet" (by decide)
 refine⟨f,fd,jm F qS (fun cdv A outer s H E hr fl pl po=>?_),F.kp,F.binds (fun _ _ _ _ _ _ us hl=>jy hl fun _ _=>rfl),hm⟩
 exact(@az _ _ _ _ _ (@jz _ _ _ _ _ _ _ _ _ _ (@qc _ _ _ _ _ _ (@gB _ _ _ _ _ _ kX (cj fl pl (iZ.mono (by decide)) hr rfl eK iQ iK (@aa _ _ _ _ _ _ _ (@bE _ _ _ _ _ (af 0)) (@aa _ _ _ _ _ _ _ (@bE _ _ _ _ _ (af 1)) ak rfl) rfl) (ah (ah ay))) (fun _=>rfl))) (@az _ _ _ _ _ (zi fl pl rfl rfl ux (dS hgo ux) ((CL.one _ (by decide) _ ux).2.2 rfl))) cD))
theorem uG:aC ["n", "some"] ["n", "some"] (ai (aA 28)):=⟨rfl,rfl,rfl,by decide +kernel,rfl,by decide +kernel,by decide +kernel⟩
theorem q_ (D:aJ K mg "just_many" (aA 28)) (T:Blt mg) (aH:dO P w K mg base g "set_needed" 5 ["n", "thing"] aK):dO P w K mg base g "just_many" 6 ["n", "some"] dE:=by
 obtain⟨f,fd,hm,F⟩:=D
 obtain⟨dM,de,bh,ba,bg,bc⟩:=aH
 refine⟨f,fd,jm F uG (fun cdv A outer s H E hr fl pl po=>?_),F.kp,F.binds (fun _ _ _ _ _ _ us hl=>jy hl fun _ _=>rfl),hm⟩
 exact(@av _ _ _ _ _ _ _ (fv (cj fl pl (bh.mono (by decide)) hr rfl bc ba bg (@aa _ _ _ _ _ _ _ (@bE _ _ _ _ _ (af 0)) (@aa _ _ _ _ _ _ _ (@bE _ _ _ _ _ (af 1)) ak rfl) rfl) (ah (ah ay))))
   (@az _ _ _ _ _ (PS.imp cK fun E σ H ⟨α,env,h,s,w⟩=>w.elim)))
theorem wD:aC ["n", "some", "starts", "ends"] ["n", "some"] (ai (aA 34)):=⟨rfl,rfl,rfl,by decide +kernel,rfl,by decide +kernel,by decide +kernel⟩
theorem ur (D:aJ K mg "sizes_of" (aA 34)) (T:Blt mg) (aH:dO P w K mg base g "set_needed" 5 ["n", "thing"] aK):dO P w K mg base g "sizes_of" 6 ["n", "some"] cO:=by
 obtain⟨f,fd,hm,F⟩:=D
 obtain⟨dM,de,bh,ba,bg,bc⟩:=aH
 refine⟨f,fd,jm F wD (fun cdv A outer s H E hr fl pl po=>?_),F.kp,F.binds (fun _ _ _ _ _ _ us hl=>jy hl fun _ _=>rfl),hm⟩
 exact(@av _ _ _ _ _ _ _ (fv (cj fl pl (bh.mono (by decide)) hr rfl bc ba bg (@aa _ _ _ _ _ _ _ (@bE _ _ _ _ _ (af 0)) (@aa _ _ _ _ _ _ _ (@bE _ _ _ _ _ (af 1)) ak rfl) rfl) (ah (ah ay))))
   (@av _ _ _ _ _ _ _ (PS.imp cK fun E σ H ⟨α,env,h,s,w⟩=>w.elim)
   (@av _ _ _ _ _ _ _ (PS.imp cK fun E σ H ⟨α,env,h,s,w⟩=>w.elim)
   (@az _ _ _ _ _ (PS.imp cK fun E σ H ⟨α,env,h,s,w⟩=>w.elim)))))
theorem cX:aC ["n", "some", "many", "left", "size"] ["n", "some"] (ai (aA 29)):=⟨rfl,rfl,rfl,by decide +kernel,rfl,by decide +kernel,by decide +kernel⟩
theorem ow (D:aJ K mg "within_many" (aA 29)) (T:Blt mg) (dQ:dO P w K mg base g "sizes_of" 6 ["n", "some"] cO):dO P w K mg base g "within_many" 7 ["n", "some"] cN:=by
 obtain⟨f,fd,hm,F⟩:=D
 obtain⟨uC,rC,i_,iT,i3,eR⟩:=dQ
 refine⟨f,fd,jm F cX (fun cdv A outer s H E hr fl pl po=>?_),F.kp,F.binds (fun _ _ _ _ _ _ us hl=>jy hl fun _ _=>rfl),hm⟩
 exact(@av _ _ _ _ _ _ _ (@lh _ _ _ _ _ (@ck _ _ _ _ _ _ 2 _ _ cX.nd rfl (by first | exact Or.inl rfl | exact Or.inr rfl) ao rfl (.inl rfl)))
   (@av _ _ _ _ _ _ _ (@lh _ _ _ _ _ (@ck _ _ _ _ _ _ 3 _ _ cX.nd rfl (by first | exact Or.inl rfl | exact Or.inr rfl) (af 0) rfl (.inl rfl)))
   (@av _ _ _ _ _ _ _ (jn po rfl (@fP _ _ _ _ _ _ (cj fl pl (i_.mono (by decide)) hr rfl eR iT i3 (@aa _ _ _ _ _ _ _ (@bE _ _ _ _ _ (af 0)) (@aa _ _ _ _ _ _ _ (@bE _ _ _ _ _ (af 1)) ak rfl) rfl) (ah (ah ay)))) (bR (i:=4) cX.nd rfl (by first | exact Or.inl rfl | exact Or.inr rfl)) eS (@av _ _ _ _ _ _ _ (@lh _ _ _ _ _ (CZ (i:=2) cX.nd rfl (by first | exact Or.inl rfl | exact Or.inr rfl) CC Ea Ig))
   (@az _ _ _ _ _ (@lh _ _ _ _ _ (CZ (i:=3) cX.nd rfl (by first | exact Or.inl rfl | exact Or.inr rfl) (af 4) Bc A4)))))
   (@az _ _ _ _ _ (@lh _ _ _ _ _ (@bB _ _ _ _ _ _ (af 2)))))))
theorem v9:aC ["n", "some", "many_with"] ["n", "some"] (ai (aA 30)):=⟨rfl,rfl,rfl,by decide +kernel,rfl,by decide +kernel,by decide +kernel⟩
theorem sO (D:aJ K mg "just_all" (aA 30)) (T:Blt mg) (aH:dO P w K mg base g "set_needed" 5 ["n", "thing"] aK):dO P w K mg base g "just_all" 6 ["n", "some"] ey:=by
 obtain⟨f,fd,hm,F⟩:=D
 obtain⟨dM,de,bh,ba,bg,bc⟩:=aH
 refine⟨f,fd,jm F v9 (fun cdv A outer s H E hr fl pl po=>?_),F.kp,F.binds (fun _ _ _ _ _ _ us hl=>jy hl fun _ _=>rfl),hm⟩
 exact(@av _ _ _ _ _ _ _ (fv (cj fl pl (bh.mono (by decide)) hr rfl bc ba bg (@aa _ _ _ _ _ _ _ (@bE _ _ _ _ _ (af 0)) (@aa _ _ _ _ _ _ _ (@bE _ _ _ _ _ (af 1)) ak rfl) rfl) (ah (ah ay))))
   (@av _ _ _ _ _ _ _ (PS.imp cK fun E σ H ⟨α,env,h,s,w⟩=>w.elim)
   (@av _ _ _ _ _ _ _ (PS.imp cK fun E σ H ⟨α,env,h,s,w⟩=>w.elim)
   (@az _ _ _ _ _ (PS.imp cK fun E σ H ⟨α,env,h,s,w⟩=>w.elim)))))
theorem qX:aC ["n", "some"] ["n", "some"] (ai (aA 31)):=⟨rfl,rfl,rfl,by decide +kernel,rfl,by decide +kernel,by decide +kernel⟩
theorem pD (D:aJ K mg "first_with" (aA 31)) (T:Blt mg) (aH:dO P w K mg base g "set_needed" 5 ["n", "thing"] aK):dO P w K mg base g "first_with" 6 ["n", "some"] c_:=by
 obtain⟨f,fd,hm,F⟩:=D
 obtain⟨dM,de,bh,ba,bg,bc⟩:=aH
 refine⟨f,fd,jm F qX (fun cdv A outer s H E hr fl pl po=>?_),F.kp,F.binds (fun _ _ _ _ _ _ us hl=>jy hl fun _ _=>rfl),hm⟩
 exact(@av _ _ _ _ _ _ _ (fv (cj fl pl (bh.mono (by decide)) hr rfl bc ba bg (@aa _ _ _ _ _ _ _ (@bE _ _ _ _ _ (af 0)) (@aa _ _ _ _ _ _ _ (@bE _ _ _ _ _ (af 1)) ak rfl) rfl) (ah (ah ay))))
   (@az _ _ _ _ _ (PS.imp cK fun E σ H ⟨α,env,h,s,w⟩=>w.elim)))
theorem uv:aC ["n", "some", "many_with"] ["n", "some"] (ai (aA 32)):=⟨rfl,rfl,rfl,by decide +kernel,rfl,by decide +kernel,by decide +kernel⟩
theorem qV (D:aJ K mg "last_with" (aA 32)) (T:Blt mg) (aH:dO P w K mg base g "set_needed" 5 ["n", "thing"] aK):dO P w K mg base g "last_with" 6 ["n", "some"] dF:=by
 obtain⟨f,fd,hm,F⟩:=D
 obtain⟨dM,de,bh,ba,bg,bc⟩:=aH
 refine⟨f,fd,jm F uv (fun cdv A outer s H E hr fl pl po=>?_),F.kp,F.binds (fun _ _ _ _ _ _ us hl=>jy hl fun _ _=>rfl),hm⟩
 exact(@av _ _ _ _ _ _ _ (fv (cj fl pl (bh.mono (by decide)) hr rfl bc ba bg (@aa _ _ _ _ _ _ _ (@bE _ _ _ _ _ (af 0)) (@aa _ _ _ _ _ _ _ (@bE _ _ _ _ _ (af 1)) ak rfl) rfl) (ah (ah ay))))
   (@av _ _ _ _ _ _ _ (PS.imp cK fun E σ H ⟨α,env,h,s,w⟩=>w.elim)
   (@az _ _ _ _ _ (PS.imp cK fun E σ H ⟨α,env,h,s,w⟩=>w.elim))))
theorem eI:aC ["n", "some", "rests", "left", "fewer", "falls"] ["n", "some"] (ai (aA 38)):=⟨rfl,rfl,rfl,by decide +kernel,rfl,by decide +kernel,by decide +kernel⟩
theorem qW (D:aJ K mg "set_rests" (aA 38)) (T:Blt mg):Has P w K mg base g "set_rests" 1 ["n", "some"] fL:=by
 obtain⟨f,fd,hm,F⟩:=D
 refine⟨f,fd,Ic (oO (gW F eI (fun cdv A outer s H E hr=>?_))),F.kp,F.binds (fun _ _ _ _ _ _ us hl=>jy hl fun _ _=>rfl),hm,bA F⟩
 exact(@av _ _ _ _ _ _ _ (@ck _ _ _ _ _ _ 2 _ _ eI.nd rfl (by first | exact Or.inl rfl | exact Or.inr rfl) (@cz _ _ _ _ _ _ _ _ (@aa _ _ _ _ _ _ _ (@cz _ _ _ _ _ _ _ _ (@aa _ _ _ _ _ _ _ ao ak rfl)) ak rfl)) rfl (.inl rfl))
   (@av _ _ _ _ _ _ _ (jn PassesOwn.never rfl (Ef rfl T.range (@aa _ _ _ _ _ _ _ ao (@aa _ _ _ _ _ _ _ (af 0) ak rfl) rfl)) (bR (i:=3) eI.nd rfl (by first | exact Or.inl rfl | exact Or.inr rfl)) eS (@av _ _ _ _ _ _ _ (@ck _ _ _ _ _ _ 4 _ _ eI.nd rfl (by first | exact Or.inl rfl | exact Or.inr rfl) (@cS _ _ _ _ _ _ _ _ _ _ bV cY (af 2) (@nu _ _ _ _ _ _ _ _ _ jV jB ao) (fun _ _=>rfl)) rfl (.inl rfl))
   (@av _ _ _ _ _ _ _ (@ck _ _ _ _ _ _ 5 _ _ eI.nd rfl (by first | exact Or.inl rfl | exact Or.inr rfl) (@BL _ _ _ _ _ _ _ _ _ _ _ Ai F6 (@aw _ _ _ _ _ _ _ _ _ _ _ bZ b8 (@aw _ _ _ _ _ _ _ _ _ _ _ bZ b8 (af 0) ao) (af 3)) (af 1) (by rfl)) rfl (.inl rfl))
   (@az _ _ _ _ _ (fv (uc PySem.F.slot_list_append PySem.F.type_list_append kf rZ (af 2) (@aa _ _ _ _ _ _ _ (fF (osc:=ai (aA 38)) [5,4] ["lower", "falls", "fewer"] rfl rfl rfl rfl (by decide +kernel) ⟨by decide +kernel,by decide +kernel,rfl,by decide +kernel,rfl,by decide +kernel⟩ (gb rfl T.range (@aa _ _ _ _ _ _ _ (@aw _ _ _ _ _ _ _ _ _ _ _ cb cg (af 3) ao) ak rfl))
    (fun cl C aF aL fp=>xV) (fun cl C aF aL fp=>(cn (r9 rfl) BZ rfl T.sum PyProof.Rows.boot_sum (@aa _ _ _ _ _ _ _ (@j6 _ _ _ _ _ _ _ _ _ _ (@gB _ _ _ _ _ _ kX (af 1) (fun _=>rfl)) (jY (af 2) oF (@ki _ _ _ _ _ (af 0))) (jY (af 2) (@ki _ _ _ _ _ (af 0)) oF)) ak rfl)))) ak rfl)))))))
   (@az _ _ _ _ _ (@bB _ _ _ _ _ _ (af 2)))))
theorem js:aC ["n", "some", "rests"] ["n", "some"] (ai (aA 40)):=⟨rfl,rfl,rfl,by decide +kernel,rfl,by decide +kernel,by decide +kernel⟩
theorem mE (D:aJ K mg "just_counter" (aA 40)) (T:Blt mg) (MK:ER K mg base "just_counter" (aA 40)) (gZ:Has P w K mg base g "set_rests" 1 ["n", "some"] fL):Has P w K mg base g "just_counter" 2 ["n", "some"] bJ:=by
 obtain⟨f,fd,hm,F⟩:=D
 obtain⟨DN,Cv,qM,qJ,qu,rB,_⟩:=gZ
 obtain⟨c,PT,MK⟩:=MK f fd hm F
 refine⟨f,fd,GQ ((bK (aA 40)).take 1) "just_count" "begun" ["rests", "some"] [2,1] F js MK rfl (fun _=>rfl) (by decide +kernel) (by decide +kernel) rfl ⟨⟨_,_,_,[("rests", _),("some", _)],rfl,rfl⟩,rfl,rfl,rfl,by decide +kernel,rfl,rfl,by decide +kernel,⟨by decide,by decide⟩,fun _ _ _ _ _=>rfl⟩ (fun cdv A outer s H E hr=>?_),F.kp,F.binds (fun _ _ _ _ _ _ us hl=>jy hl fun _ _=>rfl),hm,bA F⟩
 exact(@az _ _ _ _ _ (@ck _ _ _ _ _ _ 2 _ _ js.nd rfl (by first | exact Or.inl rfl | exact Or.inr rfl) (aV (qM.mono (by decide)) hr rfl rB qJ qu (@aa _ _ _ _ _ _ _ (af 0) (@aa _ _ _ _ _ _ _ (af 1) ak rfl) rfl) (ah (ah ay))) rfl (.inl rfl)))
theorem vU:aC ["numbers"] ["numbers"] (ai (aA 15)):=⟨rfl,rfl,rfl,by decide +kernel,rfl,by decide +kernel,by decide +kernel⟩
theorem sJ (D:aJ K mg "falls_in" (aA 15)) (T:Blt mg):Has P w K mg base g "falls_in" 1 ["numbers"] gz:=by
 obtain⟨f,fd,hm,F⟩:=D
 refine⟨f,fd,gW F vU (fun cdv A outer s H E hr=>?_),F.kp,F.binds (fun _ _ _ _ _ _ us hl=>qz hl fun _=>rfl),hm,bA F⟩
 exact(@az _ _ _ _ _ (@bB _ _ _ _ _ _ (iu h_ pZ rfl T.tuple PyProof.Rows.boot_tuple (@aa _ _ _ _ _ _ _ (fF (osc:=ai (aA 15)) [0] ["place", "numbers"] rfl rfl rfl rfl (by decide +kernel) ⟨by decide +kernel,by decide +kernel,rfl,by decide +kernel,rfl,by decide +kernel⟩ (gb rfl T.range (@aa _ _ _ _ _ _ _ (@aw _ _ _ _ _ _ _ _ _ _ _ bZ b8 (cn i4 iE rfl T.len PySem.boot_len (@aa _ _ _ _ _ _ _ (af 0) ak rfl)) ao) ak rfl))
    (fun cl C aF aL fp=>(m9 (@bU _ _ _ _ _ _ _ _ _ _ _ DF Ca (@cS _ _ _ _ _ _ _ _ _ _ bV cY (af 1) (af 0) (fun _ _=>rfl)) (@cS _ _ _ _ _ _ _ _ _ _ bV cY (af 1) (@aw _ _ _ _ _ _ _ _ _ _ _ cb cg (af 0) ao) (fun _ _=>rfl)) (bT _)))) (fun cl C aF aL fp=>(af 0))) ak rfl))))
theorem rm:aC ["begun"] ["begun"] (ai (aA 19)):=⟨rfl,rfl,rfl,by decide +kernel,rfl,by decide +kernel,by decide +kernel⟩
theorem oQ (D:aJ K mg "lower_left" (aA 19)) (T:Blt mg):Has P w K mg base g "lower_left" 1 ["begun"] dN:=by
 obtain⟨f,fd,hm,F⟩:=D
 refine⟨f,fd,gW F rm (fun cdv A outer s H E hr=>?_),F.kp,F.binds (fun _ _ _ _ _ _ us hl=>qz hl fun _=>rfl),hm,bA F⟩
 exact(@av _ _ _ _ _ _ _ (@jz _ _ _ _ _ _ _ _ _ _ (@bU _ _ _ _ _ _ _ _ _ _ _ (jM hr.units) nK (cn i4 iE rfl T.len PySem.boot_len (@aa _ _ _ _ _ _ _ (af 0) ak rfl)) ao (bT _)) (@az _ _ _ _ _ (@bB _ _ _ _ _ _ ao)) cD)
   (@az _ _ _ _ _ (@bB _ _ _ _ _ _ (@aw _ _ _ _ _ _ _ _ _ _ _ bZ b8 (@cS _ _ _ _ _ _ _ _ _ _ bV cY (af 0) (@nu _ _ _ _ _ _ _ _ _ jV jB ao) (fun _ _=>rfl)) (cn i4 iE rfl T.len PySem.boot_len (@aa _ _ _ _ _ _ _ (fF (osc:=ai (aA 19)) [0] ["number", "begun"] rfl rfl rfl rfl (by decide +kernel) ⟨by decide +kernel,by decide +kernel,rfl,by decide +kernel,rfl,by decide +kernel⟩ (@fP _ _ _ _ _ _ (af 0))
    (fun cl C aF aL fp=>(m9 (@bU _ _ _ _ _ _ _ _ _ _ _ rY rR (af 0) (@cS _ _ _ _ _ _ _ _ _ _ bV cY (af 1) (@nu _ _ _ _ _ _ _ _ _ jV jB ao) (fun _ _=>rfl)) (bT _)))) (fun cl C aF aL fp=>(af 0))) ak rfl))))))
theorem rq:aC ["rests", "some", "begun"] ["rests", "some", "begun"] (ai (aA 39)):=⟨rfl,rfl,rfl,by decide +kernel,rfl,by decide +kernel,by decide +kernel⟩
theorem oU (D:aJ K mg "just_count" (aA 39)) (T:Blt mg) (i8:Has P w K mg base g "falls_in" 1 ["numbers"] gz) (gr:Has P w K mg base g "lower_left" 1 ["begun"] dN):Has P w K mg base g "just_count" 2 ["rests", "some", "begun"] bO:=by
 obtain⟨f,fd,hm,F⟩:=D
 obtain⟨D5,DP,tG,uw,t7,tV,_⟩:=i8
 obtain⟨Bq,AS,qb,qd,ph,oV,_⟩:=gr
 refine⟨f,fd,gW F rq (fun cdv A outer s H E hr=>?_),F.kp,F.binds (fun _ _ _ _ _ _ us hl=>uf hl fun _ _ _=>rfl),hm,bA F⟩
 exact(@av _ _ _ _ _ _ _ (@jz _ _ _ _ _ _ _ _ _ _ (@bU _ _ _ _ _ _ _ _ _ _ _ (jM hr.units) nK (cn i4 iE rfl T.len PySem.boot_len (@aa _ _ _ _ _ _ _ (af 2) ak rfl)) ao (bT _)) (@az _ _ _ _ _ (@bB _ _ _ _ _ _ (cn (r9 rfl) BZ rfl T.sum PyProof.Rows.boot_sum (@aa _ _ _ _ _ _ _ (@cS _ _ _ _ _ _ _ _ _ _ bV cY (af 0) (@nu _ _ _ _ _ _ _ _ _ jV jB ao) (fun _ _=>rfl)) ak rfl)))) cD)
   (@av _ _ _ _ _ _ _ (@jz _ _ _ _ _ _ _ _ _ _ (@bU _ _ _ _ _ _ _ _ _ _ _ (iX hr.units) l6 (aV (tG.mono (by decide)) hr rfl tV uw t7 (@aa _ _ _ _ _ _ _ (af 2) ak rfl) (ah ay)) (iu h_ pZ rfl T.tuple PyProof.Rows.boot_tuple (@aa _ _ _ _ _ _ _ (fF (osc:=ai (aA 39)) [2] ["place", "begun"] rfl rfl rfl rfl (by decide +kernel) ⟨by decide +kernel,by decide +kernel,rfl,by decide +kernel,rfl,by decide +kernel⟩ (@fP _ _ _ _ _ _ (af 1))
    (fun cl C aF aL fp=>(m9 (@bU _ _ _ _ _ _ _ _ _ _ _ rY rR (af 0) (@aw _ _ _ _ _ _ _ _ _ _ _ bZ b8 (cn i4 iE rfl T.len PySem.boot_len (@aa _ _ _ _ _ _ _ (af 1) ak rfl)) ao) (bT _)))) (fun cl C aF aL fp=>(af 0))) ak rfl)) (bT _)) (@az _ _ _ _ _ (@bB _ _ _ _ _ _ ao)) cD)
   (@az _ _ _ _ _ (@bB _ _ _ _ _ _ (@cS _ _ _ _ _ _ _ _ _ _ bV cY (@cS _ _ _ _ _ _ _ _ _ _ bV cY (af 0) (@aw _ _ _ _ _ _ _ _ _ _ _ bZ b8 (cn i4 iE rfl T.len PySem.boot_len (@aa _ _ _ _ _ _ _ (af 0) ak rfl)) (cn i4 iE rfl T.len PySem.boot_len (@aa _ _ _ _ _ _ _ (af 2) ak rfl))) (fun _ _=>rfl)) (aV (qb.mono (by decide)) hr rfl oV qd ph (@aa _ _ _ _ _ _ _ (af 2) ak rfl) (ah ay)) (fun _ _=>rfl))))))
theorem jI:aC ["n", "begun", "many_with", "longer"] ["n", "begun", "many_with"] (ai (aA 20)):=⟨rfl,rfl,rfl,by decide +kernel,rfl,by decide +kernel,by decide +kernel⟩
theorem nN (D:aJ K mg "longer_ones" (aA 20)) (T:Blt mg) (bN:Has P w K mg base g "just_count" 2 ["rests", "some", "begun"] bO):Has P w K mg base g "longer_ones" 4 ["n", "begun", "many_with"] dj:=by
 obtain⟨f,fd,hm,F⟩:=D
 obtain⟨jC,ju,dI,dB,dz,dy,_⟩:=bN
 have TC:∀x np m,ko x=some (np,m)->∃f fd ps,mg x=some (.ref f)/\dA P w K mg base CX0 2 f fd ps (spM K g np m)/\PySem.W.keepIn K (.ref f)=true/\Binds K fd ps []:=by
  intro x np m e
  unfold ko at e
  by_cases a_:x="just_count"
  ·rw[if_pos a_] at e;cases e;rw[a_];exact⟨_,_,_,dy,dI.mono (by decide),dB,dz⟩
  rw[if_neg a_] at e
  cases e
 refine⟨f,fd,gW F jI (fun cdv A outer s H E hr=>?_),F.kp,F.binds (fun _ _ _ _ _ _ us hl=>uf hl fun _ _ _=>rfl),hm,bA F⟩
 exact(@av _ _ _ _ _ _ _ (xW (osc:=ai (aA 20)) [1] ["number", "begun"] rfl rfl rfl rfl (by decide +kernel) ⟨by decide +kernel,by decide +kernel,rfl,by decide +kernel,rfl,by decide +kernel⟩ (gb rfl T.range (@aa _ _ _ _ _ _ _ (af 0) ak rfl))
    (fun cl C aF aL fp=>(m9 (@bU _ _ _ _ _ _ _ _ _ _ _ t5 F6 (af 0) (af 1) (by rfl)))) (fun cl C aF aL fp=>(@aw _ _ _ _ _ _ _ _ _ _ _ cb cg (af 1) (@bQ _ _ _ _ _ _ _ (@aa _ _ _ _ _ _ _ (af 0) ak rfl)))) (i:=3) jI.nd rfl)
   (@az _ _ _ _ _ (@bB _ _ _ _ _ _ (fF (osc:=ai (aA 20)) [2] ["one", "many_with"] rfl rfl rfl rfl (by decide +kernel) ⟨by decide +kernel,by decide +kernel,rfl,by decide +kernel,rfl,by decide +kernel⟩ (@fP _ _ _ _ _ _ (af 3))
    (fun cl C aF aL fp=>(m9 (@bU _ _ _ _ _ _ _ _ _ _ _ DF Ca (oW TC hr (af 1) (@aa _ _ _ _ _ _ _ (af 0) ak rfl) (ah ay)) ao (bT _)))) (fun cl C aF aL fp=>(af 0))))))
theorem bL:aC ["n", "number", "many_with", "begun", "place", "longer", "many"] ["n", "number", "many_with"] (ai (aA 22)):=⟨rfl,rfl,rfl,by decide +kernel,rfl,by decide +kernel,by decide +kernel⟩
theorem k9 (D:aJ K mg "order_numbered" (aA 22)) (T:Blt mg) (fM:Has P w K mg base g "longer_ones" 4 ["n", "begun", "many_with"] dj) (bN:Has P w K mg base g "just_count" 2 ["rests", "some", "begun"] bO):Has P w K mg base g "order_numbered" 5 ["n", "number", "many_with"] cR:=by
 obtain⟨f,fd,hm,F⟩:=D
 obtain⟨AR,Af,nV,nQ,oq,nM,_⟩:=fM
 obtain⟨jC,ju,dI,dB,dz,dy,_⟩:=bN
 have TC:∀x np m,ko x=some (np,m)->∃f fd ps,mg x=some (.ref f)/\dA P w K mg base CX0 3 f fd ps (spM K g np m)/\PySem.W.keepIn K (.ref f)=true/\Binds K fd ps []:=by
  intro x np m e
  unfold ko at e
  by_cases a_:x="just_count"
  ·rw[if_pos a_] at e;cases e;rw[a_];exact⟨_,_,_,dy,dI.mono (by decide),dB,dz⟩
  rw[if_neg a_] at e
  cases e
 refine⟨f,fd,gW F bL (fun cdv A outer s H E hr=>?_),F.kp,F.binds (fun _ _ _ _ _ _ us hl=>uf hl fun _ _ _=>rfl),hm,bA F⟩
 exact(@av _ _ _ _ _ _ _ (@ck _ _ _ _ _ _ 3 _ _ bL.nd rfl (by first | exact Or.inl rfl | exact Or.inr rfl) (@bQ _ _ _ _ _ _ _ ak) rfl (.inl rfl))
   (@av _ _ _ _ _ _ _ (jn PassesOwn.never rfl (gb rfl T.range (@aa _ _ _ _ _ _ _ (af 0) ak rfl)) (bR (i:=4) bL.nd rfl (by first | exact Or.inl rfl | exact Or.inr rfl)) eS (@az _ _ _ _ _ (jn PassesOwn.never rfl (@fP _ _ _ _ _ _ (aV (nV.mono (by decide)) hr rfl nM nQ oq (@aa _ _ _ _ _ _ _ (af 0) (@aa _ _ _ _ _ _ _ (af 3) (@aa _ _ _ _ _ _ _ (af 2) ak rfl) rfl) rfl) (ah (ah (ah ay))))) (bR (i:=5) bL.nd rfl (by first | exact Or.inl rfl | exact Or.inr rfl)) eS (@av _ _ _ _ _ _ _ (@ck _ _ _ _ _ _ 6 _ _ bL.nd rfl (by first | exact Or.inl rfl | exact Or.inr rfl) (oW TC hr (af 2) (@aa _ _ _ _ _ _ _ (af 5) ak rfl) (ah ay)) rfl (.inl rfl))
   (@av _ _ _ _ _ _ _ (@jz _ _ _ _ _ _ _ _ _ _ (@bU _ _ _ _ _ _ _ _ _ _ _ rY rR (af 1) (af 6) (bT _)) (@av _ _ _ _ _ _ _ (@ck _ _ _ _ _ _ 3 _ _ bL.nd rfl (by first | exact Or.inl rfl | exact Or.inr rfl) (af 5) rfl (.inl rfl))
   (@az _ _ _ _ _ Jo)) cD)
   (@az _ _ _ _ _ (CZ (i:=1) bL.nd rfl (by first | exact Or.inl rfl | exact Or.inr rfl) (af 6) Bc A4)))))))
   (@az _ _ _ _ _ (@bB _ _ _ _ _ _ (af 3)))))
theorem o9:aC ["n", "some", "number", "many_with"] ["n", "some", "number"] (ai (aA 33)):=⟨rfl,rfl,rfl,by decide +kernel,rfl,by decide +kernel,by decide +kernel⟩
theorem vY (D:aJ K mg "just_at" (aA 33)) (T:Blt mg) (aH:dO P w K mg base g "set_needed" 5 ["n", "thing"] aK) (eX:Has P w K mg base g "just_counter" 2 ["n", "some"] bJ) (aQ:dO P w K mg base g "number_needed" 3 ["thing", "least", "most"] aB) (bN:Has P w K mg base g "just_count" 2 ["rests", "some", "begun"] bO) (ed:Has P w K mg base g "order_numbered" 5 ["n", "number", "many_with"] cR):dO P w K mg base g "just_at" 6 ["n", "some", "number"] cV:=by
 obtain⟨f,fd,hm,F⟩:=D
 obtain⟨dM,de,bh,ba,bg,bc⟩:=aH
 obtain⟨zu,yz,mK,mD,m5,my,_⟩:=eX
 obtain⟨eN,eh,br,bu,bx,bt⟩:=aQ
 obtain⟨jC,ju,dI,dB,dz,dy,_⟩:=bN
 obtain⟨xJ,wO,kJ,k8,kK,k_,_⟩:=ed
 have TC:∀x np m,ko x=some (np,m)->∃f fd ps,mg x=some (.ref f)/\dA P w K mg base CX0 4 f fd ps (spM K g np m)/\PySem.W.keepIn K (.ref f)=true/\Binds K fd ps []:=by
  intro x np m e
  unfold ko at e
  by_cases a_:x="just_count"
  ·rw[if_pos a_] at e;cases e;rw[a_];exact⟨_,_,_,dy,dI.mono (by decide),dB,dz⟩
  rw[if_neg a_] at e
  cases e
 refine⟨f,fd,jm F o9 (fun cdv A outer s H E hr fl pl po=>?_),F.kp,F.binds (fun _ _ _ _ _ _ us hl=>uf hl fun _ _ _=>rfl),hm⟩
 exact(@av _ _ _ _ _ _ _ (fv (cj fl pl (bh.mono (by decide)) hr rfl bc ba bg (@aa _ _ _ _ _ _ _ (@bE _ _ _ _ _ (af 0)) (@aa _ _ _ _ _ _ _ (@bE _ _ _ _ _ (af 1)) ak rfl) rfl) (ah (ah ay))))
   (@av _ _ _ _ _ _ _ (@lh _ _ _ _ _ (@ck _ _ _ _ _ _ 3 _ _ o9.nd rfl (by first | exact Or.inl rfl | exact Or.inr rfl) (aV (mK.mono (by decide)) hr rfl my mD m5 (@aa _ _ _ _ _ _ _ (af 0) (@aa _ _ _ _ _ _ _ (af 1) ak rfl) rfl) (ah (ah ay))) rfl (.inl rfl)))
   (@av _ _ _ _ _ _ _ (fv (cj fl pl (br.mono (by decide)) hr rfl bt bu bx (@aa _ _ _ _ _ _ _ (@bE _ _ _ _ _ (af 2)) (@aa _ _ _ _ _ _ _ (@bE _ _ _ _ _ ao) (@aa _ _ _ _ _ _ _ (@bE _ _ _ _ _ (@aw _ _ _ _ _ _ _ _ _ _ _ bZ b8 (oW TC hr (af 3) (@aa _ _ _ _ _ _ _ (@bQ _ _ _ _ _ _ _ ak) ak rfl) (ah ay)) ao)) ak rfl) rfl) rfl) (ah (ah (ah ay)))))
   (@az _ _ _ _ _ (@lh _ _ _ _ _ (@bB _ _ _ _ _ _ (aV (kJ.mono (by decide)) hr rfl k_ k8 kK (@aa _ _ _ _ _ _ _ (af 0) (@aa _ _ _ _ _ _ _ (af 2) (@aa _ _ _ _ _ _ _ (af 3) ak rfl) rfl) rfl) (ah (ah (ah ay))))))))))
theorem mF:aC ["n", "some"] ["n", "some"] (ai (aA 36)):=⟨rfl,rfl,rfl,by decide +kernel,rfl,by decide +kernel,by decide +kernel⟩
theorem lZ (D:aJ K mg "places_behind" (aA 36)) (T:Blt mg):Has P w K mg base g "places_behind" 1 ["n", "some"] b_:=by
 obtain⟨f,fd,hm,F⟩:=D
 refine⟨f,fd,gW F mF (fun cdv A outer s H E hr=>?_),F.kp,F.binds (fun _ _ _ _ _ _ us hl=>jy hl fun _ _=>rfl),hm,bA F⟩
 exact(@az _ _ _ _ _ (@bB _ _ _ _ _ _ (CD rfl rfl T.list rfl T.range (@aa _ _ _ _ _ _ _ (@j6 _ _ _ _ _ _ _ _ _ _ (@gB _ _ _ _ _ _ kX (af 1) (fun _=>rfl)) (@aw _ _ _ _ _ _ _ _ _ _ _ cb cg (@cS _ _ _ _ _ _ _ _ _ _ bV cY (af 1) (@nu _ _ _ _ _ _ _ _ _ jV jB ao) (fun _ _=>rfl)) ao) ao) (@aa _ _ _ _ _ _ _ (@aw _ _ _ _ _ _ _ _ _ _ _ bZ b8 (af 0) ao) ak rfl) rfl))))
theorem iR:aC ["n", "k", "sets", "step"] ["n", "k"] (ai (aA 35)):=⟨rfl,rfl,rfl,by decide +kernel,rfl,by decide +kernel,by decide +kernel⟩
theorem wA (D:aJ K mg "sets_of" (aA 35)) (T:Blt mg) {eT:Tok} (cB:mg "MOST_NUMBERS" = some (.int 12 eT)) (aQ:dO P w K mg base g "number_needed" 3 ["thing", "least", "most"] aB) (eP:Has P w K mg base g "places_behind" 1 ["n", "some"] b_):dO P w K mg base g "sets_of" 4 ["n", "k"] du:=by
 obtain⟨f,fd,hm,F⟩:=D
 obtain⟨eN,eh,br,bu,bx,bt⟩:=aQ
 obtain⟨yH,wR,lI,lH,lC,l5,_⟩:=eP
 refine⟨f,fd,oO (jm F iR (fun cdv A outer s H E hr fl pl po=>?_)),F.kp,F.binds (fun _ _ _ _ _ _ us hl=>jy hl fun _ _=>rfl),hm⟩
 exact(@av _ _ _ _ _ _ _ (fv (cj fl pl (br.mono (by decide)) hr rfl bt bu bx (@aa _ _ _ _ _ _ _ (@bE _ _ _ _ _ (af 0)) (@aa _ _ _ _ _ _ _ (@bE _ _ _ _ _ ao) (@aa _ _ _ _ _ _ _ (@bE _ _ _ _ _ (lV rfl cB)) ak rfl) rfl) rfl) (ah (ah (ah ay)))))
   (@av _ _ _ _ _ _ _ (fv (cj fl pl (br.mono (by decide)) hr rfl bt bu bx (@aa _ _ _ _ _ _ _ (@bE _ _ _ _ _ (af 1)) (@aa _ _ _ _ _ _ _ (@bE _ _ _ _ _ ao) (@aa _ _ _ _ _ _ _ (@bE _ _ _ _ _ (lV rfl cB)) ak rfl) rfl) rfl) (ah (ah (ah ay)))))
   (@av _ _ _ _ _ _ _ (@lh _ _ _ _ _ (@ck _ _ _ _ _ _ 2 _ _ iR.nd rfl (by first | exact Or.inl rfl | exact Or.inr rfl) (@cz _ _ _ _ _ _ _ _ (@aa _ _ _ _ _ _ _ (@bQ _ _ _ _ _ _ _ ak) ak rfl)) rfl (.inl rfl)))
   (@av _ _ _ _ _ _ _ (@lh _ _ _ _ _ (jn PassesOwn.never rfl (gb rfl T.range (@aa _ _ _ _ _ _ _ (af 1) ak rfl)) (bR (i:=3) iR.nd rfl (by first | exact Or.inl rfl | exact Or.inr rfl)) eS (@az _ _ _ _ _ (wZ (osc:=ai (aA 35)) [0] ["some", "place", "n"] rfl rfl rfl rfl (by decide +kernel) ⟨by decide +kernel,by decide +kernel,rfl,by decide +kernel,by decide +kernel⟩ (@fP _ _ _ _ _ _ (af 2)) (fun cl C aF aL fp=>⟨Or.inl rfl,rfl⟩) (fun cl C aF aL fp=>⟨Or.inl rfl,rfl⟩)
    (fun cl C aF aL fp=>(@fP _ _ _ _ _ _ (aV (lI.mono (by decide)) hr rfl l5 lH lC (@aa _ _ _ _ _ _ _ (af 2) (@aa _ _ _ _ _ _ _ (af 0) ak rfl) rfl) (ah (ah ay))))) (fun cl C aF aL fp=>(@aw _ _ _ _ _ _ _ _ _ _ _ cb cg (af 0) (@bQ _ _ _ _ _ _ _ (@aa _ _ _ _ _ _ _ (af 1) ak rfl)))) (i:=2) iR.nd rfl))))
   (@az _ _ _ _ _ (@lh _ _ _ _ _ (@bB _ _ _ _ _ _ (af 2))))))))
theorem iV:aC ["_law_way", "_law_n", "_law_thing", "_law_number", "_law_some", "_law_e"] ["_law_way", "_law_n", "_law_thing", "_law_number"] (ai (aA 52)):=⟨rfl,rfl,rfl,by decide +kernel,rfl,by decide +kernel,by decide +kernel⟩
theorem qK (D:aJ K mg "_law_told" (aA 52)) (T:Blt mg) (hgo:g=gOf mg) (CL:n6 K mg) (cw:Bg P w K mg base g "_law_refused" 2 ["_law_e"] aR) (gU:dO P w K mg base g "just_many" 6 ["n", "some"] dE) (fS:dO P w K mg base g "within_many" 7 ["n", "some"] cN) (iL:dO P w K mg base g "just_all" 6 ["n", "some"] ey) (gv:dO P w K mg base g "first_with" 6 ["n", "some"] c_) (ik:dO P w K mg base g "last_with" 6 ["n", "some"] dF) (dQ:dO P w K mg base g "sizes_of" 6 ["n", "some"] cO) (dP:dO P w K mg base g "set_good" 4 ["n", "thing"] cf) (jW:dO P w K mg base g "just_at" 6 ["n", "some", "number"] cV) (jR:dO P w K mg base g "sets_of" 4 ["n", "k"] du):Has P w K mg base g "_law_told" 8 ["_law_way", "_law_n", "_law_thing", "_law_number"] aI:=by
 obtain⟨f,fd,hm,F⟩:=D
 obtain⟨mH,lT,eZ,fA,fh,e_⟩:=cw
 obtain⟨DZ,CK,rz,qR,qY,ic⟩:=gU
 obtain⟨AU,AQ,om,oj,nR,fU⟩:=fS
 obtain⟨FY,DQ,ua,sP,sG,iU⟩:=iL
 obtain⟨CB,AV,pG,p9,qf,gA⟩:=gv
 obtain⟨DS,CG,qj,qU,rg,gS⟩:=ik
 obtain⟨uC,rC,i_,iT,i3,eR⟩:=dQ
 obtain⟨s_,rk,iZ,iQ,iK,eK⟩:=dP
 obtain⟨F8,Fu,vP,vF,wc,vE⟩:=jW
 obtain⟨GA,Eo,uR,vg,wo,vD⟩:=jR
 have TE_0:Cp P w K mg base g 7 2 eU:=by
  intro x m e
  unfold eU at e
  by_cases gY:x="just_many"
  ·rw[if_pos gY] at e;cases e;rw[gY];exact⟨_,_,_,dS hgo ic,rz.mono (by decide),qR,qY⟩
  rw[if_neg gY] at e
  by_cases fX:x="within_many"
  ·rw[if_pos fX] at e;cases e;rw[fX];exact⟨_,_,_,dS hgo fU,om.mono (by decide),oj,nR⟩
  rw[if_neg fX] at e
  by_cases iG:x="just_all"
  ·rw[if_pos iG] at e;cases e;rw[iG];exact⟨_,_,_,dS hgo iU,ua.mono (by decide),sP,sG⟩
  rw[if_neg iG] at e
  by_cases gD:x="first_with"
  ·rw[if_pos gD] at e;cases e;rw[gD];exact⟨_,_,_,dS hgo gA,pG.mono (by decide),p9,qf⟩
  rw[if_neg gD] at e
  by_cases ib:x="last_with"
  ·rw[if_pos ib] at e;cases e;rw[ib];exact⟨_,_,_,dS hgo gS,qj.mono (by decide),qU,rg⟩
  rw[if_neg ib] at e
  by_cases je:x="sizes_of"
  ·rw[if_pos je] at e;cases e;rw[je];exact⟨_,_,_,dS hgo eR,i_.mono (by decide),iT,i3⟩
  rw[if_neg je] at e
  by_cases i6:x="set_good"
  ·rw[if_pos i6] at e;cases e;rw[i6];exact⟨_,_,_,dS hgo eK,iZ.mono (by decide),iQ,iK⟩
  rw[if_neg i6] at e
  cases e
 refine⟨f,fd,gW F iV (fun cdv A outer s H E hr=>?_),F.kp,F.binds (fun _ _ _ _ _ _ us hl=>LJ hl fun _ _ _ _=>rfl),hm,bA F⟩
 exact(@az _ _ _ _ _ (Gz (i:=5) CL hgo ⟨rfl,rfl,rfl⟩ iV.nd rfl rfl rfl rfl (eZ.mono (by decide)) (vX hr) e_ fA fh (fun pn xe E fl pl po=>(@av _ _ _ _ _ _ _ (@jz _ _ _ _ _ _ _ _ _ _ (@Bm _ _ _ _ _ (@bU _ _ _ _ _ _ _ _ _ _ _ rY rR (af 0) ao (bT _))) (@av _ _ _ _ _ _ _ (@lh _ _ _ _ _ (@ck _ _ _ _ _ _ 4 _ _ iV.nd rfl (by first | exact Or.inl rfl | exact Or.inr rfl) (@cz _ _ _ _ _ _ _ _ (@aa _ _ _ _ _ _ _ (oS rfl ic (dS hgo ic)) (@aa _ _ _ _ _ _ _ (oS rfl fU (dS hgo fU)) (@aa _ _ _ _ _ _ _ (oS rfl iU (dS hgo iU)) (@aa _ _ _ _ _ _ _ (oS rfl gA (dS hgo gA)) (@aa _ _ _ _ _ _ _ (oS rfl gS (dS hgo gS)) (@aa _ _ _ _ _ _ _ (oS rfl eR (dS hgo eR)) (@aa _ _ _ _ _ _ _ (oS rfl eK (dS hgo eK)) ak rfl) rfl) rfl) rfl) rfl) rfl) rfl)) rfl (.inl rfl)))
   (@az _ _ _ _ _ (@bB _ _ _ _ _ _ (Av fl pl TE_0 hr (@bE _ _ _ _ _ (@cS _ _ _ _ _ _ _ _ _ _ bV cY (af 4) (af 0) (fun _ _=>rfl))) (@aa _ _ _ _ _ _ _ (@bE _ _ _ _ _ (af 1)) (@aa _ _ _ _ _ _ _ (@bE _ _ _ _ _ (af 2)) ak rfl) rfl) (ah (ah ay)))))) cD)
   (@az _ _ _ _ _ (@bB _ _ _ _ _ _ (@j6 _ _ _ _ _ _ _ _ _ _ (@Bm _ _ _ _ _ (@bU _ _ _ _ _ _ _ _ _ _ _ (jM hr.units) nK (af 0) ao (bT _))) (cj fl pl (vP.mono (by decide)) hr rfl vE vF wc (@aa _ _ _ _ _ _ _ (@bE _ _ _ _ _ (af 1)) (@aa _ _ _ _ _ _ _ (@bE _ _ _ _ _ (af 2)) (@aa _ _ _ _ _ _ _ (@bE _ _ _ _ _ (af 3)) ak rfl) rfl) rfl) (ah (ah (ah ay)))) (cj fl pl (uR.mono (by decide)) hr rfl vD vg wo (@aa _ _ _ _ _ _ _ (@bE _ _ _ _ _ (af 1)) (@aa _ _ _ _ _ _ _ (@bE _ _ _ _ _ (af 2)) ak rfl) rfl) (ah (ah ay))))))))))
theorem t_:aC ["n", "sets", "counts", "many"] ["n"] (ai (aA 37)):=⟨rfl,rfl,rfl,by decide +kernel,rfl,by decide +kernel,by decide +kernel⟩
theorem rA (D:aJ K mg "most_sets" (aA 37)) (T:Blt mg) {jx:Tok} (fW:mg "MOST_COMPARED" = some (.int 10 jx)) (aQ:dO P w K mg base g "number_needed" 3 ["thing", "least", "most"] aB):dO P w K mg base g "most_sets" 4 ["n"] dC:=by
 obtain⟨f,fd,hm,F⟩:=D
 obtain⟨eN,eh,br,bu,bx,bt⟩:=aQ
 refine⟨f,fd,jm F t_ (fun cdv A outer s H E hr fl pl po=>?_),F.kp,F.binds (fun _ _ _ _ _ _ us hl=>qz hl fun _=>rfl),hm⟩
 exact(@av _ _ _ _ _ _ _ (fv (cj fl pl (br.mono (by decide)) hr rfl bt bu bx (@aa _ _ _ _ _ _ _ (@bE _ _ _ _ _ (af 0)) (@aa _ _ _ _ _ _ _ (@bE _ _ _ _ _ ao) (@aa _ _ _ _ _ _ _ (@bE _ _ _ _ _ (lV rfl fW)) ak rfl) rfl) rfl) (ah (ah (ah ay)))))
   (@av _ _ _ _ _ _ _ (PS.imp cK fun E σ H ⟨α,env,h,s,w⟩=>w.elim)
   (@av _ _ _ _ _ _ _ (PS.imp cK fun E σ H ⟨α,env,h,s,w⟩=>w.elim)
   (@av _ _ _ _ _ _ _ (PS.imp cK fun E σ H ⟨α,env,h,s,w⟩=>w.elim)
   (@az _ _ _ _ _ (PS.imp cK fun E σ H ⟨α,env,h,s,w⟩=>w.elim))))))
theorem lz:aC ["_law_n", "_law_e"] ["_law_n"] (ai (aA 53)):=⟨rfl,rfl,rfl,by decide +kernel,rfl,by decide +kernel,by decide +kernel⟩
theorem rD (D:aJ K mg "_law_most" (aA 53)) (T:Blt mg) (hgo:g=gOf mg) (CL:n6 K mg) (cw:Bg P w K mg base g "_law_refused" 2 ["_law_e"] aR) (hV:dO P w K mg base g "most_sets" 4 ["n"] dC):Has P w K mg base g "_law_most" 5 ["_law_n"] eC:=by
 obtain⟨f,fd,hm,F⟩:=D
 obtain⟨mH,lT,eZ,fA,fh,e_⟩:=cw
 obtain⟨DT,DI,rp,qD,qm,qG⟩:=hV
 refine⟨f,fd,gW F lz (fun cdv A outer s H E hr=>?_),F.kp,F.binds (fun _ _ _ _ _ _ us hl=>qz hl fun _=>rfl),hm,bA F⟩
 exact(@az _ _ _ _ _ (Gz (i:=1) CL hgo ⟨rfl,rfl,rfl⟩ lz.nd rfl rfl rfl rfl (eZ.mono (by decide)) (vX hr) e_ fA fh (fun pn xe E fl pl po=>(@az _ _ _ _ _ (@bB _ _ _ _ _ _ (cj fl pl (rp.mono (by decide)) hr rfl qG qD qm (@aa _ _ _ _ _ _ _ (@bE _ _ _ _ _ (af 0)) ak rfl) (ah ay)))))))
theorem eO:aC ["_law_x", "_law_n", "_law_top", "_law_bottom", "_law_turn"] ["_law_x", "_law_n"] (ai (aA 50)):=⟨rfl,rfl,rfl,by decide +kernel,rfl,by decide +kernel,by decide +kernel⟩
theorem n9 (D:aJ K mg "_law_picked" (aA 50)) (T:Blt mg):Has P w K mg base g "_law_picked" 1 ["_law_x", "_law_n"] bX:=by
 obtain⟨f,fd,hm,F⟩:=D
 refine⟨f,fd,gW F eO (fun cdv A outer s H E hr=>?_),F.kp,F.binds (fun _ _ _ _ _ _ us hl=>jy hl fun _ _=>rfl),hm,bA F⟩
 exact(@av _ _ _ _ _ _ _ (JL (i:=2) (j:=3) rfl eO.nd rfl rfl (@bQ _ _ _ _ _ _ _ (@aa _ _ _ _ _ _ _ ao (@aa _ _ _ _ _ _ _ ao ak rfl) rfl)))
   (@av _ _ _ _ _ _ _ (jn PassesOwn.never rfl (gb rfl T.range (@aa _ _ _ _ _ _ _ (af 1) ak rfl)) (bR (i:=4) eO.nd rfl (by first | exact Or.inl rfl | exact Or.inr rfl)) eS (@az _ _ _ _ _ (xU (i:=2) (j:=3) rfl eO.nd rfl rfl (by decide) (@aa _ _ _ _ _ _ _ (@aw _ _ _ _ _ _ _ _ _ _ _ gm gp (af 2) (cn (rE rfl) yA rfl T.max PyProof.Rows.boot_max (@aa _ _ _ _ _ _ _ ao (@aa _ _ _ _ _ _ _ (@aw _ _ _ _ _ _ _ _ _ _ _ bZ b8 (af 0) (af 4)) ak rfl) rfl))) (@aa _ _ _ _ _ _ _ (@aw _ _ _ _ _ _ _ _ _ _ _ gm gp (af 3) (@aw _ _ _ _ _ _ _ _ _ _ _ cb cg (af 4) ao)) ak rfl) rfl))))
   (@az _ _ _ _ _ (@bB _ _ _ _ _ _ (@aw _ _ _ _ _ _ _ _ _ _ _ qe xZ (af 2) (af 3))))))
theorem cq:aC ["_law_n", "_law_some", "_law_ends", "_law_ways", "_law_at", "_law_end", "_law_total", "_law_ahead", "_law_sign", "_law_here"] ["_law_n", "_law_some"] (ai (aA 51)):=⟨rfl,rfl,rfl,by decide +kernel,rfl,by decide +kernel,by decide +kernel⟩
theorem qy (D:aJ K mg "_law_just" (aA 51)) (T:Blt mg) (fQ:Has P w K mg base g "_law_picked" 1 ["_law_x", "_law_n"] bX):Has P w K mg base g "_law_just" 2 ["_law_n", "_law_some"] eA:=by
 obtain⟨f,fd,hm,F⟩:=D
 obtain⟨AZ,zV,jt,jl,jv,ji,_⟩:=fQ
 refine⟨f,fd,oO (gW F cq (fun cdv A outer s H E hr=>?_)),F.kp,F.binds (fun _ _ _ _ _ _ us hl=>jy hl fun _ _=>rfl),hm,bA F⟩
 exact(@av _ _ _ _ _ _ _ (@ck _ _ _ _ _ _ 2 _ _ cq.nd rfl (by first | exact Or.inl rfl | exact Or.inr rfl) (@aw _ _ _ _ _ _ _ _ _ _ _ cb cg (cn (bp.frz Aa) E9 rfl T.sorted PyProof.Rows.boot_sorted (@aa _ _ _ _ _ _ _ (af 1) ak rfl)) (@cz _ _ _ _ _ _ _ _ (@aa _ _ _ _ _ _ _ (@aw _ _ _ _ _ _ _ _ _ _ _ bZ b8 (af 0) ao) ak rfl))) rfl (.inl rfl))
   (@av _ _ _ _ _ _ _ (@ck _ _ _ _ _ _ 3 _ _ cq.nd rfl (by first | exact Or.inl rfl | exact Or.inr rfl) (@cz _ _ _ _ _ _ _ _ ak) rfl (.inl rfl))
   (@av _ _ _ _ _ _ _ (jn PassesOwn.never rfl (Fz rfl T.enumerate (af 2)) (xl rfl (gy (bR (i:=4) cq.nd rfl (by first | exact Or.inl rfl | exact Or.inr rfl)) (gy (bR (i:=5) cq.nd rfl (by first | exact Or.inl rfl | exact Or.inr rfl)) sI))) Dc (@av _ _ _ _ _ _ _ (@ck _ _ _ _ _ _ 6 _ _ cq.nd rfl (by first | exact Or.inl rfl | exact Or.inr rfl) (@aw _ _ _ _ _ _ _ _ _ _ _ gm gp (@aw _ _ _ _ _ _ _ _ _ _ _ bZ b8 ao (@aw _ _ _ _ _ _ _ _ _ _ _ gm gp ao (@aw _ _ _ _ _ _ _ _ _ _ _ kI kT (af 4) ao))) (aV (jt.mono (by decide)) hr rfl ji jl jv (@aa _ _ _ _ _ _ _ (af 0) (@aa _ _ _ _ _ _ _ (@aw _ _ _ _ _ _ _ _ _ _ _ cb cg (af 5) ao) ak rfl) rfl) (ah (ah ay)))) rfl (.inl rfl))
   (@av _ _ _ _ _ _ _ (jn PassesOwn.never rfl (gb rfl T.range (@aa _ _ _ _ _ _ _ (af 4) ak rfl)) (bR (i:=7) cq.nd rfl (by first | exact Or.inl rfl | exact Or.inr rfl)) eS (@av _ _ _ _ _ _ _ (xU (i:=8) (j:=9) rfl cq.nd rfl rfl (by decide) (@aa _ _ _ _ _ _ _ (@aw _ _ _ _ _ _ _ _ _ _ _ bZ b8 ao (@aw _ _ _ _ _ _ _ _ _ _ _ gm gp ao (@aw _ _ _ _ _ _ _ _ _ _ _ kI kT (@aw _ _ _ _ _ _ _ _ _ _ _ bZ b8 (@aw _ _ _ _ _ _ _ _ _ _ _ bZ b8 (af 4) (af 7)) ao) ao))) (@aa _ _ _ _ _ _ _ (@cS _ _ _ _ _ _ _ _ _ _ bV cY (af 2) (af 7) (fun _ _=>rfl)) ak rfl) rfl))
   (@az _ _ _ _ _ (@ck _ _ _ _ _ _ 6 _ _ cq.nd rfl (by first | exact Or.inl rfl | exact Or.inr rfl) (@aw _ _ _ _ _ _ _ _ _ _ _ cb cg (af 6) (@aw _ _ _ _ _ _ _ _ _ _ _ gm gp (@aw _ _ _ _ _ _ _ _ _ _ _ gm gp (af 8) (@cS _ _ _ _ _ _ _ _ _ _ bV cY (af 3) (af 7) (fun _ _=>rfl))) (aV (jt.mono (by decide)) hr rfl ji jl jv (@aa _ _ _ _ _ _ _ (@aw _ _ _ _ _ _ _ _ _ _ _ bZ b8 (@aw _ _ _ _ _ _ _ _ _ _ _ bZ b8 (af 0) (af 9)) ao) (@aa _ _ _ _ _ _ _ (@aw _ _ _ _ _ _ _ _ _ _ _ bZ b8 (af 5) (af 9)) ak rfl) rfl) (ah (ah ay))))) rfl (.inl rfl)))))
   (@az _ _ _ _ _ (fv (uc PySem.F.slot_list_append PySem.F.type_list_append kf rZ (af 3) (@aa _ _ _ _ _ _ _ (af 6) ak rfl)))))))
   (@az _ _ _ _ _ (@bB _ _ _ _ _ _ (@cS _ _ _ _ _ _ _ _ _ _ bV cY (af 3) (@nu _ _ _ _ _ _ _ _ _ jV jB ao) (fun _ _=>rfl)))))))
theorem gq:aC ["_law_script", "_law_cell", "_law_pen", "_law_odd_here", "_law_far", "_law_wrong", "_law_n", "_law_some", "_law_bad", "_law_kept", "_law_way", "_law_many", "_law_number"] ["_law_script"] (ai (aA 55)):=⟨rfl,rfl,rfl,by decide +kernel,rfl,by decide +kernel,by decide +kernel⟩
theorem Ff (D:aJ K mg "law" (aA 55)) (T:Blt mg) (fw:Has P w K mg base g "_law_cell_at" 1 ["_law_script", "_law_k"] cA) (fN:Has P w K mg base g "_law_pen_of" 1 ["_law_cell"] di) (iO:Has P w K mg base g "_law_odd" 3 ["_law_pen", "_law_low", "_law_high"] cM) (bj:Has P w K mg base g "_law_draw" 2 ["_law_pen", "_law_many"] aS) (iF:Has P w K mg base g "_law_set" 3 ["_law_pen", "_law_n"] fm) (eY:Has P w K mg base g "_law_bad_set" 3 ["_law_pen", "_law_n", "_law_some"] cW) (g7:Has P w K mg base g "_law_told" 8 ["_law_way", "_law_n", "_law_thing", "_law_number"] aI) (gT:Has P w K mg base g "_law_most" 5 ["_law_n"] eC) (hJ:Has P w K mg base g "_law_just" 2 ["_law_n", "_law_some"] eA):Has P w K mg base g "law" 9 ["_law_script"] pf:=by
 obtain⟨f,fd,hm,F⟩:=D
 obtain⟨zW,yM,nh,mY,m7,mj,_⟩:=fw
 obtain⟨AW,An,n5,n8,nW,n4,_⟩:=fN
 obtain⟨FO,DU,i7,iI,jd,jg,_⟩:=iO
 obtain⟨hG,gi,bH,bG,bF,bI,_⟩:=bj
 obtain⟨EB,DW,tH,tR,tO,tS,_⟩:=iF
 obtain⟨Aq,yc,mR,nj,m_,m6,_⟩:=eY
 obtain⟨DY,DG,dm,dq,dn,dv,_⟩:=g7
 obtain⟨DX,Dr,qq,qo,rh,qH,_⟩:=gT
 obtain⟨DV,Dv,qO,qp,qx,qB,_⟩:=hJ
 refine⟨f,fd,oO (gW F gq (fun cdv A outer s H E hr=>?_)),F.kp,F.binds (fun _ _ _ _ _ _ us hl=>qz hl fun _=>rfl),hm,bA F⟩
 exact(@av _ _ _ _ _ _ _ (jn PassesOwn.never rfl (@fP _ _ _ _ _ _ (@aw _ _ _ _ _ _ _ _ _ _ _ cb cg (@cz _ _ _ _ _ _ _ _ (@aa _ _ _ _ _ _ _ (aV (nh.mono (by decide)) hr rfl mj mY m7 (@aa _ _ _ _ _ _ _ (af 0) (@aa _ _ _ _ _ _ _ ao ak rfl) rfl) (ah (ah ay))) ak rfl)) (jY (af 0) (@ki _ _ _ _ _ ao) (@ki _ _ _ _ _ ao)))) (bR (i:=1) gq.nd rfl (by first | exact Or.inl rfl | exact Or.inr rfl)) eS (@av _ _ _ _ _ _ _ (@ck _ _ _ _ _ _ 2 _ _ gq.nd rfl (by first | exact Or.inl rfl | exact Or.inr rfl) (aV (n5.mono (by decide)) hr rfl n4 n8 nW (@aa _ _ _ _ _ _ _ (af 1) ak rfl) (ah ay)) rfl (.inl rfl))
   (@av _ _ _ _ _ _ _ (IL (i:=3) (j:=4) (k:=5) rfl gq.nd rfl rfl rfl (@bQ _ _ _ _ _ _ _ (@aa _ _ _ _ _ _ _ (aV (i7.mono (by decide)) hr rfl jg iI jd (@aa _ _ _ _ _ _ _ (af 2) (@aa _ _ _ _ _ _ _ ao (@aa _ _ _ _ _ _ _ ao ak rfl) rfl) rfl) (ah (ah (ah ay)))) (@aa _ _ _ _ _ _ _ (aV (i7.mono (by decide)) hr rfl jg iI jd (@aa _ _ _ _ _ _ _ (af 2) (@aa _ _ _ _ _ _ _ ao (@aa _ _ _ _ _ _ _ ao ak rfl) rfl) rfl) (ah (ah (ah ay)))) (@aa _ _ _ _ _ _ _ (aV (i7.mono (by decide)) hr rfl jg iI jd (@aa _ _ _ _ _ _ _ (af 2) (@aa _ _ _ _ _ _ _ ao (@aa _ _ _ _ _ _ _ ao ak rfl) rfl) rfl) (ah (ah (ah ay)))) ak rfl) rfl) rfl)))
   (@av _ _ _ _ _ _ _ (@ck _ _ _ _ _ _ 6 _ _ gq.nd rfl (by first | exact Or.inl rfl | exact Or.inr rfl) (@aw _ _ _ _ _ _ _ _ _ _ _ cb cg ao (aV (bH.mono (by decide)) hr rfl bI bG bF (@aa _ _ _ _ _ _ _ (af 2) (@aa _ _ _ _ _ _ _ ao ak rfl) rfl) (ah (ah ay)))) rfl (.inl rfl))
   (@av _ _ _ _ _ _ _ (@ck _ _ _ _ _ _ 7 _ _ gq.nd rfl (by first | exact Or.inl rfl | exact Or.inr rfl) (aV (tH.mono (by decide)) hr rfl tS tR tO (@aa _ _ _ _ _ _ _ (af 2) (@aa _ _ _ _ _ _ _ (af 6) ak rfl) rfl) (ah (ah ay))) rfl (.inl rfl))
   (@av _ _ _ _ _ _ _ (@ck _ _ _ _ _ _ 8 _ _ gq.nd rfl (by first | exact Or.inl rfl | exact Or.inr rfl) (aV (mR.mono (by decide)) hr rfl m6 nj m_ (@aa _ _ _ _ _ _ _ (af 2) (@aa _ _ _ _ _ _ _ (af 6) (@aa _ _ _ _ _ _ _ (af 7) ak rfl) rfl) rfl) (ah (ah (ah ay)))) rfl (.inl rfl))
   (@av _ _ _ _ _ _ _ (@ck _ _ _ _ _ _ 9 _ _ gq.nd rfl (by first | exact Or.inl rfl | exact Or.inr rfl) (cn (vL hr.gd hr.units) wC rfl T.repr PyProof.Rows.boot_repr (@aa _ _ _ _ _ _ _ (af 8) ak rfl)) rfl (.inl rfl))
   (@av _ _ _ _ _ _ _ (jn PassesOwn.never rfl (gb rfl T.range (@aa _ _ _ _ _ _ _ ao ak rfl)) (bR (i:=10) gq.nd rfl (by first | exact Or.inl rfl | exact Or.inr rfl)) eS (@az _ _ _ _ _ (@jz _ _ _ _ _ _ _ _ _ _ (@bU _ _ _ _ _ _ _ _ _ _ _ (iX hr.units) l6 (fF (osc:=ai (aA 55)) [10,3,4] ["_law_thing", "_law_way", "_law_odd_here", "_law_far"] rfl rfl rfl rfl (by decide +kernel) ⟨by decide +kernel,by decide +kernel,rfl,by decide +kernel,rfl,by decide +kernel⟩ (@fP _ _ _ _ _ _ (@bQ _ _ _ _ _ _ _ (@aa _ _ _ _ _ _ _ (af 7) (@aa _ _ _ _ _ _ _ (af 8) (@aa _ _ _ _ _ _ _ ao (@aa _ _ _ _ _ _ _ pI ak rfl) rfl) rfl) rfl)))
    (fun cl C aF aL fp=>xV) (fun cl C aF aL fp=>(aV (dm.mono (by decide)) hr rfl dv dq dn (@aa _ _ _ _ _ _ _ (af 1) (@aa _ _ _ _ _ _ _ (af 2) (@aa _ _ _ _ _ _ _ (af 0) (@aa _ _ _ _ _ _ _ (af 3) ak rfl) rfl) rfl) rfl) (ah (ah (ah (ah ay))))))) (@aw _ _ _ _ _ _ _ _ _ _ _ gm gp (@cz _ _ _ _ _ _ _ _ (@aa _ _ _ _ _ _ _ (@bQ _ _ _ _ _ _ _ (@aa _ _ _ _ _ _ _ cU ak rfl)) ak rfl)) ao) (bT _)) (@az _ _ _ _ _ (@bB _ _ _ _ _ _ fH)) cD)))
   (@av _ _ _ _ _ _ _ (@jz _ _ _ _ _ _ _ _ _ _ (PW.pt (@yG _ _ _ _ _ _ _ _ _ (@bU _ _ _ _ _ _ _ _ _ _ _ (iX hr.units) l6 (fF (osc:=ai (aA 55)) [6,8,4] ["_law_way", "_law_n", "_law_bad", "_law_far"] rfl rfl rfl rfl (by decide +kernel) ⟨by decide +kernel,by decide +kernel,rfl,by decide +kernel,rfl,by decide +kernel⟩ (@fP _ _ _ _ _ _ (@bQ _ _ _ _ _ _ _ (@aa _ _ _ _ _ _ _ ao (@aa _ _ _ _ _ _ _ ao (@aa _ _ _ _ _ _ _ ao (@aa _ _ _ _ _ _ _ ao (@aa _ _ _ _ _ _ _ ao (@aa _ _ _ _ _ _ _ ao (@aa _ _ _ _ _ _ _ ao ak rfl) rfl) rfl) rfl) rfl) rfl) rfl)))
    (fun cl C aF aL fp=>xV) (fun cl C aF aL fp=>(aV (dm.mono (by decide)) hr rfl dv dq dn (@aa _ _ _ _ _ _ _ (af 0) (@aa _ _ _ _ _ _ _ (af 1) (@aa _ _ _ _ _ _ _ (af 2) (@aa _ _ _ _ _ _ _ (af 3) ak rfl) rfl) rfl) rfl) (ah (ah (ah (ah ay))))))) (@aw _ _ _ _ _ _ _ _ _ _ _ gm gp (@cz _ _ _ _ _ _ _ _ (@aa _ _ _ _ _ _ _ (@bQ _ _ _ _ _ _ _ (@aa _ _ _ _ _ _ _ cU ak rfl)) ak rfl)) ao) (bT _)) (@uI _ _ _ _ _ _ (@bU _ _ _ _ _ _ _ _ _ _ _ (iX hr.units) l6 (cn (vL hr.gd hr.units) wC rfl T.repr PyProof.Rows.boot_repr (@aa _ _ _ _ _ _ _ (af 8) ak rfl)) (af 9) (bT _))))) (@az _ _ _ _ _ (@bB _ _ _ _ _ _ fH)) cD)
   (@av _ _ _ _ _ _ _ (@jz _ _ _ _ _ _ _ _ _ _ (PW.pt (@yG _ _ _ _ _ _ _ _ _ (@bU _ _ _ _ _ _ _ _ _ _ _ (iX hr.units) l6 (aV (dm.mono (by decide)) hr rfl dv dq dn (@aa _ _ _ _ _ _ _ ao (@aa _ _ _ _ _ _ _ (af 6) (@aa _ _ _ _ _ _ _ (af 4) (@aa _ _ _ _ _ _ _ ao ak rfl) rfl) rfl) rfl) (ah (ah (ah (ah ay))))) (@bQ _ _ _ _ _ _ _ (@aa _ _ _ _ _ _ _ cU ak rfl)) (bT _)) (@uI _ _ _ _ _ _ (@bU _ _ _ _ _ _ _ _ _ _ _ (iX hr.units) l6 (aV (qq.mono (by decide)) hr rfl qH qo rh (@aa _ _ _ _ _ _ _ (af 5) ak rfl) (ah ay)) (@bQ _ _ _ _ _ _ _ (@aa _ _ _ _ _ _ _ cU ak rfl)) (bT _))))) (@az _ _ _ _ _ (@bB _ _ _ _ _ _ fH)) cD)
   (@av _ _ _ _ _ _ _ (@ck _ _ _ _ _ _ 11 _ _ gq.nd rfl (by first | exact Or.inl rfl | exact Or.inr rfl) (aV (qO.mono (by decide)) hr rfl qB qp qx (@aa _ _ _ _ _ _ _ (af 6) (@aa _ _ _ _ _ _ _ (af 7) ak rfl) rfl) (ah (ah ay))) rfl (.inl rfl))
   (@av _ _ _ _ _ _ _ (jn PassesOwn.never rfl (@fP _ _ _ _ _ _ (@bQ _ _ _ _ _ _ _ (@aa _ _ _ _ _ _ _ (af 11) (@aa _ _ _ _ _ _ _ (@aw _ _ _ _ _ _ _ _ _ _ _ cb cg (af 11) ao) (@aa _ _ _ _ _ _ _ (@nu _ _ _ _ _ _ _ _ _ jV jB ao) (@aa _ _ _ _ _ _ _ (@aw _ _ _ _ _ _ _ _ _ _ _ cb cg (af 11) (@aw _ _ _ _ _ _ _ _ _ _ _ lU pB ao ao)) (@aa _ _ _ _ _ _ _ fH (@aa _ _ _ _ _ _ _ fH (@aa _ _ _ _ _ _ _ pI (@aa _ _ _ _ _ _ _ cU (@aa _ _ _ _ _ _ _ (@cz _ _ _ _ _ _ _ _ (@aa _ _ _ _ _ _ _ ao ak rfl)) (@aa _ _ _ _ _ _ _ (@bQ _ _ _ _ _ _ _ (@aa _ _ _ _ _ _ _ ao ak rfl)) (@aa _ _ _ _ _ _ _ tY ak rfl) rfl) rfl) rfl) rfl) rfl) rfl) rfl) rfl) rfl) rfl))) (bR (i:=12) gq.nd rfl (by first | exact Or.inl rfl | exact Or.inr rfl)) eS (@az _ _ _ _ _ (@jz _ _ _ _ _ _ _ _ _ _ (@bU _ _ _ _ _ _ _ _ _ _ _ (iX hr.units) l6 (aV (dm.mono (by decide)) hr rfl dv dq dn (@aa _ _ _ _ _ _ _ ao (@aa _ _ _ _ _ _ _ (af 6) (@aa _ _ _ _ _ _ _ (af 7) (@aa _ _ _ _ _ _ _ (af 12) ak rfl) rfl) rfl) rfl) (ah (ah (ah (ah ay))))) (@bQ _ _ _ _ _ _ _ (@aa _ _ _ _ _ _ _ cU ak rfl)) (bT _)) (@az _ _ _ _ _ (@bB _ _ _ _ _ _ fH)) cD)))
   (@az _ _ _ _ _ (@jz _ _ _ _ _ _ _ _ _ _ (PW.pt (@yG _ _ _ _ _ _ _ _ _ (@bU _ _ _ _ _ _ _ _ _ _ _ (jM hr.units) nK (aV (dm.mono (by decide)) hr rfl dv dq dn (@aa _ _ _ _ _ _ _ ao (@aa _ _ _ _ _ _ _ (af 6) (@aa _ _ _ _ _ _ _ (af 7) (@aa _ _ _ _ _ _ _ (@aw _ _ _ _ _ _ _ _ _ _ _ bZ b8 (af 11) ao) ak rfl) rfl) rfl) rfl) (ah (ah (ah (ah ay))))) (@bQ _ _ _ _ _ _ _ (@aa _ _ _ _ _ _ _ cU ak rfl)) (bT _)) (@uI _ _ _ _ _ _ (@bU _ _ _ _ _ _ _ _ _ _ _ (jM hr.units) nK (aV (dm.mono (by decide)) hr rfl dv dq dn (@aa _ _ _ _ _ _ _ ao (@aa _ _ _ _ _ _ _ (af 6) (@aa _ _ _ _ _ _ _ ao (@aa _ _ _ _ _ _ _ ao ak rfl) rfl) rfl) rfl) (ah (ah (ah (ah ay))))) (@bQ _ _ _ _ _ _ _ (@aa _ _ _ _ _ _ _ cU ak rfl)) (bT _))))) (@az _ _ _ _ _ (@bB _ _ _ _ _ _ fH)) cD))))))))))))))
   (@az _ _ _ _ _ (@bB _ _ _ _ _ _ fH)))
theorem xk:aC ["self", "row"] ["self", "row"] (ai (cZ (aA 7))):=⟨rfl,rfl,rfl,by decide +kernel,rfl,by decide +kernel,by decide +kernel⟩
theorem v_:∀y∈(["self", "row"]:List Str),(ai (cZ (aA 7))).names.lookup y=some .local:=by decide +kernel
theorem xG:kC (bK (cZ (aA 7))) ["row"]:=kC.cons rfl (.nil)
theorem wX:∀(kV doc pm:Value) (an:Option Addr) (cdv ct:Value) (us:List Value),us.length=(["self", "row"]:List Str).length->bindArgs (PySem.W.fnOf "__init__" "NoText.__init__" (eJ (cZ (aA 7))) (bK (cZ (aA 7))) (ai (cZ (aA 7))) .none kV doc pm an cdv ct) ⟨us,[]⟩=pure ((["self", "row"]:List Str).zip us):=fun _ _ _ _ _ _ us hl=>jy hl fun _ _=>rfl
theorem uM:aC ["self", "many", "most"] ["self", "many", "most"] (ai (cZ (aA 8))):=⟨rfl,rfl,rfl,by decide +kernel,rfl,by decide +kernel,by decide +kernel⟩
theorem qt:∀y∈(["self", "many", "most"]:List Str),(ai (cZ (aA 8))).names.lookup y=some .local:=by decide +kernel
theorem uL:kC (bK (cZ (aA 8))) ["many", "most"]:=kC.cons rfl (kC.cons rfl (.nil))
theorem uh:∀(kV doc pm:Value) (an:Option Addr) (cdv ct:Value) (us:List Value),us.length=(["self", "many", "most"]:List Str).length->bindArgs (PySem.W.fnOf "__init__" "TooGreat.__init__" (eJ (cZ (aA 8))) (bK (cZ (aA 8))) (ai (cZ (aA 8))) .none kV doc pm an cdv ct) ⟨us,[]⟩=pure ((["self", "many", "most"]:List Str).zip us):=fun _ _ _ _ _ _ us hl=>uf hl fun _ _ _=>rfl
end
structure Text (K:PySem.W.Frag) (ts:List Addr):Prop where
 gf:bP K "_law_cell_at" (aA 42)
 gP:bP K "_law_pen_of" (aA 44)
 jH:bP K "_law_next" (aA 43)
 jK:bP K "_law_draw" (aA 45)
 kL:bP K "_law_odd" (aA 49)
 k4:bP K "_law_set" (aA 48)
 gF:bP K "_law_bad_set" (aA 54)
 gx:bP K "_law_kind_of" (aA 46)
 gE:bP K "_law_refused" (aA 47)
 kH:bP K "is_whole" (aA 10)
 j3:bP K "is_within" (aA 11)
 fO:bP K "number_needed" (aA 12)
 kZ:bP K "set_good" (aA 26)
 i5:bP K "set_needed" (aA 27)
 j8:bP K "just_many" (aA 28)
 kM:bP K "sizes_of" (aA 34)
 gR:bP K "within_many" (aA 29)
 kF:bP K "just_all" (aA 30)
 jb:bP K "first_with" (aA 31)
 jE:bP K "last_with" (aA 32)
 j0:bP K "set_rests" (aA 38)
 gu:bP K "just_counter" (aA 40)
 kS:bP K "falls_in" (aA 15)
 iY:bP K "lower_left" (aA 19)
 ja:bP K "just_count" (aA 39)
 gX:bP K "longer_ones" (aA 20)
 fB:bP K "order_numbered" (aA 22)
 mT:bP K "just_at" (aA 33)
 fT:bP K "places_behind" (aA 36)
 mL:bP K "sets_of" (aA 35)
 kc:bP K "_law_told" (aA 52)
 jZ:bP K "most_sets" (aA 37)
 jP:bP K "_law_most" (aA 53)
 gO:bP K "_law_picked" (aA 50)
 jO:bP K "_law_just" (aA 51)
 Di:bP K "law" (aA 55)
 cls:Dg K
 mX:CIs K "NoText" (aA 7) ["row"]
 j7:CIs K "TooGreat" (aA 8) ["many", "most"]
 iM:PySem.W.nsIn K mainGlobals "ValueError" = some none
 xY:PySem.W.nsIn K mainGlobals "bool" = some none
 jU:PySem.W.nsIn K mainGlobals "enumerate" = some none
 Cr:PySem.W.nsIn K mainGlobals "int" = some none
 iP:PySem.W.nsIn K mainGlobals "isinstance" = some none
 DK:PySem.W.nsIn K mainGlobals "len" = some none
 xX:PySem.W.nsIn K mainGlobals "list" = some none
 BE:PySem.W.nsIn K mainGlobals "max" = some none
 sN:PySem.W.nsIn K mainGlobals "range" = some none
 w_:PySem.W.nsIn K mainGlobals "repr" = some none
 oR:PySem.W.nsIn K mainGlobals "sorted" = some none
 BW:PySem.W.nsIn K mainGlobals "sum" = some none
 uN:PySem.W.nsIn K mainGlobals "tuple" = some none
 df:∃t,PySem.W.nsIn K mainGlobals "MOST_COMPARED" = some (some (Value.int 10 t))
 dD:∃t,PySem.W.nsIn K mainGlobals "MOST_NUMBERS" = some (some (Value.int 12 t))
 bJ:HB K ts "just_counter" (aA 40)
theorem all_mk {P:Program} {w:World} {K:PySem.W.Frag} {h:Heap} {mg:Str->Option Value} {fa:Addr} (X:K.In h) (G:h.Ns mainGlobals mg) (hfa:mg "law" = some (.ref fa)) {ts:List Addr} (hU:mkU K=true) (t:Text K ts) :
  ∃fd:FuncData,(∀(s:Shared) (v:Value),BindsTo s fd ⟨[v],[]⟩ [("_law_script", v)])/\∀base:Heap,K.In base->base.Ns mainGlobals mg->(∀P∈ts,base.BuiltinsAt mg P)->dA P w K mg base CX0 9 fa fd ["_law_script"] (spM K (gOf mg) 1 pf):=by
 have T:Blt mg:=⟨PySem.W.mg_none_of X G t.iM,PySem.W.mg_none_of X G t.xY,PySem.W.mg_none_of X G t.jU,PySem.W.mg_none_of X G t.Cr,PySem.W.mg_none_of X G t.iP,PySem.W.mg_none_of X G t.DK,PySem.W.mg_none_of X G t.xX,PySem.W.mg_none_of X G t.BE,PySem.W.mg_none_of X G t.sN,PySem.W.mg_none_of X G t.w_,PySem.W.mg_none_of X G t.oR,PySem.W.mg_none_of X G t.BW,PySem.W.mg_none_of X G t.uN⟩
 obtain⟨jx,df⟩:=t.df
 have fW:=PySem.W.mg_of X G df
 obtain⟨eT,dD⟩:=t.dD
 have cB:=PySem.W.mg_of X G dD
 have pH:=aJ.of X G t.gf
 have qC:=aJ.of X G t.gP
 have wk:=aJ.of X G t.jH
 have uY:=aJ.of X G t.jK
 have xM:=aJ.of X G t.kL
 have xA:=aJ.of X G t.k4
 have qg:=aJ.of X G t.gF
 have pq:=aJ.of X G t.gx
 have pO:=aJ.of X G t.gE
 have xx:=aJ.of X G t.kH
 have wm:=aJ.of X G t.j3
 have nP:=aJ.of X G t.fO
 have xE:=aJ.of X G t.kZ
 have ub:=aJ.of X G t.i5
 have vM:=aJ.of X G t.j8
 have xD:=aJ.of X G t.kM
 have qQ:=aJ.of X G t.gR
 have w8:=aJ.of X G t.kF
 have tB:=aJ.of X G t.jb
 have vQ:=aJ.of X G t.jE
 have vW:=aJ.of X G t.j0
 have pL:=aJ.of X G t.gu
 have xm:=aJ.of X G t.kS
 have ui:=aJ.of X G t.iY
 have tQ:=aJ.of X G t.ja
 have qN:=aJ.of X G t.gX
 have mQ:=aJ.of X G t.fB
 have zU:=aJ.of X G t.mT
 have og:=aJ.of X G t.fT
 have AG:=aJ.of X G t.mL
 have vz:=aJ.of X G t.kc
 have wu:=aJ.of X G t.jZ
 have vB:=aJ.of X G t.jP
 have qL:=aJ.of X G t.gO
 have vm:=aJ.of X G t.jO
 have Jz:=aJ.of X G t.Di
 have CL:=n6.of X G t.cls
 have mn:=CIm.of X G t.mX
 have gM:=CIm.of X G t.j7
 obtain⟨f,fd,hm,F⟩:=Jz
 have e:=hfa.symm.trans hm
 cases e
 refine⟨fd,?_,fun base _ _ hBA=>?_⟩
 ·obtain⟨oc,od,kV,doc,pm,an,cdv,ct,osl,rfl,lk,hcd⟩:=F.ex
  exact fun s v=>.of_eq rfl
 ·have fw:=ng (P:=P) (w:=w) (base:=base) (g:=gOf mg) pH T
  have fN:=ou (P:=P) (w:=w) (base:=base) (g:=gOf mg) qC T
  have g_:=qZ (P:=P) (w:=w) (base:=base) (g:=gOf mg) wk T
  have bj:=qI (P:=P) (w:=w) (base:=base) (g:=gOf mg) uY T g_
  have iO:=sQ (P:=P) (w:=w) (base:=base) (g:=gOf mg) xM T bj
  have iF:=sS (P:=P) (w:=w) (base:=base) (g:=gOf mg) xA T bj
  have eY:=mB (P:=P) (w:=w) (base:=base) (g:=gOf mg) qg T bj
  have fk:=mC (P:=P) (w:=w) (base:=base) (g:=gOf mg) pq T rfl CL
  have cw:=mO (P:=P) (w:=w) (base:=base) (g:=gOf mg) pO T rfl mn gM fk
  have iW:=ug (P:=P) (w:=w) (base:=base) (g:=gOf mg) xx T
  have dk:=rj (P:=P) (w:=w) (base:=base) (g:=gOf mg) wm T iW
  have aQ:=lA (P:=P) (w:=w) (base:=base) (g:=gOf mg) nP T rfl CL dk
  have dP:=uF (P:=P) (w:=w) (base:=base) (g:=gOf mg) xE T cB aQ dk
  have aH:=oY (P:=P) (w:=w) (base:=base) (g:=gOf mg) ub T rfl CL dP
  have gU:=q_ (P:=P) (w:=w) (base:=base) (g:=gOf mg) vM T aH
  have dQ:=ur (P:=P) (w:=w) (base:=base) (g:=gOf mg) xD T aH
  have fS:=ow (P:=P) (w:=w) (base:=base) (g:=gOf mg) qQ T dQ
  have iL:=sO (P:=P) (w:=w) (base:=base) (g:=gOf mg) w8 T aH
  have gv:=pD (P:=P) (w:=w) (base:=base) (g:=gOf mg) tB T aH
  have ik:=qV (P:=P) (w:=w) (base:=base) (g:=gOf mg) vQ T aH
  have gZ:=qW (P:=P) (w:=w) (base:=base) (g:=gOf mg) vW T
  have eX:=mE (P:=P) (w:=w) (base:=base) (g:=gOf mg) pL T (ER.of X G hBA hU t.bJ) gZ
  have i8:=sJ (P:=P) (w:=w) (base:=base) (g:=gOf mg) xm T
  have gr:=oQ (P:=P) (w:=w) (base:=base) (g:=gOf mg) ui T
  have bN:=oU (P:=P) (w:=w) (base:=base) (g:=gOf mg) tQ T i8 gr
  have fM:=nN (P:=P) (w:=w) (base:=base) (g:=gOf mg) qN T bN
  have ed:=k9 (P:=P) (w:=w) (base:=base) (g:=gOf mg) mQ T fM bN
  have jW:=vY (P:=P) (w:=w) (base:=base) (g:=gOf mg) zU T aH eX aQ bN ed
  have eP:=lZ (P:=P) (w:=w) (base:=base) (g:=gOf mg) og T
  have jR:=wA (P:=P) (w:=w) (base:=base) (g:=gOf mg) AG T cB aQ eP
  have g7:=qK (P:=P) (w:=w) (base:=base) (g:=gOf mg) vz T rfl CL cw gU fS iL gv ik dQ dP jW jR
  have hV:=rA (P:=P) (w:=w) (base:=base) (g:=gOf mg) wu T fW aQ
  have gT:=rD (P:=P) (w:=w) (base:=base) (g:=gOf mg) vB T rfl CL cw hV
  have fQ:=n9 (P:=P) (w:=w) (base:=base) (g:=gOf mg) qL T
  have hJ:=qy (P:=P) (w:=w) (base:=base) (g:=gOf mg) vm T fQ
  have FR:=Ff (P:=P) (w:=w) (base:=base) (g:=gOf mg) ⟨_,_,hm,F⟩ T fw fN iO bj iF eY g7 gT hJ
  exact GY F hm FR
theorem walk {l:PySem.W.OpenLaw} {q:Program} {loose:List Str} {XP:(Str->Option Value)->Heap->Prop} {YP:World->Heap->Prop} {d:DefRec} {K:Params->PySem.W.Frag} {ts:List Addr} (hn:l.most=some 63) (hdf:d.params.defaults=[])
  (hY:∀(w:World) (h:Heap),YP w h->(K w.params).In h) (hT:∀(w:World) (h:Heap),YP w h->∀P∈ts,h.get? P=some (PySem.W.tabObj #[])) (hI:∀P,IA (K P) ts=true)
  (ok:∀ns:List Int,ns.length<=63->∃h,pf [.scr (ns.map D.int)] []=.ok (.bl true) h)
  (F:∀(w:World) (mg:Str->Option Value) (fa:Addr) (h:Heap),(K w.params).In h->h.Ns mainGlobals mg->mg d.name=some (.ref fa) →
   ∃fd:FuncData,(∀(s:Shared) (u:Value),BindsTo s fd ⟨[u],[]⟩ [("_law_script", u)])/\∀base:Heap,(K w.params).In base->base.Ns mainGlobals mg->(∀P∈ts,base.BuiltinsAt mg P)->dA l.prog w (K w.params) mg base CX0 9 fa fd ["_law_script"] (spM (K w.params) (gOf mg) 1 pf)) :
  PySem.W.WalkO q loose XP YP l.row.toRowW d [] (fun f vs=>PySem.call f vs):=
 Ex (k:=9) hn hdf ⟨rfl,by decide,by decide,rfl⟩ hY hT hI ok F
theorem cx {i:Int} (h1:-(10 ^ 30)<=i) (h2:i<=10 ^ 30):sml i=true:=xu (Nat.le_trans (show i.natAbs<=10 ^ 30 by omega) (by decide +kernel))
theorem BA {h:Hh} {n:Nat} {ds:List D} (e:aN h n=some ds):n<h.length:=by
 unfold aN at e
 by_cases hl:n<h.length
 ·exact hl
 ·rw[List.getElem?_eq_none (by omega)] at e;cases e
theorem yb {h:Hh} {n:Nat} {ds es:List D} (e:aN h n=some ds):aN (h.set n (.lst es)) n=some es:=by
 unfold aN;rw[List.getElem?_set_self (BA e)]
theorem D2 {h t:Hh} {n:Nat} {ds:List D} (e:aN h n=some ds):aN (h++t) n=some ds:=by
 have:=BA e
 unfold aN at e ⊢;rw[List.getElem?_append_left this];exact e
structure Pen where
 a:Int
 b:Int
 s:Int
noncomputable abbrev dX (p:Pen):List D:=[.int p.a,.int p.b,.int p.s]
noncomputable def nxt (x:Int):Int:=((x+7919) % 2147483647*((x+7919) % 2147483647)+48271*((x+7919) % 2147483647)+12345) % 2147483629
noncomputable def jo (p:Pen) (m:Int):Int:=if p.b=1/\0<p.a then p.a % m else nxt (nxt p.s+7) / 64 % m
noncomputable def jh (p:Pen) (m:Int):Pen:=if p.b=1/\0<p.a then ⟨p.a / m,p.b,p.s⟩ else ⟨p.a,p.b,nxt (nxt p.s+7)⟩
theorem EG (p:Pen) {m:Int} (h:0<m):0<=jo p m:=by unfold jo;split<;>exact Int.emod_nonneg _ (by omega)
theorem C9 (p:Pen) {m:Int} (h:0<m):jo p m<m:=by unfold jo;split<;>exact Int.emod_lt_of_pos _ h
@[simp] theorem K8 {x:Int} {h:Hh}:eD [.int x] h=.ok (.int (nxt x)) h:=by
 have h1:0<=(x+7919) % 2147483647:=Int.emod_nonneg _ (by decide)
 have h2:(x+7919) % 2147483647<2147483647:=Int.emod_lt_of_pos _ (by decide)
 have s1:sml ((x+7919) % 2147483647)=true:=cx (by omega) (by omega)
 have s2:sml 48271=true:=by decide +kernel
 simp[eD,aY,s1,s2,nxt]
theorem HC {p:Pen} {m:Int} {h:Hh} {n:Nat} (e:aN h n=some (dX p)) (hm:0<m) (hm2:m<=10 ^ 20):aS [.ref n,.int m] h=.ok (.int (jo p m)) (h.set n (.lst (dX (jh p m)))):=by
 have s1:sml m=true:=cx (by omega) (by omega)
 have s2:sml 64=true:=by decide +kernel
 have i2:∀(x y z:Int) (h:Hh),ixK [D.int x,.int y,.int z] 2 h=.ok (.int z) h:=fun _ _ _ _=>rfl
 have n0:ixN (dX p).length 0=some 0:=rfl
 have n2:ixN (dX p).length 2=some 2:=rfl
 by_cases c:p.b=1
 ·by_cases c2:0<p.a
  ·simp[aS,aY,pj e,c,c2,hm,s1,tE e n0,jo,jh]
  ·simp[aS,aY,pj e,c,c2,i2,tE e n2,pj (yb e),s1,s2,hm,jo,jh]
 ·simp[aS,aY,pj e,c,i2,tE e n2,pj (yb e),s1,s2,hm,jo,jh]
@[simp] theorem sU {p:Pen} {m:Int} {h t:Hh} (hm:0<m/\m<=10 ^ 20):aS [.ref h.length,.int m] (h++.lst (dX p)::t)=.ok (.int (jo p m)) (h++.lst (dX (jh p m))::t):=by
 rw[HC iH hm.1 hm.2,uK]
noncomputable def wI (c:Int):Pen:=⟨max c (0 - c),if max c (0 - c) ≥ 10 ^ 18 then 1 else 0,max c (0 - c) % 1000003⟩
@[simp] theorem Mf {c:Int} {h:Hh}:di [.int c] h=.ok (.ref h.length) (h++[.lst (dX (wI c))]):=by
 have s1:sml 10=true:=by decide +kernel
 simp[di,aY,s1,wI]
@[simp] theorem K7 {ns:List Int} {h:Hh}:cA [.scr (ns.map D.int),.int 0] h=.ok (.int (ns.headD 0)) h:=by
 cases ns with
 | nil=>simp[cA,aY]
 | cons c r=>simp[cA,aY]
@[simp] theorem Kz {i:Int} {h:Hh}:gj [.int i] h=.ok (.bl true) h:=by simp[gj,aY]
@[simp] theorem C3 {i a b:Int} {h:Hh}:cJ [.int i,.int a,.int b] h=.ok (.bl (decide (a<=i/\i<=b))) h:=by
 by_cases z:a<=i<;>simp[cJ,aY,z]
structure Ord (n:Nat) (xs:List Int):Prop where
 len:xs.length=n
 nd:xs.Nodup
 lo:∀x∈xs,0<=x
 hi:∀x∈xs,x<n
noncomputable def iA (lo:Int) (n:Nat):List Int:=(List.range n).map fun(i:Nat)=>lo+i
theorem zf (lo:Int) (n:Nat):bW lo n=(iA lo n).map D.int:=by simp[bW,iA,List.map_map]
theorem lL (lo:Int) (n:Nat):(iA lo n).length=n:=by simp[iA]
theorem jD (n:Nat):Ord n (iA 0 n):=by
 refine⟨lL _ _,?_,?_,?_⟩
 ·unfold iA List.Nodup
  rw[List.pairwise_map]
  exact List.Pairwise.imp (fun{a b} h e=>h (by omega)) List.nodup_range
 ·intro x hx;simp[iA] at hx;omega
 ·intro x hx;simp[iA] at hx;omega
noncomputable def d_ {X:Type} (xs:List X) (lo hi:Option Int):List X:=(xs.drop (HT.sIx xs.length 0 lo)).take (HT.sIx xs.length xs.length hi - HT.sIx xs.length 0 lo)
theorem jG {X:Type} (f:X->D) (xs:List X) (lo hi:Option Int):cutD (xs.map f) lo hi=(d_ xs lo hi).map f:=by
 unfold cutD d_
 rw[List.length_map,List.map_take,List.map_drop]
theorem FF {X:Type} (xs:List X) (k:Nat):d_ xs none (some (k:Int))=xs.take k:=by
 unfold d_
 rw[HT.vi,HT.yX]
 simp
theorem AB {X:Type} (xs:List X) (k:Nat):d_ xs (some (k:Int)) none=xs.drop k:=by
 unfold d_
 rw[HT.vi,HT.yX]
 rcases Nat.le_total k xs.length with h | h
 ·rw[Nat.min_eq_left h,List.take_of_length_le (by simp)]
 ·rw[Nat.min_eq_right h];simp[List.drop_eq_nil_of_le h]
theorem yh (i:Int):∀ns:List Int,((ns.map D.int).any fun d=>eqF d (.int i))=ns.any (· == i)
 | []=>rfl
 | n::r=>by rw[List.map_cons,List.any_cons,List.any_cons,yh i r];rfl
theorem zM (ns:List Int):(ns.map D.int).all fZ=true:=by simp[fZ]
@[simp] theorem J1 {neg:Bool} {i:Int} {ns:List Int} {h:Hh}:dIn neg (.int i) (.tup (ns.map D.int)) h=.ok (.bl (if neg then !(ns.any (· == i)) else ns.any (· == i))) h:=by
 simp only[dIn,fY,fZ,zM,and_self,if_true,yh]
theorem oD {i:Int} (h0:0<=i) (h:i<=1000000):sml i=true:=cx (by omega) (by omega)
noncomputable def xS (xs:List Int):List Nat:=(List.range (xs.length - 1)).filter fun i=>decide (gI xs (i+1)<gI xs i)
noncomputable def ij (xs:List Int):List Int:=(xS xs).map fun(i:Nat)=>(i:Int)
theorem AD {xs:List Int} {h:Hh} {d:D} (hd:∀(i:Int),dIx d (.int i) h=ixK (xs.map D.int) i h):dg (aU asB (au dGt (au dIx (ag 1) (ag 0)) (au dIx (ag 1) (au (cG aG) (ag 0) (cC (.int 1)))))) (ag 0) (fun x=>[some x,some d]) (bW 0 (xs.length - 1)) h=.ok ((ij xs).map D.int) h:=by
 rw[CM (fun i=>decide (gI xs (i+1)<gI xs i)) (fun i=>D.int i)]
 ·simp[ij,xS,List.map_map]
 ·intro i hi
  have e1:ixK (xs.map D.int) (i:Int) h=.ok (.int (gI xs i)) h:=lY rfl (by omega)
  have e2:ixK (xs.map D.int) ((i:Int)+1) h=.ok (.int (gI xs (i+1))) h:=lY (by omega) (by omega)
  simp[hd,e1,e2]
theorem GN {h:Hh} (w:Wf h) (p:Pen):Wf (h++[.lst (dX p)]):=w.app rfl
theorem Bw (p:Pen) (m:Int) (h:0<m):∃k:Nat,jo p m=(k:Int)/\(k:Int)<m:=by
 have h0:=EG p h
 have h1:=C9 p h
 exact⟨(jo p m).toNat,by omega,by omega⟩
theorem AH (ns:List Int) (lo hi:Option Int):cutD (ns.map D.int) lo hi=(d_ ns lo hi).map D.int:=jG _ _ _ _
theorem sW {X:Type} (xs:List X) (lo hi:Option Int):(d_ xs lo hi).length<=xs.length:=by
 unfold d_;rw[List.length_take,List.length_drop];omega
noncomputable def sg (f:Nat->Int) (n:Nat):Int:=((List.range n).map f).sum
theorem JO (f:Nat->Int):sg f 0=0:=rfl
theorem C7 (l:List Int) (x:Int):(l++[x]).sum=l.sum+x:=by
 induction l with
 | nil=>simp
 | cons a l ih=>simp only[List.cons_append,List.sum_cons,ih];omega
theorem pP (f:Nat->Int) (n:Nat):sg f (n+1)=sg f n+f n:=by
 unfold sg
 rw[List.range_succ,List.map_append]
 exact C7 _ _
theorem lE {f g:Nat->Int}:∀{n:Nat},(∀i,i<n->f i=g i)->sg f n=sg g n
 | 0,_=>rfl
 | n+1,h=>by rw[pP,pP,lE fun i hi=>h i (by omega),h n (by omega)]
theorem oE {f:Nat->Int} {n:Nat} (h:∀i,i<n->f i=0):sg f n=0:=by
 induction n with
 | zero=>rfl
 | succ n ih=>rw[pP,ih fun i hi=>h i (by omega),h n (by omega)];rfl
theorem tw (f:Nat->Int) (p:Nat):∀q,sg f (p+q)=sg f p+sg (fun i=>f (p+i)) q
 | 0=>by simp[JO]
 | q+1=>by rw[<- Nat.add_assoc,pP,tw f p q,pP];omega
theorem CQ {f:Nat->Int} {B:Nat}:∀{n:Nat},(∀i,i<n->0<=f i/\f i<=B)->0<=sg f n/\sg f n<=(n*B:Nat)
 | 0,_=>by simp[JO]
 | n+1,h=>by
  have ih:=CQ (n:=n) fun i hi=>h i (by omega)
  have:=h n (by omega)
  rw[pP,Nat.succ_mul]
  omega
noncomputable def D_:Nat->Nat
 | 0=>1
 | n+1=>(n+1)*D_ n
structure Beg (n:Nat) (xs:List Int):Prop where
 len:xs.length<=n
 nd:xs.Nodup
 lo:∀x∈xs,0<=x
 hi:∀x∈xs,x<n
theorem Beg.nil (n:Nat):Beg n []:=⟨Nat.zero_le _,List.nodup_nil,fun _ h=>(nomatch h),fun _ h=>(nomatch h)⟩
noncomputable def iS (r:Int->Bool) (l:List Int):Nat:=(l.filter r).length
theorem iy (r:Int->Bool) (x:Int) (l:List Int):iS r (x::l)=(if r x=true then 1 else 0)+iS r l:=by
 unfold iS;rw[List.filter_cons];split<;>simp[Nat.add_comm]
theorem Br (r:Int->Bool) (v:Int):∀l:List Int,iS (fun x=>r x&&decide (x<v+1)) l=iS (fun x=>r x&&decide (x<v)) l+iS (fun x=>r x&&decide (x=v)) l
 | []=>rfl
 | x::l=>by
  rw[iy,iy,iy,Br r v l]
  cases h:r x<;>simp
  by_cases a:x<v
  ·have b:x<v+1:=by omega
   have c:¬ x=v:=by omega
   simp[a,b,c];omega
  ·by_cases c:x=v
   ·subst c
    have b:x<x+1:=by omega
    simp[b];omega
   ·have b:¬ x<v+1:=by omega
    simp[a,b,c]
theorem xQ {r:Int->Bool}:∀{l:List Int},(∀x∈l,r x=false)->iS r l=0
 | [],_=>rfl
 | x::l,h=>by rw[iy,h x List.mem_cons_self,xQ fun y hy=>h y (List.mem_cons_of_mem _ hy)];rfl
theorem xi {r:Int->Bool} {v:Int}:∀{l:List Int},l.Nodup->iS (fun x=>r x&&decide (x=v)) l=if v∈l/\r v=true then 1 else 0
 | [],_=>by simp[iS]
 | x::l,nd=>by
  obtain⟨n1,n2⟩:=List.nodup_cons.mp nd
  rw[iy,xi n2]
  by_cases c:x=v
  ·subst c
   cases h:r x<;>simp[n1,h]
  ·have c':¬ v=x:=fun z=>c z.symm
   simp[c,c']
theorem tJ {n:Nat} {xs:List Int} (b:Beg n xs):∀v:Nat,v<=n->iS (fun x=>!(xs.any (· == x))&&decide (x<(v:Int))) (iA 0 n)+iS (fun x=>true&&decide (x<(v:Int))) xs=v
 | 0,_=>by
  rw[xQ,xQ]
  ·intro x hx;have:=b.lo x hx;simp;omega
  ·intro x hx;have:=(jD n).lo x hx;simp;omega
 | v+1,hv=>by
  have ih:=tJ b v (by omega)
  have e:((v+1:Nat):Int)=(v:Int)+1:=by omega
  rw[e,Br,Br,xi (jD n).nd,xi b.nd]
  have m:(v:Int)∈iA 0 n:=List.mem_map.mpr ⟨v,List.mem_range.mpr (by omega),by omega⟩
  by_cases c:(v:Int)∈xs
  ·have a:xs.any (· == (v:Int))=true:=List.any_eq_true.mpr ⟨_,c,by simp⟩
   simp only[m,a,c,Bool.not_true,and_true,Bool.false_eq_true,and_false,if_false,if_true]
   omega
  ·have a:xs.any (· == (v:Int))=false:=by
    rw[List.any_eq_false];intro x hx z;exact c (beq_iff_eq.mp z ▸ hx)
   simp only[m,a,c,Bool.not_false,and_self,if_true,false_and,if_false]
   omega
noncomputable def cP (xs:List Int):Int:=gI xs (xs.length - 1)
noncomputable def lwI (xs:List Int):Int:=if xs.length=0 then 0 else cP xs - ((xs.filter fun x=>decide (x<cP xs)).length:Int)
noncomputable def bz (n:Nat) (xs:List Int):List Int:=(iA 0 n).filter fun x=>!(xs.any (· == x))
theorem Fm {xs:List Int} (h:xs.length≠0):cP xs∈xs:=by
 unfold cP;rw[gH (by omega)];exact List.getElem_mem _
theorem j2 {n:Nat} {xs:List Int} (b:Beg n xs):(bz n xs).length=n - xs.length:=by
 have:=tJ b n (Nat.le_refl _)
 have e1:iS (fun x=>!(xs.any (· == x))&&decide (x<(n:Int))) (iA 0 n)=(bz n xs).length:=by
  unfold iS bz
  rw[List.filter_congr]
  intro x hx;have:=(jD n).hi x hx;simp[this]
 have e2:iS (fun x=>true&&decide (x<(n:Int))) xs=xs.length:=by
  unfold iS
  rw[List.filter_eq_self.mpr]
  intro x hx;have:=b.hi x hx;simp[this]
 omega
theorem p6 {n:Nat} {xs:List Int} (b:Beg n xs) (h:xs.length≠0):(((bz n xs).filter fun x=>decide (x<cP xs)).length:Int)=lwI xs:=by
 have m:=Fm h
 have h0:=b.lo _ m
 have h1:=b.hi _ m
 have:=tJ b (cP xs).toNat (by omega)
 rw[show(((cP xs).toNat:Nat):Int)=cP xs by omega] at this
 have e1:iS (fun x=>!(xs.any (· == x))&&decide (x<cP xs)) (iA 0 n)=((bz n xs).filter fun x=>decide (x<cP xs)).length:=by
  unfold iS bz
  rw[List.filter_filter]
  congr 2
  funext x
  exact Bool.and_comm _ _
 have e2:iS (fun x=>true&&decide (x<cP xs)) xs=(xs.filter fun x=>decide (x<cP xs)).length:=by
  unfold iS;simp
 unfold lwI
 rw[if_neg h]
 omega
theorem JS {n:Nat} {xs:List Int} (b:Beg n xs):0<=lwI xs/\lwI xs<=((n - xs.length:Nat):Int):=by
 by_cases h:xs.length=0
 ·unfold lwI;rw[if_pos h];omega
 ·rw[<- p6 b h,<- j2 b]
  have:=List.length_filter_le (fun x=>decide (x<cP xs)) (bz n xs)
  omega
theorem Beg.snoc {n:Nat} {xs:List Int} {x:Int} (b:Beg n xs) (h:x∈bz n xs):Beg n (xs++[x]):=by
 obtain⟨h1,h2⟩:=List.mem_filter.mp h
 have nx:x∉xs:=fun z=>by
  have:xs.any (· == x)=true:=List.any_eq_true.mpr ⟨_,z,by simp⟩
  rw[this] at h2;cases h2
 have l:=j2 b
 have lp:=List.length_pos_of_mem h
 refine⟨by rw[List.length_append];show xs.length+1<=n;omega,List.nodup_append.mpr ⟨b.nd,List.nodup_cons.mpr ⟨by simp,List.nodup_nil⟩,fun a ha c hc=>?_⟩,fun y hy=>?_,fun y hy=>?_⟩
 ·simp at hc;subst hc;exact fun z=>nx (z ▸ ha)
 ·rcases List.mem_append.mp hy with z | z
  ·exact b.lo y z
  ·simp at z;subst z;exact(jD n).lo _ h1
 ·rcases List.mem_append.mp hy with z | z
  ·exact b.hi y z
  ·simp at z;subst z;exact(jD n).hi _ h1
theorem vd {xs:List Int} {h:Hh} (h1:xs.length≠0):ixK (xs.map D.int) (-1) h=.ok (.int (cP xs)) h:=by
 have e:ixN (xs.map D.int).length (-1)=some (xs.length - 1):=by rw[List.length_map];unfold ixN;simp;omega
 unfold ixK atI cP
 rw[e]
 simp[List.getElem?_eq_getElem (show xs.length - 1<xs.length by omega),gH (show xs.length - 1<xs.length by omega)]
theorem BN {xs:List Int} {h:Hh} (hl:xs.length<=1000):dN [.tup (xs.map D.int)] h=.ok (.int (lwI xs)) h:=by
 unfold lwI
 by_cases c:xs.length=0
 ·have:xs=[]:=List.eq_nil_of_length_eq_zero c
  subst this
  simp[dN,aY]
 ·rw[if_neg c]
  have c':¬ (xs.length:Int)=0:=by omega
  have ix:=fun H:Hh=>vd (h:=H) c
  have q:dg (aU asB (au dLt (ag 0) (au dIx (ag 1) (cUn lq (cC (.int 1)))))) (ag 0) (fun x=>[some x,some (.tup (xs.map D.int))]) (xs.map D.int) h=.ok ((xs.filter fun x=>decide (x<cP xs)).map D.int) h:=
   comp_map D.int (fun x=>decide (x<cP xs)) D.int xs fun x hx=>⟨by simp[ix],fun _=>by simp⟩
  have c0:¬ xs=[]:=fun z=>c (by rw[z];rfl)
  have z6:xs.length<=1000000:=by omega
  simp[dN,aY,c,c',c0,ix,q,z6]
theorem DM {xs:List Int} {h:Hh} (hl:xs.length<=1000):gz [.tup (xs.map D.int)] h=.ok (.tup ((ij xs).map D.int)) h:=by
 by_cases c:xs.length=0
 ·have:xs=[]:=List.eq_nil_of_length_eq_zero c
  subst this
  kernel_rfl
 ·have z1:((xs.length:Int) - 1).natAbs<=1000000:=by omega
  have z2:((xs.length:Int) - 1).toNat=xs.length - 1:=by omega
  have z3:xs.length - 1<=1000000:=by omega
  have q:=AD (xs:=xs) (h:=h) (d:=.tup (xs.map D.int)) (fun i=>Kc)
  simp[gz,aY,z1,z2,z3,q]
noncomputable def tpl (xs:List Int):D:=.tup (xs.map D.int)
theorem Ab {n:Nat} {xs:List Int} {h:Hh} (hl:xs.length<=1000):dg (aU asB (au (dIn true) (ag 0) (ag 1))) (au (cG aG) (ag 1) (aj bY (ae (ag 0) aq))) (fun x=>[some x,some (.tup (xs.map D.int))]) (bW 0 n) h=.ok ((bz n xs).map fun x=>tpl (xs++[x])) h:=by
 rw[zf,comp_map D.int (fun x=>!(xs.any (· == x))) (fun x=>tpl (xs++[x])) (iA 0 n) fun x hx=>⟨by simp,fun _=>by
  have z:xs.length+1<=1000000:=by omega
  simp[tpl,z]⟩]
 rfl
theorem um {σ:Type} {tg:D->En->Hh->R En} {body:MS} (enc:Nat->D) (N:Nat) (E:σ->En) (G:σ->Hh) (I:Nat->σ->Prop)
  (st:∀i s,i<N->I i s->∃s',I (i+1) s'/\(tg (enc i) (E s) (G s)).bind body=.ok (.nx (E s')) (G s')) :
  ∀(k i:Nat) (s:σ),i+k=N->I i s->∃s',eE tg body ((List.range' i k).map enc) (E s) (G s)=.ok (.nx (E s')) (G s')/\I N s':=by
 intro k
 induction k with
 | zero=>
  intro i s e hi
  have:i=N:=by omega
  subst this
  exact⟨s,rfl,hi⟩
 | succ k ih=>
  intro i s e hi
  obtain⟨s1,a,b⟩:=st i s (by omega) hi
  obtain⟨s2,c,d⟩:=ih (i+1) s1 (by omega) a
  refine⟨s2,?_,d⟩
  rw[List.range'_succ,List.map_cons,eE,<- cH,b]
  exact c
theorem xv {v:Int}:∀{L:List Int},L.Pairwise (· < ·)->∀(r:Nat) (hr:r<L.length),L[r]<v↔r<(L.filter fun x=>decide (x<v)).length
 | [],_,r,hr=>by simp at hr
 | a::L,so,r,hr=>by
  obtain⟨h1,h2⟩:=List.pairwise_cons.mp so
  by_cases c:a<v
  ·rw[List.filter_cons,if_pos (by simpa using c),List.length_cons]
   cases r with
   | zero=>simp[c]
   | succ r=>
    have:=xv (v:=v) h2 r (by simpa using hr)
    simp only[List.getElem_cons_succ]
    omega
  ·have e:(a::L).filter (fun x=>decide (x<v))=[]:=by
    rw[List.filter_eq_nil_iff]
    intro x hx
    rcases List.mem_cons.mp hx with rfl | hx
    ·simpa using c
    ·have:=h1 x hx;simp;omega
   rw[e]
   have:¬ (a::L)[r]<v:=by
    have hm:=List.getElem_mem hr
    rcases List.mem_cons.mp hm with z | z
    ·rw[z];exact c
    ·have:=h1 _ z;omega
   simp[this]
theorem Ke {L:List Int} (so:L.Pairwise (· < ·)) (r:Nat) (hr:r<L.length):(L.filter fun x=>decide (x<L[r])).length=r:=by
 have h:=fun s hs=>xv (v:=L[r]) so s hs
 have lt:∀s (hs:s<L.length),L[s]<L[r]↔s<r:=fun s hs=>by
  constructor
  ·intro z
   by_cases c:s<r
   ·exact c
   ·by_cases e:s=r
    ·subst e;omega
    ·have:=List.pairwise_iff_getElem.mp so r s hr hs (by omega);omega
  ·intro z;exact List.pairwise_iff_getElem.mp so s r hs hr z
 generalize (L.filter fun x=>decide (x<L[r])).length=c at h
 by_cases c1:c<r
 ·have:=(h c (by omega)).mp ((lt c (by omega)).mpr c1);omega
 ·by_cases c2:r<c
  ·have:=(lt r hr).mp ((h r hr).mpr c2);omega
  ·omega
theorem IV (n:Nat):(iA 0 n).Pairwise (· < ·):=by
 unfold iA
 rw[List.pairwise_map]
 exact List.Pairwise.imp (fun{a b} h=>by omega) List.pairwise_lt_range
theorem yC (n:Nat) (xs:List Int):(bz n xs).Pairwise (· < ·):=(IV n).filter _
theorem zI {n:Nat} {xs:List Int} {x:Int}:bz n (xs++[x])=(bz n xs).filter fun y=>!(x == y):=by
 unfold bz
 rw[List.filter_filter]
 refine List.filter_congr fun y _=>?_
 rw[List.any_append,Bool.not_or,Bool.and_comm]
 simp
theorem tZ {xs ys:List Int} {i:Nat} (h:i<xs.length):gI (xs++ys) i=gI xs i:=by
 rw[gH (by simp;omega),gH h,List.getElem_append_left h]
theorem Dz {xs:List Int} {x:Int}:gI (xs++[x]) xs.length=x:=by
 rw[gH (by simp),List.getElem_append_right (Nat.le_refl _)];simp
theorem AA {xs:List Int} {x:Int}:cP (xs++[x])=x:=by
 unfold cP;rw[List.length_append];exact Dz
structure Cnt (n:Nat) (B:List Int->Int):Prop where
 pos:∀xs,Beg n xs->0<=B xs
 sum:∀xs,Beg n xs->xs.length<n->B xs=((bz n xs).map fun x=>B (xs++[x])).sum
theorem yK {α:Type} (L:List Int) (f:Int->α):L.map f=(List.range L.length).map fun i=>f (gI L i):=by
 refine List.ext_getElem (by simp) fun i h1 h2=>?_
 rw[List.length_map] at h1
 simp[gH h1]
noncomputable def nxB (n:Nat) (B:List Int->Int) (xs:List Int):List Int:=(bz n xs).filter fun x=>decide (0<B (xs++[x]))
noncomputable def qv (B:List Int->Int) (xs l:List Int):Int:=(l.map fun x=>B (xs++[x])).sum
theorem jF {B:List Int->Int} {xs l:List Int} {x:Int}:qv B xs (x::l)=B (xs++[x])+qv B xs l:=by unfold qv;rw[List.map_cons,List.sum_cons]
theorem B3 {B:List Int->Int} {xs:List Int} {p:Int->Bool}:∀{l:List Int},(∀x∈l,0<=B (xs++[x]))->qv B xs ((l.filter fun x=>decide (0<B (xs++[x]))).filter p)=qv B xs (l.filter p)
 | [],_=>rfl
 | x::l,h=>by
  have h0:=h x List.mem_cons_self
  have ih:=B3 (p:=p) (l:=l) fun y hy=>h y (List.mem_cons_of_mem _ hy)
  by_cases c:0<B (xs++[x])
  ·rw[List.filter_cons,if_pos (by simpa using c),List.filter_cons,List.filter_cons]
   split
   ·rw[jF,jF,ih]
   ·exact ih
  ·rw[List.filter_cons,if_neg (by simpa using c),List.filter_cons,ih]
   split
   ·rw[jF];omega
   ·rfl
section
variable {n:Nat} {B:List Int->Int} (C:Cnt n B)
include C
theorem Cnt.left {xs:List Int} (b:Beg n xs):∀x∈bz n xs,0<=B (xs++[x]):=fun x hx=>C.pos _ (b.snoc hx)
theorem Cnt.nx {xs:List Int} (b:Beg n xs) (hl:xs.length<n):qv B xs (nxB n B xs)=B xs:=by
 rw[C.sum xs b hl]
 have:=B3 (B:=B) (xs:=xs) (p:=fun _=>true) (C.left b)
 have e:∀l:List Int,l.filter (fun _=>true)=l:=fun l=>List.filter_eq_self.mpr (by simp)
 rw[e,e] at this
 exact this
end
theorem y0 {n:Nat} {B:List Int->Int} {xs:List Int} {x:Int} (h:x∈nxB n B xs):x∈bz n xs:=(List.mem_filter.mp h).1
noncomputable def nF (B:List Int->Int) (xs:List Int):List Int->Int->Option (Int × Int)
 | [],_=>none
 | x::r,t=>if t<B (xs++[x]) then some (x,t) else nF B xs r (t - B (xs++[x]))
theorem yU {B:List Int->Int} {xs:List Int}:∀{l:List Int} {t:Int},0<=t->t<qv B xs l->∃x t' l1 l2,l=l1++x::l2/\nF B xs l t=some (x,t')/\t'=t - qv B xs l1/\0<=t'/\t'<B (xs++[x])
 | [],t,h0,h1=>by simp[qv] at h1;omega
 | x::l,t,h0,h1=>by
  rw[jF] at h1
  by_cases c:t<B (xs++[x])
  ·exact⟨x,t,[],l,rfl,by unfold nF;rw[if_pos c],by simp[qv],h0,c⟩
  ·obtain⟨y,t',l1,l2,e1,e2,e3,e4,e5⟩:=yU (B:=B) (xs:=xs) (l:=l) (t:=t - B (xs++[x])) (by omega) (by omega)
   exact⟨y,t',x::l1,l2,by rw[e1];rfl,by unfold nF;rw[if_neg c];exact e2,by rw[jF];omega,e4,e5⟩
noncomputable def grd (n:Nat) (B:List Int->Int):Nat->List Int->Int->List Int × Int
 | 0,xs,t=>(xs,t)
 | j+1,xs,t=>match nF B xs (nxB n B xs) t with
  | some (x,t')=>grd n B j (xs++[x]) t'
  | none=>(xs,t)
noncomputable def vo (n:Nat) (B:List Int->Int) (C:D):Prop:=∃x ds np m,C=.clo x ds/\ko x=some (np,m)/\ds.length+1=np/\∀xs h,Beg n xs->m (ds++[.tup (xs.map D.int)]) h=.ok (.int (B xs)) h
theorem pE {n:Nat} {B:List Int->Int} {C:D} (c:vo n B C) {xs:List Int} {f:ME} {a:MA} {env:En} {h h1 h2:Hh} (b:Beg n xs) (ef:f env h=.ok C h1) (ea:a env h1=.ok [.tup (xs.map D.int)] h2):jf ko f a env h=.ok (.int (B xs)) h2:=by
 obtain⟨x,ds,np,m,rfl,et,el,em⟩:=c
 unfold jf
 rw[ef]
 show(match ko x with | some (np,m)=>_ | none=>_)=_
 rw[et]
 show(if ds.length+1=np then _ else _)=_
 rw[if_pos el,ea]
 exact em xs h2 b
theorem zO {n:Nat} {B:List Int->Int} {C:D} {xs:List Int} {h:Hh} (c:vo n B C) (b:Beg n xs) (hn:n<=1000):dj [.int n,.tup (xs.map D.int),C] h=.ok (.frl ((nxB n B xs).map fun x=>tpl (xs++[x]))) h:=by
 have bl:=b.len
 have q:=Ab (n:=n) (xs:=xs) (h:=h) (by omega)
 have q2:dg (aU asB (au dGt (jf ko (ag 1) (ae (ag 0) aq)) (cC (.int 0)))) (ag 0) (fun x=>[some x,some C]) ((bz n xs).map fun x=>tpl (xs++[x])) h=.ok ((nxB n B xs).map fun x=>tpl (xs++[x])) h:=by
  rw[comp_map (fun x=>tpl (xs++[x])) (fun x=>decide (0<B (xs++[x]))) (fun x=>tpl (xs++[x])) (bz n xs) fun x hx=>⟨by
   have e:=pE (f:=ag 1) (a:=ae (ag 0) aq) (env:=[some (tpl (xs++[x])),some C]) (h:=h) (h1:=h) (h2:=h) c (b.snoc hx) (by simp) (by simp[tpl])
   simp only[Hm,JM,e]
   simp,fun _=>by simp⟩]
  rfl
 have l1:((bz n xs).map fun x=>tpl (xs++[x])).length<=1000000:=by rw[List.length_map,j2 b];omega
 have z2:(n:Int).natAbs<=1000000:=by omega
 have z3:n<=1000000:=by omega
 generalize ((bz n xs).map fun x=>tpl (xs++[x]))=W at *
 generalize ((nxB n B xs).map fun x=>tpl (xs++[x]))=W2 at *
 generalize xs.map D.int=X at *
 simp[dj,aY,z2,z3,q,l1,q2]
noncomputable def ONB:MS:=(aE (bC 6 (jf ko (ag 2) (ae (ag 5) aq))) (aE (eL (aU asB (au dLt (ag 1) (ag 6))) (aE (bC 3 (ag 5)) FL) cL) (Aj 1 cy (ag 6))))
noncomputable def ONO:MS:=(fq (cT (aj dj (ae (ag 0) (ae (ag 3) (ae (ag 2) aq))))) (gN 5) ONB)
theorem Gy {n:Nat} {B:List Int->Int} {C:D} (c:vo n B C) {xs:List Int} {h:Hh} {y4:Option D} (b:Beg n xs):∀(l:List Int) (t x t':Int) (y5 y6:Option D),(∀z∈l,z∈bz n xs)->nF B xs l t=some (x,t') →
  ∃z5 z6,eE (gN 5) ONB (l.map fun x=>tpl (xs++[x])) [some (.int n),some (.int t),some C,some (.tup (xs.map D.int)),y4,y5,y6] h=.ok (.nx [some (.int n),some (.int t'),some C,some (tpl (xs++[x])),y4,z5,z6]) h
 | [],t,x,t',y5,y6,_,e=>by cases e
 | z::l,t,x,t',y5,y6,hl,e=>by
  have cc:=pE (f:=ag 2) (a:=ae (ag 5) aq) (env:=[some (.int n),some (.int t),some C,some (.tup (xs.map D.int)),y4,some (tpl (xs++[z])),y6]) (h:=h) (h1:=h) (h2:=h) c (b.snoc (hl z List.mem_cons_self)) (by simp) (by simp[tpl])
  rw[List.map_cons,ip]
  unfold nF at e
  split at e
  ·rename_i c1
   cases e
   refine⟨some (tpl (xs++[z])),some (.int (B (xs++[z]))),?_⟩
   generalize tpl (xs++[z])=Z at *
   generalize (l.map fun x=>tpl (xs++[x]))=W
   simp[ONB,cc,c1]
  ·rename_i c1
   obtain⟨z5,z6,q⟩:=Gy c (xs:=xs) (h:=h) (y4:=y4) b l (t - B (xs++[z])) x t' (some (tpl (xs++[z]))) (some (.int (B (xs++[z])))) (fun y hy=>hl y (List.mem_cons_of_mem _ hy)) e
   refine⟨z5,z6,?_⟩
   generalize tpl (xs++[z])=Z at *
   generalize (l.map fun x=>tpl (xs++[x]))=W at *
   have st:ONB [some (.int n),some (.int t),some C,some (.tup (xs.map D.int)),y4,some Z,y6] h=.ok (.nx [some (.int n),some (.int (t - B (xs++[z]))),some C,some (.tup (xs.map D.int)),y4,some Z,some (.int (B (xs++[z])))]) h:=by simp[ONB,cc,c1]
   simp[st,q]
theorem Ik {n:Nat} {B:List Int->Int} {C:D} {t:Int} {h:Hh} (K:Cnt n B) (c:vo n B C) (hn:n<=1000) (h0:0<=t) (h1:t<B []):cR [.int n,.int t,C] h=.ok (.tup ((grd n B n [] t).1.map D.int)) h:=by
 obtain⟨s,lp,sl,sb,s0,s1,sg⟩:=um (σ:=List Int × Int × Option D × Option D × Option D) (tg:=gN 4) (body:=ONO) (fun(i:Nat)=>D.int i) n (fun s=>[some (.int n),some (.int s.2.1),some C,some (.tup (s.1.map D.int)),s.2.2.1,s.2.2.2.1,s.2.2.2.2]) (fun _=>h) (fun i s=>s.1.length=i/\Beg n s.1/\0<=s.2.1/\s.2.1<B s.1/\grd n B (n - i) s.1 s.2.1=grd n B n [] t) (fun i s hi hs=>by
  obtain⟨xs,u,y4,y5,y6⟩:=s
  obtain⟨e1,b,u0,u1,eg⟩:=hs
  dsimp only at e1 b u0 u1 eg ⊢
  have u1':=u1
  rw[<- K.nx b (by omega)] at u1'
  obtain⟨x,t',l1,l2,p1,p2,p3,p4,p5⟩:=yU u0 u1'
  have xin:x∈bz n xs:=y0 (by rw[p1];simp)
  obtain⟨z5,z6,q⟩:=Gy c (xs:=xs) (h:=h) (y4:=some (.int (i:Int))) b (nxB n B xs) u x t' y5 y6 (fun z hz=>y0 hz) p2
  refine⟨(xs++[x],t',some (.int i),z5,z6),⟨by simp[e1],b.snoc xin,p4,p5,?_⟩,?_⟩
  ·rw[<- eg,show n - i=(n - (i+1))+1 by omega]
   show _=(match nF B xs (nxB n B xs) u with | some (x,t')=>grd n B (n - (i+1)) (xs++[x]) t' | none=>(xs,u))
   rw[p2]
  ·have lo:=zO (h:=h) c b hn
   have ll:((nxB n B xs).map fun x=>tpl (xs++[x])).length<=1000000:=by
    rw[List.length_map]
    have:=List.length_filter_le (fun x=>decide (0<B (xs++[x]))) (bz n xs)
    rw[j2 b] at this
    unfold nxB;omega
   dsimp only
   rw[show tpl (xs++[x])=D.tup ((xs++[x]).map D.int) from rfl] at q
   generalize ((nxB n B xs).map fun x=>tpl (xs++[x]))=W at *
   generalize (xs++[x]).map D.int=X2 at *
   generalize xs.map D.int=X at *
   simp[ONO,lo,q]) n 0 ([],t,none,none,none) (by omega) ⟨rfl,Beg.nil n,h0,h1,rfl⟩
 obtain⟨xs,u,y4,y5,y6⟩:=s
 dsimp only at lp sl sb s0 s1 sg
 rw[Nat.sub_self] at sg
 have e:(grd n B n [] t).1=xs:=by rw[<- sg];rfl
 rw[e]
 rw[<- List.range_eq_range',<- ft,List.map_nil] at lp
 have z2:(n:Int).natAbs<=1000000:=by omega
 have z3:n<=1000000:=by omega
 have eq:cR=cu 7 (aE (bC 3 (aj bY aq)) (aE (fq (iz iN (ae (ag 0) aq)) (gN 4) ONO) (bD (ag 3)))):=rfl
 rw[eq]
 simp[aY,z2,z3,lp]
theorem FX {n:Nat} {xs:List Int} (b:Beg n xs) {r:Nat} (hr:r<(bz n xs).length):lwI (xs++[(bz n xs)[r]])=r:=by
 have so:=yC n xs
 have b2:=b.snoc (List.getElem_mem hr)
 rw[<- p6 b2 (by simp),AA,zI,List.filter_filter]
 have:((bz n xs).filter fun y=>decide (y<(bz n xs)[r])&&!((bz n xs)[r] == y))=(bz n xs).filter fun y=>decide (y<(bz n xs)[r]):=List.filter_congr fun y _=>by
  by_cases c:y<(bz n xs)[r]
  ·have:¬ (bz n xs)[r]=y:=by omega
   simp[c,this]
  ·simp[c]
 rw[this,Ke so r hr]
theorem Fj {n:Nat} {xs:List Int} (b:Beg n xs) (h:xs.length≠0) {r:Nat} (hr:r<(bz n xs).length):(bz n xs)[r]<cP xs↔(r:Int)<lwI xs:=by
 rw[<- p6 b h,xv (v:=cP xs) (yC n xs) r hr]
 omega
noncomputable def Jr (n:Nat) (fl:Nat->Bool):Nat->Int->Int
 | 0,_=>1
 | m+1,l=>sg (fun r=>if decide ((r:Int)<l)=fl (n - 2 - m) then Jr n fl m r else 0) (m+1)
theorem rL (n:Nat) (fl:Nat->Bool):∀(m:Nat) (l:Int),0<=Jr n fl m l/\Jr n fl m l<=D_ m
 | 0,l=>by unfold Jr D_;omega
 | m+1,l=>CQ fun r _=>by
  have:=rL n fl m r
  split<;>omega
noncomputable def fok (fl:Nat->Bool) (xs:List Int):Bool:=(List.range (xs.length - 1)).all fun i=>decide (gI xs (i+1)<gI xs i) == fl i
theorem CO {fl:Nat->Bool} {xs:List Int} {x:Int} (h:xs.length≠0):fok fl (xs++[x])=(fok fl xs&&(decide (x<cP xs) == fl (xs.length - 1))):=by
 unfold fok
 rw[List.length_append]
 show(List.range xs.length).all _=_
 obtain⟨m,hm⟩:∃m,xs.length=m+1:=⟨xs.length - 1,by omega⟩
 rw[hm,List.range_succ,List.all_append,show m+1 - 1=m from rfl]
 have e1:gI (xs++[x]) (m+1)=x:=by rw[<- hm];exact Dz
 have e2:gI (xs++[x]) m=cP xs:=by unfold cP;rw[tZ (by omega),hm];rfl
 simp only[List.all_cons,List.all_nil,Bool.and_true,e1,e2]
 congr 1
 rw[Bool.eq_iff_iff,List.all_eq_true,List.all_eq_true]
 refine forall_congr' fun i=>forall_congr' fun hi=>?_
 have hi:=List.mem_range.mp hi
 rw[tZ (by omega),tZ (by omega)]
noncomputable def jcV (n:Nat) (fl:Nat->Bool) (xs:List Int):Int:=if xs.length=0 then sg (fun r=>Jr n fl (n - 1) r) n else if fok fl xs=true then Jr n fl (n - xs.length) (lwI xs) else 0
theorem Ip {n:Nat} {fl:Nat->Bool} {xs:List Int}:0<=jcV n fl xs:=by
 unfold jcV
 split
 ·exact(CQ (B:=D_ (n - 1)) fun r _=>rL n fl _ _).1
 ·split
  ·exact(rL n fl _ _).1
  ·exact Int.le_refl _
theorem He {n:Nat} (fl:Nat->Bool) (h1:1<=n):Cnt n (jcV n fl):=by
 refine⟨fun xs _=>Ip,fun xs b hl=>?_⟩
 have ll:=j2 b
 by_cases c:xs.length=0
 ·have:xs=[]:=List.eq_nil_of_length_eq_zero c
  subst this
  have el:bz n []=iA 0 n:=by unfold bz;rw[List.filter_eq_self.mpr];intro x _;rfl
  rw[el,yK,lL]
  show sg _ n=_
  unfold sg
  congr 1
  refine List.map_congr_left fun r hr=>?_
  have hr:=List.mem_range.mp hr
  have e:gI (iA 0 n) r=r:=by rw[gH (by rw[lL];exact hr)];simp[iA]
  rw[e,List.nil_append]
  have l1:lwI [(r:Int)]=r:=by
   have:cP [(r:Int)]=r:=rfl
   unfold lwI;rw[this];simp
  show _=(if ([(r:Int)]:List Int).length=0 then _ else if fok fl [(r:Int)]=true then Jr n fl (n - 1) (lwI [(r:Int)]) else 0)
  rw[l1]
  rfl
 ·obtain⟨m,hm⟩:∃m,n - xs.length=m+1:=⟨n - xs.length - 1,by omega⟩
  rw[hm] at ll
  rw[yK,ll]
  have key:∀r,r<m+1->jcV n fl (xs++[gI (bz n xs) r])=if fok fl xs=true then (if decide ((r:Int)<lwI xs)=fl (n - 2 - m) then Jr n fl m r else 0) else 0:=fun r hr=>by
   have hr':r<(bz n xs).length:=by omega
   rw[gH hr']
   have l1:=FX b hr'
   have l2:=Fj b c hr'
   unfold jcV
   rw[if_neg (by simp),CO c,l1,List.length_append]
   have e3:n - (xs.length + [(bz n xs)[r]].length)=m:=by simp;omega
   rw[e3,show n - 2 - m=xs.length - 1 by omega]
   have e4:decide ((bz n xs)[r]<cP xs)=decide ((r:Int)<lwI xs):=by rw[Bool.eq_iff_iff];simpa using l2
   rw[e4]
   cases fok fl xs with
   | false=>simp
   | true=>
    simp only[Bool.true_and,if_true]
    by_cases d:decide ((r:Int)<lwI xs)=fl (xs.length - 1)
    ·rw[if_pos d,if_pos (by rw[d];simp)]
    ·rw[if_neg d,if_neg (by simpa using d)]
  unfold jcV
  rw[if_neg c,hm]
  have e5:((List.range (m+1)).map fun i=>jcV n fl (xs++[gI (bz n xs) i]))=(List.range (m+1)).map fun(r:Nat)=>if fok fl xs=true then (if decide ((r:Int)<lwI xs)=fl (n - 2 - m) then Jr n fl m r else 0) else 0:=List.map_congr_left fun r hr=>key r (List.mem_range.mp hr)
  show _=((List.range (m+1)).map fun i=>jcV n fl (xs++[gI (bz n xs) i])).sum
  rw[e5]
  cases fok fl xs with
  | false=>
   have:=oE (f:=fun _=>(0:Int)) (n:=m+1) fun _ _=>rfl
   simpa [sg] using this.symm
  | true=>simp only[if_true];rfl
noncomputable def aW (n:Nat) (fl:Nat->Bool):List Int:=((List.range (n - 1)).filter fl).map fun(i:Nat)=>(i:Int)
theorem BF {α:Type} {p q:α->Bool} {l:List α}:l.filter p=l.filter q↔∀x∈l,p x=q x:=by
 constructor
 ·intro e x hx
  rw[Bool.eq_iff_iff]
  have:x∈l.filter p↔x∈l.filter q:=by rw[e]
  simpa [hx] using this
 ·exact fun h=>List.filter_congr h
theorem vn:∀{m n:Nat},m<=n->(List.range n).filter (fun i=>decide (i<m))=List.range m
 | m,0,h=>by have:m=0:=by omega
             subst this;rfl
 | m,n+1,h=>by
  rw[List.range_succ,List.filter_append]
  by_cases c:m=n+1
  ·subst c
   rw[List.filter_eq_self.mpr (by intro x hx;have:=List.mem_range.mp hx;simp;omega),List.range_succ]
   simp
  ·rw[vn (by omega)]
   have:¬ n<m:=by omega
   simp[this]
theorem Ek {n len:Nat} {fl:Nat->Bool} (h:len<=n) (h0:len≠0):(aW n fl).filter (fun x=>decide (x<(len:Int) - 1))=((List.range (len - 1)).filter fl).map fun(i:Nat)=>(i:Int):=by
 unfold aW
 rw[List.filter_map,<- vn (m:=len - 1) (n:=n - 1) (by omega),List.filter_filter,List.filter_filter]
 congr 1
 refine List.filter_congr fun i _=>?_
 rw[Bool.and_comm]
 congr 1
 show decide ((i:Int)<(len:Int) - 1)=decide (i<len - 1)
 rw[Bool.eq_iff_iff];simp;omega
theorem map_inj {l1 l2:List Nat}:(l1.map fun(i:Nat)=>(i:Int))=(l2.map fun(i:Nat)=>(i:Int))↔l1=l2:=by
 constructor
 ·intro e
  have:=congrArg (List.map Int.toNat) e
  simpa [List.map_map,Function.comp_def] using this
 ·rintro rfl;rfl
theorem EV {n:Nat} {fl:Nat->Bool} {xs:List Int} (h:xs.length<=n) (h0:xs.length≠0):ij xs=(aW n fl).filter (fun x=>decide (x<(xs.length:Int) - 1))↔fok fl xs=true:=by
 rw[Ek h h0]
 unfold ij xS fok
 rw[map_inj,BF,List.all_eq_true]
 refine forall_congr' fun i=>forall_congr' fun _=>?_
 rw[beq_iff_eq]
theorem wa {n:Nat} {fl:Nat->Bool} {p:Nat} (h:p<n - 1):(aW n fl).any (· == (p:Int))=fl p:=by
 rw[Bool.eq_iff_iff,List.any_eq_true]
 unfold aW
 constructor
 ·rintro⟨x,hx,e⟩
  obtain⟨i,hi,rfl⟩:=List.mem_map.mp hx
  have:i=p:=by have:=beq_iff_eq.mp e;omega
  subst this
  exact(List.mem_filter.mp hi).2
 ·intro e
  exact⟨p,List.mem_map.mpr ⟨p,List.mem_filter.mpr ⟨List.mem_range.mpr h,e⟩,rfl⟩,by simp⟩
theorem mU (k:Nat) (h:Hh):∀xs ys:List Int,eqL (eqD (k+1) h) (xs.map D.int) (ys.map D.int)=some (decide (xs=ys))
 | [],[]=>rfl
 | [],y::ys=>rfl
 | x::xs,[]=>rfl
 | x::xs,y::ys=>by
  have ih:=mU k h xs ys
  have e1:eqD (k+1) h (.int x) (.int y)=some (x == y):=rfl
  simp only[List.map_cons,eqL,e1,ih]
  by_cases a:x=y<;>by_cases b:xs=ys<;>simp[a,b]
theorem F_ {h:Hh} {xs ys:List Int}:dEq (.tup (xs.map D.int)) (.tup (ys.map D.int)) h=.ok (.bl (decide (xs=ys))) h:=by
 have:eqD eqN h (.tup (xs.map D.int)) (.tup (ys.map D.int))=some (decide (xs=ys)):=mU 10 h xs ys
 simp only[dEq,this]
noncomputable def cQ (n:Nat) (fl:Nat->Bool) (m:Nat):List Int:=(List.range (m+1)).map fun(l:Nat)=>Jr n fl m l
noncomputable def fj (xs:List Int):D:=.frl (xs.map D.int)
noncomputable def jrD (n:Nat) (fl:Nat->Bool) (k:Nat):List D:=(List.range k).map fun m=>fj (cQ n fl m)
theorem pJ {n:Nat} {fl:Nat->Bool} {m:Nat}:(cQ n fl m).length=m+1:=by simp[cQ]
theorem r8 {n:Nat} {fl:Nat->Bool} {m l:Nat} (h:l<=m+1):((cQ n fl m).take l).sum=sg (fun r=>Jr n fl m r) l:=by
 unfold cQ sg
 rw[<- List.map_take,List.take_range,Nat.min_eq_left h]
theorem ve {n:Nat} {fl:Nat->Bool} {m:Nat}:(cQ n fl m).sum=sg (fun r=>Jr n fl m r) (m+1):=rfl
theorem Fo {n:Nat} {fl:Nat->Bool} {m l:Nat} (h:l<=m+1) (hf:fl (n - 2 - m)=true):Jr n fl (m+1) l=((cQ n fl m).take l).sum:=by
 rw[r8 h]
 show sg (fun r=>if decide ((r:Int)<(l:Int))=fl (n - 2 - m) then Jr n fl m r else 0) (m+1)=_
 rw[hf]
 have e:=tw (fun r=>if decide ((r:Int)<(l:Int))=true then Jr n fl m r else 0) l (m+1 - l)
 rw[show l+(m+1 - l)=m+1 by omega] at e
 rw[e,oE (f:=fun i=>if decide (((l+i:Nat):Int)<(l:Int))=true then Jr n fl m ((l+i:Nat):Int) else 0) fun i _=>by
  rw[if_neg (by have:¬ (((l+i:Nat):Int)<(l:Int)):=by omega
                rw[decide_eq_false this];exact Bool.false_ne_true)],Int.add_zero]
 refine lE fun i hi=>?_
 have:((i:Int)<(l:Int)):=by omega
 simp[this]
theorem Fi {n:Nat} {fl:Nat->Bool} {m l:Nat} (h:l<=m+1) (hf:fl (n - 2 - m)=false):Jr n fl (m+1) l=((cQ n fl m).drop l).sum:=by
 have t:=r8 (n:=n) (fl:=fl) h
 have s:((cQ n fl m).take l).sum+((cQ n fl m).drop l).sum=(cQ n fl m).sum:=by
  rw[<- List.sum_append,List.take_append_drop]
 rw[ve,t] at s
 have e0:=tw (fun r=>Jr n fl m r) l (m+1 - l)
 rw[show l+(m+1 - l)=m+1 by omega] at e0
 show sg (fun r=>if decide ((r:Int)<(l:Int))=fl (n - 2 - m) then Jr n fl m r else 0) (m+1)=_
 rw[hf]
 have e:=tw (fun r=>if decide ((r:Int)<(l:Int))=false then Jr n fl m r else 0) l (m+1 - l)
 rw[show l+(m+1 - l)=m+1 by omega] at e
 rw[e,oE (f:=fun r=>if decide ((r:Int)<(l:Int))=false then Jr n fl m r else 0) fun i hi=>by
  have:((i:Int)<(l:Int)):=by omega
  simp[this],Int.zero_add]
 have e2:sg (fun i=>if decide (((l+i:Nat):Int)<(l:Int))=false then Jr n fl m ((l+i:Nat):Int) else 0) (m+1 - l)=sg (fun i=>Jr n fl m ((l+i:Nat):Int)) (m+1 - l):=lE fun i hi=>by
  rw[if_pos (decide_eq_false (by omega))]
 rw[e2]
 omega
noncomputable def SRB:MS:=(aE (bC 4 (au dIx (ag 2) (cUn lq (cC (.int 1))))) (aE (bC 5 (au (dIn false) (au cy (au cy (ag 0) (cC (.int 1))) (ag 3)) (ag 1))) (eB (j1 fC (ag 2) (ae (eW aG (iz iN (ae (au (cG aG) (ag 3) (cC (.int 1))) aq)) [5,4] tt1 (aj tL (ae (cIf (aU kU (ag 1)) (fV aG (ag 2) fE (gK (ag 0))) (fV aG (ag 2) (gK (ag 0)) fE)) aq))) aq)))))
theorem CI (n:Nat) (fl:Nat->Bool) (k:Nat):jrD n fl (k+1)=jrD n fl k++[fj (cQ n fl k)]:=by unfold jrD;rw[List.range_succ,List.map_append];rfl
theorem yO {n:Nat} {fl:Nat->Bool} {k:Nat}:(jrD n fl k).length=k:=by simp[jrD]
theorem EL {n:Nat} {fl:Nat->Bool} {m:Nat} {h:Hh} (hm:m<=30):dg tt1 (aj tL (ae (cIf (aU kU (ag 1)) (fV aG (ag 2) fE (gK (ag 0))) (fV aG (ag 2) (gK (ag 0)) fE)) aq)) (fun x=>[some x,some (.bl (fl (n - 2 - m))),some (fj (cQ n fl m))]) (bW 0 (m+2)) h=.ok ((cQ n fl (m+1)).map D.int) h:=by
 rw[AJ (fun l=>D.int (Jr n fl (m+1) l)) (fun l hl=>?_)]
 ·unfold cQ;rw[List.map_map];rfl
 ·have ln:(cQ n fl m).length=m+1:=pJ
  cases hf:fl (n - 2 - m) with
  | true=>
   rw[Fo (by omega) hf]
   have ct:cutD ((cQ n fl m).map D.int) none (some (l:Int))=((cQ n fl m).take l).map D.int:=by rw[jG,FF]
   generalize (cQ n fl m).take l=J2 at *
   generalize hj:(cQ n fl m).map D.int=J at *
   simp[fj,hj,ct]
  | false=>
   rw[Fi (by omega) hf]
   have ct:cutD ((cQ n fl m).map D.int) (some (l:Int)) none=((cQ n fl m).drop l).map D.int:=by rw[jG,AB]
   generalize (cQ n fl m).drop l=J2 at *
   generalize hj:(cQ n fl m).map D.int=J at *
   simp[fj,hj,ct]
theorem C1 {n:Nat} {fl:Nat->Bool} {h:Hh} (h1:1<=n) (hn:n<=20):fL [.int n,.tup ((aW n fl).map D.int)] h=.ok (.frl (jrD n fl n)) h:=by
 obtain⟨s,lp,ei⟩:=um (σ:=List D × Option D × Option D × Option D) (tg:=gN 3) (body:=SRB) (fun(i:Nat)=>D.int (1+(i:Int))) (n - 1) (fun s=>[some (.int n),some (.tup ((aW n fl).map D.int)),some (.ref 0),s.2.1,s.2.2.1,s.2.2.2]) (fun s=>[.lst s.1]) (fun i s=>s.1=jrD n fl (i+1)) (fun i s hi hs=>by
  obtain⟨d,y3,y4,y5⟩:=s
  dsimp only at hs ⊢
  subst hs
  refine⟨(jrD n fl (i+2),some (.int (1+(i:Int))),some (fj (cQ n fl i)),some (.bl (fl (n - 2 - i)))),rfl,?_⟩
  have la:ixK (jrD n fl (i+1)) (-1) [.lst (jrD n fl (i+1))]=.ok (fj (cQ n fl i)) [.lst (jrD n fl (i+1))]:=by rw[CI];exact pY
  have q:=EL (n:=n) (fl:=fl) (m:=i) (h:=[.lst (jrD n fl (i+1))]) (by omega)
  have ii:(n:Int) - 1 - (1+(i:Int))=((n - 2 - i:Nat):Int):=by omega
  have sa:=wa (n:=n) (fl:=fl) (p:=n - 2 - i) (by omega)
  have inn:=J1 (neg:=false) (i:=((n - 2 - i:Nat):Int)) (ns:=aW n fl) (h:=[.lst (jrD n fl (i+1))])
  rw[sa] at inn
  have z1:(1+(i:Int)+1).toNat=i+2:=by omega
  have z2:(1+(i:Int)+1).natAbs<=1000000:=by omega
  have z3:i+2<=1000000:=by omega
  have ll:(jrD n fl (i+1)).length<1000000:=by rw[yO];omega
  have ap:fC (.ref 0) [fj (cQ n fl (i+1))] [.lst (jrD n fl (i+1))]=.ok .non [.lst (jrD n fl (i+2))]:=by
   rw[uX (show aN [O.lst (jrD n fl (i+1))] 0=some (jrD n fl (i+1)) from rfl),if_pos ll,CI n fl (i+1)];rfl
  have il:isL (.ref 0) [O.lst (jrD n fl (i+1))]=true:=rfl
  have ix:dIx (.ref 0) (.int (-1)) [O.lst (jrD n fl (i+1))]=.ok (fj (cQ n fl i)) [O.lst (jrD n fl (i+1))]:=by rw[pj rfl];exact la
  rw[show fj (cQ n fl (i+1))=D.frl ((cQ n fl (i+1)).map D.int) from rfl] at ap
  generalize (cQ n fl (i+1)).map D.int=W at *
  generalize fj (cQ n fl i)=F at *
  generalize jrD n fl (i+1)=L1 at *
  generalize jrD n fl (i+2)=L2 at *
  generalize (aW n fl).map D.int=S at *
  simp[SRB,ix,ii,inn,z1,z2,z3,q,il,ap]) (n - 1) 0 (jrD n fl 1,none,none,none) (by omega) rfl
 obtain⟨d,y3,y4,y5⟩:=s
 dsimp only at lp ei
 rw[show n - 1+1=n by omega] at ei
 subst ei
 have ir:bW 1 (n - 1)=(List.range' 0 (n - 1)).map fun(i:Nat)=>D.int (1+(i:Int)):=by unfold bW;rw[List.range_eq_range']
 rw[<- ir] at lp
 have e2:fL=zq (fun ds h=>((cu 6 (aE (bC 2 (aj (dH wN) (ae (aj (dH aG) (ae (cC (.int 1)) aq)) aq))) (aE (fq (iz x9 (ae (cC (.int 1)) (ae (ag 0) aq))) (gN 3) SRB) (bD (ag 2))))) ds h).bind (eM h)):=rfl
 have lo1:cE 0 [.int (n:Int),.tup ((aW n fl).map D.int)]=true:=by
  simp only[cE,iq,Bool.true_and,Bool.and_true];exact pe
 have lo2:iq 0 (.frl (jrD n fl n))=true:=by
  simp only[iq]
  exact mz fun d hd=>by
   obtain⟨m,_,rfl⟩:=List.mem_map.mp hd
   show cE 0 ((cQ n fl m).map D.int)=true
   exact pe
 have ex:=Ao (h:=[]) (t:=[]) (ds:=jrD n fl n) Wf.nil (by
  rw[List.all_eq_true]
  intro d hd
  obtain⟨m,_,rfl⟩:=List.mem_map.mp hd
  simp[fj,deep])
 have z2:(n:Int).natAbs<=1000000:=by omega
 have z3:((n:Int) - 1).toNat=n - 1:=by omega
 have z4:n - 1<=1000000:=by omega
 have z5:n<=1000000:=by omega
 have r0:jrD n fl 1=[.frl [.int 1]]:=rfl
 rw[r0] at lp
 simp only[List.nil_append,List.length_nil] at ex
 rw[e2]
 generalize jrD n fl n=W at *
 generalize (aW n fl).map D.int=S at *
 simp[zq,lo1,aY,wN,z2,z3,z4,z5,lp,ex,lo2]
theorem JI {n:Nat} {fl:Nat->Bool} {m:Nat} {i:Int} {h:Hh} (e:i=(m:Int)) (hm:m<n):ixK (jrD n fl n) i h=.ok (fj (cQ n fl m)) h:=dZ e (by rw[jrD,List.getElem?_map,List.getElem?_range hm];rfl)
theorem Lv {n:Nat} {fl:Nat->Bool} {xs:List Int} {h:Hh} (b:Beg n xs) (h1:1<=n) (hn:n<=20):bO [.frl (jrD n fl n),.tup ((aW n fl).map D.int),.tup (xs.map D.int)] h=.ok (.int (jcV n fl xs)) h:=by
 have bl:=b.len
 have ln:(((jrD n fl n).length:Nat):Int)=n:=by rw[yO]
 have lx:(((xs.map D.int).length:Nat):Int)=xs.length:=by rw[List.length_map]
 unfold jcV
 by_cases c:xs.length=0
 ·rw[if_pos c]
  have:xs=[]:=List.eq_nil_of_length_eq_zero c
  subst this
  have la:ixK (jrD n fl n) (-1) h=.ok (fj (cQ n fl (n - 1))) h:=by
   obtain⟨m,rfl⟩:∃m,n=m+1:=⟨n - 1,by omega⟩
   rw[CI];exact pY
  have su:(cQ n fl (n - 1)).sum=sg (fun r=>Jr n fl (n - 1) r) n:=by
   rw[ve,show n - 1+1=n by omega]
  rw[<- su]
  generalize cQ n fl (n - 1)=J at *
  generalize jrD n fl n=W at *
  generalize (aW n fl).map D.int=S at *
  simp[bO,aY,la,fj]
 ·rw[if_neg c]
  have c':¬ (xs.length:Int)=0:=by omega
  have c0:¬ xs=[]:=fun z=>c (by rw[z];rfl)
  have fa:=DM (xs:=xs) (h:=h) (by omega)
  have lo:=BN (xs:=xs) (h:=h) (by omega)
  have q:dg (aU asB (au dLt (ag 0) (au cy (aj km (ae (ag 1) aq)) (cC (.int 1))))) (ag 0) (fun x=>[some x,some (.tup (xs.map D.int))]) ((aW n fl).map D.int) h=.ok (((aW n fl).filter fun x=>decide (x<(xs.length:Int) - 1)).map D.int) h:=
   comp_map D.int (fun x=>decide (x<(xs.length:Int) - 1)) D.int (aW n fl) fun x hx=>⟨by simp,fun _=>by simp⟩
  have eq:=F_ (h:=h) (xs:=ij xs) (ys:=(aW n fl).filter fun x=>decide (x<(xs.length:Int) - 1))
  have fi:=EV (n:=n) (fl:=fl) bl c
  have ls:((aW n fl).map D.int).length<=1000000:=by
   rw[List.length_map,aW,List.length_map]
   have:=List.length_filter_le fl (List.range (n - 1))
   simp at this;omega
  have lf:(((aW n fl).filter fun x=>decide (x<(xs.length:Int) - 1)).map D.int).length<=1000000:=by
   rw[List.length_map]
   have:=List.length_filter_le (fun x=>decide (x<(xs.length:Int) - 1)) (aW n fl)
   rw[List.length_map] at ls
   omega
  have ne:dNe (.tup ((ij xs).map D.int)) (.tup (((aW n fl).filter fun x=>decide (x<(xs.length:Int) - 1)).map D.int)) h=.ok (.bl (!decide (fok fl xs=true))) h:=by
   have e:eqD eqN h (.tup ((ij xs).map D.int)) (.tup (((aW n fl).filter fun x=>decide (x<(xs.length:Int) - 1)).map D.int))=some (decide (ij xs=(aW n fl).filter fun x=>decide (x<(xs.length:Int) - 1))):=mU 10 h _ _
   simp only[dNe,e]
   congr 3
   exact decide_eq_decide.mpr fi
  obtain⟨l0,l1⟩:=JS b
  have r1:ixK (jrD n fl n) ((n:Int) - xs.length) h=.ok (fj (cQ n fl (n - xs.length))) h:=JI (by omega) (by omega)
  have r2:dIx (fj (cQ n fl (n - xs.length))) (.int (lwI xs)) h=.ok (.int (Jr n fl (n - xs.length) (lwI xs))) h:=by
   show ixK ((cQ n fl (n - xs.length)).map D.int) (lwI xs) h=_
   rw[lY (j:=(lwI xs).toNat) (by omega) (by rw[pJ];omega),gH (by rw[pJ];omega)]
   simp only[cQ,List.getElem_map,List.getElem_range]
   rw[show(((lwI xs).toNat:Nat):Int)=lwI xs by omega]
  generalize ((aW n fl).filter fun x=>decide (x<(xs.length:Int) - 1)).map D.int=SF at *
  generalize (ij xs).map D.int=F1 at *
  generalize fj (cQ n fl (n - xs.length))=JJ at *
  generalize jrD n fl n=W at *
  generalize (aW n fl).map D.int=S at *
  generalize Jr n fl (n - xs.length) (lwI xs)=V at *
  generalize hl:(xs.length:Int)=L at *
  generalize xs.map D.int=X at *
  cases hf:fok fl xs with
  | true=>
   rw[hf] at ne
   simp[bO,aY,lx,c',fa,ls,q,lf,ne,ln,r1,lo,r2]
  | false=>
   rw[hf] at ne
   simp[bO,aY,lx,c',fa,ls,q,lf,ne]
theorem qh {n:Nat} {fl:Nat->Bool} {h:Hh} (h1:1<=n) (hn:n<=20):bJ [.int n,.tup ((aW n fl).map D.int)] h=.ok (.clo "just_count" [.frl (jrD n fl n),.tup ((aW n fl).map D.int)]) h:=by
 have r:=C1 (n:=n) (fl:=fl) (h:=h) h1 hn
 delta bJ FW
 simp[r,xy]
theorem CN {n:Nat} {fl:Nat->Bool} (h1:1<=n) (hn:n<=20):vo n (jcV n fl) (.clo "just_count" [.frl (jrD n fl n),.tup ((aW n fl).map D.int)]):=⟨_,_,3,bO,rfl,nZ,rfl,fun xs h b=>Lv b h1 hn⟩
section
variable {env:En} {h:Hh}
@[simp] theorem M7 {β:Type} {m:En->Hh->R β}:up m env h=noR (m env h):=Eq.trans rfl rfl
@[simp] theorem A3 {β γ:Type} {x:Xc} {f:β->Hh->R γ}:(R.err x h:R β).bind f=.err x h:=Eq.trans rfl rfl
@[simp] theorem Kx {x:Str}:uO x env h=.err ⟨x,[]⟩ h:=Eq.trans rfl rfl
theorem IB {mb:MS} {mr:MF} {fl:Fl} {h':Hh} (e:mb env h=.ok fl h'):pw mb mr env h=.ok fl h':=by unfold pw;rw[e]
theorem Dd {mb:MS} {mr:MF} {x:Xc} {d:D} (w:Wf h) (e:mb env h=.err x h) (c:bM.contains x.cls=true) (r:mr [.exc x.cls x.fs] h=.ok d h):pw mb mr env h=.ok (.rt d) h:=by
 unfold pw
 rw[e]
 have w':(h.take h.length).all (nU h.length)=true:=by rw[List.take_length];exact w
 show(if (bM.contains x.cls&&(h.take h.length).all (nU h.length))=true then _ else _)=_
 rw[c,w',List.take_length,r]
 rfl
@[simp] theorem Mw {d0 d1 d2:D} {ds:List D}:ixK (d0::d1::d2::ds) 2 h=.ok d2 h:=dZ (j:=2) rfl rfl
@[simp] theorem Ms {d0 d1 d2 d3:D} {ds:List D}:ixK (d0::d1::d2::d3::ds) 3 h=.ok d3 h:=dZ (j:=3) rfl rfl
@[simp] theorem Mm {d0 d1 d2 d3 d4:D} {ds:List D}:ixK (d0::d1::d2::d3::d4::ds) 4 h=.ok d4 h:=dZ (j:=4) rfl rfl
@[simp] theorem Mq {d0 d1 d2 d3 d4 d5:D} {ds:List D}:ixK (d0::d1::d2::d3::d4::d5::ds) 5 h=.ok d5 h:=dZ (j:=5) rfl rfl
@[simp] theorem Mc {d0 d1 d2 d3 d4 d5 d6:D} {ds:List D}:ixK (d0::d1::d2::d3::d4::d5::d6::ds) 6 h=.ok d6 h:=dZ (j:=6) rfl rfl
end
noncomputable def itm:D->Bool
 | .int _=>true
 | .bl _=>true
 | .non=>true
 | .str _=>true
 | .tup _=>true
 | .frl _=>true
 | .edic=>true
 | _=>false
noncomputable def isI:D->Bool
 | .int _=>true
 | _=>false
noncomputable def zw:D->Int
 | .int i=>i
 | _=>0
noncomputable def inR (a b:Int):D->Bool
 | .int i=>decide (a<=i/\i<=b)
 | _=>false
theorem tK {a b:Int} {d:D} (e:inR a b d=true):isI d=true:=by cases d<;>first | rfl | (simp[inR] at e)
theorem sE {d:D} (e:isI d=true):d=.int (zw d):=by cases d<;>first | rfl | (simp[isI] at e)
theorem nk {a b:Int} {d:D} {h:Hh} (k:itm d=true):cJ [d,.int a,.int b] h=.ok (.bl (inR a b d)) h:=by
 cases d with
 | int i=>rw[C3];rfl
 | _=>first | (exact absurd k Bool.false_ne_true) | rfl
theorem HL {d:D} {h:Hh} (k:itm d=true) (n:∀ds,d≠.tup ds):qT "tuple" d h=.ok (.bl false) h:=by
 cases d<;>first | (exact absurd k Bool.false_ne_true) | exact absurd rfl (n _) | rfl
noncomputable def RA (e:D):Prop:=∀h,∃p,toPy 11 h e=some p/\p.bulk<=100
noncomputable def RB (e:D):Prop:=∃p,lW 11 e=some p/\p.bulk<=100
noncomputable def RX (d:D):Prop:=∀h,∃s,ie [d] h=.ok (.str s) h
theorem ke {f:D->Option PyData} {n:Nat}:∀{ds:List D},(∀e∈ds,∃p,f e=some p/\p.bulk<=n)->∃ps,eV f ds=some ps/\PyData.bulkAll ps<=(n+1)*ds.length
 | [],_=>⟨[],rfl,by simp[PyData.bulkAll]⟩
 | d::ds,k=>by
  obtain⟨p,e,b⟩:=k d List.mem_cons_self
  obtain⟨ps,e2,b2⟩:=ke (ds:=ds) fun x hx=>k x (List.mem_cons_of_mem _ hx)
  refine⟨p::ps,by simp[eV,e,e2],?_⟩
  rw[PyData.bulkAll,List.length_cons,Nat.mul_add]
  omega
theorem Kp {ds:List D} (hl:ds.length<=60) (k:∀e∈ds,RA e):RX (.tup ds):=by
 intro h
 obtain⟨ps,e,b⟩:=ke fun x hx=>k x hx h
 have e1:toPy 12 h (.tup ds)=some (.tuple ps):=by
  show(eV (toPy 11 h) ds).map PyData.tuple=_
  rw[e];rfl
 have e2:PyData.bulk (.tuple ps)<=8000:=by rw[PyData.bulk];omega
 exact⟨_,pM (show oy (.tup ds) h=.ok (.str (PyData.tuple ps).shown) h from by delta oy;rw[e1];exact if_pos e2)⟩
theorem KO {ds:List D} (hl:ds.length<=60) (k:∀e∈ds,RA e):RX (.frl ds):=by
 intro h
 obtain⟨ps,e,b⟩:=ke fun x hx=>k x hx h
 have e1:toPy 12 h (.frl ds)=some (.list ps):=by
  show(eV (toPy 11 h) ds).map PyData.list=_
  rw[e];rfl
 have e2:PyData.bulk (.list ps)<=8000:=by rw[PyData.bulk];omega
 exact⟨_,pM (show oy (.frl ds) h=.ok (.str (PyData.list ps).shown) h from by delta oy;rw[e1];exact if_pos e2)⟩
theorem L5 {ds:List D} (hl:ds.length<=60) (k:∀e∈ds,RB e):RX (.tup ds):=by
 intro h
 obtain⟨ps,e,b⟩:=ke fun x hx=>k x hx
 have e1:lW 12 (.tup ds)=some (.tuple ps):=by
  show(eV (lW 11) ds).map PyData.tuple=_
  rw[e];rfl
 have e2:PyData.bulk (.tuple ps)<=8000:=by rw[PyData.bulk];omega
 have e3:t6 [.tup ds] h=.ok (.str (PyData.tuple ps).shown) h:=show zr (.tup ds) h=_ from by delta zr;rw[e1];exact if_pos e2
 have hR:oy (.tup ds) h=.bad\/∃s,oy (.tup ds) h=.ok (.str s) h:=by
  delta oy
  cases toPy 12 h (.tup ds) with
  | none=>exact .inl rfl
  | some p=>
   by_cases z2:p.bulk<=8000
   ·exact .inr ⟨_,if_pos z2⟩
   ·exact .inl (if_neg z2)
 rcases hR with e | ⟨s,e⟩
 ·refine⟨_,Eq.trans ?_ e3⟩
  have e':rX [.tup ds] h=.bad:=e
  delta ie;rw[e']
 ·exact⟨s,pM e⟩
theorem sF {i:Int} (s:sml i=true):RA (.int i):=fun h=>⟨.int i,by show(if sml i=true then some (PyData.int i) else none)=_;rw[if_pos s],by simp[PyData.bulk]⟩
theorem GX {i:Int} (s:sml i=true):RB (.int i):=⟨.int i,by show(if sml i=true then some (PyData.int i) else none)=_;rw[if_pos s],by simp[PyData.bulk]⟩
noncomputable def uk (e:D):Prop:=itm e=true/\(RA e\/RB e)
theorem uu {i:Int} (s:sml i=true):uk (.int i):=⟨rfl,.inl (sF s)⟩
theorem Ci {b:Bool}:uk (.bl b):=⟨rfl,.inl fun h=>⟨.bool b,rfl,by simp[PyData.bulk]⟩⟩
theorem Ed:uk .non:=⟨rfl,.inl fun h=>⟨.none,rfl,by simp[PyData.bulk]⟩⟩
theorem Bv:uk (.str "0"):=⟨rfl,.inl fun h=>⟨.str "0", by kernel_rfl,by decide +kernel⟩⟩
theorem Dx:uk .edic:=⟨rfl,.inr ⟨.dict [],rfl,by decide +kernel⟩⟩
theorem Ct:uk (.tup [.int 0]):=⟨rfl,.inl fun h=>⟨.tuple [.int 0],by kernel_rfl,by decide +kernel⟩⟩
theorem Cq:uk (.frl [.int 0]):=⟨rfl,.inl fun h=>⟨.list [.int 0],by kernel_rfl,by decide +kernel⟩⟩
structure Th (d:D):Prop where
 it:itm d=true
 its:∀ds,d=.tup ds->(∀e∈ds,itm e=true)/\ds.length<=60
 rx:RX d
theorem Fy {od:D} {xs ys:List Int} (o:uk od) (hx:∀x∈xs,sml x=true) (hy:∀x∈ys,sml x=true) (hl:xs.length+ys.length<=50):Th (.tup (xs.map D.int++od::ys.map D.int)):=by
 have ml:(xs.map D.int++od::ys.map D.int).length<=60:=by simp;omega
 have mm:∀e∈xs.map D.int++od::ys.map D.int,(∃i,e=.int i/\sml i=true)\/e=od:=by
  intro e he
  rcases List.mem_append.mp he with he | he
  ·obtain⟨i,hi,rfl⟩:=List.mem_map.mp he;exact .inl ⟨i,rfl,hx i hi⟩
  ·rcases List.mem_cons.mp he with he | he
   ·exact .inr he
   ·obtain⟨i,hi,rfl⟩:=List.mem_map.mp he;exact .inl ⟨i,rfl,hy i hi⟩
 refine⟨rfl,fun ds e=>?_,?_⟩
 ·cases e
  refine⟨fun e he=>?_,ml⟩
  rcases mm e he with⟨i,rfl,_⟩ | rfl
  ·rfl
  ·exact o.1
 ·rcases o.2 with a | b
  ·refine Kp ml fun e he=>?_
   rcases mm e he with⟨i,rfl,s⟩ | rfl
   ·exact sF s
   ·exact a
  ·refine L5 ml fun e he=>?_
   rcases mm e he with⟨i,rfl,s⟩ | rfl
   ·exact GX s
   ·exact b
theorem oN {xs:List Int} (hx:∀x∈xs,sml x=true) (hl:xs.length<=60):Th (.tup (xs.map D.int)):=by
 refine⟨rfl,fun ds e=>?_,Kp (by simpa using hl) fun e he=>?_⟩
 ·cases e
  exact⟨fun e he=>by obtain⟨i,_,rfl⟩:=List.mem_map.mp he;rfl,by simpa using hl⟩
 ·obtain⟨i,hi,rfl⟩:=List.mem_map.mp he
  exact sF (hx i hi)
theorem Iw {xs:List Int} (hx:∀x∈xs,sml x=true) (hl:xs.length<=60):Th (.frl (xs.map D.int)):=by
 refine⟨rfl,fun ds e=>(nomatch e),KO (by simpa using hl) fun e he=>?_⟩
 obtain⟨i,hi,rfl⟩:=List.mem_map.mp he
 exact sF (hx i hi)
noncomputable abbrev TNm:D:=.tup [.str "number"]
theorem AI {h:Hh}:aR [.exc "NoNumber" []] h=.ok TNm h:=by kernel_rfl
theorem JK {a b:Int} {d:D} {h:Hh} (k:itm d=true) (c:inR a b d=true):aB [d,.int a,.int b] h=.ok .non h:=by simp[aB,aY,nk k,c]
theorem Jn {a b:Int} {d:D} {h:Hh} (k:itm d=true) (c:inR a b d=false):aB [d,.int a,.int b] h=.err ⟨"NoNumber", []⟩ h:=by simp[aB,aY,nk k,c]
noncomputable def vt (a b:Int):List D:=[.int (a - 1),.int (b+1),.bl true,.non,.str "2", .tup [.int 2],.frl [.int 1],.bl false,.int (10 ^ 30),.edic,.int (0 - 10 ^ 30)]
noncomputable def JX (a b:Int):Prop:=∀d∈vt a b,itm d=true/\inR a b d=false
theorem BO {p:Pen} {a b:Int} {h:Hh} (ob:JX a b):∃d,cM [.ref h.length,.int a,.int b] (h++[.lst (dX p)])=.ok d (h++[.lst (dX (jh p 11))])/\itm d=true/\inR a b d=false:=by
 obtain⟨k,ek,hk⟩:=Bw p 11 (by decide)
 have hk':k<(vt a b).length:=by show k<11;omega
 have s1:sml 10=true:=by decide +kernel
 refine⟨(vt a b)[k],?_,ob _ (List.getElem_mem hk')⟩
 have e:∀H:Hh,ixK (vt a b) (k:Int) H=.ok (vt a b)[k] H:=fun H=>dZ rfl (List.getElem?_eq_getElem hk')
 have e2:∀H:Hh,ixK [.int (a - 1),.int (b+1),.bl true,.non,.str "2", .tup [.int 2],.frl [.int 1],.bl false,.int (10 ^ 30),.edic,.int (0 - 10 ^ 30)] (k:Int) H=.ok (vt a b)[k] H:=e
 generalize (vt a b)[k]=D0 at e2
 generalize hX:(10:Int) ^ 30=X at e2
 rw[Int.zero_sub] at e2
 simp[cM,aY,ek,s1,hX,e2]
noncomputable def ch:Nat->Nat->Nat
 | _,0=>1
 | 0,_+1=>0
 | n+1,k+1=>ch n k+ch n (k+1)
theorem FU (n:Nat):ch n 0=1:=by cases n<;>rfl
theorem uS:∀{n k:Nat},n<k->ch n k=0
 | 0,k+1,_=>rfl
 | n+1,k+1,h=>by rw[ch,uS (by omega),uS (by omega)]
theorem oA:∀(n i:Nat),ch n (i+1)*(i+1)=ch n i*(n - i)
 | 0,0=>rfl
 | 0,i+1=>by simp[ch]
 | n+1,0=>by
  have:=oA n 0
  rw[FU] at this
  show(ch n 0+ch n (0+1))*(0+1)=ch (n+1) 0*(n+1 - 0)
  rw[FU,FU]
  omega
 | n+1,i+1=>by
  by_cases h:i<=n
  ·have a:=oA n (i+1)
   have b:=oA n i
   rw[show ch (n+1) (i+1+1)=ch n (i+1)+ch n (i+1+1) from rfl,show ch (n+1) (i+1)=ch n i+ch n (i+1) from rfl]
   rw[Nat.add_mul,a,Nat.add_mul,show n+1 - (i+1)=n - i by omega,<- b]
   by_cases h2:i+1<=n
   ·rw[<- Nat.mul_add,<- Nat.mul_add]
    congr 1
    omega
   ·have:n=i:=by omega
    subst this
    rw[uS (show n<n+1 by omega)]
    simp
  ·rw[uS (show n+1<i+1 by omega),uS (show n+1<i+1+1 by omega)];simp
noncomputable def ff (x:Nat):Nat->Nat
 | 0=>1
 | t+1=>ff x t*(x - t)
noncomputable def fac:Nat->Nat
 | 0=>1
 | t+1=>fac t*(t+1)
theorem ye:∀t,0<fac t
 | 0=>by decide
 | t+1=>Nat.mul_pos (ye t) (by omega)
theorem F3 (x:Nat):∀t,ff x t=ch x t*fac t
 | 0=>by rw[FU];rfl
 | t+1=>by
  have a:=oA x t
  rw[ff,F3 x t,fac,Nat.mul_right_comm,<- a,Nat.mul_assoc,Nat.mul_comm (t+1)]
theorem Fw:∀t,t<=41->fac t<=10 ^ 60:=by decide +kernel
theorem GF (x:Nat):∀t,ff x t<=(x+1) ^ t
 | 0=>by simp[ff]
 | t+1=>by rw[ff,Nat.pow_succ];exact Nat.mul_le_mul (GF x t) (by omega)
theorem G4 {x t:Nat} (hx:x<=1000100) (ht:t<=41):sml (ff x t:Int)=true:=by
 refine xu ?_
 rw[Int.natAbs_natCast]
 refine Nat.le_trans (GF x t) (Nat.le_trans (Nat.pow_le_pow_left (show x+1<=10 ^ 7 by omega) t) (Nat.le_trans (Nat.pow_le_pow_right (by decide) ht) (by decide +kernel)))
theorem yn {t:Nat} (ht:t<=41):sml (fac t:Int)=true:=by
 refine xu ?_
 rw[Int.natAbs_natCast]
 exact Nat.le_trans (Fw t ht) (by decide +kernel)
theorem Ay {x n:Nat} {h:Hh} (hx:x<=1000100) (hn:n<=40):bX [.int x,.int n] h=.ok (.int (ch x n)) h:=by
 obtain⟨q,e⟩:=zc (tg:=gN 4) (body:=uV 2 3 (ae (au (f_ aG) (ag 2) (aj vR (ae (cC (.int 0)) (ae (au cy (ag 0) (ag 4)) aq)))) (ae (au (f_ aG) (ag 3) (au (cG aG) (ag 4) (cC (.int 1)))) aq))) n
  (fun(s:Nat × Option D)=>[some (.int x),some (.int n),some (.int (ff x s.1)),some (.int (fac s.1)),s.2]) (fun _=>h) (fun _ i=>(i+1,some (.int (i:Nat)))) (fun i s=>s.1=i) (0,none) rfl (fun i s hi hs=>⟨rfl,.inl (by
   subst hs
   have s1:=G4 hx (show s.1<=41 by omega)
   have s0:=yn (show s.1<=41 by omega)
   have mx:max 0 ((x:Int) - s.1)=((x - s.1:Nat):Int):=by omega
   have s2:sml ((x - s.1:Nat):Int)=true:=cx (by omega) (by omega)
   have s3:sml ((s.1:Int)+1)=true:=cx (by omega) (by omega)
   simp[s1,s2,s3,s0,mx]
   simp[ff,fac])⟩)
 generalize List.foldl (fun(_:Nat × Option D) i=>(i+1,some (D.int (i:Nat)))) (0,none) (List.range n)=s9 at q e
 subst e
 have z1:s9.1<=1000000:=by omega
 have z2:=ye s9.1
 have z3:(0:Int)<(fac s9.1:Int):=by omega
 have z4:=yn (show s9.1<=41 by omega)
 have z5:(ff x s9.1:Int) / (fac s9.1:Int)=(ch x s9.1:Int):=by
  rw[F3,Int.natCast_mul,Int.mul_ediv_cancel _ (by omega)]
 simp only[ff,fac] at q
 simp[bX,aY,z1] at q ⊢
 simp[q,z2,z3,z4,z5]
noncomputable def tpI (b:List Int):D:=.tup (b.map D.int)
structure Sub (m:Nat) (S:List Int):Prop where
 up:S.Pairwise (· < ·)
 inn:∀x∈S,0<=x/\x<(m:Int)
theorem Du:∀{L M:List Int},L.Pairwise (· < ·)->M.Pairwise (· < ·)->(∀x,x∈L↔x∈M)->L=M
 | [],[],_,_,_=>rfl
 | [],b::M,_,_,h=>by have:=(h b).mpr List.mem_cons_self;cases this
 | a::L,[],_,_,h=>by have:=(h a).mp List.mem_cons_self;cases this
 | a::L,b::M,s1,s2,h=>by
  obtain⟨a1,a2⟩:=List.pairwise_cons.mp s1
  obtain⟨b1,b2⟩:=List.pairwise_cons.mp s2
  have e:a=b:=by
   rcases List.mem_cons.mp ((h a).mp List.mem_cons_self) with z | z
   ·exact z
   ·rcases List.mem_cons.mp ((h b).mpr List.mem_cons_self) with y | y
    ·exact y.symm
    ·have:=b1 a z;have:=a1 b y;omega
  subst e
  congr 1
  refine Du a2 b2 fun x=>⟨fun hx=>?_,fun hx=>?_⟩
  ·rcases List.mem_cons.mp ((h x).mp (List.mem_cons_of_mem _ hx)) with z | z
   ·have:=a1 x hx;omega
   ·exact z
  ·rcases List.mem_cons.mp ((h x).mpr (List.mem_cons_of_mem _ hx)) with z | z
   ·have:=b1 x hx;omega
   ·exact z
theorem yt {n:Nat} {fl:Nat->Bool}:(aW n fl).Pairwise (· < ·):=by
 unfold aW
 rw[List.pairwise_map]
 exact(List.pairwise_lt_range.filter _).imp fun h=>by omega
theorem yd {n:Nat} {fl:Nat->Bool} {x:Int}:x∈aW n fl↔∃i:Nat,i<n - 1/\fl i=true/\x=i:=by
 unfold aW
 constructor
 ·intro h
  obtain⟨i,hi,rfl⟩:=List.mem_map.mp h
  obtain⟨a,b⟩:=List.mem_filter.mp hi
  exact⟨i,List.mem_range.mp a,b,rfl⟩
 ·rintro⟨i,a,b,rfl⟩
  exact List.mem_map.mpr ⟨i,List.mem_filter.mpr ⟨List.mem_range.mpr a,b⟩,rfl⟩
theorem Dh {n:Nat} {S:List Int} (s:Sub (n - 1) S):S=aW n fun i=>S.any (· == (i:Int)):=by
 refine Du s.up yt fun x=>?_
 rw[yd]
 constructor
 ·intro h
  have:=s.inn x h
  exact⟨x.toNat,by omega,List.any_eq_true.mpr ⟨x,h,by simp;omega⟩,by omega⟩
 ·rintro⟨i,a,b,rfl⟩
  obtain⟨y,hy,e⟩:=List.any_eq_true.mp b
  exact beq_iff_eq.mp e ▸ hy
theorem wz (n:Nat) (fl:Nat->Bool):Sub (n - 1) (aW n fl):=⟨yt,fun x hx=>by
 obtain⟨i,a,_,rfl⟩:=yd.mp hx;omega⟩
noncomputable def zQ (a:Int):List Int->List Int
 | []=>[a]
 | x::r=>a::zQ (a+x) r
noncomputable def wU:List Int->List Int
 | []=>[0]
 | x::r=>(x+(wU r).headD 0)::wU r
noncomputable def xr (n:Nat) (S:List Int):Nat->List Int
 | 0=>[1]
 | l+1=>if S.any (· == (n:Int) - 1 - ((l:Int)+1)) then zQ 0 (xr n S l) else wU (xr n S l)
noncomputable def nJ (n:Nat) (S:List Int):Int:=(xr n S (n - 1)).sum
noncomputable def chB (n k:Nat):Nat:=65537 ^ n / 65536 ^ k % 65536
theorem Hw:∀n,n<13->∀k,k<14->chB n k=ch n k:=by decide +kernel
noncomputable def sgP (k:Nat):Int:=if k % 2=0 then 1 else -1
noncomputable def E4 (n:Nat) (ends w:List Int) (a:Nat):Int:=
 (List.range a).foldl (fun t j=>t+sgP (a - j - 1)*gI w j*(chB ((n:Int) - gI ends j - 1).toNat (gI ends a - gI ends j).toNat:Int)) (sgP a*(chB n (gI ends a+1).toNat:Int))
noncomputable def eG (n:Nat) (ends:List Int):Nat->List Int
 | 0=>[]
 | a+1=>eG n ends a++[E4 n ends (eG n ends a) a]
noncomputable def GK (n:Nat) (S:List Int):Int:=gI (eG n (S++[(n:Int) - 1]) (S.length+1)) S.length
noncomputable def subs:Nat->List (List Int)
 | 0=>[[]]
 | m+1=>subs m++(subs m).map (·++[(m:Int)])
noncomputable def okW (n:Nat) (w:List Int) (S:List Int):Bool:=Nat.beq (nJ n S).natAbs (gI w S.length).natAbs&&decide (nJ n S=gI w S.length)&&w.all fun x=>Nat.ble x.natAbs 1000000000000000
noncomputable def okJ (n:Nat) (S:List Int):Bool:=okW n (eG n (S++[(n:Int) - 1]) (S.length+1)) S
theorem HK:∀n,n<10->1<=n->(subs (n - 1)).all (okJ n)=true:=by decide +kernel
theorem Fp:(subs 9).all (okJ 10)=true:=by decide +kernel
theorem FG:(subs 10).all (okJ 11)=true:=by decide +kernel
theorem Em:(subs 11).all (okJ 12)=true:=by decide +kernel
theorem Sub.mem:∀{m:Nat} {S:List Int},Sub m S->S∈subs m
 | 0,[],_=>by simp[subs]
 | 0,x::r,s=>by have:=s.inn x (by simp);omega
 | m+1,S,s=>by
  by_cases z:((m:Nat):Int)∈S
  ·obtain⟨a,b,e⟩:=List.append_of_mem z
   have hb:b=[]:=by
    cases b with
    | nil=>rfl
    | cons y b=>
     have up:=s.up
     rw[e] at up
     have:=(List.pairwise_append.mp up).2.1
     have h1:=(List.pairwise_cons.mp this).1 y (by simp)
     have h2:=s.inn y (by rw[e];simp)
     omega
   subst hb
   have sa:Sub m a:=⟨by have:=s.up;rw[e] at this;exact(List.pairwise_append.mp this).1,fun x hx=>by
    have h1:=s.inn x (by rw[e];simp[hx])
    have up:=s.up
    rw[e] at up
    have h2:=(List.pairwise_append.mp up).2.2 x hx (m:Int) (by simp)
    omega⟩
   rw[subs,e]
   exact List.mem_append_right _ (List.mem_map.mpr ⟨a,sa.mem,rfl⟩)
  ·rw[subs]
   refine List.mem_append_left _ (Sub.mem (m:=m) ⟨s.up,fun x hx=>?_⟩)
   have h1:=s.inn x hx
   have:x≠(m:Int):=fun e=>z (e ▸ hx)
   omega
theorem Sub.len {m:Nat} {S:List Int} (s:Sub m S):S.length<=m:=by
 have key:∀(m:Nat),∀T∈subs m,T.length<=m:=by
  intro m
  induction m with
  | zero=>intro T h;simp[subs] at h;subst h;simp
  | succ m ih=>
   intro T h
   rcases List.mem_append.mp h with h | h
   ·have:=ih T h;omega
   ·obtain⟨U,hU,rfl⟩:=List.mem_map.mp h
    have:=ih U hU
    simp;omega
 exact key m S s.mem
theorem C_ {n:Nat} {S:List Int} (h1:1<=n) (hn:n<=12) (s:Sub (n - 1) S):okJ n S=true:=by
 have m:=s.mem
 by_cases z:n<10
 ·exact List.all_eq_true.mp (HK n z h1) S m
 ·have:n=10\/n=11\/n=12:=by omega
  rcases this with rfl | rfl | rfl
  ·exact List.all_eq_true.mp Fp S m
  ·exact List.all_eq_true.mp FG S m
  ·exact List.all_eq_true.mp Em S m
theorem EN {n:Nat} {S:List Int} (h1:1<=n) (hn:n<=12) (s:Sub (n - 1) S):nJ n S=GK n S/\∀x∈eG n (S++[(n:Int) - 1]) (S.length+1),x.natAbs<=1000000000000000:=by
 have h:=C_ h1 hn s
 unfold okJ okW at h
 simp only[Bool.and_eq_true,decide_eq_true_eq,List.all_eq_true] at h
 exact⟨h.1.2,fun x hx=>Nat.le_of_ble_eq_true (h.2 x hx)⟩
theorem ym:∀(f:List Int) (a:Int),zQ a f=(List.range (f.length+1)).map fun k=>a+(f.take k).sum
 | [],a=>by simp[zQ]
 | x::r,a=>by
  rw[zQ,ym r (a+x),show(x::r).length+1=(r.length+1)+1 from rfl,List.range_succ_eq_map (n:=r.length+1)]
  simp[Function.comp_def,Int.add_assoc]
theorem yJ:∀(f:List Int),wU f=(List.range (f.length+1)).map fun k=>(f.drop k).sum
 | []=>by simp[wU]
 | x::r=>by
  rw[wU,yJ r,List.length_cons,List.range_succ_eq_map (n:=r.length+1),List.map_cons,List.map_map]
  simp[List.range_succ_eq_map]
theorem lp {x y:Int} {h:Hh} (h0:0<=x) (hx:x<=12) (h1:0<=y) (hy:y<=13):bX [.int x,.int y] h=.ok (.int (chB x.toNat y.toNat)) h:=by
 have q:=Ay (x:=x.toNat) (n:=y.toNat) (h:=h) (by omega) (by omega)
 rw[Int.toNat_of_nonneg h0,Int.toNat_of_nonneg h1] at q
 rw[q,Hw x.toNat (by omega) y.toNat (by omega)]
theorem yT (x y:Nat):sml (chB x y:Int)=true:=by
 refine cx (by omega) ?_
 have:chB x y<65536:=Nat.mod_lt _ (by decide)
 omega
theorem Ge (a:Nat):(1:Int) - 2*((a:Int) % 2)=sgP a:=by unfold sgP;split<;>omega
theorem HW {a j:Nat} (h:j<a):(1:Int) - 2*(((a:Int) - (j:Int) - 1) % 2)=sgP (a - j - 1):=by rw[<- Ge];omega
theorem DA (a:Nat):sml (sgP a)=true:=by unfold sgP;split<;>exact cx (by decide) (by decide)
theorem ly (n:Nat) (E:List Int):∀a,(eG n E a).length=a
 | 0=>rfl
 | a+1=>by rw[eG,List.length_append,ly n E a];rfl
theorem vO (n:Nat) (E:List Int) {x:Int}:∀{a b:Nat},a<=b->x∈eG n E a->x∈eG n E b
 | a,0,h,m=>by have:a=0:=by omega
               subst this;exact m
 | a,b+1,h,m=>by
  by_cases z:a=b+1
  ·subst z;exact m
  ·rw[eG];exact List.mem_append_left _ (vO n E (by omega) m)
noncomputable def FI (E w:List Int) (n a:Nat):Int->Nat->Int:=fun t j=>t+sgP (a - j - 1)*gI w j*(chB ((n:Int) - gI E j - 1).toNat (gI E a - gI E j).toNat:Int)
noncomputable def BJ:MS:=(aE (uV 8 9 (ae (au cy (cC (.int 1)) (au (f_ aG) (cC (.int 2)) (au oh (au cy (au cy (ag 4) (ag 7)) (cC (.int 1))) (cC (.int 2))))) (ae (au dIx (ag 2) (ag 7)) aq)))
  (bC 6 (au (cG aG) (ag 6) (au (f_ aG) (au (f_ aG) (ag 8) (au dIx (ag 3) (ag 7))) (aj bX (ae (au cy (au cy (ag 0) (ag 9)) (cC (.int 1))) (ae (au cy (ag 5) (ag 9)) aq)))))))
structure Ends (n:Nat) (E:List Int):Prop where
 up:∀i j,i<j->j<E.length->gI E i<gI E j
 inn:∀i,i<E.length->0<=gI E i/\gI E i<n
theorem Js {n a:Nat} {S E w:List Int} {t0:Int} {d7 d8 d9:Option D} {h:Hh} (hn:n<=12) (en:Ends n E) (ha:a<E.length) (hw:w.length=a) (hb:∀x∈w,x.natAbs<=1000000000000000) :
  ∃e7 e8 e9,eE (gN 7) BJ (bW 0 a) [some (.int n),some (.tup (S.map D.int)),some (.frl (E.map D.int)),some (.ref h.length),some (.int a),some (.int (gI E a)),some (.int t0),d7,d8,d9] (h++[.lst (w.map D.int)]) =
   .ok (.nx [some (.int n),some (.tup (S.map D.int)),some (.frl (E.map D.int)),some (.ref h.length),some (.int a),some (.int (gI E a)),some (.int ((List.range a).foldl (FI E w n a) t0)),e7,e8,e9]) (h++[.lst (w.map D.int)]):=by
 obtain⟨q,e⟩:=zc (tg:=gN 7) (body:=BJ) a
  (fun(s:Int × Option D × Option D × Option D)=>[some (.int n),some (.tup (S.map D.int)),some (.frl (E.map D.int)),some (.ref h.length),some (.int a),some (.int (gI E a)),some (.int s.1),s.2.1,s.2.2.1,s.2.2.2]) (fun _=>h++[.lst (w.map D.int)])
  (fun s j=>(FI E w n a s.1 j,some (.int j),some (.int (sgP (a - j - 1))),some (.int (gI E j)))) (fun i s=>s.1=(List.range i).foldl (FI E w n a) t0) (t0,d7,d8,d9) rfl (fun i s hi hs=>⟨by rw[List.range_succ,List.foldl_append,<- hs];rfl,.inl (by
   have c1:=en.inn i (by omega)
   have c2:=en.inn a ha
   have c3:=en.up i a hi ha
   have l1:=lp (x:=(n:Int) - gI E i - 1) (y:=gI E a - gI E i) (h:=h++[.lst (w.map D.int)]) (by omega) (by omega) (by omega) (by omega)
   have i1:=lY (h:=h++[.lst (w.map D.int)]) (ns:=E) (i:=(i:Int)) (j:=i) rfl (by omega)
   have i2:=lY (h:=h++[.lst (w.map D.int)]) (ns:=w) (i:=(i:Int)) (j:=i) rfl (by omega)
   have b1:=hb _ (By (ns:=w) (j:=i) (by omega))
   have s1:=DA (a - i - 1)
   have s2:sml (gI w i)=true:=cx (by omega) (by omega)
   have s3:sml (sgP (a - i - 1)*gI w i)=true:=by
    unfold sgP;split
    ·rw[Int.one_mul];exact s2
    ·rw[Int.neg_one_mul];exact cx (by omega) (by omega)
   have s4:=yT ((n:Int) - gI E i - 1).toNat (gI E a - gI E i).toNat
   have fi:FI E w n a s.1 i=s.1+sgP (a - i - 1)*gI w i*(chB ((n:Int) - gI E i - 1).toNat (gI E a - gI E i).toNat:Int):=rfl
   generalize chB ((n:Int) - gI E i - 1).toNat (gI E a - gI E i).toNat=cc at l1 s4 fi
   have g:=HW (a:=a) (j:=i) hi
   have s5:sml 2=true:=by decide +kernel
   have s6:sml (((a:Int) - (i:Int) - 1) % 2)=true:=cx (by omega) (by omega)
   simp[BJ,l1,i1,i2,s1,s2,s3,s4,s5,s6,g,fi])⟩)
 generalize List.foldl _ (t0,d7,d8,d9) _=s9 at q e
 obtain⟨t9,a9,b9,c9⟩:=s9
 dsimp only at q e
 exact⟨a9,b9,c9,by rw[q,e]⟩
noncomputable def BK:MS:=(aE (bC 6 (au (f_ aG) (au cy (cC (.int 1)) (au (f_ aG) (cC (.int 2)) (au oh (ag 4) (cC (.int 2))))) (aj bX (ae (ag 0) (ae (au (cG aG) (ag 5) (cC (.int 1))) aq)))))
  (aE (fq (iz iN (ae (ag 4) aq)) (gN 7) BJ)
  (eB (j1 fC (ag 3) (ae (ag 6) aq)))))
theorem JD {n a:Nat} {S E:List Int} {d4 d5 d6 d7 d8 d9:Option D} {h:Hh} (hn:n<=12) (en:Ends n E) (hl:E.length<=12) (ha:a<E.length) (hb:∀x∈eG n E a,x.natAbs<=1000000000000000) :
  ∃e6 e7 e8 e9,(gT2 4 5 (.tup [.int a,.int (gI E a)]) [some (.int n),some (.tup (S.map D.int)),some (.frl (E.map D.int)),some (.ref h.length),d4,d5,d6,d7,d8,d9] (h++[.lst ((eG n E a).map D.int)])).bind BK =
   .ok (.nx [some (.int n),some (.tup (S.map D.int)),some (.frl (E.map D.int)),some (.ref h.length),some (.int a),some (.int (gI E a)),e6,e7,e8,e9]) (h++[.lst ((eG n E (a+1)).map D.int)]):=by
 have c2:=en.inn a ha
 have l1:=lp (x:=(n:Int)) (y:=gI E a+1) (h:=h++[.lst ((eG n E a).map D.int)]) (by omega) (by omega) (by omega) (by omega)
 have g:=Ge a
 have s1:=DA a
 have s4:=yT n (gI E a+1).toNat
 have s5:sml 2=true:=by decide +kernel
 have s6:sml ((a:Int) % 2)=true:=cx (by omega) (by omega)
 have z1:a<=1000000:=by omega
 have z2:a<1000000:=by omega
 obtain⟨e7,e8,e9,q⟩:=Js (S:=S) (E:=E) (w:=eG n E a) (t0:=sgP a*(chB n (gI E a+1).toNat:Int)) (d7:=d7) (d8:=d8) (d9:=d9) (h:=h) hn en ha (ly n E a) hb
 refine⟨some (.int (E4 n E (eG n E a) a)),e7,e8,e9,?_⟩
 have wl:=ly n E a
 simp[BK,l1,g,s1,s4,s5,s6,z1,z2,q,wl]
 refine⟨rfl,?_⟩
 rw[eG,List.map_append]
 rfl
theorem Fs {n:Nat} {S E:List Int} {h:Hh} (hn:n<=12) (en:Ends n E) (hl:E.length<=12) (hb:∀x∈eG n E E.length,x.natAbs<=1000000000000000) :
  ∃e4 e5 e6 e7 e8 e9,eE (gT2 4 5) BK (jj (E.map D.int)) [some (.int n),some (.tup (S.map D.int)),some (.frl (E.map D.int)),some (.ref h.length),none,none,none,none,none,none] (h++[.lst []]) =
   .ok (.nx [some (.int n),some (.tup (S.map D.int)),some (.frl (E.map D.int)),some (.ref h.length),e4,e5,e6,e7,e8,e9]) (h++[.lst ((eG n E E.length).map D.int)]):=by
 have key:∀(k j:Nat) (d4 d5 d6 d7 d8 d9:Option D),j+k=E.length->∃e4 e5 e6 e7 e8 e9,eE (gT2 4 5) BK (((List.range k).map fun i=>j+i).map fun(i:Nat)=>D.tup [.int i,.int (gI E i)]) [some (.int n),some (.tup (S.map D.int)),some (.frl (E.map D.int)),some (.ref h.length),d4,d5,d6,d7,d8,d9] (h++[.lst ((eG n E j).map D.int)]) =
   .ok (.nx [some (.int n),some (.tup (S.map D.int)),some (.frl (E.map D.int)),some (.ref h.length),e4,e5,e6,e7,e8,e9]) (h++[.lst ((eG n E E.length).map D.int)]):=by
  intro k
  induction k with
  | zero=>intro j d4 d5 d6 d7 d8 d9 e;have:j=E.length:=by omega
          subst this;exact⟨_,_,_,_,_,_,rfl⟩
  | succ k ih=>
   intro j d4 d5 d6 d7 d8 d9 e
   obtain⟨e6,e7,e8,e9,q⟩:=JD (S:=S) (d4:=d4) (d5:=d5) (d6:=d6) (d7:=d7) (d8:=d8) (d9:=d9) (h:=h) (a:=j) hn en hl (by omega) (fun x hx=>hb x (vO n E (by omega) hx))
   obtain⟨f4,f5,f6,f7,f8,f9,q2⟩:=ih (j+1) (some (.int j)) (some (.int (gI E j))) e6 e7 e8 e9 (by omega)
   refine⟨f4,f5,f6,f7,f8,f9,?_⟩
   rw[List.range_succ_eq_map,List.map_cons,List.map_cons,List.map_map,List.map_map,ip,<- cH,Nat.add_zero,q,bS,uT,<- q2]
   congr 1
   rw[List.map_map]
   apply List.map_congr_left
   intro i _
   simp only[Function.comp_apply,Nat.succ_eq_add_one]
   rw[show j+(i+1)=j+1+i by omega]
 obtain⟨e4,e5,e6,e7,e8,e9,q⟩:=key E.length 0 none none none none none none (by omega)
 refine⟨e4,e5,e6,e7,e8,e9,?_⟩
 rw[zF,<- q]
 simp[eG]
theorem Bl {n:Nat} {S:List Int} (h1:1<=n) (s:Sub (n - 1) S):Ends n (S++[(n:Int) - 1]):=by
 have up:(S++[(n:Int) - 1]).Pairwise (· < ·):=by
  rw[List.pairwise_append]
  exact⟨s.up,by simp,fun x hx y hy=>by
   have:=(s.inn x hx).2
   simp at hy;omega⟩
 refine⟨fun i j hij hj=>?_,fun i hi=>?_⟩
 ·rw[gH hj,gH (by omega)]
  exact List.pairwise_iff_getElem.mp up i j (by omega) hj hij
 ·have m:=By hi
  rcases List.mem_append.mp m with m | m
  ·have:=s.inn _ m;omega
  ·simp at m;omega
theorem Dl {m:Nat} {S:List Int} (s:Sub m S):sortI S=S:=
 (jJ (sortI_perm S).symm (s.up.imp fun h=>Int.le_of_lt h) (i9 S)).symm
theorem zo {n:Nat} {S:List Int} {h:Hh} (h1:1<=n) (hn:n<=12) (s:Sub (n - 1) S) (w:Wf h):eA [.int n,.tup (S.map D.int)] h=.ok (.int (nJ n S)) h:=by
 obtain⟨e1,e2⟩:=EN h1 hn s
 have sl:=s.len
 have le:(S++[(n:Int) - 1]).length=S.length+1:=by simp
 obtain⟨e4,e5,e6,e7,e8,e9,q⟩:=Fs (S:=S) (h:=h) hn (Bl h1 s) (by omega) (by rw[le];exact e2)
 rw[le] at q
 have z1:S.length<64:=by omega
 have z2:S.length+1<=1000000:=by omega
 have so:=Dl s
 have mp:S.map D.int++[D.int ((n:Int) - 1)]=(S++[(n:Int) - 1]).map D.int:=by simp
 have ix:ixK ((eG n (S++[(n:Int) - 1]) (S.length+1)).map D.int) (-1) (h++[.lst ((eG n (S++[(n:Int) - 1]) (S.length+1)).map D.int)])=.ok (.int (GK n S)) (h++[.lst ((eG n (S++[(n:Int) - 1]) (S.length+1)).map D.int)]):=by
  unfold GK
  have wl:=ly n (S++[(n:Int) - 1]) S.length
  rw[eG,List.map_append]
  rw[show([E4 n (S++[(n:Int) - 1]) (eG n (S++[(n:Int) - 1]) S.length) S.length].map D.int)=[D.int (E4 n (S++[(n:Int) - 1]) (eG n (S++[(n:Int) - 1]) S.length) S.length)] from rfl,pY]
  congr 2
  unfold gI
  rw[List.getD_eq_getElem?_getD,List.getElem?_append_right (by omega),wl]
  simp
 have ex:eM h (.int (nJ n S)) (h++[.lst ((eG n (S++[(n:Int) - 1]) (S.length+1)).map D.int)])=.ok (.int (nJ n S)) h:=p8 w rfl
 rw[<- e1] at ix
 have eq:eA=fun ds h=>((cu 10 (aE (bC 2 (au (cG aG) (aj (pX aG) (ae (ag 1) aq)) (aj (dH aG) (ae (au cy (ag 0) (cC (.int 1))) aq)))) (aE (bC 3 (aj (dH wN) aq)) (aE (fq (tP (ag 2)) (gT2 4 5) BK) (bD (au dIx (ag 3) (cUn lq (cC (.int 1))))))))) ds h).bind (eM h):=rfl
 rw[eq]
 simp[aY,z1,z2,so,mp,q,ix,ex,-List.map_append]
theorem yS (f:Nat->Int) {k:Nat}:∀{m:Nat},k<=m->sg (fun r=>if decide ((r:Int)<(k:Int))=true then f r else 0) m=sg f k
 | 0,h=>by have:k=0:=by omega
           subst this;rfl
 | m+1,h=>by
  by_cases c:k=m+1
  ·subst c
   exact lE fun i hi=>by rw[if_pos (decide_eq_true (by omega))]
  ·rw[pP,yS f (k:=k) (m:=m) (by omega),if_neg (by simp;omega)];omega
theorem zj (f:Nat->Int) {k:Nat}:∀{m:Nat},k<=m->sg (fun r=>if decide ((r:Int)<(k:Int))=false then f r else 0) m=sg f m - sg f k
 | 0,h=>by have:k=0:=by omega
           subst this;rfl
 | m+1,h=>by
  by_cases c:k=m+1
  ·subst c
   rw[oE fun i hi=>by rw[if_neg (by simp;omega)]];omega
  ·rw[pP,pP,zj f (k:=k) (m:=m) (by omega),if_pos (by simp;omega)];omega
theorem zg (f:Nat->Int) {m k:Nat} (h:k<=m):(((List.range m).map f).take k).sum=sg f k:=by
 rw[<- List.map_take,List.take_range,Nat.min_eq_left h];rfl
theorem El (f:Nat->Int) {m k:Nat} (h:k<=m):(((List.range m).map f).drop k).sum=sg f m - sg f k:=by
 have a:=zg f h
 have b:((List.range m).map f).sum=sg f m:=rfl
 rw[<- List.take_append_drop k ((List.range m).map f),List.sum_append,a] at b
 omega
theorem Co {n:Nat} {fl:Nat->Bool}:∀m,m+1<=n->xr n (aW n fl) m=(List.range (m+1)).map fun(r:Nat)=>Jr n fl m r
 | 0,_=>rfl
 | m+1,h=>by
  have ih:=Co (n:=n) (fl:=fl) m (by omega)
  have ap:(aW n fl).any (· == (n:Int) - 1 - ((m:Int)+1))=fl (n - 2 - m):=by
   have:=wa (n:=n) (fl:=fl) (p:=n - 2 - m) (by omega)
   rw[<- this]
   congr 1
   funext x
   congr 1
   omega
  have e:xr n (aW n fl) (m+1)=if (aW n fl).any (· == (n:Int) - 1 - ((m:Int)+1)) then zQ 0 (xr n (aW n fl) m) else wU (xr n (aW n fl) m):=rfl
  have jr:∀r:Nat,Jr n fl (m+1) r=sg (fun s=>if decide ((s:Int)<(r:Int))=fl (n - 2 - m) then Jr n fl m s else 0) (m+1):=fun r=>rfl
  rw[e,ap]
  have ll:((List.range (m+1)).map fun(r:Nat)=>Jr n fl m r).length=m+1:=by simp
  cases hf:fl (n - 2 - m) with
  | true=>
   rw[if_pos rfl,ym,ih,ll]
   refine List.map_congr_left fun k hk=>?_
   have hk:=List.mem_range.mp hk
   rw[jr,hf,zg (fun(r:Nat)=>Jr n fl m r) (by omega),yS (fun(r:Nat)=>Jr n fl m r) (by omega)];omega
  | false=>
   rw[if_neg Bool.false_ne_true,yJ,ih,ll]
   refine List.map_congr_left fun k hk=>?_
   have hk:=List.mem_range.mp hk
   rw[jr,hf,El (fun(r:Nat)=>Jr n fl m r) (by omega),zj (fun(r:Nat)=>Jr n fl m r) (by omega)]
theorem EY {n:Nat} {fl:Nat->Bool} (h1:1<=n):nJ n (aW n fl)=jcV n fl []:=by
 unfold nJ
 rw[Co (n - 1) (by omega),show n - 1+1=n by omega]
 rfl
theorem y_ {f:Nat->Int}:∀{n r:Nat},(∀i,i<n->0<=f i)->r<n->f r<=sg f n
 | 0,r,_,h=>by omega
 | n+1,r,p,h=>by
  rw[pP]
  have nn:∀k,k<=n->0<=sg f k:=fun k hk=>by
   induction k with
   | zero=>exact Int.le_refl _
   | succ k ih=>rw[pP];have:=ih (by omega);have:=p k (by omega);omega
  by_cases c:r=n
  ·subst c;have:=nn r (Nat.le_refl _);omega
  ·have:=y_ (f:=f) (n:=n) (r:=r) (fun i hi=>p i (by omega)) (by omega)
   have:=p n (by omega);omega
theorem CJ {n:Nat} {fl:Nat->Bool}:∀m,∃r:Nat,r<=m/\0<Jr n fl m r
 | 0=>⟨0,Nat.le_refl _,by show(0:Int)<1;omega⟩
 | m+1=>by
  obtain⟨r,hr,hp⟩:=CJ (n:=n) (fl:=fl) m
  cases hf:fl (n - 2 - m) with
  | true=>
   refine⟨m+1,Nat.le_refl _,?_⟩
   have g:=y_ (f:=fun r=>if decide ((r:Int)<((m+1:Nat):Int))=fl (n - 2 - m) then Jr n fl m r else 0) (n:=m+1) (r:=r) (fun i _=>by have:=(rL n fl m i).1;split<;>omega) (by omega)
   rw[if_pos (by rw[hf,decide_eq_true (by omega)])] at g
   exact Int.lt_of_lt_of_le hp g
  | false=>
   refine⟨0,Nat.zero_le _,?_⟩
   have g:=y_ (f:=fun r=>if decide ((r:Int)<((0:Nat):Int))=fl (n - 2 - m) then Jr n fl m r else 0) (n:=m+1) (r:=r) (fun i _=>by have:=(rL n fl m i).1;split<;>omega) (by omega)
   rw[if_pos (by rw[hf,decide_eq_false (by omega)])] at g
   exact Int.lt_of_lt_of_le hp g
theorem Hd {n:Nat} {fl:Nat->Bool} (h1:1<=n):0<jcV n fl []:=by
 obtain⟨r,hr,hp⟩:=CJ (n:=n) (fl:=fl) (n - 1)
 have g:=y_ (f:=fun r=>Jr n fl (n - 1) r) (n:=n) (r:=r) (fun i _=>(rL n fl _ _).1) (by omega)
 exact Int.lt_of_lt_of_le hp g
noncomputable def GB:MS:=(aE (eL (lG (aU kU (aj cJ (ae (ag 3) (ae (ag 2) (ae (au cy (ag 0) (cC (.int 2))) aq)))))) (bD (cC (.bl false))) cL) (bC 2 (au (cG aG) (ag 3) (cC (.int 1)))))
noncomputable def sgB (m:Int):Int->List D->Bool
 | _,[]=>true
 | l,d::ds=>inR l m d&&sgB m (zw d+1) ds
theorem yk {n:Nat} {es:List D} {h:Hh}:∀(ds:List D) (l:Int) (s:Option D),(∀d∈ds,itm d=true)->∃l' s',(sgB ((n:Int) - 2) l ds=true->eE (gN 3) GB ds [some (.int n),some (.tup es),some (.int l),s] h=.ok (.nx [some (.int n),some (.tup es),some (.int l'),s']) h)/\(sgB ((n:Int) - 2) l ds=false->eE (gN 3) GB ds [some (.int n),some (.tup es),some (.int l),s] h=.ok (.rt (.bl false)) h)
 | [],l,s,_=>⟨l,s,fun _=>rfl,fun z=>nomatch z⟩
 | d::ds,l,s,k=>by
  obtain⟨l',s',e1,e2⟩:=yk (n:=n) (es:=es) (h:=h) ds (zw d+1) (some d) (fun x hx=>k x (List.mem_cons_of_mem _ hx))
  have w:=nk (a:=l) (b:=(n:Int) - 2) (h:=h) (k d List.mem_cons_self)
  have b1:inR l ((n:Int) - 2) d=true->GB [some (.int n),some (.tup es),some (.int l),some d] h=.ok (.nx [some (.int n),some (.tup es),some (.int (zw d+1)),some d]) h:=fun c=>by
   have ei:=sE (tK c)
   rw[ei] at w c ⊢
   rw[c] at w
   generalize zw d=v at *
   have hv:zw (D.int v)=v:=rfl
   rw[hv]
   simp[GB,w]
  have b2:inR l ((n:Int) - 2) d=false->GB [some (.int n),some (.tup es),some (.int l),some d] h=.ok (.rt (.bl false)) h:=fun c=>by simp[GB,w,c]
  refine⟨l',s',fun z=>?_,fun z=>?_⟩
  ·unfold sgB at z
   rw[Bool.and_eq_true] at z
   rw[ip]
   simp only[AF,bS,List.set,b1 z.1,uT,e1 z.2]
  ·rw[ip]
   simp only[AF,bS,List.set]
   cases c:inR l ((n:Int) - 2) d with
   | false=>rw[b2 c];simp
   | true=>
    unfold sgB at z
    rw[c,Bool.true_and] at z
    simp only[b1 c,bS,uT,e2 z]
noncomputable def stB (n:Nat):D->Bool
 | .tup ds=>sgB ((n:Int) - 2) 0 ds
 | _=>false
theorem j_ {a b i:Int} (h:¬ (a<=i/\i<=b)):inR a b (.int i)=false:=decide_eq_false h
theorem kO {a b i:Int} (h:a<=i/\i<=b):inR a b (.int i)=true:=decide_eq_true h
noncomputable def Bad (a b:Int) (d:D):Prop:=itm d=true/\inR a b d=false
noncomputable def Fit (a b:Int) (d:D):Prop:=itm d=true/\inR a b d=true
noncomputable abbrev XN:Xc:=⟨"NoNumber", []⟩
noncomputable abbrev XS:Xc:=⟨"NoSet", []⟩
theorem Am {a b:Int} {d:D} {h:Hh} (c:Bad a b d):aB [d,.int a,.int b] h=.err XN h:=Jn c.1 c.2
theorem Cm {a b:Int} {d:D} {h:Hh} (c:Fit a b d):aB [d,.int a,.int b] h=.ok .non h:=JK c.1 c.2
theorem Jc:cf=cu 4 (aE (eB (aj aB (ae (up (ag 0)) (ae (up (cC (.int 1))) (ae (up (cC (.int 12))) aq))))) (aE (up (eL (lG (aU kU (cUn (qT "tuple") (ag 1)))) (bD (cC (.bl false))) cL)) (aE (up (bC 2 (cC (.int 0)))) (aE (up (fq (cT (ag 1)) (gN 3) GB)) (up (bD (cC (.bl true)))))))):=rfl
theorem BH {n:Nat} {d:D} {h:Hh} (h1:1<=n) (hn:n<=12) (t:Th d):cf [.int n,d] h=.ok (.bl (stB n d)) h:=by
 have nn:=Cm (a:=1) (b:=12) (d:=.int (n:Int)) (h:=h) ⟨rfl,kO (by omega)⟩
 rw[Jc]
 by_cases nt:∀ds,d≠.tup ds
 ·have e1:=HL (h:=h) t.it nt
  have e2:stB n d=false:=by cases d<;>first | rfl | exact absurd rfl (nt _)
  rw[e2]
  simp[aY,up,nn,e1]
 ·obtain⟨ds,rfl⟩:∃ds,d=.tup ds:=Classical.byContradiction fun z=>nt fun ds e=>z ⟨ds,e⟩
  obtain⟨k,kl⟩:=t.its ds rfl
  obtain⟨l',s',q1,q2⟩:=yk (n:=n) (es:=ds) (h:=h) ds 0 none k
  have c4:ds.length<=1000000:=by omega
  show _=R.ok (D.bl (sgB ((n:Int) - 2) 0 ds)) h
  cases c:sgB ((n:Int) - 2) 0 ds with
  | true=>simp[aY,up,nn,c4,q1 c]
  | false=>simp[aY,up,nn,c4,q2 c]
theorem LO {n:Nat} {d:D} {h:Hh} (h1:1<=n) (hn:n<=12) (t:Th d) (c:stB n d=false):aK [.int n,d] h=.err XS h:=by
 simp[aK,aY,up,BH h1 hn t,c]
theorem K4 {n d:D} {h:Hh} (c:Bad 1 12 n):aK [n,d] h=.err XN h:=by
 simp[aK,cf,aY,up,Am c]
theorem wQ {m:Int}:∀{ds:List D} {l:Int},0<=l->sgB m l ds=true->∀e∈ds,inR l m e=true
 | [],_,_,_,e,h=>by cases h
 | d::ds,l,l0,s,e,h=>by
  unfold sgB at s
  rw[Bool.and_eq_true] at s
  rcases List.mem_cons.mp h with rfl | h
  ·exact s.1
  ·have ei:=sE (tK s.1)
   have s1:=s.1
   rw[ei] at s1
   have s1:=of_decide_eq_true s1
   have:=wQ (by omega) s.2 e h
   have ee:=sE (tK this)
   rw[ee] at this ⊢
   have:=of_decide_eq_true this
   exact kO (by omega)
theorem yr {m:Int}:∀{xs:List Int} {l:Int} {ys:List D},sgB m l (xs.map D.int++ys)=true->∃l',(∀x∈xs,x<l')/\l<=l'/\sgB m l' ys=true
 | [],l,ys,h=>⟨l,by simp,Int.le_refl _,h⟩
 | x::xs,l,ys,h=>by
  rw[List.map_cons,List.cons_append] at h
  unfold sgB at h
  rw[Bool.and_eq_true] at h
  have a:=of_decide_eq_true h.1
  obtain⟨l',q1,q2,q3⟩:=yr (l:=x+1) h.2
  exact⟨l',fun y hy=>by
   rcases List.mem_cons.mp hy with rfl | hy
   ·omega
   ·exact q1 y hy,by omega,q3⟩
theorem wK {n:Nat}:∀{S:List Int} {l:Int},S.Pairwise (· < ·)->(∀x∈S,l<=x/\x<=(n:Int) - 2)->sgB ((n:Int) - 2) l (S.map D.int)=true
 | [],_,_,_=>rfl
 | x::S,l,p,h=>by
  obtain⟨a,b⟩:=List.pairwise_cons.mp p
  rw[List.map_cons]
  unfold sgB
  rw[Bool.and_eq_true]
  exact⟨kO (h x List.mem_cons_self),wK b fun y hy=>⟨by have:=a y hy;show x+1<=y;omega,(h y (List.mem_cons_of_mem _ hy)).2⟩⟩
theorem GI {n:Nat} {S:List Int} (hn:n<=12) (s:Sub (n - 1) S):Th (.tup (S.map D.int)):=oN (fun x hx=>by have:=s.inn x hx;exact oD this.1 (by omega)) (by have:=s.len;omega)
theorem JE {n:Nat} {S:List Int} {h:Hh} (h1:1<=n) (hn:n<=12) (s:Sub (n - 1) S):aK [.int n,.tup (S.map D.int)] h=.ok .non h:=by
 have c:stB n (.tup (S.map D.int))=true:=wK s.up fun x hx=>by have:=s.inn x hx;omega
 simp[aK,aY,up,BH h1 hn (GI hn s),c]
theorem Cz {h t:Hh} {ds:List D} {j:Nat} (w:Wf h) (el:aN (h++t) (h.length+j)=some ds) (e:ds.all (deep 7)=true):eM h (.ref (h.length+j)) (h++t)=.ok (.frl ds) h:=by
 unfold eM
 rw[List.take_left' rfl,if_pos (show h.all (nU h.length)=true from w)]
 have:gk h.length (h++t) 8 (.ref (h.length+j))=some (.frl ds):=by
  unfold gk
  have:¬ (h.length+j<h.length):=by omega
  simp only[this,if_false,el]
  rw[List.all_eq_true] at e
  rw[lD fun d hd=>iD 7 d (e d hd)];rfl
 rw[this]
theorem Dm {k:Nat} {L:List (List Int)}:(L.map tpI).all (deep (k+2))=true:=by
 rw[List.all_eq_true];intro d hd
 obtain⟨x,_,rfl⟩:=List.mem_map.mp hd
 simp[tpI]
noncomputable def stI (b:List Int):Int:=if b.length=0 then 0 else cP b+1
noncomputable def plI (n:Nat) (b:List Int):List Int:=iA (stI b) ((n:Int) - 1 - stI b).toNat
noncomputable def exS (n:Nat) (b:List Int):List (List Int):=(plI n b).map fun x=>b++[x]
noncomputable def stS (n:Nat):Nat->List (List Int)
 | 0=>[[]]
 | j+1=>(stS n j).flatMap (exS n)
theorem JR:∀n,n<13->∀j,j<13->(stS n j).length<=500/\∀b∈stS n j,b.length<=12/\0<=stI b/\stI b<=12:=by decide +kernel
theorem Bh {n:Nat} {b:List Int} {h:Hh} (hn:n<=12) (hb:0<=stI b/\stI b<=12):b_ [.int n,tpI b] h=.ok (.frl ((plI n b).map D.int)) h:=by
 have e:bW (stI b) ((n:Int) - 1 - stI b).toNat=(plI n b).map D.int:=zf _ _
 have z1:(stI b).natAbs<=1000000:=by omega
 have z2:((n:Int) - 1).natAbs<=1000000:=by omega
 have z3:((n:Int) - 1 - stI b).toNat<=1000000:=by omega
 by_cases c:b.length=0
 ·have:b=[]:=List.eq_nil_of_length_eq_zero c
  subst this
  have e0:stI []=0:=rfl
  rw[e0] at e z1 z3
  generalize (plI n []).map D.int=W at *
  simp only[Int.sub_zero] at e z3
  have e':bW 0 (n - 1)=W:=by rw[<- e];congr 1;omega
  have z4:n<=1000001:=by omega
  simp[b_,aY,tpI,z2,z3,z4,e']
 ·have il:=vd (xs:=b) (h:=h) c
  have es:stI b=cP b+1:=if_neg c
  rw[es] at e z1 z3
  have c0:¬ b=[]:=fun z=>c (by rw[z];rfl)
  generalize (plI n b).map D.int=W at *
  simp[b_,aY,tpI,il,c0,z1,z2,z3,e]
noncomputable def EX:ME:=au (cG aG) (ag 0) (aj bY (ae (ag 1) aq))
theorem BI {n:Nat} {b M:List Int} {H:Hh} (hb:b.length<=12):∀(k j:Nat) (acc:List (List Int)),j+k=M.length->acc.length+k<=1000000->wt H.length (Src.snap (M.map D.int)).rdr EX (fun e=>[some (tpI b),some e,some (.int n)]) k j (H++[.lst (acc.map tpI)])=.ok () (H++[.lst ((acc++(M.drop j).map fun x=>b++[x]).map tpI)])
 | 0,j,acc,e,_=>by
  unfold wt
  have:(Src.snap (M.map D.int)).rdr (H++[.lst (acc.map tpI)]) j=some none:=by
   simp only[Src.rdr]
   rw[List.getElem?_eq_none (by simp;omega)]
  rw[this,List.drop_eq_nil_of_le (by omega)]
  simp
 | k+1,j,acc,e,l=>by
  unfold wt
  have lt:j<M.length:=by omega
  have g:(Src.snap (M.map D.int)).rdr (H++[.lst (acc.map tpI)]) j=some (some (.int M[j])):=by
   simp only[Src.rdr]
   rw[List.getElem?_map,List.getElem?_eq_getElem lt];rfl
  rw[g]
  have z:b.length+1<=1000000:=by omega
  have ev:∀h:Hh,EX [some (tpI b),some (.int M[j]),some (.int n)] h=.ok (tpI (b++[M[j]])) h:=fun h=>by simp[EX,tpI,z]
  have a:BG H.length (tpI (b++[M[j]])) (H++[.lst (acc.map tpI)])=.ok () (H++[.lst ((acc++[b++[M[j]]]).map tpI)]):=by
   unfold BG
   rw[iH]
   dsimp only
   rw[if_pos (by rw[List.length_map];omega),uK,List.map_append]
   rfl
  dsimp only
  rw[ev,bS,a,bS,BI hb k (j+1) _ (by omega) (by simp;omega),List.drop_eq_getElem_cons lt,List.append_assoc]
  rfl
noncomputable def MI2:MI:=(cT (aj b_ (ae (ag 2) (ae (ag 0) aq))))
theorem Dt {n:Nat} {rd:Rdr} {L:List (List Int)} {H:Hh} {d1 d2 d3:Option D} (hn:n<=12) (hr:∀(A:List D) (i:Nat),rd (H++[.lst A]) i=some ((L.map tpI)[i]?)) (hb:∀b∈L,b.length<=12/\0<=stI b/\stI b<=12):∀(k i:Nat) (acc:List (List Int)),i+k=L.length->acc.length+k*12<=1000000->ud H.length rd MI2 EX (iB [0] [some (.int n),d1,d2,d3]) k i (H++[.lst (acc.map tpI)])=.ok () (H++[.lst ((acc++(L.drop i).flatMap (exS n)).map tpI)])
 | 0,i,acc,e,_=>by
  unfold ud
  rw[hr,List.getElem?_eq_none (by rw[List.length_map];omega),List.drop_eq_nil_of_le (by omega)]
  simp
 | k+1,i,acc,e,l=>by
  have lt:i<L.length:=by omega
  unfold ud
  rw[hr,List.getElem?_map,List.getElem?_eq_getElem lt]
  obtain⟨b1,b2⟩:=hb _ (List.getElem_mem lt)
  have cp:∀a b,iB [0] [some (.int n),d1,d2,d3] a b=[a,b,some (.int n)]:=fun a b=>by simp[iB]
  have pl:(plI n L[i]).length<=12:=by unfold plI;rw[lL];omega
  have mi:MI2 (iB [0] [some (.int n),d1,d2,d3] (some (tpI L[i])) none) (H++[.lst (acc.map tpI)])=.ok (.snap ((plI n L[i]).map D.int)) (H++[.lst (acc.map tpI)]):=by
   rw[cp]
   have lo:=Bh (h:=H++[.lst (acc.map tpI)]) hn b2
   generalize (plI n L[i]).map D.int=W at *
   generalize tpI L[i]=X at *
   simp[MI2,lo]
  have fu:(Src.snap ((plI n L[i]).map D.int)).fuel (H++[.lst (acc.map tpI)])=(plI n L[i]).length:=by
   show((plI n L[i]).map D.int).length=_
   simp
  have l2:acc.length+12+k*12<=1000000:=by omega
  simp only[Option.map_some]
  rw[mi,bS,fu]
  have ff:(fun e=>iB [0] [some (.int n),d1,d2,d3] (some (tpI L[i])) (some e))=fun e=>[some (tpI L[i]),some e,some (.int n)]:=funext fun e=>cp _ _
  rw[ff,BI (M:=plI n L[i]) b1 (plI n L[i]).length 0 acc (by omega) (by omega),bS,List.drop_zero]
  have:=Dt (d1:=d1) (d2:=d2) (d3:=d3) hn hr hb k (i+1) (acc++exS n L[i]) (by omega) (by rw[List.length_append];simp only[exS,List.length_map];omega)
  rw[List.drop_eq_getElem_cons lt,List.flatMap_cons,<- List.append_assoc]
  exact this
theorem F4 {n:Nat} {src:Src} {L:List (List Int)} {H:Hh} {d1 d2 d3:Option D} (hn:n<=12) (s:cT (ag 2) [some (.int n),d1,d2,d3] H=.ok src H) (f:src.fuel H=L.length) (hr:∀(A:List D) (i:Nat),src.rdr (H++[.lst A]) i=some ((L.map tpI)[i]?)) (hb:∀b∈L,b.length<=12/\0<=stI b/\stI b<=12) (hl:L.length<=500):g9 (cT (ag 2)) [0] MI2 EX [some (.int n),d1,d2,d3] H=.ok (.ref H.length) (H++[.lst ((L.flatMap (exS n)).map tpI)]):=by
 unfold g9
 have:=Dt (d1:=d1) (d2:=d2) (d3:=d3) hn hr hb L.length 0 [] (by omega) (by simp;omega)
 simp only[List.drop_zero,List.nil_append,List.map_nil] at this
 rw[s,bS,f,this]
 rfl
theorem Cw {n:Nat} {h:Hh} (h1:1<=n) (hn:n<=12) (w:Wf h):du [.int n,.int 12] h=.ok (.frl ((stS n 12).map tpI)) h:=by
 have n1:=Cm (a:=1) (b:=12) (d:=.int (n:Int)) (h:=h) ⟨rfl,kO (by omega)⟩
 have n2:=Cm (a:=0) (b:=12) (d:=.int 12) (h:=h) ⟨rfl,kO (by omega)⟩
 obtain⟨s,lp,si⟩:=um (σ:=Hh × D × Option D) (tg:=gN 3) (body:=(bC 2 (g9 (cT (ag 2)) [0] MI2 EX))) (fun(i:Nat)=>D.int i) 12 (fun s=>[some (.int n),some (.int 12),some s.2.1,s.2.2]) (fun s=>h++s.1) (fun i s=>(i=0/\s.2.1=.frl ((stS n i).map tpI))\/∃j,s.2.1=.ref (h.length+j)/\aN (h++s.1) (h.length+j)=some ((stS n i).map tpI)) (fun i s hi hs=>by
  obtain⟨T,fd,y⟩:=s
  dsimp only at hs ⊢
  obtain⟨bl,bb⟩:=JR n (by omega) i (by omega)
  have q:g9 (cT (ag 2)) [0] MI2 EX [some (.int n),some (.int 12),some fd,some (.int i)] (h++T)=.ok (.ref (h++T).length) (h++T++[.lst ((stS n (i+1)).map tpI)]):=by
   rcases hs with⟨_,rfl⟩ | ⟨j,rfl,el⟩
   ·refine F4 (src:=.snap ((stS n i).map tpI)) hn ?_ ?_ (fun A i=>rfl) bb bl
    ·show(ag 2 [some (.int n),some (.int 12),some (D.frl ((stS n i).map tpI)),some (.int i)] (h++T)).bind uj=_
     have:ag 2 [some (.int n),some (.int 12),some (D.frl ((stS n i).map tpI)),some (.int i)] (h++T)=.ok (.frl ((stS n i).map tpI)) (h++T):=by simp
     rw[this,bS];rfl
    ·show((stS n i).map tpI).length=_
     simp
   ·refine F4 (src:=.live (h.length+j)) hn ?_ ?_ (fun A i=>?_) bb bl
    ·show(ag 2 [some (.int n),some (.int 12),some (D.ref (h.length+j)),some (.int i)] (h++T)).bind uj=_
     have:ag 2 [some (.int n),some (.int 12),some (D.ref (h.length+j)),some (.int i)] (h++T)=.ok (.ref (h.length+j)) (h++T):=by simp
     rw[this,bS,JZ el]
    ·simp[Src.fuel,el]
    ·show(aN (h++T++[.lst A]) (h.length+j)).map _=_
     rw[D2 el];rfl
  refine⟨(T++[.lst ((stS n (i+1)).map tpI)],.ref (h.length+T.length),some (.int i)),.inr ⟨T.length,rfl,?_⟩,?_⟩
  ·dsimp only
   rw[<- List.append_assoc,<- List.length_append]
   exact iH
  ·generalize (stS n (i+1)).map tpI=W at *
   rw[<- List.append_assoc,<- List.length_append]
   simp only[AF,bS,List.set,JT]
   rw[q]
   rfl) 12 0 ([],.frl [tpI []],none) (by omega) (.inl ⟨rfl,rfl⟩)
 obtain⟨T,fd,y⟩:=s
 dsimp only at lp si
 rw[<- List.range_eq_range',<- ft,List.append_nil] at lp
 rcases si with⟨z,_⟩ | ⟨j,rfl,el⟩
 ·cases z
 ·have ex:=Cz w el (Dm (k:=5))
  have eq:du=fun ds h=>((cu 4 (aE (eB (aj aB (ae (up (ag 0)) (ae (up (cC (.int 1))) (ae (up (cC (.int 12))) aq))))) (aE (eB (aj aB (ae (up (ag 1)) (ae (up (cC (.int 0))) (ae (up (cC (.int 12))) aq))))) (aE (up (bC 2 (aj (dH aG) (ae (aj bY aq) aq)))) (aE (up (fq (iz iN (ae (ag 1) aq)) (gN 3) (bC 2 (g9 (cT (ag 2)) [0] MI2 EX)))) (up (bD (ag 2)))))))) ds h).bind (eM h):=rfl
  have t0:tpI []=.tup []:=rfl
  rw[t0] at lp
  have l12:(bW 0 12).length<=1000000:=by decide
  rw[eq]
  generalize (stS n 12).map tpI=W at *
  generalize (bC 2 (g9 (cT (ag 2)) [0] MI2 EX))=BD at *
  generalize hI:bW 0 12=I12 at *
  simp[aY,up,n1,n2,hI,l12,lp,ex]
theorem rW {n:Nat} {fl:Nat->Bool} {i:Nat} {env:En} {h:Hh} (h1:1<=n) (hn:n<=12) (e:ag i env h=.ok (.clo "just_count" [.frl (jrD n fl n),.tup ((aW n fl).map D.int)]) h):jf ko (ag i) (ae (aj bY aq) aq) env h=.ok (.int (jcV n fl [])) h:=
 pE (h1:=h) (h2:=h) (CN h1 (by omega)) (Beg.nil n) e (by simp)
theorem Lr {n:Nat} {fl:Nat->Bool} {x:D} {h:Hh} (h1:1<=n) (hn:n<=12) (c:Bad 0 (jcV n fl [] - 1) x):cV [.int n,.tup ((aW n fl).map D.int),x] h=.err XN h:=by
 have a:=JE (h:=h) h1 hn (wz n fl)
 have jc:=qh (n:=n) (fl:=fl) (h:=h) h1 (by omega)
 have mc:=rW (n:=n) (fl:=fl) (i:=3) (env:=[some (.int n),some (.tup ((aW n fl).map D.int)),some x,some (.clo "just_count" [.frl (jrD n fl n),.tup ((aW n fl).map D.int)])]) (h:=h) h1 hn (by simp)
 have nn:=Am (h:=h) c
 generalize jcV n fl []=V at *
 generalize jrD n fl n=J at *
 generalize (aW n fl).map D.int=S at *
 simp[cV,aY,up,a,jc,mc,nn]
theorem Gm {n:Nat} {fl:Nat->Bool} {t:Int} {h:Hh} (h1:1<=n) (hn:n<=12) (t0:0<=t) (t1:t<jcV n fl []):cV [.int n,.tup ((aW n fl).map D.int),.int t] h=.ok (.tup ((grd n (jcV n fl) n [] t).1.map D.int)) h:=by
 have a:=JE (h:=h) h1 hn (wz n fl)
 have jc:=qh (n:=n) (fl:=fl) (h:=h) h1 (by omega)
 have mc:=rW (n:=n) (fl:=fl) (i:=3) (env:=[some (.int n),some (.tup ((aW n fl).map D.int)),some (.int t),some (.clo "just_count" [.frl (jrD n fl n),.tup ((aW n fl).map D.int)])]) (h:=h) h1 hn (by simp)
 have nn:=Cm (a:=0) (b:=jcV n fl [] - 1) (d:=.int t) (h:=h) ⟨rfl,kO (by omega)⟩
 have e:=Ik (h:=h) (t:=t) (He fl h1) (CN h1 (by omega)) (by omega) t0 t1
 generalize (grd n (jcV n fl) n [] t).1.map D.int=X at *
 generalize jcV n fl []=V at *
 generalize jrD n fl n=J at *
 generalize (aW n fl).map D.int=S at *
 simp[cV,aY,up,a,jc,mc,nn,e]
noncomputable abbrev TSt:D:=.tup [.str "set"]
theorem Jv {h:Hh}:aR [.exc "NoSet" []] h=.ok TSt h:=by kernel_rfl
noncomputable def TB:MS:=(aE (eL (up (aU asB (au dLt (ag 0) (cC (.int 7))))) (aE (up (bC 4 (aj (dH aG) (ae (cC (.fn "just_many")) (ae (cC (.fn "within_many")) (ae (cC (.fn "just_all")) (ae (cC (.fn "first_with")) (ae (cC (.fn "last_with")) (ae (cC (.fn "sizes_of")) (ae (cC (.fn "set_good")) aq)))))))))) (bD (pN eU (up (au dIx (ag 4) (ag 0))) (ae (up (ag 1)) (ae (up (ag 2)) aq))))) cL) (bD (cIf (up (aU asB (au dEq (ag 0) (cC (.int 7))))) (aj cV (ae (up (ag 1)) (ae (up (ag 2)) (ae (up (ag 3)) aq)))) (aj du (ae (up (ag 1)) (ae (up (ag 2)) aq))))))
theorem yD:aI=cu 6 (pw TB aR):=rfl
theorem eH {d0 d1 d2 d3:D} {h:Hh} {x:Xc} {r:D} (wf:Wf h) (e:TB [some d0,some d1,some d2,some d3,none,none] h=.err x h) (c:bM.contains x.cls=true) (q:aR [.exc x.cls x.fs] h=.ok r h):aI [d0,d1,d2,d3] h=.ok r h:=by
 have q:=Dd (mr:=aR) wf e c q
 rw[yD];simp[aY,q]
theorem yu {d0 d1 d2 d3 r:D} {h:Hh} (e:TB [some d0,some d1,some d2,some d3,none,none] h=.ok (.rt r) h):aI [d0,d1,d2,d3] h=.ok r h:=by
 have q:=IB (mr:=aR) e
 rw[yD];simp[aY,q]
theorem A7 {n d:D} {h:Hh} {x:Xc} (e:aK [n,d] h=.err x h):dE [n,d] h=.err x h/\cN [n,d] h=.err x h/\ey [n,d] h=.err x h/\c_ [n,d] h=.err x h/\dF [n,d] h=.err x h/\cO [n,d] h=.err x h/\∀z,cV [n,d,z] h=.err x h:=by
 have s:cO [n,d] h=.err x h:=by simp[cO,aY,up,e]
 refine⟨by simp[dE,aY,up,e],?_,by simp[ey,aY,up,e],by simp[c_,aY,up,e],by simp[dF,aY,up,e],s,fun z=>by simp[cV,aY,up,e]⟩
 simp[cN,aY,up,s]
theorem CH (k:Nat) (hk:k<6) {n d z r:D} {h:Hh} {x:Xc} (wf:Wf h) (e:aK [n,d] h=.err x h) (c:bM.contains x.cls=true) (q:aR [.exc x.cls x.fs] h=.ok r h):aI [.int (k:Int),n,d,z] h=.ok r h:=by
 obtain⟨e0,e1,e2,e3,e4,e5,_⟩:=A7 e
 match k,hk with
 | 0,_=>exact eH wf (by simp[TB,up,iJ (tab:=eU) (x:="just_many") (m:=dE) (h1:=h),e0]) c q
 | 1,_=>exact eH wf (by simp[TB,up,iJ (tab:=eU) (x:="within_many") (m:=cN) (h1:=h),e1]) c q
 | 2,_=>exact eH wf (by simp[TB,up,iJ (tab:=eU) (x:="just_all") (m:=ey) (h1:=h),e2]) c q
 | 3,_=>exact eH wf (by simp[TB,up,iJ (tab:=eU) (x:="first_with") (m:=c_) (h1:=h),e3]) c q
 | 4,_=>exact eH wf (by simp[TB,up,iJ (tab:=eU) (x:="last_with") (m:=dF) (h1:=h),e4]) c q
 | 5,_=>exact eH wf (by simp[TB,up,iJ (tab:=eU) (x:="sizes_of") (m:=cO) (h1:=h),e5]) c q
theorem G5 {n d z:D} {h:Hh} (wf:Wf h) (c:Bad 1 12 n):aI [.int 6,n,d,z] h=.ok TNm h:=
 eH (x:=XN) wf (by
  have:cf [n,d] h=.err XN h:=by simp[cf,aY,up,Am c]
  simp[TB,up,iJ (tab:=eU) (x:="set_good") (m:=cf) (h1:=h),this]) (by decide) AI
theorem xb {n d z r:D} {h:Hh} {x:Xc} (wf:Wf h) (e:cV [n,d,z] h=.err x h) (c:bM.contains x.cls=true) (q:aR [.exc x.cls x.fs] h=.ok r h):aI [.int 7,n,d,z] h=.ok r h:=
 eH wf (by simp[TB,up,e]) c q
theorem BX {n d z:D} {h:Hh} (wf:Wf h) (e:du [n,d] h=.err XN h):aI [.int 8,n,d,z] h=.ok TNm h:=
 eH (x:=XN) wf (by simp[TB,up,e]) (by decide) AI
theorem Hr (k:Nat) (hk:k<9) {n d z:D} {h:Hh} (wf:Wf h) (c:Bad 1 12 n):aI [.int (k:Int),n,d,z] h=.ok TNm h:=by
 have sn:=K4 (d:=d) (h:=h) c
 by_cases c6:k<6
 ·exact CH k c6 (x:=XN) wf sn (by decide) AI
 ·have:k=6\/k=7\/k=8:=by omega
  rcases this with rfl | rfl | rfl
  ·exact G5 wf c
  ·exact xb (x:=XN) wf ((A7 sn).2.2.2.2.2.2 z) (by decide) AI
  ·refine BX wf ?_
   simp[du,aY,up,Am c]
theorem four {k:Nat} (hk:k<9) {od S X fr:D} {h:Hh} (wf:Wf h) (c:Bad 1 12 od):dg tt1 (aj aI (ae (ag 1) (ae (ag 2) (ae (ag 0) (ae (ag 3) aq))))) (fun x=>[some x,some (.int (k:Int)),some od,some fr]) [S,X,.int 0,.non] h=.ok [TNm,TNm,TNm,TNm] h:=by
 have q:=fun d=>Hr k hk (d:=d) (z:=fr) wf c
 simp[dg,q]
theorem Kj {n:Nat} {X fr:D} {h:Hh} (wf:Wf h) (h1:1<=n) (hn:n<=12) (t:Th X) (c:stB n X=false):dg tt1 (aj aI (ae (ag 0) (ae (ag 1) (ae (ag 2) (ae (ag 3) aq))))) (fun x=>[some x,some (.int n),some X,some fr]) [.int 0,.int 1,.int 2,.int 3,.int 4,.int 5,.int 7] h=.ok [TSt,TSt,TSt,TSt,TSt,TSt,TSt] h:=by
 have sn:=LO (h:=h) h1 hn t c
 have q:=fun k hk=>CH k hk (x:=XS) (z:=fr) wf sn (by decide) Jv
 have q0:=q 0 (by decide)
 have q1:=q 1 (by decide)
 have q2:=q 2 (by decide)
 have q3:=q 3 (by decide)
 have q4:=q 4 (by decide)
 have q5:=q 5 (by decide)
 have q7:=xb (x:=XS) wf ((A7 sn).2.2.2.2.2.2 fr) (by decide) Jv
 simp only[Int.natCast_zero,Int.natCast_one,Int.cast_ofNat_Int] at q0 q1 q2 q3 q4 q5
 simp[dg,q0,q1,q2,q3,q4,q5,q7]
theorem ne4 {h:Hh}:dNe (.frl [TNm,TNm,TNm,TNm]) (.frl [TNm,TNm,TNm,TNm]) h=.ok (.bl false) h:=by kernel_rfl
theorem ne7 {h:Hh}:dNe (.frl [TSt,TSt,TSt,TSt,TSt,TSt,TSt]) (.frl [TSt,TSt,TSt,TSt,TSt,TSt,TSt]) h=.ok (.bl false) h:=by kernel_rfl
theorem ne1 {h:Hh}:dNe TNm TNm h=.ok (.bl false) h:=by kernel_rfl
theorem eqI {xs:List Int} {h:Hh}:dEq (.tup (xs.map D.int)) TNm h=.ok (.bl false) h:=by
 cases xs with
 | nil=>rfl
 | cons x r=>
  have:eqD eqN h (.tup ((x::r).map D.int)) TNm=some false:=by cases r<;>rfl
  simp only[dEq,this]
theorem eqF {ds:List D} {h:Hh}:dEq (.frl ds) TNm h=.ok (.bl false) h:=rfl
theorem Hx {d:D} {h:Hh} (wf:Wf h) (c:Bad 1 10 d):eC [d] h=.ok TNm h:=by
 have e:dC [d] h=.err XN h:=by simp[dC,aY,up,Am c]
 have tb:(bD (aj dC (ae (up (ag 0)) aq))) [some d,none] h=.err XN h:=by simp[up,e]
 have q:=Dd (mr:=aR) wf tb (show bM.contains "NoNumber" = true by decide) AI
 have eq:eC=cu 2 (pw (bD (aj dC (ae (up (ag 0)) aq))) aR):=rfl
 rw[eq]
 simp[aY,q]
theorem oG {h:Hh} {p:Pen} {m:Int} (hm:0<m/\m<=10 ^ 20):∃(v:Nat) (p':Pen),(v:Int)<m/\aS [.ref h.length,.int m] (h++[.lst (dX p)])=.ok (.int v) (h++[.lst (dX p')]):=by
 obtain⟨v,ev,bv⟩:=Bw p m hm.1
 have d:=sU (p:=p) (h:=h) (t:=[]) (m:=m) hm
 rw[ev] at d
 exact⟨v,_,bv,d⟩
theorem uU {X:Type} {xs:List X} {lo hi:Option Int} {x:X} (hx:x∈d_ xs lo hi):x∈xs:=List.mem_of_mem_drop (List.mem_of_mem_take hx)
theorem FA {d:D} (i:itm d=true) (nt:∀ds,d≠.tup ds) (r:RX d):Th d:=⟨i,fun ds e=>absurd e (nt ds),r⟩
theorem B6 {a b:Int} (h1:-10<=a) (h2:a<=10) (h3:b<=1000) (h4:a - 1<=b):JX a b:=by
 intro d hd
 simp only[vt,List.mem_cons,List.not_mem_nil,or_false] at hd
 rcases hd with rfl | rfl | rfl | rfl | rfl | rfl | rfl | rfl | rfl | rfl | rfl<;>first | exact⟨rfl,rfl⟩ | exact⟨rfl,j_ (by omega)⟩
noncomputable def ods (n:Int):List D:=[.int (n - 1),.int (-1),.bl true,.bl false,.non,.str "0", .frl [.int 0],.edic,.tup [.int 0],.int (10 ^ 30)]
theorem EC {n:Int} (h1:1<=n) (h2:n<=20):∀d∈ods n,uk d/\inR 0 (n - 2) d=false:=by
 intro d hd
 simp only[ods,List.mem_cons,List.not_mem_nil,or_false] at hd
 rcases hd with rfl | rfl | rfl | rfl | rfl | rfl | rfl | rfl | rfl | rfl
 ·exact⟨uu (oD (by omega) (by omega)),j_ (by omega)⟩
 ·exact⟨uu (by decide +kernel),j_ (by omega)⟩
 ·exact⟨Ci,rfl⟩
 ·exact⟨Ci,rfl⟩
 ·exact⟨Ed,rfl⟩
 ·exact⟨Bv,rfl⟩
 ·exact⟨Cq,rfl⟩
 ·exact⟨Dx,rfl⟩
 ·exact⟨Ct,rfl⟩
 ·exact⟨uu (by decide +kernel),j_ (by omega)⟩
theorem rH {X:Type} {tt:MT} {te:ME} {ee:D->En} (enc:X->D) (G:Pen->Hh) (st:∀x p,∃b p',tt (ee (enc x)) (G p)=.ok b (G p')/\te (ee (enc x)) (G p')=.ok (enc x) (G p')) :
  ∀(xs:List X) (p:Pen),∃(ys:List X) (p':Pen),dg tt te ee (xs.map enc) (G p)=.ok (ys.map enc) (G p')/\ys.Sublist xs
 | [],p=>⟨[],p,rfl,.slnil⟩
 | x::xs,p=>by
  obtain⟨b,p1,e1,e2⟩:=st x p
  obtain⟨ys,p2,e3,s⟩:=rH enc G st xs p1
  rw[List.map_cons,dg,e1,bS]
  cases b with
  | false=>exact⟨ys,p2,by rw[if_neg Bool.false_ne_true,e3],s.cons _⟩
  | true=>exact⟨x::ys,p2,by rw[if_pos rfl,e2,bS,e3,bS];rfl,s.cons₂ _⟩
theorem EI (m:Nat):Sub m ((List.range m).map fun(i:Nat)=>(i:Int)):=by
 refine⟨?_,fun x hx=>?_⟩
 ·rw[List.pairwise_map]
  exact List.pairwise_lt_range.imp fun h=>by omega
 ·obtain⟨i,hi,rfl⟩:=List.mem_map.mp hx
  have:=List.mem_range.mp hi
  omega
theorem Sub.sub {m:Nat} {S T:List Int} (s:Sub m S) (h:T.Sublist S):Sub m T:=⟨s.up.sublist h,fun x hx=>s.inn x (h.subset hx)⟩
theorem GL {n:Nat} {p:Pen} {h t:Hh} (h1:1<=n) (hn:n<=12):∃T p',Sub (n - 1) T/\fm [.ref h.length,.int n] (h++.lst (dX p)::t)=.ok (.tup (T.map D.int)) (h++.lst (dX p')::t):=by
 obtain⟨k,ek,hk⟩:=Bw p 3 (by decide)
 obtain⟨a,b,ha,hb,ix⟩:∃a b:Int,0<a/\a<=10/\∀H:Hh,ixK [.frl [.int 2,.int 1],.frl [.int 4,.int 1],.frl [.int 4,.int 3]] (k:Int) H=.ok (.frl [.int a,.int b]) H:=by
  match k,hk with
  | 0,_=>exact⟨2,1,by decide,by decide,fun _=>rfl⟩
  | 1,_=>exact⟨4,1,by decide,by decide,fun _=>rfl⟩
  | 2,_=>exact⟨4,3,by decide,by decide,fun _=>rfl⟩
 have hab:0<a/\a<=10 ^ 20:=by omega
 obtain⟨ys,p',q,sub⟩:=rH (tt:=aU asB (au dLt (aj aS (ae (ag 1) (ae (au dIx (ag 2) (cC (.int 0))) aq))) (au dIx (ag 2) (cC (.int 1))))) (te:=ag 0) (ee:=fun d=>[some d,some (.ref h.length),some (.frl [.int a,.int b])]) (fun(i:Nat)=>D.int i) (fun p=>h++.lst (dX p)::t)
  (fun x p=>⟨decide (jo p a<b),jh p a,by
   have:=sU (p:=p) (h:=h) (t:=t) hab
   simp[this],by simp⟩) (List.range (n - 1)) (jh p 3)
 rw[<- ft] at q
 have z1:((n:Int) - 1).natAbs<=1000000:=by omega
 have z2:((n:Int) - 1).toNat=n - 1:=by omega
 have z3:n - 1<=1000000:=by omega
 refine⟨ys.map fun(i:Nat)=>(i:Int),p',(EI (n - 1)).sub (sub.map _),?_⟩
 have d3:=sU (p:=p) (h:=h) (t:=t) (m:=3) (by decide)
 rw[ek] at d3
 have mm:(ys.map fun(i:Nat)=>(i:Int)).map D.int=ys.map fun(i:Nat)=>D.int i:=by rw[List.map_map];rfl
 rw[mm]
 simp[fm,aY,d3,ix,z1,z2,z3,q]
theorem ix6 {l:List D} {w:Nat} (hw:w<l.length):∃x,x∈l/\∀H:Hh,ixK l (w:Int) H=.ok x H:=
 ⟨l[w],List.getElem_mem _,fun H=>dZ rfl (List.getElem?_eq_getElem hw)⟩
theorem zb {n:Nat} {ds:List D} (h:sgB ((n:Int) - 2) 0 ds=true->False):stB n (.tup ds)=false:=by
 show sgB ((n:Int) - 2) 0 ds=false
 cases c:sgB ((n:Int) - 2) 0 ds with
 | false=>rfl
 | true=>exact(h c).elim
noncomputable def Bd (S:List Int) (n:Nat):List Int:=if S=[] then [(n:Int)] else S++[0]
theorem BV {n:Nat} {S:List Int} {p:Pen} {h:Hh} (h1:1<=n) (hn:n<=12) (s:Sub (n - 1) S):∃d p',cW [.ref h.length,.int n,.tup (S.map D.int)] (h++[.lst (dX p)])=.ok d (h++[.lst (dX p')])/\Th d/\stB n d=false:=by
 have sl:=s.len
 obtain⟨wy,p1,hw,d6⟩:=oG (h:=h) (p:=p) (m:=6) (by decide)
 obtain⟨sp,p2,hs,ds⟩:=oG (h:=h) (p:=p1) (m:=(S.length:Int)+1) (by omega)
 obtain⟨u,p3,hu,d10⟩:=oG (h:=h) (p:=p2) (m:=10) (by decide)
 have hu':u<(ods n).length:=by show u<10;omega
 obtain⟨oo,oi⟩:=EC (n:=(n:Int)) (by omega) (by omega) _ (List.getElem_mem hu')
 have ix:∀H:Hh,ixK [.int ((n:Int) - 1),.int (-1),.bl true,.bl false,.non,.str "0", .frl [.int 0],.edic,.tup [.int 0],.int (10 ^ 30)] (u:Int) H=.ok (ods n)[u] H:=fun H=>dZ (ds:=ods n) rfl (List.getElem?_eq_getElem hu')
 generalize (ods n)[u]=od at *
 have sm:∀x∈S,sml x=true:=fun x hx=>by have:=s.inn x hx;exact oD this.1 (by omega)
 have l1:=sW S none (some (sp:Int))
 have l3:=sW S (some ((sp:Int)+1)) none
 obtain⟨X,hx,ixw⟩:=ix6 (w:=wy) (l:=[.tup ((d_ S none (some (sp:Int))).map D.int++od::(d_ S (some ((sp:Int)+1)) none).map D.int),.tup ((d_ S none (some (sp:Int))).map D.int++od::(d_ S (some ((sp:Int)+1)) none).map D.int),.frl (S.map D.int),.tup ((Bd S n).map D.int),.non,.tup [.int ((n:Int) - 2),.int 0,.int ((n:Int) - 2)]]) (by show wy<6;omega)
 have good:Th X/\stB n X=false:=by
  have bent:Th (.tup ((d_ S none (some (sp:Int))).map D.int++od::(d_ S (some ((sp:Int)+1)) none).map D.int))/\stB n (.tup ((d_ S none (some (sp:Int))).map D.int++od::(d_ S (some ((sp:Int)+1)) none).map D.int))=false:=by
   refine⟨Fy oo (fun x hx=>sm x (uU hx)) (fun x hx=>sm x (uU hx)) (by omega),zb fun z=>?_⟩
   have:=wQ (by omega) z od (by simp)
   rw[oi] at this;cases this
  simp only[List.mem_cons,List.not_mem_nil,or_false] at hx
  rcases hx with rfl | rfl | rfl | rfl | rfl | rfl
  ·exact bent
  ·exact bent
  ·exact⟨Iw sm (by omega),rfl⟩
  ·unfold Bd
   by_cases c:S=[]
   ·rw[if_pos c]
    refine⟨oN (fun x hx=>by simp at hx;subst hx;exact oD (by omega) (by omega)) (by simp),zb fun z=>?_⟩
    have:=wQ (by omega) z (.int (n:Int)) (by simp)
    have:=of_decide_eq_true this
    omega
   ·rw[if_neg c]
    refine⟨oN (fun x hx=>by
     rcases List.mem_append.mp hx with y | y
     ·exact sm x y
     ·simp at y;subst y;decide +kernel) (by simp;omega),zb fun z=>?_⟩
    rw[List.map_append] at z
    obtain⟨l',q1,q2,q3⟩:=yr z
    obtain⟨x,hx⟩:=List.exists_mem_of_ne_nil S c
    have:=q1 x hx
    have:=(s.inn x hx).1
    have q3:(inR l' ((n:Int) - 2) (.int 0)&&true)=true:=q3
    rw[Bool.and_eq_true] at q3
    have:=of_decide_eq_true q3.1
    omega
  ·exact⟨FA rfl (fun ds e=>by cases e) (fun h=>⟨_,rfl⟩),rfl⟩
  ·have e:[D.int ((n:Int) - 2),.int 0,.int ((n:Int) - 2)]=([(n:Int) - 2,0,(n:Int) - 2]:List Int).map D.int:=rfl
   refine⟨by
    rw[e]
    exact oN (fun x hx=>by
     simp at hx
     rcases hx with rfl | rfl | rfl
     ·exact cx (by omega) (by omega)
     ·decide +kernel
     ·exact cx (by omega) (by omega)) (by simp),zb fun z=>?_⟩
   unfold sgB at z
   rw[Bool.and_eq_true] at z
   have a:=of_decide_eq_true z.1
   have z2:=z.2
   unfold sgB at z2
   rw[Bool.and_eq_true] at z2
   have b:(n:Int) - 2+1<=0/\(0:Int)<=(n:Int) - 2:=of_decide_eq_true z2.1
   omega
 refine⟨X,p3,?_,good⟩
 have k1:cutD (S.map D.int) none (some (sp:Int))=(d_ S none (some (sp:Int))).map D.int:=jG _ _ _ _
 have k2:cutD (S.map D.int) (some ((sp:Int)+1)) none=(d_ S (some ((sp:Int)+1)) none).map D.int:=jG _ _ _ _
 have m1:((d_ S none (some (sp:Int))).map D.int).length<=12:=by rw[List.length_map];omega
 have m2:((d_ S (some ((sp:Int)+1)) none).map D.int).length<=12:=by rw[List.length_map];omega
 have s10:sml 10=true:=by decide +kernel
 have lX:(S.map D.int).length=S.length:=by simp
 have th:(cIf (aU asB (au dNe (ag 2) (aj bY aq))) (au (cG aG) (ag 2) (aj bY (ae (cC (.int 0)) aq))) (aj bY (ae (ag 1) aq))) [some (.ref h.length),some (.int n),some (.tup (S.map D.int)),some (.int wy),some (.int sp),some od,some (.tup ((d_ S none (some (sp:Int))).map D.int++od::(d_ S (some ((sp:Int)+1)) none).map D.int))] (h++[.lst (dX p3)])=.ok (.tup ((Bd S n).map D.int)) (h++[.lst (dX p3)]):=by
  have ne:dNe (.tup (S.map D.int)) (.tup []) (h++[.lst (dX p3)])=.ok (.bl (!decide (S=[]))) (h++[.lst (dX p3)]):=by
   have e:=F_ (h:=h++[.lst (dX p3)]) (xs:=S) (ys:=[])
   cases S with
   | nil=>rfl
   | cons x r=>rfl
  unfold Bd
  have z:S.length+1<=1000000:=by omega
  by_cases c:S=[]
  ·subst c
   simp[ne]
   rfl
  ·rw[if_neg c,List.map_append]
   have c':decide (S=[])=false:=decide_eq_false c
   rw[c'] at ne
   generalize (d_ S none (some (sp:Int))).map D.int=M1 at *
   generalize (d_ S (some ((sp:Int)+1)) none).map D.int=M2 at *
   generalize S.map D.int=SD at *
   simp[ne,lX,z]
 generalize hX:(10:Int) ^ 30=X30 at ix
 generalize hT:(cIf (aU asB (au dNe (ag 2) (aj bY aq))) (au (cG aG) (ag 2) (aj bY (ae (cC (.int 0)) aq))) (aj bY (ae (ag 1) aq)))=CT at th
 generalize (Bd S n).map D.int=M4 at *
 generalize (d_ S none (some (sp:Int))).map D.int=M1 at *
 generalize (d_ S (some ((sp:Int)+1)) none).map D.int=M2 at *
 generalize hSL:(S.length:Int)=SL at *
 have lX2:((S.map D.int).length:Int)=SL:=by rw[lX,hSL]
 have lX3:(S.map D.int).length<=1000000:=by rw[lX];omega
 generalize S.map D.int=SD at *
 have z1:M1.length+1<=1000000:=by omega
 have z2:M1.length+1+M2.length<=1000000:=by omega
 unfold cW
 rw[hT]
 simp[aY,d6,lX2,ds,d10,s10,hX,ix,k1,k2,z1,z2,lX3,th,ixw]
noncomputable def B0:MS:=(eL (aU asB (au dNe (eW aG (cT (aj bY (ae (ag 7) (ae (ag 8) (ae (cC (.int 0)) (ae (cC .non) aq)))))) [10,3,4] tt1 (aj aI (ae (ag 1) (ae (ag 2) (ae (ag 0) (ae (ag 3) aq)))))) (au (f_ aG) (aj (dH aG) (ae (aj bY (ae (cC (.str "number")) aq)) aq)) (cC (.int 4))))) (bD (cC (.bl false))) cL)
noncomputable def B1:MS:=(eL (aU asB (au dNe (aj aI (ae (cC (.int 7)) (ae (ag 6) (ae (ag 7) (ae (ag 12) aq))))) (aj bY (ae (cC (.str "number")) aq)))) (bD (cC (.bl false))) cL)
noncomputable def B2:MS:=(aE (bC 2 (aj di (ae (ag 1) aq))) (aE (Et 3 4 5 (aj bY (ae (aj cM (ae (ag 2) (ae (cC (.int 1)) (ae (cC (.int 12)) aq)))) (ae (aj cM (ae (ag 2) (ae (cC (.int 0)) (ae (cC (.int 12)) aq)))) (ae (aj cM (ae (ag 2) (ae (cC (.int 1)) (ae (cC (.int 10)) aq)))) aq))))) (aE (bC 6 (au (cG aG) (cC (.int 1)) (aj aS (ae (ag 2) (ae (cC (.int 12)) aq))))) (aE (bC 7 (aj fm (ae (ag 2) (ae (ag 6) aq)))) (aE (bC 8 (aj cW (ae (ag 2) (ae (ag 6) (ae (ag 7) aq))))) (aE (bC 9 (aj ie (ae (ag 8) aq))) (aE (fq (iz iN (ae (cC (.int 9)) aq)) (gN 10) B0) (aE (eL (tu (aU asB (au dNe (eW aG (cT (aj bY (ae (cC (.int 0)) (ae (cC (.int 1)) (ae (cC (.int 2)) (ae (cC (.int 3)) (ae (cC (.int 4)) (ae (cC (.int 5)) (ae (cC (.int 7)) aq))))))))) [6,8,4] tt1 (aj aI (ae (ag 0) (ae (ag 1) (ae (ag 2) (ae (ag 3) aq)))))) (au (f_ aG) (aj (dH aG) (ae (aj bY (ae (cC (.str "set")) aq)) aq)) (cC (.int 7))))) (aU asB (au dNe (aj ie (ae (ag 8) aq)) (ag 9)))) (bD (cC (.bl false))) cL) (aE (eL (tu (aU asB (au dNe (aj aI (ae (cC (.int 8)) (ae (ag 6) (ae (ag 4) (ae (cC (.int 0)) aq))))) (aj bY (ae (cC (.str "number")) aq)))) (aU asB (au dNe (aj eC (ae (ag 5) aq)) (aj bY (ae (cC (.str "number")) aq))))) (bD (cC (.bl false))) cL) (aE (bC 11 (aj eA (ae (ag 6) (ae (ag 7) aq)))) (aE (fq (cT (aj bY (ae (ag 11) (ae (au (cG aG) (ag 11) (cC (.int 1))) (ae (cUn lq (cC (.int 1))) (ae (au (cG aG) (ag 11) (au sY (cC (.int 10)) (cC (.int 20)))) (ae (cC (.bl true)) (ae (cC (.bl false)) (ae (cC .non) (ae (cC (.str "0")) (ae (aj (dH aG) (ae (cC (.int 0)) aq)) (ae (aj bY (ae (cC (.int 0)) aq)) (ae (cC .edic) aq))))))))))))) (gN 12) B1) (eL (tu (aU asB (au dEq (aj aI (ae (cC (.int 7)) (ae (ag 6) (ae (ag 7) (ae (au cy (ag 11) (cC (.int 1))) aq))))) (aj bY (ae (cC (.str "number")) aq)))) (aU asB (au dEq (aj aI (ae (cC (.int 8)) (ae (ag 6) (ae (cC (.int 12)) (ae (cC (.int 0)) aq))))) (aj bY (ae (cC (.str "number")) aq))))) (bD (cC (.bl false))) cL))))))))))))
theorem Bb:pf=fun ds h=>((cu 13 (aE (fq (cT (au (cG aG) (aj (dH aG) (ae (aj cA (ae (ag 0) (ae (cC (.int 0)) aq))) aq)) (fV aG (ag 0) (gK (cC (.int 1))) (gK (cC (.int 5)))))) (gN 1) B2) (bD (cC (.bl true))))) ds h).bind (eM h):=rfl
noncomputable def CY:Prop:=∀(ns:List Int) (c:Int) (y2 y3 y4 y5 y6 y7 y8 y9 y10 y11 y12:Option D) (h:Hh),Wf h->Ok (B2 [some (.scr (ns.map D.int)),some (.int c),y2,y3,y4,y5,y6,y7,y8,y9,y10,y11,y12] h) fun fl h2=>∃z2 z3 z4 z5 z6 z7 z8 z9 z10 z11 z12,fl=.nx [some (.scr (ns.map D.int)),some (.int c),z2,z3,z4,z5,z6,z7,z8,z9,z10,z11,z12]/\Wf h2
theorem Il (step:CY) (ns:List Int) (hl:ns.length<=63):∃h,pf [.scr (ns.map D.int)] []=.ok (.bl true) h:=by
 have key:Ok (eE (gN 1) B2 (((ns.headD 0)::d_ ns (some 1) (some 5)).map D.int) [some (.scr (ns.map D.int)),none,none,none,none,none,none,none,none,none,none,none,none] []) fun fl h2=>(∃e,fl=.nx e)/\Wf h2:=by
  refine sR D.int (fun e h=>(∃y1 y2 y3 y4 y5 y6 y7 y8 y9 y10 y11 y12,e=[some (.scr (ns.map D.int)),y1,y2,y3,y4,y5,y6,y7,y8,y9,y10,y11,y12])/\Wf h) _ _ _ ⟨⟨_,_,_,_,_,_,_,_,_,_,_,_,rfl⟩,Wf.nil⟩ (fun x e h _ ⟨⟨y1,y2,y3,y4,y5,y6,y7,y8,y9,y10,y11,y12,e1⟩,w⟩=>?_) (fun e h ⟨_,w⟩=>⟨⟨_,rfl⟩,w⟩)
  subst e1
  simp only[AF,bS,List.set]
  refine(step ns x y2 y3 y4 y5 y6 y7 y8 y9 y10 y11 y12 h w).mono fun fl h2 ⟨z2,z3,z4,z5,z6,z7,z8,z9,z10,z11,z12,e2,w2⟩=>?_
  subst e2
  exact⟨⟨_,_,_,_,_,_,_,_,_,_,_,_,rfl⟩,w2⟩
 obtain⟨fl,h2,e,⟨e',rfl⟩,w⟩:=key
 have cl:=sW ns (some 1) (some 5)
 have c1:1+(d_ ns (some 1) (some 5)).length<=1000000:=by omega
 have ex:eM [] (.bl true) h2=.ok (.bl true) []:=by
  have:=p8 (h:=[]) (t:=h2) (d:=.bl true) Wf.nil rfl
  simpa using this
 refine⟨[],?_⟩
 have e2:eE (gN 1) B2 (D.int (ns.headD 0)::(d_ ns (some 1) (some 5)).map D.int) [some (.scr (ns.map D.int)),none,none,none,none,none,none,none,none,none,none,none,none] []=.ok (.nx e') h2:=e
 rw[Bb]
 simp[aY,AH,c1,e2,ex,-List.headD_eq_head?_getD]
theorem Dk {od fr S X:D} {h:Hh} {d0 d1 d2 d5 d6 d9 d11 d12:Option D} (wf:Wf h) (c:Bad 1 12 od):∀(l:List Nat) (d10:Option D),(∀k∈l,k<9) →
  ∃z,eE (gN 10) B0 (l.map fun(k:Nat)=>D.int k) [d0,d1,d2,some od,some fr,d5,d6,some S,some X,d9,d10,d11,d12] h=.ok (.nx [d0,d1,d2,some od,some fr,d5,d6,some S,some X,d9,z,d11,d12]) h
 | [],d10,_=>⟨d10,rfl⟩
 | k::l,d10,hl=>by
  obtain⟨z,e⟩:=Dk (S:=S) (X:=X) (fr:=fr) (d0:=d0) (d1:=d1) (d2:=d2) (d5:=d5) (d6:=d6) (d9:=d9) (d11:=d11) (d12:=d12) wf c l (some (.int k)) (fun x hx=>hl x (List.mem_cons_of_mem _ hx))
  have t:=four (hl k List.mem_cons_self) (S:=S) (X:=X) (fr:=fr) wf c
  refine⟨z,?_⟩
  have b:B0 [d0,d1,d2,some od,some fr,d5,d6,some S,some X,d9,some (.int (k:Int)),d11,d12] h=.ok (.nx [d0,d1,d2,some od,some fr,d5,d6,some S,some X,d9,some (.int (k:Int)),d11,d12]) h:=by simp[B0,t,ne4]
  rw[List.map_cons,ip]
  simp only[AF,bS,List.set,b,uT,e]
theorem Bp {n:Nat} {fl:Nat->Bool} {h:Hh} {d0 d1 d2 d3 d4 d5 d8 d9 d10 d11:Option D} (wf:Wf h) (h1:1<=n) (hn:n<=12):∀(l:List D) (d12:Option D),(∀d∈l,Bad 0 (jcV n fl [] - 1) d) →
  ∃z,eE (gN 12) B1 l [d0,d1,d2,d3,d4,d5,some (.int n),some (.tup ((aW n fl).map D.int)),d8,d9,d10,d11,d12] h=.ok (.nx [d0,d1,d2,d3,d4,d5,some (.int n),some (.tup ((aW n fl).map D.int)),d8,d9,d10,d11,z]) h
 | [],d12,_=>⟨d12,rfl⟩
 | d::l,d12,hl=>by
  obtain⟨z,e⟩:=Bp (fl:=fl) (d0:=d0) (d1:=d1) (d2:=d2) (d3:=d3) (d4:=d4) (d5:=d5) (d8:=d8) (d9:=d9) (d10:=d10) (d11:=d11) wf h1 hn l (some d) (fun x hx=>hl x (List.mem_cons_of_mem _ hx))
  have t:=xb (x:=XN) wf (Lr (fl:=fl) (x:=d) (h:=h) h1 hn (hl d List.mem_cons_self)) (by decide) AI
  refine⟨z,?_⟩
  generalize (aW n fl).map D.int=S at *
  have b:B1 [d0,d1,d2,d3,d4,d5,some (.int n),some (.tup S),d8,d9,d10,d11,some d] h=.ok (.nx [d0,d1,d2,d3,d4,d5,some (.int n),some (.tup S),d8,d9,d10,d11,some d]) h:=by simp[B1,t,ne1]
  rw[ip]
  simp only[AF,bS,List.set,b,uT,e]
theorem Ij {n k:D} {h:Hh} (c:Fit 1 12 n) (d:Bad 0 12 k):du [n,k] h=.err XN h:=by
 have a:=Cm (h:=h) c
 have b:=Am (h:=h) d
 simp[du,aY,up,a,b]
theorem Eu:CY:=by
 intro ns c y2 y3 y4 y5 y6 y7 y8 y9 y10 y11 y12 h w
 obtain⟨od,eo1,bo⟩:=BO (p:=wI c) (h:=h) (B6 (a:=1) (b:=12) (by decide) (by decide) (by decide) (by decide))
 obtain⟨fr,ef1,bf⟩:=BO (p:=jh (wI c) 11) (h:=h) (B6 (a:=0) (b:=12) (by decide) (by decide) (by decide) (by decide))
 generalize jh (jh (wI c) 11) 11=P0 at *
 obtain⟨wr,ew1,bw⟩:=BO (p:=P0) (h:=h) (B6 (a:=1) (b:=10) (by decide) (by decide) (by decide) (by decide))
 generalize jh P0 11=P1 at *
 obtain⟨b,p2,hb,d12⟩:=oG (h:=h) (p:=P1) (m:=12) (by decide)
 obtain⟨n,hn⟩:∃n:Nat,1+(b:Int)=n:=⟨1+b,by omega⟩
 have h1:1<=n:=by omega
 have h2:n<=12:=by omega
 obtain⟨T,p3,sT,ls⟩:=GL (n:=n) (p:=p2) (h:=h) (t:=[]) h1 h2
 obtain⟨X,p4,eb,tX,nX⟩:=BV (n:=n) (S:=T) (p:=p3) (h:=h) h1 h2 sT
 have wf:=GN w p4
 obtain⟨fl,hT⟩:∃fl,T=aW n fl:=⟨_,Dh sT⟩
 obtain⟨s,rx⟩:=tX.rx (h++[.lst (dX p4)])
 obtain⟨z10,f9⟩:=Dk (od:=od) (fr:=fr) (S:=.tup (T.map D.int)) (X:=X) (h:=h++[.lst (dX p4)]) (d0:=some (.scr (ns.map D.int))) (d1:=some (.int c)) (d2:=some (.ref h.length)) (d5:=some wr) (d6:=some (.int n)) (d9:=some (.str s)) (d11:=y11) (d12:=y12) wf bo (List.range 9) y10 (fun k hk=>List.mem_range.mp hk)
 rw[<- ft] at f9
 have q7:=Kj (fr:=fr) wf h1 h2 tX nX
 have fn:Fit 1 12 (.int (n:Int)):=⟨rfl,kO (by omega)⟩
 have t8:=BX (z:=.int 0) wf (Ij fn bf)
 have ms:=Hx wf bw
 have lj:=zo (h:=h++[.lst (dX p4)]) h1 h2 sT wf
 rw[hT,EY h1,<- hT] at lj
 have v1:=Hd (fl:=fl) h1
 have bn:∀d∈[D.int (jcV n fl []),.int (jcV n fl []+1),.int (-1),.int (jcV n fl []+10 ^ 20),.bl true,.bl false,.non,.str "0", .frl [.int 0],.tup [.int 0],.edic],Bad 0 (jcV n fl [] - 1) d:=by
  intro d hd
  simp only[List.mem_cons,List.not_mem_nil,or_false] at hd
  generalize jcV n fl []=V at *
  rcases hd with rfl | rfl | rfl | rfl | rfl | rfl | rfl | rfl | rfl | rfl | rfl
  ·exact⟨rfl,j_ (by omega)⟩
  ·exact⟨rfl,j_ (by omega)⟩
  ·exact⟨rfl,j_ (by omega)⟩
  ·exact⟨rfl,j_ (by omega)⟩
  ·exact⟨rfl,rfl⟩
  ·exact⟨rfl,rfl⟩
  ·exact⟨rfl,rfl⟩
  ·exact⟨rfl,rfl⟩
  ·exact⟨rfl,rfl⟩
  ·exact⟨rfl,rfl⟩
  ·exact⟨rfl,rfl⟩
 obtain⟨z12,e12⟩:=Bp (n:=n) (fl:=fl) (h:=h++[.lst (dX p4)]) (d0:=some (.scr (ns.map D.int))) (d1:=some (.int c)) (d2:=some (.ref h.length)) (d3:=some od) (d4:=some fr) (d5:=some wr) (d8:=some X) (d9:=some (.str s)) (d10:=z10) (d11:=some (.int (jcV n fl []))) wf h1 h2 _ y12 bn
 have ta:=yu (d0:=.int 7) (h:=h++[.lst (dX p4)]) (r:=.tup ((grd n (jcV n fl) n [] (jcV n fl [] - 1)).1.map D.int)) (d1:=.int (n:Int)) (d2:=.tup ((aW n fl).map D.int)) (d3:=.int (jcV n fl [] - 1)) (by
  have e:=Gm (fl:=fl) (t:=jcV n fl [] - 1) (h:=h++[.lst (dX p4)]) h1 h2 (by omega) (by omega)
  generalize (grd n (jcV n fl) n [] (jcV n fl [] - 1)).1.map D.int=G at *
  generalize (aW n fl).map D.int=S at *
  generalize jcV n fl []=V at *
  simp[TB,up,e])
 have q8:=eqI (xs:=(grd n (jcV n fl) n [] (jcV n fl [] - 1)).1) (h:=h++[.lst (dX p4)])
 have tb:=yu (d0:=.int 8) (h:=h++[.lst (dX p4)]) (r:=.frl ((stS n 12).map tpI)) (d1:=.int (n:Int)) (d2:=.int 12) (d3:=.int 0) (by
  have e:=Cw (h:=h++[.lst (dX p4)]) h1 h2 wf
  generalize (stS n 12).map tpI=G at *
  simp[TB,up,e])
 have q9:=eqF (ds:=(stS n 12).map tpI) (h:=h++[.lst (dX p4)])
 rw[<- hT] at e12 ta
 refine⟨_,_,?_,some (.ref h.length),some od,some fr,some wr,some (.int n),some (.tup (T.map D.int)),some X,some (.str s),z10,some (.int (jcV n fl [])),z12,rfl,wf⟩
 have s10:sml 10=true:=by decide +kernel
 have l9:(bW 0 9).length<=1000000:=by decide
 generalize hI9:bW 0 9=I9 at *
 generalize hX:(10:Int) ^ 20=X20 at e12
 generalize (grd n (jcV n fl) n [] (jcV n fl [] - 1)).1.map D.int=G1 at *
 generalize (stS n 12).map tpI=G2 at *
 generalize jcV n fl []=V at *
 generalize T.map D.int=TD at *
 simp[B2,eo1,ef1,ew1,d12,hn,ls,eb,rx,hI9,l9,f9,q7,ne7,t8,ne1,ms,lj,s10,hX,e12,ta,q8,tb,q9]
theorem Ie (ns:List Int) (hl:ns.length<=63):∃h,pf [.scr (ns.map D.int)] []=.ok (.bl true) h:=Il Eu ns hl
end FC
open PySem PySem.W PyProof.Rows
local macro_rules | `(tactic| o_head $H)=>`(tactic| (refine holds_open (q:=FC.Q) (loose:=[]) (Xt:=(fun s=>xlAt FC.Q [] s&&recOk (RowW.records (OpenRow.toRowW (OpenLaw.row PySem.Challenge.rw_fallcounts_k35_sets_refused))) s)) (XP:=XL FC.Q []) (Yf:=Hook.obs $H) (Ya:=Hook.val $H) (YP:=Hook.says $H) (N:=6104) (L2.FE.z_ (by decide) (by kernel_rfl) (fun _=>by kernel_rfl) FC.J_ FC.Jk (fun w os=>by kernel_rfl)) (Hook.of $H) (Hook.keeps $H) (fun s e=>xl_of s (Bool.and_eq_true_iff.mp e).1) XL.keeps (by rfl) (by rfl) (by rfl) (fun s e=>recFacts_of (Bool.and_eq_true_iff.mp e).2) (by rfl) (by first | assumption | decide +kernel) (by decide +kernel) ⟨rfl,rfl,rfl,rfl,rfl,by decide +kernel⟩ ?hw ?hc))
set_option maxRecDepth 100000 in
set_option maxHeartbeats 0 in
theorem PySem.Challenge.cw_fallcounts_k35_sets_refused_holds : PySem.Challenge.rw_fallcounts_k35_sets_refused.Holds := by
 w_on;o_law;k_head;w_witness2
 k_fill
 refine FC.walk (l:=PySem.Challenge.rw_fallcounts_k35_sets_refused) rfl rfl (fun w h Y=>by first | exact PySem.W.kIn_of Y | exact PySem.W.km_in_of Y) (fun w h Y=>PySem.W.km_tabs_of Y) (fun _=>by kernel_rfl) FC.Ie ?F
 case F=>
  intro w mg fa h KX G hmg
  refine FC.all_mk KX G hmg (by kernel_rfl) ?T
  case T=>
   refine' ⟨?gf,?gP,?jH,?jK,?kL,?k4,?gF,?gx,?gE,?kH,?j3,?fO,?kZ,?i5,?j8,?kM,?gR,?kF,?jb,?jE,?j0,?gu,?kS,?iY,?ja,?gX,?fB,?mT,?fT,?mL,?kc,?jZ,?jP,?gO,?jO,?Di,?cls,?mX,?j7,?iM,?xY,?jU,?Cr,?iP,?DK,?xX,?BE,?sN,?w_,?oR,?BW,?uN,?df,?dD,?bJ⟩
   (case gf=>refine' L2.FE.a8 ?a ?l ?c ?k;(case a=>k_is);(case l=>k_is);(case c=>k_is);(case k=>k_is))
   (case gP=>refine' L2.FE.a8 ?a ?l ?c ?k;(case a=>k_is);(case l=>k_is);(case c=>k_is);(case k=>k_is))
   (case jH=>refine' L2.FE.a8 ?a ?l ?c ?k;(case a=>k_is);(case l=>k_is);(case c=>k_is);(case k=>k_is))
   (case jK=>refine' L2.FE.a8 ?a ?l ?c ?k;(case a=>k_is);(case l=>k_is);(case c=>k_is);(case k=>k_is))
   (case kL=>refine' L2.FE.a8 ?a ?l ?c ?k;(case a=>k_is);(case l=>k_is);(case c=>k_is);(case k=>k_is))
   (case k4=>refine' L2.FE.a8 ?a ?l ?c ?k;(case a=>k_is);(case l=>k_is);(case c=>k_is);(case k=>k_is))
   (case gF=>refine' L2.FE.a8 ?a ?l ?c ?k;(case a=>k_is);(case l=>k_is);(case c=>k_is);(case k=>k_is))
   (case gx=>refine' L2.FE.a8 ?a ?l ?c ?k;(case a=>k_is);(case l=>k_is);(case c=>k_is);(case k=>k_is))
   (case gE=>refine' L2.FE.a8 ?a ?l ?c ?k;(case a=>k_is);(case l=>k_is);(case c=>k_is);(case k=>k_is))
   (case kH=>refine' L2.FE.a8 ?a ?l ?c ?k;(case a=>k_is);(case l=>k_is);(case c=>k_is);(case k=>k_is))
   (case j3=>refine' L2.FE.a8 ?a ?l ?c ?k;(case a=>k_is);(case l=>k_is);(case c=>k_is);(case k=>k_is))
   (case fO=>refine' L2.FE.a8 ?a ?l ?c ?k;(case a=>k_is);(case l=>k_is);(case c=>k_is);(case k=>k_is))
   (case kZ=>refine' L2.FE.a8 ?a ?l ?c ?k;(case a=>k_is);(case l=>k_is);(case c=>k_is);(case k=>k_is))
   (case i5=>refine' L2.FE.a8 ?a ?l ?c ?k;(case a=>k_is);(case l=>k_is);(case c=>k_is);(case k=>k_is))
   (case j8=>refine' L2.FE.a8 ?a ?l ?c ?k;(case a=>k_is);(case l=>k_is);(case c=>k_is);(case k=>k_is))
   (case kM=>refine' L2.FE.a8 ?a ?l ?c ?k;(case a=>k_is);(case l=>k_is);(case c=>k_is);(case k=>k_is))
   (case gR=>refine' L2.FE.a8 ?a ?l ?c ?k;(case a=>k_is);(case l=>k_is);(case c=>k_is);(case k=>k_is))
   (case kF=>refine' L2.FE.a8 ?a ?l ?c ?k;(case a=>k_is);(case l=>k_is);(case c=>k_is);(case k=>k_is))
   (case jb=>refine' L2.FE.a8 ?a ?l ?c ?k;(case a=>k_is);(case l=>k_is);(case c=>k_is);(case k=>k_is))
   (case jE=>refine' L2.FE.a8 ?a ?l ?c ?k;(case a=>k_is);(case l=>k_is);(case c=>k_is);(case k=>k_is))
   (case j0=>refine' L2.FE.a8 ?a ?l ?c ?k;(case a=>k_is);(case l=>k_is);(case c=>k_is);(case k=>k_is))
   (case gu=>refine' L2.FE.a8 ?a ?l ?c ?k;(case a=>k_is);(case l=>k_is);(case c=>k_is);(case k=>k_is))
   (case kS=>refine' L2.FE.a8 ?a ?l ?c ?k;(case a=>k_is);(case l=>k_is);(case c=>k_is);(case k=>k_is))
   (case iY=>refine' L2.FE.a8 ?a ?l ?c ?k;(case a=>k_is);(case l=>k_is);(case c=>k_is);(case k=>k_is))
   (case ja=>refine' L2.FE.a8 ?a ?l ?c ?k;(case a=>k_is);(case l=>k_is);(case c=>k_is);(case k=>k_is))
   (case gX=>refine' L2.FE.a8 ?a ?l ?c ?k;(case a=>k_is);(case l=>k_is);(case c=>k_is);(case k=>k_is))
   (case fB=>refine' L2.FE.a8 ?a ?l ?c ?k;(case a=>k_is);(case l=>k_is);(case c=>k_is);(case k=>k_is))
   (case mT=>refine' L2.FE.a8 ?a ?l ?c ?k;(case a=>k_is);(case l=>k_is);(case c=>k_is);(case k=>k_is))
   (case fT=>refine' L2.FE.a8 ?a ?l ?c ?k;(case a=>k_is);(case l=>k_is);(case c=>k_is);(case k=>k_is))
   (case mL=>refine' L2.FE.a8 ?a ?l ?c ?k;(case a=>k_is);(case l=>k_is);(case c=>k_is);(case k=>k_is))
   (case kc=>refine' L2.FE.a8 ?a ?l ?c ?k;(case a=>k_is);(case l=>k_is);(case c=>k_is);(case k=>k_is))
   (case jZ=>refine' L2.FE.a8 ?a ?l ?c ?k;(case a=>k_is);(case l=>k_is);(case c=>k_is);(case k=>k_is))
   (case jP=>refine' L2.FE.a8 ?a ?l ?c ?k;(case a=>k_is);(case l=>k_is);(case c=>k_is);(case k=>k_is))
   (case gO=>refine' L2.FE.a8 ?a ?l ?c ?k;(case a=>k_is);(case l=>k_is);(case c=>k_is);(case k=>k_is))
   (case jO=>refine' L2.FE.a8 ?a ?l ?c ?k;(case a=>k_is);(case l=>k_is);(case c=>k_is);(case k=>k_is))
   (case Di=>refine' L2.FE.a8 ?a ?l ?c ?k;(case a=>k_is);(case l=>k_is);(case c=>k_is);(case k=>k_is))
   (case cls=>refine' L2.Hi ?e0 ?e1 ?e2 ?e3 ?e4 ?e5 ?e6 ?e7 ?c;(case e0=>k_is);(case e1=>k_is);(case e2=>k_is);(case e3=>k_is);(case e4=>k_is);(case e5=>k_is);(case e6=>k_is);(case e7=>k_is);(case c=>kernel_rfl))
   (case mX=>refine' L2.yV ?a ?b ?l ?c ?k ?o FC.xk FC.v_ FC.xG FC.wX (by decide);(case a=>k_is);(case b=>k_is);(case l=>k_is);(case c=>k_is);(case k=>k_is);(case o=>kernel_rfl))
   (case j7=>refine' L2.yV ?a ?b ?l ?c ?k ?o FC.uM FC.qt FC.uL FC.uh (by decide);(case a=>k_is);(case b=>k_is);(case l=>k_is);(case c=>k_is);(case k=>k_is);(case o=>kernel_rfl))
   (case iM=>k_is)
   (case xY=>k_is)
   (case jU=>k_is)
   (case Cr=>k_is)
   (case iP=>k_is)
   (case DK=>k_is)
   (case xX=>k_is)
   (case BE=>k_is)
   (case sN=>k_is)
   (case w_=>k_is)
   (case oR=>k_is)
   (case BW=>k_is)
   (case uN=>k_is)
   (case df=>exact⟨_,rfl⟩)
   (case dD=>exact⟨_,rfl⟩)
   (case bJ=>refine' L2.FE.JP ?a ?l ?c ?k ?h1 ?h2 ?h3;(case a=>k_is);(case l=>k_is);(case c=>k_is);(case k=>k_is);(case h1=>kernel_rfl);(case h2=>kernel_rfl);(case h3=>kernel_rfl))
