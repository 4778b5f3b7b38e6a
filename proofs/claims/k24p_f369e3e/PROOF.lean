import PyProof.Rows.All
import Wide.All
import OpenK.AllK
import Wide.FinOn
import Lean
import KE.KNestM
import PyProof.EqAt
import PyProof.EqKinds
import PyProof.TupleCall
import PyProof.EnumMake
import PyProof.Draws
import KE.KDictList
import KE.KTryMore
import KE.KEqDict
import PyProof.ExcInit
import PyProof.InstStoreFacts
import KE.KSortTup
import PySem.Challenge.RW_fallcounts_k24_listed_refused
set_option Elab.async false
set_option linter.all false
set_option maxRecDepth 100000
set_option maxHeartbeats 8000000
namespace L2.FE
open PySem PySem.W PySem.Calls
noncomputable def Fo:List Obj->BT->Nat->Option BT
 | [],t,_=>some t
 | o::r,t,n=>match ((t.ins n o).get n).isSome with
  | true=>Fo r (t.ins n o) (n+1)
  | false=>none
theorem xk {life:Life}:∀{r:List Obj} {t T:BT} {n:Nat} {a:Array Obj},Fo r t n=some T->absHeap t n life=⟨a,life⟩->absHeap T (n+r.length) life=⟨a++r.toArray,life⟩
 | [],t,T,n,a,h,e=>by cases h;simpa using e
 | o::r,t,T,n,a,h,e=>by
  unfold Fo at h
  cases g:((t.ins n o).get n).isSome with
  | false=>rw[g] at h;cases h
  | true=>
   rw[g] at h
   have x:absHeap (t.ins n o) (n+1) life=⟨a.push o,life⟩:=by rw[absHeap_ins g,e];rfl
   have:=xk h x
   rw[List.length_cons,show n+(r.length+1)=n+1+r.length by omega,this]
   simp
noncomputable def zt (p:Program) (w:World) (n₀:Nat) (ann:Option Value):Nat->SharedT->Thread->Option SharedT
 | 0,_,_=>none
 | n+1,s,t=>match through t with
  | true=>some s
  | false=>match PySem.W.Fast.tw6613529449190102663 n₀ ann t with
   | false=>none
   | true=>match PySem.W.Fast.tw10156331382660048174 (PySem.W.Fast.tw11892475500146522536 PySem.W.Fast.tw14364793385576792824) p w s t with
    | some (s',t')=>zt p w n₀ ann n s' t'
    | none=>none
theorem xr {p:Program} {w:World} {n₀:Nat} {ann:Option Value}:∀{n:Nat} {s r:SharedT} {t:Thread},zt p w n₀ ann n s t=some r->topRun treeTable p w n₀ ann n s.abs t=some r.abs
 | 0,_,_,_,h=>by cases h
 | n+1,s,r,t,h=>by
  unfold zt at h
  unfold topRun
  cases ht:through t with
  | true=>rw[ht] at h;cases h;rfl
  | false=>
   rw[ht,<- PySem.W.Fast.te6613529449190102663] at h
   cases hk:stepOk n₀ ann t with
   | false=>simp only[hk] at h;cases h
   | true=>
    simp only[hk] at h
    rw[<- PySem.W.Fast.te10156331382660048174,<- PySem.W.Fast.te11892475500146522536,<- PySem.W.Fast.te14364793385576792824] at h
    cases hs:stepT (denote treeTable) p w s t with
    | none=>rw[hs] at h;cases h
    | some x=>obtain⟨s₂,t₂⟩:=x;rw[hs] at h;rw[stepT_spec hs];exact xr h
noncomputable def sT (p:Program) (w:World) (N:Nat) (os:OsState):Option SharedT:=
 match (boot_heap w.params).isNs mainGlobals with
 | true=>(Fo (boot_heap w.params).objs.toList .nil 0).bind fun T=>zt p w (boot_heap w.params).objs.size ((boot_heap w.params).nsMap mainGlobals (Str.ofString "__annotations__")) N ⟨T,(boot_heap w.params).objs.size,(boot_heap w.params).life,#[],boot_drawn,boot_toks,os⟩ (topStub p)
 | false=>none
noncomputable def Cu (p:Program) (w:World) (s₁:Shared):Bool:=staticsOk (PySem.W.Fast.tw5923862056798008813 p.main.body) (boot_heap w.params) s₁.heap&&namesBound p s₁.heap&&gensDone s₁&&laidKept (boot_heap w.params) s₁.heap
theorem zS {p q:Program} {loose:List Str} {Xt:Shared->Bool} {α:Type} {Yf:Shared->α} {Ya:World->α} {N:Nat} (hN:Nat.ble 600 N=true) (e:opening p=plainProg p.main.scope.names) (f:∀s,fenceModules? p s=some s)
  (h1:∀(w:World) (os:OsState),(sT p w N os).map (fun s=>Cu p w s.abs)=some true)
  (h2:∀(w:World) (os:OsState),(sT p w N os).map (fun s=>PySem.W.Fast.tw4187177175401517315 q loose (PySem.W.Fast.tw5923862056798008813 p.main.body) Xt true s.abs)=some (openGood q loose))
  (h3:∀(w:World) (os:OsState),(sT p w N os).map (fun s=>Yf s.abs)=some (Ya w)):LeftO p q loose Xt Yf Ya N:=fun w=>by
 obtain⟨s,hs,e'⟩:=Option.map_eq_some_iff.mp (boot_open e hN f w)
 obtain⟨H,gs,d,k,os⟩:=s
 obtain⟨rfl,rfl,rfl,rfl⟩:H=boot_heap w.params/\gs=_/\d=boot_drawn/\k=boot_toks:=by simpa using e'
 obtain⟨r,hr,l1⟩:=Option.map_eq_some_iff.mp (h1 w os)
 obtain⟨r2,hr2,l2⟩:=Option.map_eq_some_iff.mp (h2 w os)
 obtain⟨r3,hr3,l3⟩:=Option.map_eq_some_iff.mp (h3 w os)
 obtain rfl:r=r2:=Option.some.inj (hr.symm.trans hr2)
 obtain rfl:r=r3:=Option.some.inj (hr.symm.trans hr3)
 unfold Cu at l1
 rw[<- PySem.W.Fast.te5923862056798008813] at l1
 rw[<- PySem.W.Fast.te4187177175401517315,<- PySem.W.Fast.te5923862056798008813] at l2
 unfold sT at hr
 cases hn:(boot_heap w.params).isNs mainGlobals with
 | false=>rw[hn] at hr;cases hr
 | true=>
  rw[hn] at hr
  obtain⟨T,hT,hr⟩:=Option.bind_eq_some_iff.mp hr
  have z:=xk (life:=(boot_heap w.params).life) (n:=0) (a:=#[]) hT rfl
  have z':absHeap T (boot_heap w.params).objs.size (boot_heap w.params).life=boot_heap w.params:=by
   rw[Nat.zero_add,Array.length_toList] at z
   rw[z]
   simp
  have hr:=xr hr
  have st:(SharedT.mk T (boot_heap w.params).objs.size (boot_heap w.params).life #[] boot_drawn boot_toks os).abs=⟨boot_heap w.params,#[],boot_drawn,boot_toks,os⟩:=by
   show Shared.mk _ _ _ _ _=_
   rw[z']
  rw[st] at hr
  unfold openEnds
  rw[hs]
  show Option.map _ (topFrom treeTable p w N _)=_
  have t:topFrom treeTable p w N ⟨boot_heap w.params,#[],boot_drawn,boot_toks,os⟩=some r.abs:=by
   unfold topFrom
   dsimp only
   rw[hn]
   rw[hr]
   show(match staticsOk (importedModules p.main.body) (boot_heap w.params) r.abs.heap&&namesBound p r.abs.heap&&gensDone r.abs&&laidKept (boot_heap w.params) r.abs.heap with | true=>_ | false=>_)=_
   rw[l1]
  rw[t]
  show some (openSeen q loose (importedModules p.main.body) Xt true r.abs,Yf r.abs)=_
  rw[l2,l3]
noncomputable def viewOf (p:Program) (keep:List Nat):Program:={ p with main:={ p.main with body:=keep.filterMap fun i=>p.main.body[i]? } }
end L2.FE
section
open PySem PySem.W PyProof.Rows
noncomputable def FC.Q:Program:=L2.FE.viewOf PySem.Challenge.pw_fallcounts_k24_listed_refused [1,2,3,4,5,6,7,8,10,11,12,14,15,16,17,19,20,21,22,23,24,25,26,27,28,29,30,31,32,33,34,35,36,37,38,39,40,42,43,44,45,46,47,48,49,50,51,52,53,54]
theorem FC.Jv:∀(w:World) (os:OsState),(L2.FE.sT PySem.Challenge.pw_fallcounts_k24_listed_refused w 6080 os).map (fun s=>L2.FE.Cu PySem.Challenge.pw_fallcounts_k24_listed_refused w s.abs)=some true:=fun w os=>by kernel_rfl
theorem FC.Jr:∀(w:World) (os:OsState),(L2.FE.sT PySem.Challenge.pw_fallcounts_k24_listed_refused w 6080 os).map (fun s=>PySem.W.Fast.tw4187177175401517315 FC.Q [] (PySem.W.Fast.tw5923862056798008813 PySem.Challenge.pw_fallcounts_k24_listed_refused.main.body) (fun s=>xlAt FC.Q [] s&&recOk (RowW.records (OpenRow.toRowW (OpenLaw.row PySem.Challenge.rw_fallcounts_k24_listed_refused))) s) true s.abs)=some (openGood FC.Q []):=fun w os=>by kernel_rfl
end
namespace L2
open PySem PySem.Spec PyProof.Rows
noncomputable abbrev Key:=Sum Int Str
noncomputable def sY:Key->Value->Bool
 | .inl k,v=>Value.isInt k v
 | .inr x,v=>Value.isStrOf x v
noncomputable def Ls (w:World):Key->Int
 | .inl k=>hashInt k
 | .inr x=>hashStr w x
theorem cI:∀{k:Key} {v:Value},sY k v=true->(∃i t,k=Sum.inl i/\v=Value.int i t)\/(∃x t,k=Sum.inr x/\v=Value.str x t)
 | .inl i,v,h=>by
  obtain⟨t,e⟩:=Value.isInt_shape (k:=i) (v:=v) h
  exact .inl ⟨i,t,rfl,e⟩
 | .inr x,v,h=>by
  obtain⟨t,e⟩:=Value.isStrOf_shape (x:=x) (v:=v) h
  exact .inr ⟨x,t,rfl,e⟩
theorem Ay (i:Int) (t:Tok):sY (.inl i) (.int i t)=true:=by simp[sY,Value.isInt]
theorem AI (x:Str) (t:Tok):sY (.inr x) (.str x t)=true:=by simp[sY,Value.isStrOf]
theorem Gx (a b:Int):decide ((Sum.inl a:Key)=Sum.inl b)=(a == b):=by
 by_cases e:a=b
 ·subst e;simp
 ·have h:¬ (Sum.inl a:Key)=Sum.inl b:=fun q=>e (Sum.inl.inj q)
  rw[decide_eq_false h]
  exact(beq_eq_false_iff_ne.mpr e).symm
theorem Il (a b:Str):decide ((Sum.inr a:Key)=Sum.inr b)=decide (a=b):=by
 by_cases e:a=b
 ·subst e;simp
 ·have h:¬ (Sum.inr a:Key)=Sum.inr b:=fun q=>e (Sum.inr.inj q)
  rw[decide_eq_false h,decide_eq_false e]
theorem Hy (a:Int) (b:Str):decide ((Sum.inl a:Key)=Sum.inr b)=false:=decide_eq_false (fun q=>nomatch q)
theorem GD (a:Str) (b:Int):decide ((Sum.inr a:Key)=Sum.inl b)=false:=decide_eq_false (fun q=>nomatch q)
noncomputable def cQ (prog:Program) (w:World):PySem.KeyKind prog w Key where
 is:=sY
 hash:=Ls w
 inj:=fun v a b ha hb=>by
  rcases cI ha with⟨i,t,rfl,rfl⟩ | ⟨x,t,rfl,rfl⟩
  ·rcases cI hb with⟨j,u,rfl,e⟩ | ⟨y,u,rfl,e⟩
   ·injection e with e1 _;rw[e1]
   ·exact nomatch e
  ·rcases cI hb with⟨j,u,rfl,e⟩ | ⟨y,u,rfl,e⟩
   ·exact nomatch e
   ·injection e with e1 _;rw[e1]
 byValue:=fun k v h=>by
   rcases cI h with⟨i,t,rfl,rfl⟩ | ⟨x,t,rfl,rfl⟩<;>rfl
 pyHash:=fun hv h=>by
  rcases cI hv with⟨i,t,rfl,rfl⟩ | ⟨x,t,rfl,rfl⟩
  ·exact wpAny_pyHash_int h
  ·exact wpAny_pyHash_str h
 eqBool:=fun hu hv h=>by
  rcases cI hu with⟨i,t,rfl,rfl⟩ | ⟨x,t,rfl,rfl⟩
  ·rcases cI hv with⟨j,u,rfl,rfl⟩ | ⟨y,u,rfl,rfl⟩
   ·rw[Gx] at h;exact wpAny_eqBool_int h
   ·rw[Hy] at h;exact SeqAt.EqAt.int_str i t y u _ _ _ _ h
  ·rcases cI hv with⟨j,u,rfl,rfl⟩ | ⟨y,u,rfl,rfl⟩
   ·rw[GD] at h;exact SeqAt.EqAt.str_int x t j u _ _ _ _ h
   ·rw[Il] at h;exact wpAny_eqBool_str h
 «strs»:=fun k x t v h=>by
  rcases cI h with⟨i,u,rfl,e⟩ | ⟨y,u,rfl,e⟩
  ·exact nomatch e
  ·injection e with e1 _
   subst e1
   cases v<;>rfl
theorem vK (prog:Program) (w:World) (i:Int) (t:Tok):(cQ prog w).is (.inl i) (.int i t)=true:=Ay i t
theorem vO (prog:Program) (w:World) (x:Str) (t:Tok):(cQ prog w).is (.inr x) (.str x t)=true:=AI x t
inductive V where
 | non | bl (b:Bool) | int (i:Int) | str (x:Str) | byt (b:Array UInt8) | flt (b:UInt64) | ref (a:Addr) | ty (n:String)
 deriving DecidableEq
noncomputable def RelV:V->Value->Prop
 | .non,u=>u=Value.none
 | .bl b,u=>u=Value.bool b
 | .int i,u=>∃t,u=Value.int i t
 | .str x,u=>∃t,u=Value.str x t
 | .byt b,u=>∃t,u=Value.bytes b t
 | .flt b,u=>∃t,u=Value.float b t
 | .ref a,u=>u=Value.ref a
 | .ty n,u=>u=Value.type n
noncomputable abbrev Vals:List V->List Value->Prop:=Paired RelV
theorem Vals.length {xs:List V} {us:List Value} (r:Vals xs us):xs.length=us.length:=Paired.length r
theorem Vals.get:∀{xs:List V} {us:List Value} {i:Nat} {x:V},Vals xs us->xs[i]?=some x->∃u,us[i]?=some u/\RelV x u
 | _,_,_,_,.nil,e=>by simp at e
 | _,_,0,_,.cons r _,e=>by simp at e;subst e;exact⟨_,rfl,r⟩
 | _,_,i+1,x,.cons _ t,e=>by
  obtain⟨u,h1,h2⟩:=Vals.get (i:=i) (x:=x) t (by simpa using e)
  exact⟨u,by simpa using h1,h2⟩
theorem Vals.set {x:V} {u:Value} (r:RelV x u):∀{xs:List V} {us:List Value} (i:Nat),Vals xs us->Vals (xs.set i x) (us.set i u)
 | _,_,_,.nil=>.nil
 | _,_,0,.cons _ t=>.cons r t
 | _,_,i+1,.cons q t=>.cons q (Vals.set r i t)
theorem Vals.append:∀{xs ys:List V} {us ws:List Value},Vals xs us->Vals ys ws->Vals (xs++ys) (us++ws)
 | _,_,_,_,.nil,s=>s
 | _,_,_,_,.cons r t,s=>.cons r (Vals.append t s)
theorem Vals.take:∀{xs:List V} {us:List Value} (n:Nat),Vals xs us->Vals (xs.take n) (us.take n)
 | _,_,0,_=>.nil
 | _,_,_+1,.nil=>.nil
 | _,_,n+1,.cons r t=>.cons r (Vals.take n t)
theorem Vals.drop:∀{xs:List V} {us:List Value} (n:Nat),Vals xs us->Vals (xs.drop n) (us.drop n)
 | _,_,0,r=>r
 | _,_,_+1,.nil=>.nil
 | _,_,n+1,.cons _ t=>Vals.drop n t
noncomputable def kI:Option V->Option Value->Prop
 | some v,some u=>RelV v u
 | none,none=>True
 | _,_=>False
noncomputable def KV {κ:Type}:List (κ × V)->List (κ × Value)->Prop:=Paired fun(p:κ × V) (q:κ × Value)=>p.1=q.1/\RelV p.2 q.2
noncomputable def kV:Key->V
 | .inl i=>.int i
 | .inr x=>.str x
inductive HO where
 | lst (xs:List V)
 | tup (xs:List V)
 | dK (kvs:List (Key × V)) | dT (kvs:List (List Key × V))
 | set (S:Int->Bool) (n:Nat)
 | ins (C dx:Addr) (fs:List (Str × V))
 | own (x:Addr)
 | xd (fs:List (Str × V))
 | met (f x:Addr)
 | rng (lo hi:Int)
 | frz (o:Obj) (u:HO)
 | tbl (ps:Array Value)
 | ext (φ:Heap->Prop)
noncomputable abbrev Hp:=Addr->Option HO
noncomputable def upd (H:Hp) (a:Addr) (o:HO):Hp:=fun b=>if b=a then some o else H b
theorem aP {H:Hp} {a:Addr} {o:HO}:upd H a o a=some o:=by unfold upd;rw[if_pos rfl]
theorem aC {H:Hp} {a b:Addr} {o:HO} (h:b≠a):upd H a o b=H b:=by unfold upd;rw[if_neg h]
theorem D4 {H:Hp} {a:Addr} {o u:HO}:upd (upd H a o) a u=upd H a u:=by
 funext b;unfold upd;split<;>rfl
theorem F1 {H:Hp} {a b:Addr} {o u:HO} (h:H a=some o) (h':H b=some u) (d:o≠u):a≠b:=by
 intro e;subst e;rw[h] at h';exact d (Option.some.inj h')
theorem aN {H:Hp} {a b:Addr} {o:HO} (h:H a=some o) (h':H b=none):a≠b:=by
 intro e;subst e;rw[h] at h';cases h'
noncomputable def oJ (h:Heap) (a:Addr) (its:Array Value):Prop:=∃o,h.get? a=some o/\(o.cls=.type "tuple" /\ ∃n,o.data=.seq its n)/\o.dict=none
theorem oJ.tup {h:Heap} {a:Addr} {its:Array Value} (x:oJ h a its):IsTup h a its:=let ⟨o,e,⟨c,n,d⟩,_⟩:=x;⟨o,e,c,n,d⟩
theorem oJ.new (h:Heap) (its:Array Value):oJ (h.push { cls:=.type "tuple", data:=.seq its }) h.objs.size its:=⟨_,Heap.get?_push_size _ rfl,⟨rfl,_,rfl⟩,rfl⟩
section
variable (P:Program) (w:World)
noncomputable def bM (H:Hp) (h:Heap) (a:Addr):HO->Prop
 | .lst xs=>xs.length<=sizeLine/\∃(its:List Value) (n:Nat),Vals xs its/\h.get? a=some { cls:=.type "list", data:=.seq its.toArray n }
 | .tup xs=>xs.length<=sizeLine/\∃its:List Value,Vals xs its/\oJ h a its.toArray
 | .dK kvs=>kvs.length<=sizeLine/\(a == sysModules)=false/\∃vs,KV kvs vs/\h.DictOf (cQ P w) a vs
 | .dT kvs=>kvs.length<=sizeLine/\(a == sysModules)=false/\∃xs:List (List Key × Addr × Value),
   Paired (fun(p:List Key × V) (q:List Key × Addr × Value)=>p.1=q.1/\H q.2.1=some (.tup (p.1.map kV))/\RelV p.2 q.2.2) kvs xs ∧
   ∃o es ep,h.get? a=some o/\o.ExactDict/\o.data=.dict es ep/\es.toList=xs.map (entryOfKey (tupleKind (cQ P w)))/\(xs.map (·.1)).Nodup
 | .set S n=>h.SetOf (intKind P w) a S n
 | .ins C dx fs=>H dx=some (.own a)/\fs.length<=1000/\dx≠a/\h.get? a=some (PySem.W.instObj C dx) ∧
   ∃mA,h.Ns1 dx mA/\(∀f,kI (fs.lookup f) (mA f))/\PySem.Within mA (fs.map (·.1))
 | .own _=>∃o,h.get? a=some o
 | .xd fs=>∃mA,h.Ns1 a mA/\∀f,kI (fs.lookup f) (mA f)
 | .rng lo hi=>∃t u v,h.get? a=some { cls:=.type "range", data:=.fields #[.int lo t,.int hi u,.int 1 v] }
 | .frz o u=>h.get? a=some o/\bM H h a u
 | .tbl ps=>h.get? a=some { cls:=.none,data:=.fields ps }
 | .met f x=>h.get? a=some (PySem.W.methodObj (.ref f) (.ref x))
 | .ext φ=>φ h/\(∃o,h.get? a=some o)/\∀h1 h2:Heap,φ h1->(∀o,h1.get? a=some o->h2.get? a=some o)->φ h2
noncomputable def HOk (H:Hp) (h:Heap):Prop:=∀a o,H a=some o->bM P w H h a o
end
section
variable {P:Program} {w:World} {H H':Hp} {h h':Heap} {a:Addr} {o:HO}
theorem bM.lt (x:bM P w H h a o):a<h.objs.size:=by
 cases o with
 | lst xs=>obtain⟨_,_,_,_,e⟩:=x;exact Heap.lt_size e
 | tup xs=>obtain⟨_,_,_,_,e,_⟩:=x;exact Heap.lt_size e
 | dK kvs=>obtain⟨_,_,_,_,o,_,_,e,_⟩:=x;exact Heap.lt_size e
 | dT kvs=>obtain⟨_,_,_,_,o,_,_,e,_⟩:=x;exact Heap.lt_size e
 | set S n=>obtain⟨o,_,_,_,e,_⟩:=x;exact Heap.lt_size e
 | ins C dx fs=>obtain⟨_,_,_,e,_⟩:=x;exact Heap.lt_size e
 | own y=>obtain⟨_,e⟩:=x;exact Heap.lt_size e
 | xd fs=>obtain⟨_,⟨_,_,_,e,_⟩,_⟩:=x;exact Heap.lt_size e
 | rng lo hi=>obtain⟨_,_,_,e⟩:=x;exact Heap.lt_size e
 | frz ob u=>obtain⟨e,_⟩:=x;exact Heap.lt_size e
 | tbl ps=>exact Heap.lt_size (show h.get? a=some _ from x)
 | met f y=>exact Heap.lt_size (show h.get? a=some _ from x)
 | ext φ=>obtain⟨_,⟨_,e⟩,_⟩:=x;exact Heap.lt_size e
theorem Paired.rP {α β:Type} {F G:α->β->Prop}:∀{l₁:List α} {l₂:List β},Paired F l₁ l₂->(∀a b,F a b->G a b)->Paired G l₁ l₂
 | _,_,.nil,_=>.nil
 | _,_,.cons r t,f=>.cons (f _ _ r) (Paired.rP t f)
theorem bM.ke (x:bM P w H h a o) (k:∀b u,(b=a\/H b=some (.own a))->h.get? b=some u->h'.get? b=some u)
  (ho:∀b,H b=some (.own a)->H' b=some (.own a)) (ht:∀b xs,H b=some (.tup xs)->H' b=some (.tup xs)):bM P w H' h' a o:=by
 induction o with
 | lst xs=>obtain⟨z,its,n,r,e⟩:=x;exact⟨z,its,n,r,k _ _ (.inl rfl) e⟩
 | tup xs=>obtain⟨z,its,r,ob,e,c⟩:=x;exact⟨z,its,r,ob,k _ _ (.inl rfl) e,c⟩
 | dK kvs=>obtain⟨z,y,vs,r,ob,es,ep,e,c⟩:=x;exact⟨z,y,vs,r,ob,es,ep,k _ _ (.inl rfl) e,c⟩
 | dT kvs=>
  obtain⟨z,y,xs,r,ob,es,ep,e,c⟩:=x
  exact⟨z,y,xs,Paired.rP r fun p q z=>⟨z.1,ht _ _ z.2.1,z.2.2⟩,ob,es,ep,k _ _ (.inl rfl) e,c⟩
 | set S n=>obtain⟨ob,es,ep,t,e,c⟩:=x;exact⟨ob,es,ep,t,k _ _ (.inl rfl) e,c⟩
 | ins C dx fs=>
  obtain⟨d,z,ne,e,mA,⟨od,es,ep,e2,c⟩,r⟩:=x
  exact⟨ho _ d,z,ne,k _ _ (.inl rfl) e,mA,⟨od,es,ep,k _ _ (.inr d) e2,c⟩,r⟩
 | own y=>obtain⟨ob,e⟩:=x;exact⟨ob,k _ _ (.inl rfl) e⟩
 | xd fs=>obtain⟨mA,⟨od,es,ep,e,c⟩,r⟩:=x;exact⟨mA,⟨od,es,ep,k _ _ (.inl rfl) e,c⟩,r⟩
 | rng lo hi=>obtain⟨t,u,v,e⟩:=x;exact⟨t,u,v,k _ _ (.inl rfl) e⟩
 | frz ob u ih=>obtain⟨e,q⟩:=x;exact⟨k _ _ (.inl rfl) e,ih q⟩
 | tbl ps=>
  have e:h.get? a=some { cls:=.none,data:=.fields ps }:=x
  show h'.get? a=some { cls:=.none,data:=.fields ps }
  exact k a _ (.inl rfl) e
 | met f y=>
  have e:h.get? a=some (PySem.W.methodObj (.ref f) (.ref y)):=x
  show h'.get? a=some (PySem.W.methodObj (.ref f) (.ref y))
  exact k a _ (.inl rfl) e
 | ext φ=>obtain⟨p,⟨o,e⟩,st⟩:=x;exact⟨st _ _ p fun o q=>k _ _ (.inl rfl) q,⟨o,k _ _ (.inl rfl) e⟩,st⟩
theorem HOk.lt (x:HOk P w H h) (e:H a=some o):a<h.objs.size:=(x a o e).lt
theorem HOk.fresh (x:HOk P w H h) (e:h.objs.size<=a):H a=none:=by
 cases q:H a with
 | none=>rfl
 | some u=>exact absurd (Nat.lt_of_lt_of_le (x.lt q) e) (Nat.lt_irrefl _)
theorem HOk.kept (x:HOk P w H h) (k:∀b u,h.get? b=some u->h'.get? b=some u):HOk P w H h':=fun a o e=>
 (x a o e).ke (fun b u _ q=>k b u q) (fun _ q=>q) fun _ _ q=>q
theorem HOk.laid (x:HOk P w H h) (k:∀b u,h.get? b=some u->h'.get? b=some u) (hp:h.objs.size<=a) (new:bM P w (upd H a o) h' a o):HOk P w (upd H a o) h':=fun b u e=>by
 have hn:=x.fresh hp
 by_cases hb:b=a
 ·subst hb;rw[aP] at e;cases e;exact new
 ·rw[aC hb] at e
  exact(x b u e).ke (fun c v _ q=>k c v q) (fun c q=>by rw[aC (aN q hn)];exact q) fun c xs q=>by rw[aC (aN q hn)];exact q
end
noncomputable def Rd (H:Hp) (a:Addr) (u:HO):Prop:=H a=some u\/∃o,H a=some (.frz o u)
theorem Rd.ok {P:Program} {w:World} {H:Hp} {h:Heap} {a:Addr} {u:HO} (r:Rd H a u) (x:HOk P w H h):bM P w H h a u:=by
 rcases r with r | ⟨o,r⟩
 ·exact x a u r
 ·obtain⟨_,q⟩:=x a _ r
  exact q
noncomputable def Mut:Option HO->Prop
 | some (.lst _)=>True
 | some (.dK _)=>True
 | some (.dT _)=>True
 | some (.set _ _)=>True
 | some (.ins _ _ _)=>True
 | some (.ext _)=>True
 | _=>False
section
variable {P:Program} {w:World} {H:Hp} {h h':Heap} {x e:Addr} {o':HO}
theorem HOk.write (ok:HOk P w H h) (mu:Mut (H x)) (he:e=x\/H e=some (.own x)) (k:∀b u,b≠e->h.get? b=some u->h'.get? b=some u) (heo:∃u,h'.get? e=some u)
  (new:bM P w (upd H x o') h' x o'):HOk P w (upd H x o') h':=fun b u q=>by
 have nown:∀c y,H c=some (.own y)->c≠x:=fun c y r z=>by subst z;rw[r] at mu;exact mu
 have ntup:∀c xs,H c=some (.tup xs)->c≠x:=fun c xs r z=>by subst z;rw[r] at mu;exact mu
 by_cases hb:b=x
 ·subst hb;rw[aP] at q;cases q;exact new
 ·rw[aC hb] at q
  by_cases hbe:b=e
  ·have q':H b=some (.own x):=by
    rcases he with z | z
    ·exact absurd (hbe.trans z) hb
    ·rw[hbe];exact z
   rw[q] at q';cases q'
   obtain⟨v,hv⟩:=heo
   exact⟨v,by rw[hbe];exact hv⟩
  ·refine(ok b u q).ke (fun c v hc r=>k c v ?_ r) (fun c r=>by rw[aC (nown c b r)];exact r) fun c xs r=>by rw[aC (ntup c xs r)];exact r
   rcases hc with rfl | hc
   ·exact hbe
   ·rintro rfl
    rcases he with z | z
    ·exact nown c b hc z
    ·rw[hc] at z;cases z;exact hb rfl
end
structure Un (fs ex:List Addr) (H H':Hp) (h h':Heap):Prop where
 keep:∀b o,h.get? b=some o->H b=none->b∉fs->b∉ex->h'.get? b=some o
 slot:∀b o,h.get? b=some o->H b=none->b∈fs->b∉ex->∃sl,h'.get? b=some { o with slots:=sl }
 free:∀b o,h.get? b=some o->H b=none->b∉ex->H' b=none
 there:∀b o,h.get? b=some o->b∉ex->∃o',h'.get? b=some o'
 nJ:∀b xs,H b=some (.tup xs)->H' b=some (.tup xs)
 l7:∀b o u,H b=some (.frz o u)->H' b=some (.frz o u)
 mT:∀b ps,H b=some (.tbl ps)->∃more,H' b=some (.tbl (ps++more))
section
variable {fs fs' ex ex':List Addr} {H H1 H2:Hp} {h h1 h2 h':Heap} {a x e:Addr} {o:HO}
theorem Un.any (u:Un fs ex H H1 h h1) {b:Addr} {ob:Obj} (q:h.get? b=some ob) (n:H b=none) (hx:b∉ex):∃sl,h1.get? b=some { ob with slots:=sl }:=by
 by_cases hb:b∈fs
 ·exact u.slot b ob q n hb hx
 ·exact⟨ob.slots,u.keep b ob q n hb hx⟩
theorem Un.kept (k:∀b u,h.get? b=some u->h'.get? b=some u):Un fs ex H H h h':=
 ⟨fun b ob q _ _ _=>k b ob q,fun b ob q _ _ _=>⟨ob.slots,k b ob q⟩,fun _ _ _ n _=>n,fun b ob q _=>⟨ob,k b ob q⟩,fun _ _ q=>q,fun _ _ _ q=>q,fun _ ps q=>⟨#[],by rw[q];simp⟩⟩
theorem Un.refl:Un fs ex H H h h:=Un.kept fun _ _ q=>q
theorem Un.laid (k:∀b u,h.get? b=some u->h'.get? b=some u) (hp:h.objs.size<=a) (hn:H a=none):Un fs ex H (upd H a o) h h' where
 keep:=fun b u q _ _ _=>k b u q
 slot:=fun b u q _ _ _=>⟨u.slots,k b u q⟩
 free:=fun b u q n _=>by rw[aC (Nat.ne_of_lt (Nat.lt_of_lt_of_le (Heap.lt_size q) hp))];exact n
 there:=fun b u q _=>⟨u,k b u q⟩
 nJ:=fun b xs q=>by rw[aC (aN q hn)];exact q
 l7:=fun b u xs q=>by rw[aC (aN q hn)];exact q
 mT:=fun b ps q=>⟨#[],by rw[aC (aN q hn),q];simp⟩
theorem Un.write (mu:Mut (H x)) (he:e=x\/H e=some (.own x)) (k:∀b u,b≠e->h.get? b=some u->h'.get? b=some u) (heo:∃u,h'.get? e=some u):Un fs ex H (upd H x o) h h':=by
 have hx:∀b,H b=none->b≠x:=fun b n z=>by subst z;rw[n] at mu;exact mu
 have hb:∀b,H b=none->b≠e:=fun b n z=>by
  subst z
  rcases he with r | r
  ·exact hx b n r
  ·rw[n] at r;cases r
 have hm:∀b u,H b=some u->¬ Mut (some u)->b≠x:=fun b u q nm z=>by subst z;rw[q] at mu;exact nm mu
 refine⟨fun b u q n _ _=>k b u (hb b n) q,fun b u q n _ _=>⟨u.slots,k b u (hb b n) q⟩,fun b u q n _=>by rw[aC (hx b n)];exact n,fun b u q _=>?_,
  fun b xs q=>by rw[aC (hm b _ q fun z=>z)];exact q,fun b u xs q=>by rw[aC (hm b _ q fun z=>z)];exact q,fun b ps q=>⟨#[],by rw[aC (hm b _ q fun z=>z),q];simp⟩⟩
 by_cases hbe:b=e
 ·subst hbe;exact heo
 ·exact⟨u,k b u hbe q⟩
end
noncomputable def trk (h:Heap) (H:Hp):List Addr:=(List.range h.objs.size).filter fun a=>(H a).isSome
noncomputable def rO (h:Heap) (H:Hp):Heap:=PySem.W.hideAll h (trk h H)
theorem A7 (h:Heap) (H:Hp):(rO h H).objs.size=h.objs.size:=PySem.W.hideAll_size _ _
theorem Dd {h:Heap} {H:Hp} {b:Addr} {o:Obj} (e:h.get? b=some o) (n:H b=none):(rO h H).get? b=some o:=
 PySem.W.hideAll_get _ e fun hm=>by
  have q:(H b).isSome=true:=(List.mem_filter.mp hm).2
  rw[n] at q;simp at q
theorem Ft {h:Heap} {H:Hp} {b:Addr} {o:Obj} (e:(rO h H).get? b=some o):h.get? b=some o/\H b=none:=by
 have e':h.get? b=some o:=PySem.W.of_hideAll (trk h H) e
 refine⟨e',?_⟩
 cases q:H b with
 | none=>rfl
 | some x=>
  have hm:b∈trk h H:=List.mem_filter.mpr ⟨List.mem_range.mpr (Heap.lt_size e'),by simp[q]⟩
  have z:(rO h H).get? b=none:=PySem.W.hideAll_none (trk h H) hm
  rw[z] at e;cases e
structure Mod (K:PySem.W.Frag) (mg:Str->Option Value) (base:Heap):Prop where
 kin:K.In base
 glob:base.Ns mainGlobals mg
 blt:∃mb,base.Ns builtinsNs mb/\∀x:Str,x≠"__name__" -> mb x=bootBuiltins x
 nolimit:base.NoLimit
structure Cx where
 prog:Program
 w:World
 K:PySem.W.Frag
 mg:Str->Option Value
 base:Heap
 A:Around
 N:List Str
 bh:Shared
 bO:Hp
 env:Env
 outer:List Env
 stack:List Env
 ex:List Addr
 fn:Str->Bool
 calm:Bool
 pn:List (Addr × Obj)
 xe:Value->Shared->Prop
noncomputable def frs (l:List Env):List Addr:=l.filterMap (·.frame)
noncomputable abbrev Cx.fs (X:Cx):List Addr:=frs X.outer
noncomputable def Vis (sc:Scope) (x:Str):Prop:=sc.names.lookup x=some .local\/sc.names.lookup x=some .cell\/sc.names.lookup x=some .free
noncomputable def Loc (sc:Scope) (x:Str):Prop:=sc.names.lookup x=some .local\/sc.names.lookup x=some .cell
noncomputable def Look (env:Env) (h:Heap) (m:Str->Option Value) (x:Str) (u:Value):Prop:=
 (env.kindOf x=some .local/\m x=some u)\/((env.kindOf x=some .cell\/env.kindOf x=some .free)/\∃c,env.cells.lookup x=some c/\h.IsCell c (some u))
structure Cx.Ok (X:Cx):Prop where
 mod:Mod X.K X.mg X.base
 kind:X.env.scope.kind=.function
 glob:X.env.globals=mainGlobals
 blt:X.env.builtins=builtinsNs
 above:X.bh.heap.objs.size<=X.env.locals
 inj:∀x y c,X.env.cells.lookup x=some c->X.env.cells.lookup y=some c->x=y
 has:∀x,(X.env.kindOf x=some .cell\/X.env.kindOf x=some .free)->∃c,X.env.cells.lookup x=some c
 cab:∀x c,X.fn x=true->X.env.cells.lookup x=some c->X.bh.heap.objs.size<=c
 hd:X.calm=true->X.A.handled=none
 frames:X.A.frames=some X.stack
 stk:X.stack=X.outer\/(X.stack=X.env::X.outer/\X.env.frame=some X.env.locals)
 exf:∀b∈X.ex,b≠X.env.locals/\∀x c,X.env.cells.lookup x=some c->c≠b
 bs:∀b o,X.base.get? b=some o->X.bh.heap.get? b=some o/\X.bO b=none
 bsz:X.base.objs.size<=X.bh.heap.objs.size
 uN:∀b o,X.base.get? b=some o->b∉X.ex
 wk:∀b∈X.ex,b∉X.fs
 j5:X.bh.heap.FunFrames X.base X.outer
 frf:∀b∈X.fs,X.bO b=none
structure Inv (X:Cx) (pins:List (Addr × Obj)) (σ:List (Option V)) (H:Hp) (s:Shared):Prop where
 ok:X.Ok
 os:s.os=X.bh.os
 bare:AllBare s.gens
 base:Un X.fs X.ex X.bO H X.bh.heap s.heap
 loc:∃m,s.heap.Ns X.env.locals m/\∀(i:Nat) (x:Str) (v:V),X.N[i]?=some x->σ[i]?=some (some v)->Vis X.env.scope x->∃u,RelV v u/\Look X.env s.heap m x u
 cell:∀x c,X.env.cells.lookup x=some c->∃v,s.heap.IsCell c v
 free:H X.env.locals=none
 eI:∀x c,X.env.cells.lookup x=some c->H c=none
 pin:∀p∈X.pn++pins,s.heap.get? p.1=some p.2/\H p.1=none/\p.1≠X.env.locals/\p.1∉X.fs/\∀v,p.2.data≠.cell v
 hok:HOk X.prog X.w H s.heap
 len:σ.length=X.N.length
section
variable {X:Cx} {pins:List (Addr × Obj)} {σ:List (Option V)} {H H':Hp} {s:Shared} {h':Heap}
theorem Cx.Ok.LF (ok:X.Ok) {b:Addr} {o:Obj} (e:X.base.get? b=some o):b∉X.fs:=fun hb=>by
 have:=(ok.j5.mem hb).1
 rw[e] at this;cases this
theorem Inv.bs (I:Inv X pins σ H s):∀b o,X.base.get? b=some o->s.heap.get? b=some o/\H b=none:=fun b o e=>
 ⟨I.base.keep b o (I.ok.bs b o e).1 (I.ok.bs b o e).2 (I.ok.LF e) (I.ok.uN b o e),I.base.free b o (I.ok.bs b o e).1 (I.ok.bs b o e).2 (I.ok.uN b o e)⟩
theorem Inv.bk (I:Inv X pins σ H s):∀b o,X.base.get? b=some o->s.heap.get? b=some o:=fun b o e=>(I.bs b o e).1
theorem Inv.mod (I:Inv X pins σ H s):Mod X.K X.mg X.base:=I.ok.mod
theorem Inv.kIn (I:Inv X pins σ H s):X.K.In s.heap:=I.ok.mod.kin.keeps I.bk
theorem Inv.nolimit (I:Inv X pins σ H s):s.heap.NoLimit:=I.ok.mod.nolimit.keeps I.bk
theorem Inv.lt (I:Inv X pins σ H s):X.env.locals<s.heap.objs.size:=let ⟨_,hn,_⟩:=I.loc;hn.lt
theorem Inv.sz (I:Inv X pins σ H s):X.bh.heap.objs.size<=s.heap.objs.size:=Nat.le_trans I.ok.above (Nat.le_of_lt I.lt)
theorem Inv.Kg (I:Inv X pins σ H s) {a:Addr} (h:s.heap.objs.size<=a):a∉X.fs:=fun hb=>by
 obtain⟨_,o,ho,_⟩:=I.ok.j5.mem hb
 exact absurd (Nat.lt_of_lt_of_le (Heap.lt_size ho) (Nat.le_trans I.sz h)) (Nat.lt_irrefl _)
theorem Inv.cne (I:Inv X pins σ H s):∀x c,X.env.cells.lookup x=some c->c≠X.env.locals:=fun x c e z=>by
 obtain⟨v,o,ho,hd⟩:=I.cell x c e
 obtain⟨m,⟨o',es,ep,ho',hd',_⟩,_⟩:=I.loc
 rw[z,ho'] at ho;cases ho;rw[hd'] at hd;cases hd
theorem Inv.j5 (I:Inv X pins σ H s):s.heap.FunFrames X.base X.outer:=by
 have all:∀(l:List Env),(∀b∈frs l,b∈X.fs)->X.bh.heap.FunFrames X.base l->s.heap.FunFrames X.base l:=by
  intro l
  induction l with
  | nil=>intro _ _;trivial
  | cons env r ih=>
   intro hs hl
   obtain⟨hk,⟨L,o,hf,hn,ho,hd⟩,hr⟩:=hl
   have hL:L∈X.fs:=hs L (by unfold frs;rw[List.filterMap_cons,hf];exact List.mem_cons_self)
   obtain⟨sl,e⟩:=I.base.slot L o ho (I.ok.frf L hL) hL fun z=>I.ok.wk L z hL
   exact⟨hk,⟨L,_,hf,hn,e,hd⟩,ih (fun b hb=>hs b (by unfold frs;rw[List.filterMap_cons,hf];exact List.mem_cons_of_mem _ hb)) hr⟩
 exact all X.outer (fun _ hb=>hb) I.ok.j5
theorem Inv.stack (I:Inv X pins σ H s):s.heap.FunFrames X.base X.stack:=by
 rcases I.ok.stk with e | ⟨e,hf⟩
 ·rw[e];exact I.j5
 ·rw[e]
  obtain⟨m,hn,_⟩:=I.loc
  refine .cons (by rw[I.ok.kind];decide) hf hn ?_ I.j5
  exact Heap.get?_none_of_le (Nat.le_trans I.ok.bsz I.ok.above)
theorem Inv.ic (I:Inv X pins σ H s):∀b∈frs X.stack,b∈X.env.locals::X.fs:=fun b hb=>by
 rcases I.ok.stk with e | ⟨e,hf⟩
 ·rw[e] at hb;exact List.mem_cons_of_mem _ hb
 ·rw[e] at hb
  unfold frs at hb
  rw[List.filterMap_cons,hf] at hb
  exact hb
theorem Inv.pO (I:Inv X pins σ H s):∀b∈frs X.stack,H b=none:=fun b hb=>by
 rcases List.mem_cons.mp (I.ic b hb) with e | hb
 ·rw[e];exact I.free
 ·obtain⟨_,o,ho,_⟩:=I.ok.j5.mem hb
  exact I.base.free b o ho (I.ok.frf b hb) fun z=>I.ok.wk b z hb
theorem Inv.step {g':Array GenState} {t':Nat} {d':Drawn} {ch:List Addr} (I:Inv X pins σ H s)
  (hch:∀b∈ch,(b∈X.ex\/X.bh.heap.objs.size<=b)/\b≠X.env.locals/\(∀x c,X.env.cells.lookup x=some c->c≠b)/\∀p∈X.pn++pins,p.1≠b)
  (keep:∀b o,b≠X.env.locals->b∉X.fs->b∉ch->s.heap.get? b=some o->H b=none->h'.get? b=some o)
  (slot:∀b o,b≠X.env.locals->b∈X.fs->b∉ch->s.heap.get? b=some o->H b=none->∃sl,h'.get? b=some { o with slots:=sl }) (free:∀b o,b∉ch->s.heap.get? b=some o->H b=none->H' b=none)
  (there:∀b o,b∉ch->s.heap.get? b=some o->∃o',h'.get? b=some o')
  (nJ:∀b xs,H b=some (.tup xs)->H' b=some (.tup xs)) (l7:∀b o u,H b=some (.frz o u)->H' b=some (.frz o u)) (mT:∀b ps,H b=some (.tbl ps)->∃more,H' b=some (.tbl (ps++more)))
  (ns:∀m,s.heap.Ns X.env.locals m->h'.Ns X.env.locals m) (hok:HOk X.prog X.w H' h') (hg:AllBare g') :
  Inv X pins σ H' { s with heap:=h',gens:=g',drawn:=d',toks:=t' }:=by
 have neL:∀b o,X.bh.heap.get? b=some o->b≠X.env.locals:=fun b o e=>Nat.ne_of_lt (Nat.lt_of_lt_of_le (Heap.lt_size e) I.ok.above)
 have neC:∀b o,X.bh.heap.get? b=some o->b∉X.ex->b∉ch:=fun b o e hx hb=>by
  rcases(hch b hb).1 with z | z
  ·exact hx z
  ·exact absurd (Nat.lt_of_lt_of_le (Heap.lt_size e) z) (Nat.lt_irrefl _)
 have cellK:∀x c,X.env.cells.lookup x=some c->∀v,s.heap.IsCell c v->h'.IsCell c v:=fun x c e v ⟨o,ho,hd⟩=>by
  have nch:c∉ch:=fun z=>(hch c z).2.2.1 x c e rfl
  by_cases hc:c∈X.fs
  ·obtain⟨sl,q⟩:=slot c o (I.cne x c e) hc nch ho (I.eI x c e)
   exact⟨_,q,hd⟩
  ·exact⟨o,keep c o (I.cne x c e) hc nch ho (I.eI x c e),hd⟩
 refine⟨I.ok,I.os,hg,⟨fun b o e n hb hx=>?_,fun b o e n hb hx=>?_,fun b o e n hx=>?_,fun b o e hx=>?_,fun b xs e=>nJ b xs (I.base.nJ b xs e),fun b o xs e=>l7 b o xs (I.base.l7 b o xs e),fun b ps e=>?_⟩,?_,fun x c e=>?_,?_,fun x c e=>?_,fun p hp=>?_,hok,I.len⟩
 ·exact keep b o (neL b o e) hb (neC b o e hx) (I.base.keep b o e n hb hx) (I.base.free b o e n hx)
 ·obtain⟨sl,e1⟩:=I.base.slot b o e n hb hx
  obtain⟨sl',e2⟩:=slot b _ (neL b o e) hb (neC b o e hx) e1 (I.base.free b o e n hx)
  exact⟨sl',e2⟩
 ·obtain⟨o',e1⟩:=I.base.there b o e hx
  exact free b o' (neC b o e hx) e1 (I.base.free b o e n hx)
 ·obtain⟨o',e1⟩:=I.base.there b o e hx
  exact there b o' (neC b o e hx) e1
 ·obtain⟨m1,e1⟩:=I.base.mT b ps e
  obtain⟨m2,e2⟩:=mT b _ e1
  exact⟨m1++m2,by rw[e2,Array.append_assoc]⟩
 ·obtain⟨m,hn,hl⟩:=I.loc
  refine⟨m,ns m hn,fun i x v e1 e2 e3=>?_⟩
  obtain⟨u,r,l⟩:=hl i x v e1 e2 e3
  refine⟨u,r,?_⟩
  rcases l with l | ⟨k,c,e,z⟩
  ·exact .inl l
  ·exact .inr ⟨k,c,e,cellK x c e _ z⟩
 ·obtain⟨v,z⟩:=I.cell x c e
  exact⟨v,cellK x c e v z⟩
 ·obtain⟨m,⟨o,_,_,ho,_⟩,_⟩:=I.loc
  exact free _ o (fun z=>(hch _ z).2.1 rfl) ho I.free
 ·obtain⟨v,o,ho,hd⟩:=I.cell x c e
  exact free c o (fun z=>(hch c z).2.2.1 x c e rfl) ho (I.eI x c e)
 ·obtain⟨e,n,ne,nf,d⟩:=I.pin p hp
  have nch:p.1∉ch:=fun z=>(hch p.1 z).2.2.2 p hp rfl
  exact⟨keep p.1 p.2 ne nf nch e n,free p.1 p.2 nch e n,ne,nf,d⟩
theorem Inv.un {t':Nat} (I:Inv X pins σ H s) (u:Un X.fs [] H H' s.heap h') (hok:HOk X.prog X.w H' h'):Inv X pins σ H' { s with heap:=h',toks:=t' }:=by
 obtain⟨m,⟨o,es,ep,ho,r⟩,_⟩:=id I.loc
 obtain⟨sl,hL⟩:=u.any ho I.free (by simp)
 exact I.step (g':=s.gens) (d':=s.drawn) (ch:=[]) (fun _ z=>nomatch z) (fun b o _ hb _ e n=>u.keep b o e n hb (by simp)) (fun b o _ hb _ e n=>u.slot b o e n hb (by simp)) (fun b o _ e n=>u.free b o e n (by simp)) (fun b o _ e=>u.there b o e (by simp)) u.nJ u.l7 u.mT (fun m' hm=>by
  obtain⟨o',es',ep',ho',r'⟩:=hm
  rw[ho] at ho';cases ho'
  exact⟨_,es',ep',hL,r'⟩) hok I.bare
theorem Inv.call {g':Array GenState} {t':Nat} {d':Drawn} {ch:List Addr} (I:Inv X pins σ H s) (u:Un (frs X.stack) ch H H' s.heap h') (hok:HOk X.prog X.w H' h') (hg:AllBare g')
  (hch:∀b∈ch,(b∈X.ex\/X.bh.heap.objs.size<=b)/\b≠X.env.locals/\(∀x c,X.env.cells.lookup x=some c->c≠b)/\∀p∈X.pn++pins,p.1≠b) :
  Inv X pins σ H' { s with heap:=h',gens:=g',drawn:=d',toks:=t' }:=by
 obtain⟨m,⟨o,es,ep,ho,r⟩,_⟩:=id I.loc
 obtain⟨sl,hL⟩:=u.any ho I.free fun z=>(hch _ z).2.1 rfl
 exact I.step (ch:=ch) hch (fun b o hL hb hc e n=>u.keep b o e n (fun z=>(List.mem_cons.mp (I.ic b z)).elim hL hb) hc) (fun b o _ _ hc e n=>u.any e n hc) (fun b o hc e n=>u.free b o e n hc) (fun b o hc e=>u.there b o e hc) u.nJ u.l7 u.mT (fun m' hm=>by
  obtain⟨o',es',ep',ho',r'⟩:=hm
  rw[ho] at ho';cases ho'
  exact⟨_,es',ep',hL,r'⟩) hok hg
theorem Inv.turned {t':Nat} {it:Addr} (I:Inv X pins σ H s) (k:∀b o,b≠it->s.heap.get? b=some o->h'.get? b=some o) (hn:H it=none) (hL:it≠X.env.locals)
  (h1:it∈X.ex\/X.bh.heap.objs.size<=it) (h2:∀x c,X.env.cells.lookup x=some c->c≠it) (h3:∀p∈X.pn++pins,p.1≠it):Inv X pins σ H { s with heap:=h',toks:=t' }:=by
 have nit:∀b u,H b=some u->b≠it:=fun b u e z=>by rw[z,hn] at e;cases e
 refine I.step (g':=s.gens) (d':=s.drawn) (ch:=[it]) (fun b hb=>?_) (fun b o _ _ hc e _=>k b o (fun z=>hc (by simp[z])) e) (fun b o _ _ hc e _=>⟨o.slots,k b o (fun z=>hc (by simp[z])) e⟩) (fun _ _ _ _ n=>n)
  (fun b o hc e=>⟨o,k b o (fun z=>hc (by simp[z])) e⟩) (fun _ _ e=>e) (fun _ _ _ e=>e) (fun b ps e=>⟨#[],by rw[e];simp⟩) (fun m hm=>?_) (fun b u e=>?_) I.bare
 ·have e:b=it:=by simpa using hb
  subst e
  exact⟨h1,hL,h2,h3⟩
 ·obtain⟨o,es,ep,ho,r⟩:=hm
  exact⟨o,es,ep,k _ o (Ne.symm hL) ho,r⟩
 ·refine(I.hok b u e).ke (fun c v hc q=>k c v ?_ q) (fun _ q=>q) fun _ _ q=>q
  rcases hc with z | z
  ·rw[z];exact nit b u e
  ·exact nit c _ z
theorem Inv.tok (I:Inv X pins σ H s) (t:Nat):Inv X pins σ H { s with toks:=t }:=I.un (h':=s.heap) (t':=t) Un.refl I.hok
theorem Inv.kept {t':Nat} (I:Inv X pins σ H s) (k:∀b u,s.heap.get? b=some u->h'.get? b=some u):Inv X pins σ H { s with heap:=h',toks:=t' }:=I.un (Un.kept k) (I.hok.kept k)
theorem Inv.laid {a:Addr} {o:HO} {t':Nat} (I:Inv X pins σ H s) (k:∀b u,s.heap.get? b=some u->h'.get? b=some u) (hp:s.heap.objs.size<=a) (new:bM X.prog X.w (upd H a o) h' a o) :
  Inv X pins σ (upd H a o) { s with heap:=h',toks:=t' }:=I.un (Un.laid k hp (I.hok.fresh hp)) (I.hok.laid k hp new)
theorem Inv.write {x e:Addr} {o:HO} {t':Nat} (I:Inv X pins σ H s) (mu:Mut (H x)) (he:e=x\/H e=some (.own x)) (k:∀b u,b≠e->s.heap.get? b=some u->h'.get? b=some u) (heo:∃u,h'.get? e=some u)
  (new:bM X.prog X.w (upd H x o) h' x o):Inv X pins σ (upd H x o) { s with heap:=h',toks:=t' }:=I.un (Un.write mu he k heo) (I.hok.write mu he k heo new)
theorem Inv.pP {pins':List (Addr × Obj)} (I:Inv X pins σ H s) (h:∀p∈pins',s.heap.get? p.1=some p.2/\H p.1=none/\p.1≠X.env.locals/\p.1∉X.fs/\∀v,p.2.data≠.cell v):Inv X pins' σ H s:=
 ⟨I.ok,I.os,I.bare,I.base,I.loc,I.cell,I.free,I.eI,fun p hp=>(List.mem_append.mp hp).elim (fun z=>I.pin p (List.mem_append_left _ z)) (h p),I.hok,I.len⟩
theorem xu {N:List Str} (hN:N.Nodup) {i j:Nat} {x:Str} (a:N[i]?=some x) (b:N[j]?=some x):i=j:=by
 obtain⟨h1,e1⟩:=List.getElem?_eq_some_iff.mp a
 obtain⟨h2,e2⟩:=List.getElem?_eq_some_iff.mp b
 exact(List.getElem_inj hN).mp (e1.trans e2.symm)
theorem AS {M:Model} {A:Around} {E:Value->Shared->Prop} {i:Nat} {x:Str} {v:V} {u:Value} {Q:Unit->Shared->Prop} (I:Inv X pins σ H s) (hN:X.N.Nodup) (hi:X.N[i]?=some x) (hx:Loc X.env.scope x) (r:RelV v u)
  (h:∀s',Inv X pins (σ.set i (some v)) H s'->(∃a,Heap.SameBut a s.heap s'.heap/\(a=X.env.locals\/X.env.cells.lookup x=some a))->Q () s') (hf:X.fn x=true\/X.env.scope.names.lookup x=some .local:=by first | exact .inl rfl | exact .inr rfl | assumption):wpAny M A (storeName X.env x u) Q E s:=by
 obtain⟨m,hn,hl⟩:=id I.loc
 have hcls:(X.env.scope.kind == .class || (X.env.scope.kind == .module&&X.env.locals != X.env.globals))=false:=by rw[I.ok.kind];rfl
 have hiσ:i<σ.length:=by rw[I.len];exact(List.getElem?_eq_some_iff.mp hi).1
 have cne:=I.cne
 have tracked:∀{a:Addr} {h':Heap},(∃o,s.heap.get? a=some o/\H a=none)->Heap.SameBut a s.heap h'->HOk X.prog X.w H h':=fun{a h'} ha hs b ob e=>by
  obtain⟨_,_,hfree⟩:=ha
  refine(I.hok b ob e).ke (fun c w' hc q=>(hs.2 c ?_).trans q) (fun _ q=>q) fun _ _ q=>q
  rintro rfl
  rcases hc with rfl | hc
  ·rw[hfree] at e;cases e
  ·rw[hfree] at hc;cases hc
 rcases hx with hk | hk
 ·refine wpAny_storeName_local hk hn (fun h' hn' hs=>?_) hcls
  obtain⟨oL,_,_,hoL,_⟩:=id hn
  refine h _ ⟨I.ok,I.os,I.bare,⟨fun b o e n hb hx=>?_,fun b o e n hb hx=>?_,I.base.free,fun b o e hx=>?_,I.base.nJ,I.base.l7,I.base.mT⟩,⟨_,hn',fun j y v' e1 e2 e3=>?_⟩,fun y c e=>?_,I.free,I.eI,fun p hp=>?_,tracked ⟨oL,hoL,I.free⟩ hs,by simpa using I.len⟩ ⟨_,hs,.inl rfl⟩
  ·exact(hs.2 b (Nat.ne_of_lt (Nat.lt_of_lt_of_le (Heap.lt_size e) I.ok.above))).trans (I.base.keep b o e n hb hx)
  ·obtain⟨sl,e1⟩:=I.base.slot b o e n hb hx
   exact⟨sl,(hs.2 b (Nat.ne_of_lt (Nat.lt_of_lt_of_le (Heap.lt_size e) I.ok.above))).trans e1⟩
  ·obtain⟨o',e1⟩:=I.base.there b o e hx
   exact⟨o',(hs.2 b (Nat.ne_of_lt (Nat.lt_of_lt_of_le (Heap.lt_size e) I.ok.above))).trans e1⟩
  ·by_cases hj:j=i
   ·subst hj
    rw[hi] at e1;cases e1
    rw[List.getElem?_set_self hiσ] at e2
    cases e2
    exact⟨u,r,.inl ⟨hk,by simp⟩⟩
   ·rw[List.getElem?_set_ne (Ne.symm hj)] at e2
    obtain⟨u',r',q⟩:=hl j y v' e1 e2 e3
    refine⟨u',r',?_⟩
    rcases q with⟨k,e⟩ | ⟨k,c,e,z⟩
    ·refine .inl ⟨k,?_⟩
     have:y≠x:=fun e=>hj (xu hN e1 (e ▸ hi))
     simp[this,e]
    ·exact .inr ⟨k,c,e,z.sameBut hs (cne y c e)⟩
  ·obtain⟨w',z⟩:=I.cell y c e
   exact⟨w',z.sameBut hs (cne y c e)⟩
  ·obtain⟨e,n,ne,nf,d⟩:=I.pin p hp
   exact⟨(hs.2 p.1 ne).trans e,n,ne,nf,d⟩
 ·have hfn:X.fn x=true:=by
   rcases hf with z | z
   ·exact z
   ·rw[z] at hk;cases hk
  obtain⟨c,hc⟩:=I.ok.has x (.inl hk)
  obtain⟨w',z⟩:=I.cell x c hc
  refine wpAny_storeName_cell I.ok.kind hk hc z (fun h' hc' hs=>?_)
  obtain⟨oc,hoc,hocd⟩:=id z
  refine h { s with heap:=h' } ⟨I.ok,I.os,I.bare,⟨fun b o e n hb hx=>?_,fun b o e n hb hx=>?_,I.base.free,fun b o e hx=>?_,I.base.nJ,I.base.l7,I.base.mT⟩,⟨m,hn.sameBut hs (Ne.symm (cne x c hc)),fun j y v' e1 e2 e3=>?_⟩,fun y c' e=>?_,I.free,I.eI,fun p hp=>?_,tracked ⟨oc,hoc,I.eI x c hc⟩ hs,by simpa using I.len⟩ ⟨c,hs,.inr hc⟩
  ·exact(hs.2 b (Nat.ne_of_lt (Nat.lt_of_lt_of_le (Heap.lt_size e) (I.ok.cab x c hfn hc)))).trans (I.base.keep b o e n hb hx)
  ·obtain⟨sl,e1⟩:=I.base.slot b o e n hb hx
   exact⟨sl,(hs.2 b (Nat.ne_of_lt (Nat.lt_of_lt_of_le (Heap.lt_size e) (I.ok.cab x c hfn hc)))).trans e1⟩
  ·obtain⟨o',e1⟩:=I.base.there b o e hx
   exact⟨o',(hs.2 b (Nat.ne_of_lt (Nat.lt_of_lt_of_le (Heap.lt_size e) (I.ok.cab x c hfn hc)))).trans e1⟩
  ·by_cases hj:j=i
   ·subst hj
    rw[hi] at e1;cases e1
    rw[List.getElem?_set_self hiσ] at e2
    cases e2
    exact⟨u,r,.inr ⟨.inl hk,c,hc,hc'⟩⟩
   ·rw[List.getElem?_set_ne (Ne.symm hj)] at e2
    obtain⟨u',r',q⟩:=hl j y v' e1 e2 e3
    refine⟨u',r',?_⟩
    rcases q with q | ⟨k,c',e,z'⟩
    ·exact .inl q
    ·refine .inr ⟨k,c',e,z'.sameBut hs ?_⟩
     rintro rfl
     exact hj (xu hN e1 (I.ok.inj _ _ _ e hc ▸ hi))
  ·by_cases hcc:c'=c
   ·subst hcc;exact⟨_,hc'⟩
   ·obtain⟨w2,z2⟩:=I.cell y c' e
    exact⟨w2,z2.sameBut hs hcc⟩
  ·obtain⟨e,n,ne,nf,d⟩:=I.pin p hp
   refine⟨(hs.2 p.1 ?_).trans e,n,ne,nf,d⟩
   intro q
   rw[q,hoc] at e
   have q':oc=p.2:=Option.some.inj e
   exact d w' (by rw[<- q'];exact hocd)
theorem jF {M:Model} {A:Around} {E:Value->Shared->Prop} {i:Nat} {x:Str} {v:V} {u:Value} {Q:Unit->Shared->Prop} (I:Inv X pins σ H s) (hN:X.N.Nodup) (hi:X.N[i]?=some x) (hx:Loc X.env.scope x) (r:RelV v u)
  (h:∀s',Inv X pins (σ.set i (some v)) H s'->Q () s') (hf:X.fn x=true\/X.env.scope.names.lookup x=some .local:=by first | exact .inl rfl | exact .inr rfl | assumption):wpAny M A (storeName X.env x u) Q E s:=
 AS I hN hi hx r (fun s' I' _=>h s' I') hf
theorem Inv.xA {s':Shared} {ch:List Addr} (I:Inv X pins σ H s) (ho:s'.os=s.os) (u:Un (frs X.stack) ch H H' s.heap s'.heap) (hok:HOk X.prog X.w H' s'.heap) (hg:AllBare s'.gens)
  (hch:∀b∈ch,(b∈X.ex\/X.bh.heap.objs.size<=b)/\b≠X.env.locals/\(∀x c,X.env.cells.lookup x=some c->c≠b)/\∀p∈X.pn++pins,p.1≠b):Inv X pins σ H' s':=by
 obtain⟨h',g',d',t',o'⟩:=s'
 have e:o'=s.os:=ho
 subst e
 exact I.call (g':=g') (t':=t') (d':=d') u hok hg hch
end
noncomputable abbrev XK:=Value->Option Addr->Hp->Prop
noncomputable abbrev St:=List (Option V)
noncomputable abbrev VK:=V->Hp->Prop
noncomputable abbrev TE:=St->Hp->VK->Prop
noncomputable abbrev TT:=St->Hp->(Bool->Hp->Prop)->Prop
noncomputable abbrev TA:=St->Hp->(List V->Hp->Prop)->Prop
structure Ends where
 nx:St->Hp->Prop
 rt:VK
 bk:St->Hp->Prop:=fun _ _=>False
 ct:St->Hp->Prop:=fun _ _=>False
noncomputable abbrev TS:=Ends->St->Hp->Prop
noncomputable def EP (X:Cx) (pins:List (Addr × Obj)) (σ:St) (Q:VK) (u:Value) (s':Shared):Prop:=∃v H',Inv X pins σ H' s'/\RelV v u/\Q v H'
noncomputable def TP (X:Cx) (pins:List (Addr × Obj)) (σ:St) (Q:Bool->Hp->Prop) (b:Bool) (s':Shared):Prop:=∃H',Inv X pins σ H' s'/\Q b H'
noncomputable def AP (X:Cx) (pins:List (Addr × Obj)) (σ:St) (Q:List V->Hp->Prop) (us:List Value) (s':Shared):Prop:=∃vs H',Inv X pins σ H' s'/\Vals vs us/\Q vs H'
noncomputable def SP (X:Cx) (pins:List (Addr × Obj)) (D:Ends) (f:Flow) (s':Shared):Prop:=
 match f with
 | .next=>∃σ' H',Inv X pins σ' H' s'/\D.nx σ' H'
 | .brk=>∃σ' H',Inv X pins σ' H' s'/\D.bk σ' H'
 | .cont=>∃σ' H',Inv X pins σ' H' s'/\D.ct σ' H'
 | .ret u=>∃v σ' H',Inv X pins σ' H' s'/\RelV v u/\D.rt v H'
noncomputable def PE (X:Cx) (e:Expr) (t:TE):Prop:=
 ∀(pins:List (Addr × Obj)) (s:Shared) (σ:St) (H:Hp) (Q:VK),Inv X pins σ H s->t σ H Q->wpAny (model X.prog X.w) X.A (eval e X.env) (EP X pins σ Q) X.xe s
noncomputable def PT (X:Cx) (e:Expr) (t:TT):Prop:=
 ∀(pins:List (Addr × Obj)) (s:Shared) (σ:St) (H:Hp) (Q:Bool->Hp->Prop),Inv X pins σ H s->t σ H Q->wpAny (model X.prog X.w) X.A (isTrue e X.env (eval e X.env)) (TP X pins σ Q) X.xe s
noncomputable def PW (X:Cx) (e:Expr) (t:TT):Prop:=
 ∀(whole:Sem Value) (pins:List (Addr × Obj)) (s:Shared) (σ:St) (H:Hp) (Q:Bool->Hp->Prop),Inv X pins σ H s->t σ H Q->wpAny (model X.prog X.w) X.A (isTrue e X.env whole) (TP X pins σ Q) X.xe s
theorem PW.pt {X:Cx} {e:Expr} {t:TT} (h:PW X e t):PT X e t:=h _
noncomputable def PA (X:Cx) (es:List Expr) (t:TA):Prop:=
 ∀(pos:Pos) (pins:List (Addr × Obj)) (s:Shared) (σ:St) (H:Hp) (Q:List V->Hp->Prop),Inv X pins σ H s->t σ H Q->wpAny (model X.prog X.w) X.A (spliced (backTo pos (starEach es X.env))) (AP X pins σ Q) X.xe s
noncomputable def PS (X:Cx) (st:Stmt) (t:TS):Prop:=
 ∀(pins:List (Addr × Obj)) (s:Shared) (σ:St) (H:Hp) (D:Ends),Inv X pins σ H s->t D σ H->wpAny (model X.prog X.w) X.A (exec st X.env) (SP X pins D) X.xe s
noncomputable def PSs (X:Cx) (st:List Stmt) (t:TS):Prop:=
 ∀(pins:List (Addr × Obj)) (s:Shared) (σ:St) (H:Hp) (D:Ends),Inv X pins σ H s->t D σ H->wpAny (model X.prog X.w) X.A (execs st X.env) (SP X pins D) X.xe s
theorem thn {α:Type} {t:Sem α} {Q Q':α->Shared->Prop} {M:Model} {A:Around} {E:Value->Shared->Prop} {s:Shared} (h:wpAny M A t Q E s) (hQ:∀a s,Q a s->Q' a s):wpAny M A t Q' E s:=wpAny_mono h hQ fun _ _ x=>x
section
variable {X:Cx}
noncomputable def Lh (i:Nat):TE:=fun σ H Q=>∃v,σ[i]?=some (some v)/\Q v H
noncomputable def tC (v:V):TE:=fun _ H Q=>Q v H
theorem Cb {i:Nat} {x:Str} {pos:Pos} (hN:X.N[i]?=some x) (hv:Vis X.env.scope x) (hd:(x == ("__debug__" : Str))=false:=by decide) (hcd:(x == ("__classdict__" : Str))=false:=by decide):PE X (.Name x pos) (Lh i):=by
 intro pins s σ H Q I h
 obtain⟨v,e,h⟩:=h
 obtain⟨m,hn,hl⟩:=I.loc
 obtain⟨u,r,l⟩:=hl i x v hN e hv
 have fin:EP X pins σ Q u s:=⟨v,H,I,r,h⟩
 rcases l with⟨hk,hm⟩ | ⟨hk,c,hc,hcell⟩
 ·exact wpAny_Name (wpAny_loadName_local I.ok.kind hk hn hm fin) hd
 ·rcases hk with hk | hk
  ·exact wpAny_Name (wpAny_loadName_cell I.ok.kind hk hc hcell fin) hd
  ·exact wpAny_Name (wpAny_loadName_free I.ok.kind hk hc hcell fin hcd) hd
theorem Hr {i j pos}:PE X (.Constant (.int i) j pos) (tC (.int i)):=fun _ _ _ H _ I h=>wpAny_Constant_int ⟨.int i,H,I.tok _,⟨_,rfl⟩,h⟩
theorem Kq {b j pos}:PE X (.Constant (.bool b) j pos) (tC (.bl b)):=fun _ _ _ H _ I h=>Constant_bool ⟨.bl b,H,I,rfl,h⟩
theorem G9 {j pos}:PE X (.Constant .none j pos) (tC .non):=fun _ _ _ H _ I h=>Constant_none ⟨.non,H,I,rfl,h⟩
theorem HA {x j pos}:PE X (.Constant (.str x) j pos) (tC (.str x)):=fun _ _ _ H _ I h=>Calls.Constant_str ⟨.str x,H,I.tok _,⟨_,rfl⟩,h⟩
noncomputable def Gl (X:Cx) (x:Str):Prop:=X.env.kindOf x=some .globalImplicit
theorem i4 {E:Value->Shared->Prop} {pins:List (Addr × Obj)} {s:Shared} {σ:St} {H:Hp} {x:Str} {u:Value} {pos:Pos} {Q:Value->Shared->Prop} (I:Inv X pins σ H s) (hg:Gl X x) (hm:X.mg x=some u) (h:Q u s)
  (hd:(x == ("__debug__" : Str))=false:=by decide):wpAny (model X.prog X.w) X.A (eval (.Name x pos) X.env) Q E s:=
 Calls.Name_function_global I.ok.kind hg (Calls.loadGlobal_global (by rw[I.ok.glob];exact I.mod.glob.keeps I.bk) hm h) hd
theorem nY {E:Value->Shared->Prop} {pins:List (Addr × Obj)} {s:Shared} {σ:St} {H:Hp} {x:Str} {u:Value} {pos:Pos} {Q:Value->Shared->Prop} (I:Inv X pins σ H s) (hg:Gl X x) (hm:X.mg x=none) (hv:bootBuiltins x=some u) (h:Q u s)
  (hn:x≠"__name__" := by decide) (hd:(x == ("__debug__" : Str))=false:=by decide):wpAny (model X.prog X.w) X.A (eval (.Name x pos) X.env) Q E s:=by
 obtain⟨mb,h1,h2⟩:=I.mod.blt
 exact Calls.Name_function_global I.ok.kind hg (Calls.loadGlobal_builtin (by rw[I.ok.glob];exact I.mod.glob.keeps I.bk) hm (by rw[I.ok.blt];exact h1.keeps I.bk) ((h2 x hn).trans hv) h) hd
theorem zJ {x:Str} {v:V} {u:Value} {pos:Pos} (hg:Gl X x) (hm:X.mg x=some u) (r:RelV v u) (hd:(x == ("__debug__" : Str))=false:=by decide):PE X (.Name x pos) (tC v):=
 fun _ _ _ H _ I h=>i4 I hg hm ⟨v,H,I,r,h⟩ hd
theorem zw {x:Str} {v:V} {u:Value} {pos:Pos} (hg:Gl X x) (hm:X.mg x=none) (hv:bootBuiltins x=some u) (r:RelV v u) (hn:x≠"__name__" := by decide) (hd:(x == ("__debug__" : Str))=false:=by decide):PE X (.Name x pos) (tC v):=
 fun _ _ _ H _ I h=>nY I hg hm hv ⟨v,H,I,r,h⟩ hn hd
variable {a b:Expr} {ta tb:TE} {pos:Pos}
variable {tA tB':TT} {rest:List Expr}
noncomputable def LY (t u:TT):TT:=fun σ H Q=>t σ H fun c H1=>if c=true then u σ H1 Q else Q false H1
noncomputable def tOr (t u:TT):TT:=fun σ H Q=>t σ H fun c H1=>if c=true then Q true H1 else u σ H1 Q
noncomputable def LC (t:TT):TT:=fun σ H Q=>t σ H fun c H1=>Q (!c) H1
theorem pw_and1 (ha:PT X a tA):PW X (.BoolOp .And [a] pos) tA:=by
 intro wh pins s σ H Q I h
 refine isTrue_and (thn (ha pins s σ H Q I h) fun c s1 e=>?_)
 cases c with
 | true=>exact isTrue_and_nil e
 | false=>exact e
theorem pw_or1 (ha:PT X a tA):PW X (.BoolOp .Or [a] pos) tA:=by
 intro wh pins s σ H Q I h
 refine isTrue_or (thn (ha pins s σ H Q I h) fun c s1 e=>?_)
 cases c with
 | false=>exact isTrue_or_nil e
 | true=>exact e
theorem pw_and (ha:PT X a tA) (hb:PW X (.BoolOp .And (b::rest) pos) tB'):PW X (.BoolOp .And (a::b::rest) pos) (LY tA tB'):=by
 intro wh pins s σ H Q I h
 refine isTrue_and (thn (ha pins s σ H _ I h) fun c s1 ⟨H1,I1,q1⟩=>?_)
 cases c with
 | true=>exact hb wh pins s1 σ H1 Q I1 q1
 | false=>exact⟨H1,I1,q1⟩
theorem pw_or (ha:PT X a tA) (hb:PW X (.BoolOp .Or (b::rest) pos) tB'):PW X (.BoolOp .Or (a::b::rest) pos) (tOr tA tB'):=by
 intro wh pins s σ H Q I h
 refine isTrue_or (thn (ha pins s σ H _ I h) fun c s1 ⟨H1,I1,q1⟩=>?_)
 cases c with
 | true=>exact⟨H1,I1,q1⟩
 | false=>exact hb wh pins s1 σ H1 Q I1 q1
theorem Ic (ha:PT X a tA):PT X (.UnaryOp .Not a pos) (LC tA):=by
 intro pins s σ H Q I h
 exact isTrue_not (ha pins s σ H (fun c H1=>Q (!c) H1) I h)
noncomputable def IM (ta tb:TE):TE:=fun σ H Q=>ta σ H fun x H1=>∃c,x=.bl c/\if c=true then tb σ H1 Q else Q (.bl false) H1
noncomputable def Jg (ta:TE):TE:=fun σ H Q=>ta σ H fun x H1=>∃c,x=.bl c/\Q (.bl (!c)) H1
theorem HD {op} {t:TE} (h:PE X a t):PE X (.BoolOp op [a] pos) t:=fun pins s σ H Q I hw=>BoolOp_one (h pins s σ H Q I hw)
theorem GK (ha:PE X a ta) (hb:PE X (.BoolOp .And (b::rest) pos) tb):PE X (.BoolOp .And (a::b::rest) pos) (IM ta tb):=by
 intro pins s σ H Q I h
 refine BoolOp_and (thn (ha pins s σ H _ I h) fun v s1 ⟨x,H1,I1,r1,q1⟩=>?_)
 obtain⟨c,rfl,q1⟩:=q1
 cases r1
 refine wpAny_truthy_bool ?_
 cases c with
 | true=>exact hb pins s1 σ H1 Q I1 q1
 | false=>exact⟨.bl false,H1,I1,rfl,q1⟩
theorem Ib (ha:PE X a ta):PE X (.UnaryOp .Not a pos) (Jg ta):=by
 intro pins s σ H Q I h
 refine UnaryOp_ (thn (ha pins s σ H _ I h) fun v s1 ⟨x,H1,I1,r1,q1⟩=>?_)
 obtain⟨c,rfl,q1⟩:=q1
 cases r1
 exact not_of (wpAny_truthy_bool ⟨.bl (!c),H1,I1,rfl,q1⟩)
noncomputable def tIf (t:TT) (ta tb:TE):TE:=fun σ H Q=>t σ H fun c H1=>if c=true then ta σ H1 Q else tb σ H1 Q
theorem B_ {c:Expr} (hc:PT X c tA) (ha:PE X a ta) (hb:PE X b tb):PE X (.IfExp c a b pos) (tIf tA ta tb):=by
 intro pins s σ H Q I h
 refine wpAny_IfExp (thn (hc pins s σ H _ I h) fun d s1 ⟨H1,I1,q1⟩=>?_)
 cases d with
 | true=>exact ha pins s1 σ H1 Q I1 q1
 | false=>exact hb pins s1 σ H1 Q I1 q1
end
noncomputable def SqL (K:PySem.W.Frag) (H:Hp) (a:Addr) (xs:List V):Prop:=
 Rd H a (.lst xs) ∨
  ∃(o:Obj) (its:Array Value) (n:Nat),K.lookup a=some o/\o.cls=.type "list" /\ o.dict=none/\o.data=.seq its n/\its.size<=sizeLine/\Vals xs its.toList
noncomputable def SqT (K:PySem.W.Frag) (H:Hp) (a:Addr) (xs:List V):Prop:=
 Rd H a (.tup xs) ∨
  ∃(o:Obj) (its:Array Value) (n:Nat),K.lookup a=some o/\o.cls=.type "tuple" /\ o.data=.seq its n/\its.size<=sizeLine/\Vals xs its.toList
noncomputable def LQ:Value->Option V
 | .none=>some .non
 | .bool b=>some (.bl b)
 | .int i _=>some (.int i)
 | .str x _=>some (.str x)
 | .bytes b _=>some (.byt b)
 | .float b _=>some (.flt b)
 | .ref a=>some (.ref a)
 | .type n=>some (.ty n)
 | _=>none
theorem RelV.abs {x:V} {u:Value} (r:RelV x u):LQ u=some x:=by
 cases x with
 | non=>cases r;rfl
 | bl _=>cases r;rfl
 | int _=>obtain⟨t,rfl⟩:=r;rfl
 | str _=>obtain⟨t,rfl⟩:=r;rfl
 | byt _=>obtain⟨t,rfl⟩:=r;rfl
 | flt _=>obtain⟨t,rfl⟩:=r;rfl
 | ref _=>cases r;rfl
 | ty _=>cases r;rfl
theorem RelV.inj {x y:V} {u:Value} (r:RelV x u) (q:RelV y u):x=y:=Option.some.inj (r.abs.symm.trans q.abs)
theorem Vals.inj:∀{xs ys:List V} {us:List Value},Vals xs us->Vals ys us->xs=ys
 | _,_,_,.nil,.nil=>rfl
 | _,_,_,.cons r t,.cons r' t'=>by rw[r.inj r',Vals.inj t t']
section
variable {X:Cx} {pins:List (Addr × Obj)} {σ:St} {H:Hp} {s:Shared} {a:Addr} {xs ys:List V}
theorem SqL.of {K:PySem.W.Frag} (h:H a=some (.lst xs)):SqL K H a xs:=.inl (.inl h)
theorem SqT.of {K:PySem.W.Frag} (h:H a=some (.tup xs)):SqT K H a xs:=.inl (.inl h)
theorem Inv.list (I:Inv X pins σ H s) (h:SqL X.K H a xs):∃its:List Value,Vals xs its/\PlainL s.heap a its.toArray/\xs.length<=sizeLine:=by
 rcases h with h | ⟨o,its,n,hk,hc,hd,hs,hz,r⟩
 ·obtain⟨z,its,n,r,e⟩:=h.ok I.hok
  exact⟨its,r,⟨_,n,e,rfl,rfl,rfl⟩,z⟩
 ·refine⟨its.toList,r,⟨o,n,I.kIn a o hk,hc,hd,by simpa using hs⟩,?_⟩
  have e:=r.length
  simp only[Array.length_toList] at e
  omega
theorem Inv.tuple (I:Inv X pins σ H s) (h:SqT X.K H a xs):∃its:List Value,Vals xs its/\IsTup s.heap a its.toArray/\xs.length<=sizeLine:=by
 rcases h with h | ⟨o,its,n,hk,hc,hs,hz,r⟩
 ·obtain⟨z,its,r,p⟩:=h.ok I.hok
  exact⟨its,r,p.tup,z⟩
 ·refine⟨its.toList,r,⟨o,I.kIn a o hk,hc,n,by simpa using hs⟩,?_⟩
  have e:=r.length
  simp only[Array.length_toList] at e
  omega
theorem Inv.qb (I:Inv X pins σ H s) (h:SqL X.K H a xs) (h':SqL X.K H a ys):xs=ys:=by
 obtain⟨its,r,⟨o,n,e,_,_,d⟩,_⟩:=I.list h
 obtain⟨its',r',⟨o',n',e',_,_,d'⟩,_⟩:=I.list h'
 rw[e] at e';cases e'
 rw[d] at d'
 injection d' with d1 _
 have:its=its':=by simpa using congrArg Array.toList d1
 subst this
 exact r.inj r'
theorem Inv.nD (I:Inv X pins σ H s) (h:SqT X.K H a xs) (h':SqT X.K H a ys):xs=ys:=by
 obtain⟨its,r,⟨o,e,_,n,d⟩,_⟩:=I.tuple h
 obtain⟨its',r',⟨o',e',_,n',d'⟩,_⟩:=I.tuple h'
 rw[e] at e';cases e'
 rw[d] at d'
 injection d' with d1 _
 have:its=its':=by simpa using congrArg Array.toList d1
 subst this
 exact r.inj r'
end
noncomputable abbrev Cx.nO (X:Cx) (E:Value->Shared->Prop):Cx:={ X with xe:=E }
noncomputable abbrev Cx.nox (X:Cx):Cx:=X.nO fun _ _=>False
theorem Cx.Ok.nO {X:Cx} (ok:X.Ok) (E:Value->Shared->Prop):(X.nO E).Ok:=
 ⟨ok.mod,ok.kind,ok.glob,ok.blt,ok.above,ok.inj,ok.has,ok.cab,ok.hd,ok.frames,ok.stk,ok.exf,ok.bs,ok.bsz,ok.uN,ok.wk,ok.j5,ok.frf⟩
theorem Cx.Ok.gM {X:Cx} {E:Value->Shared->Prop} (ok:(X.nO E).Ok):X.Ok:=
 ⟨ok.mod,ok.kind,ok.glob,ok.blt,ok.above,ok.inj,ok.has,ok.cab,ok.hd,ok.frames,ok.stk,ok.exf,ok.bs,ok.bsz,ok.uN,ok.wk,ok.j5,ok.frf⟩
section
variable {X:Cx} {pins:List (Addr × Obj)} {σ:St} {H:Hp} {s:Shared} {E:Value->Shared->Prop}
theorem Inv.nO (I:Inv X pins σ H s) (E:Value->Shared->Prop):Inv (X.nO E) pins σ H s:=⟨I.ok.nO E,I.os,I.bare,I.base,I.loc,I.cell,I.free,I.eI,I.pin,I.hok,I.len⟩
theorem Inv.gM (I:Inv (X.nO E) pins σ H s):Inv X pins σ H s:=⟨I.ok.gM,I.os,I.bare,I.base,I.loc,I.cell,I.free,I.eI,I.pin,I.hok,I.len⟩
theorem SP.gM {D:Ends} {f:Flow} {s':Shared} (h:SP (X.nO E) pins D f s'):SP X pins D f s':=by
 cases f with
 | next=>obtain⟨σ',H',I,q⟩:=h;exact⟨σ',H',I.gM,q⟩
 | brk=>obtain⟨σ',H',I,q⟩:=h;exact⟨σ',H',I.gM,q⟩
 | cont=>obtain⟨σ',H',I,q⟩:=h;exact⟨σ',H',I.gM,q⟩
 | ret u=>obtain⟨v,σ',H',I,r,q⟩:=h;exact⟨v,σ',H',I.gM,r,q⟩
theorem PE.nox {e:Expr} {t:TE} (h:PE X.nox e t):PE X e t:=fun pins s σ H Q I hw=>
 wpAny_mono (h pins s σ H Q (I.nO _) hw) (fun _ _ ⟨v,H',I',r,q⟩=>⟨v,H',I'.gM,r,q⟩) fun _ _ z=>False.elim z
theorem PT.nox {e:Expr} {t:TT} (h:PT X.nox e t):PT X e t:=fun pins s σ H Q I hw=>
 wpAny_mono (h pins s σ H Q (I.nO _) hw) (fun _ _ ⟨H',I',q⟩=>⟨H',I'.gM,q⟩) fun _ _ z=>False.elim z
theorem PSs.nox {st:List Stmt} {t:TS} (h:PSs X.nox st t):PSs X st t:=fun pins s σ H D I hw=>
 wpAny_mono (h pins s σ H D (I.nO _) hw) (fun _ _ q=>q.gM) fun _ _ z=>False.elim z
end
section
variable {X:Cx} {st:Stmt} {rest:List Stmt} {t u:TS} {e:Expr} {te:TE} {pos:Pos}
noncomputable def JA:TS:=fun D σ H=>D.nx σ H
noncomputable def LS (t u:TS):TS:=fun D σ H=>t { D with nx:=u D } σ H
theorem EM:PSs X [] JA:=fun _ _ σ H _ I h=>wpAny_execs_nil ⟨σ,H,I,h⟩
theorem DM (h1:PS X st t) (h2:PSs X rest u):PSs X (st::rest) (LS t u):=by
 intro pins s σ H D I h
 refine wpAny_execs_cons (thn (h1 pins s σ H { D with nx:=u D } I h) fun f s1 q=>?_)
 cases f with
 | next=>
  obtain⟨σ',H',I',q⟩:=q
  exact h2 pins s1 σ' H' D I' q
 | ret v=>exact q
 | brk=>exact q
 | cont=>exact q
theorem zM (h1:PS X st t):PSs X [st] t:=by
 intro pins s σ H D I h
 refine wpAny_execs_cons (thn (h1 pins s σ H D I h) fun f s1 q=>?_)
 cases f with
 | next=>exact wpAny_execs_nil q
 | ret v=>exact q
 | brk=>exact q
 | cont=>exact q
theorem Inv.quiet {pins:List (Addr × Obj)} {σ:St} {H:Hp} {s:Shared} (I:Inv X pins σ H s):interactive X.env=false:=by simp[interactive,I.ok.kind]
noncomputable def JZ (te:TE):TS:=fun D σ H=>te σ H fun _ H1=>D.nx σ H1
theorem E5 (he:PE X e te) (hs:swapsWith e none pos.line X.env=pure false:=by rfl):PS X (.Expr e pos) (JZ te):=by
 intro pins s σ H D I h
 exact wpAny_Expr_any (thn (he pins s σ H _ I h) fun v s1 ⟨x,H1,I1,r1,q1⟩=>⟨σ,H1,I1,q1⟩) I.quiet hs
noncomputable def Lj (te:TE):TS:=fun D σ H=>te σ H D.rt
theorem Dv (he:PE X e te):PS X (.Return (some e) pos) (Lj te):=by
 intro pins s σ H D I h
 exact wpAny_Return_some (thn (he pins s σ H _ I h) fun v s1 ⟨x,H1,I1,r1,q1⟩=>⟨x,σ,H1,I1,r1,q1⟩)
noncomputable def L6 (c:TT) (t u:TS):TS:=fun D σ H=>c σ H fun b H1=>if b=true then t D σ H1 else u D σ H1
theorem JE {c:Expr} {a b:List Stmt} {tc:TT} (hc:PT X c tc) (ha:PSs X a t) (hb:PSs X b u):PS X (.If c a b pos) (L6 tc t u):=by
 intro pins s σ H D I h
 refine wpAny_If (thn (hc pins s σ H _ I h) fun d s1 ⟨H1,I1,q1⟩=>?_)
 cases d with
 | true=>exact ha pins s1 σ H1 D I1 q1
 | false=>exact hb pins s1 σ H1 D I1 q1
end
noncomputable abbrev TG:=V->St->Hp->(St->Hp->Prop)->Prop
noncomputable abbrev TGs:=List V->St->Hp->(St->Hp->Prop)->Prop
noncomputable def PG (X:Cx) (target:Expr) (t:TG):Prop:=
 ∀(pins:List (Addr × Obj)) (s:Shared) (σ:St) (H:Hp) (v:V) (u:Value) (Q:St->Hp->Prop),Inv X pins σ H s->RelV v u->t v σ H Q →
  wpAny (model X.prog X.w) X.A (assign target X.env u) (fun _ s'=>∃σ' H',Inv X pins σ' H' s'/\Q σ' H') X.xe s
noncomputable def PGs (X:Cx) (ts:List Expr) (t:TGs):Prop:=
 ∀(pins:List (Addr × Obj)) (s:Shared) (σ:St) (H:Hp) (vs:List V) (us:List Value) (Q:St->Hp->Prop),Inv X pins σ H s->Vals vs us->t vs σ H Q →
  wpAny (model X.prog X.w) X.A (assignInOrder ((assignEach ts X.env).map (·.2)) us) (fun _ s'=>∃σ' H',Inv X pins σ' H' s'/\Q σ' H') X.xe s
noncomputable abbrev yD:=V->V->V->Hp->(Hp->Prop)->Prop
noncomputable def Eu (X:Cx) (t:yD):Prop:=
 ∀(pins:List (Addr × Obj)) (s:Shared) (σ:St) (H:Hp) (o i v:V) (ov iv u:Value) (Q:Hp->Prop),Inv X pins σ H s->RelV o ov->RelV i iv->RelV v u->t o i v H Q →
  wpAny (model X.prog X.w) X.A (setItem ov iv u) (fun _ s'=>∃H',Inv X pins σ H' s'/\Q H') X.xe s
noncomputable abbrev TIp:=V->V->Hp->VK->Prop
noncomputable def PIp (X:Cx) (op:Operator) (t:TIp):Prop:=
 ∀(pins:List (Addr × Obj)) (s:Shared) (σ:St) (H:Hp) (x y:V) (v u:Value) (Q:VK),Inv X pins σ H s->RelV x v->RelV y u->t x y H Q →
  wpAny (model X.prog X.w) X.A (inplaceOp op v u) (EP X pins σ Q) X.xe s
section
variable {X:Cx} {pos:Pos}
noncomputable def qR (i:Nat):TG:=fun v σ H Q=>Q (σ.set i (some v)) H
theorem cE {i:Nat} {x:Str} (hN:X.N.Nodup) (hi:X.N[i]?=some x) (hx:Loc X.env.scope x) (hf:X.fn x=true\/X.env.scope.names.lookup x=some .local:=by first | exact .inl rfl | exact .inr rfl | assumption):PG X (.Name x pos) (qR i):=by
 intro pins s σ H v u Q I r h
 exact wpAny_assign_Name (jF I hN hi hx r (fun s' I'=>⟨_,H,I',h⟩) hf)
noncomputable def IU:TGs:=fun vs σ H Q=>vs=[]/\Q σ H
noncomputable def Bv (t:TG) (u:TGs):TGs:=fun vs σ H Q=>∃v r,vs=v::r/\t v σ H fun σ' H'=>u r σ' H' Q
theorem mC:PGs X [] IU:=by
 intro pins s σ H vs us Q I r h
 obtain⟨e,h⟩:=h
 subst e
 cases r
 exact assignInOrder_nil ⟨σ,H,I,h⟩
theorem eR {e:Expr} {es:List Expr} {t:TG} {u:TGs} (h1:PG X e t) (h2:PGs X es u)
  (hs:(assignEach (e::es) X.env).map (·.2)=assign e X.env::(assignEach es X.env).map (·.2):=by rfl):PGs X (e::es) (Bv t u):=by
 intro pins s σ H vs us Q I r h
 obtain⟨v,vr,e1,h⟩:=h
 subst e1
 cases r with
 | cons r rr=>
  rw[hs]
  refine assignInOrder_cons (thn (h1 pins s σ H _ _ _ I r h) fun _ s1 ⟨σ1,H1,I1,q1⟩=>?_)
  exact h2 pins s1 σ1 H1 _ _ Q I1 rr q1
noncomputable def IK (K:PySem.W.Frag) (n:Nat) (t:TGs):TG:=fun v σ H Q=>∃a xs,v=.ref a/\SqT K H a xs/\xs.length=n/\t xs σ H Q
theorem rL {es:List Expr} {k:Nat} {t:TGs} {n:Nat} (hc:X.calm=true) (h:PGs X es t)
  (hn:(assignEach es X.env).length=n:=by rfl) (hst:(assignEach es X.env).findIdx? (·.1)=none:=by rfl):PG X (.Tuple es k pos) (IK X.K n t):=by
 intro pins s σ H v u Q I r hw
 obtain⟨a,xs,e1,hq,hl,hw⟩:=hw
 subst e1
 cases r
 obtain⟨its,rv,ht,hz⟩:=I.tuple hq
 refine assign_Tuple_tuple (I.ok.hd hc) ht (by simp[hn,<- hl,rv.length]) hst fun h' hx=>?_
 have I1:Inv X pins σ H { s with heap:=h' }:=I.kept (t':=s.toks) fun b o e=>hx b o (Nat.ne_of_lt (Heap.lt_size e)) e
 exact h pins _ σ H xs _ Q I1 (by simpa using rv) hw
noncomputable def LN (to ti:TE) (t:yD):TG:=fun v σ H Q=>to σ H fun o H1=>ti σ H1 fun i H2=>t o i v H2 fun H3=>Q σ H3
theorem HQ {o i:Expr} {to ti:TE} {t:yD} (ho:PE X o to) (hi:PE X i ti) (hs:Eu X t)
  (ha:∀v,assign (.Subscript o i pos) X.env v=(do
   let ov ← holding [v] (eval o X.env)
   let iv ← holding [v,ov] (eval i X.env)
   standAt pos
   holding [v,ov,iv] (setItem ov iv v)
   release [v,ov,iv] []):=by intro _;rfl):PG X (.Subscript o i pos) (LN to ti t):=by
 intro pins s σ H v u Q I r h
 rw[ha]
 refine wpAny_bind (wpAny_holding (thn (ho pins s σ H _ I h) fun ov s1 ⟨x,H1,I1,r1,q1⟩=>?_))
 refine wpAny_bind (wpAny_holding (thn (hi pins s1 σ H1 _ I1 q1) fun iv s2 ⟨y,H2,I2,r2,q2⟩=>?_))
 refine wpAny_bind (wpAny_standAt (wpAny_bind (wpAny_holding (thn (hs pins s2 σ H2 x y v ov iv u _ I2 r1 r2 r q2) fun _ s3 ⟨H3,I3,q3⟩=>?_))))
 exact wpAny_release ⟨σ,H3,I3,q3⟩
noncomputable def Jc (te:TE) (g:TG):TS:=fun D σ H=>te σ H fun x H1=>g x σ H1 D.nx
theorem Dl {tg e:Expr} {te:TE} {g:TG} (he:PE X e te) (hg:PG X tg g) (hs:swapsWithSole [tg] e pos.line X.env=pure false:=by rfl) (hw:swappedStores [tg] e X.env=pure none:=by rfl)
  (h1:(assignEach [tg] X.env).map (·.2)=[assign tg X.env]:=by rfl):PS X (.Assign [tg] e pos) (Jc te g):=by
 intro pins s σ H D I h
 refine wpAny_Assign_stores (thn (he pins s σ H _ I h) fun v s1 ⟨x,H1,I1,r1,q1⟩=>?_) hs hw
 rw[h1]
 exact thn (hg pins s1 σ H1 x v _ I1 r1 q1) fun _ s2 q=>q
theorem Ih {i:Nat} {x:Str} {e:Expr} {te:TE} {pos':Pos} (hN:X.N.Nodup) (hi:X.N[i]?=some x) (hx:Loc X.env.scope x) (he:PE X e te) (hs:swapsWith e (some (.Name x pos')) pos.line X.env=pure false:=by rfl) (hf:X.fn x=true\/X.env.scope.names.lookup x=some .local:=by first | exact .inl rfl | exact .inr rfl | assumption) :
  PS X (.Assign [.Name x pos'] e pos) (Jc te (qR i)):=by
 intro pins s σ H D I h
 refine wpAny_Assign_Name (thn (he pins s σ H _ I h) fun v s1 ⟨y,H1,I1,r1,q1⟩=>?_) hs
 exact jF I1 hN hi hx r1 (fun s2 I2=>⟨_,H1,I2,q1⟩) hf
noncomputable def LP (i j:Nat) (ta:TA):TS:=fun D σ H=>ta σ H fun vs H1=>∃v w,vs=[v,w]/\D.nx ((σ.set i (some v)).set j (some w)) H1
theorem Gu {i j:Nat} {x y:Str} {a b:Expr} {ta:TA} {px py pt:Pos} {kt k2 pt2} (hc:X.calm=true) (hN:X.N.Nodup) (hi:X.N[i]?=some x) (hj:X.N[j]?=some y) (hij:i≠j)
  (hx:X.env.scope.names.lookup x=some .local) (hy:X.env.scope.names.lookup y=some .local) (ha:PA X [a,b] ta)
  (hw:swappedStores [.Tuple [.Name x px,.Name y py] kt pt] (.Tuple [a,b] k2 pt2) X.env=pure (some [x,y]))
  (hs:swapsWithSole [.Tuple [.Name x px,.Name y py] kt pt] (.Tuple [a,b] k2 pt2) pos.line X.env=pure false:=by rfl) :
  PS X (.Assign [.Tuple [.Name x px,.Name y py] kt pt] (.Tuple [a,b] k2 pt2) pos) (LP i j ta):=by
 intro pins s σ H D I h
 rw[exec_Assign_arm]
 refine wpAny_bind (wpAny_standAt ?_)
 rw[hs]
 refine wpAny_bind (wpAny_pure ?_)
 rw[if_neg (by decide)]
 refine wpAny_bind (Tuple_ (thn (ha _ pins s σ H _ I h) fun us s1 ⟨vs,H1,I1,r1,q1⟩=>?_))
 obtain⟨v,w,e1,q1⟩:=q1
 subst e1
 obtain⟨u1,u2,rfl,rv,rw'⟩:∃u1 u2,us=[u1,u2]/\RelV v u1/\RelV w u2:=by
  cases r1 with
  | cons p q=>
   cases q with
   | cons p' q'=>
    cases q'
    exact⟨_,_,rfl,p,p'⟩
 refine wpAny_newObj_type ?_ (by show 2<=sizeLine;decide)
 have I2:Inv X pins σ H1 { s1 with heap:=s1.heap.push { cls:=.type "tuple", data:=.seq [u1,u2].toArray } }:=I1.kept (t':=s1.toks) fun b o e=>Heap.get?_push_of_some _ e
 rw[hw]
 refine wpAny_bind (wpAny_pure ?_)
 show wpAny (model X.prog X.w) X.A (do rule "assign.swapped-stores"; let items ← unpackItems (.ref s1.heap.objs.size) 2 none;assignInOrder [fun v=>bindName X.env y v,fun v=>bindName X.env x v] items.reverse;pure Flow.next) _ _ _
 refine wpAny_bind (wpAny_rule (wpAny_bind (unpackItems_tuple (items:=#[u1,u2]) (I.ok.hd hc) (IsTup.new s1.heap _) fun h' hx'=>?_)))
 have I3:=I2.kept (h':=h') (t':=s1.toks) fun b o e=>hx' b o (Nat.ne_of_lt (Heap.lt_size e)) e
 show wpAny _ _ (assignInOrder [fun v=>bindName X.env y v,fun v=>bindName X.env x v] [u2,u1] >>= fun _=>pure Flow.next) _ _ _
 refine wpAny_bind (assignInOrder_cons (wpAny_bindName (jF I3 hN hj (.inl hy) rw' (fun s2 I4=>?_) (.inr hy))))
 refine assignInOrder_cons (wpAny_bindName (jF I4 hN hi (.inl hx) rv (fun s3 I5=>assignInOrder_nil (wpAny_pure ?_)) (.inr hx)))
 rw[List.set_comm _ _ (Ne.symm hij)] at I5
 exact⟨_,H1,I5,q1⟩
noncomputable def JD (to ti te:TE) (tget:V->V->Hp->VK->Prop) (tip:TIp) (tset:yD):TS:=fun D σ H=>to σ H fun o H1=>ti σ H1 fun i H2=>tget o i H2 fun x H3=>te σ H3 fun y H4=>tip x y H4 fun z H5=>tset o i z H5 fun H6=>D.nx σ H6
noncomputable def Ke (X:Cx) (t:V->V->Hp->VK->Prop):Prop:=
 ∀(pins:List (Addr × Obj)) (s:Shared) (σ:St) (H:Hp) (o i:V) (ov iv:Value) (Q:VK),Inv X pins σ H s->RelV o ov->RelV i iv->t o i H Q →
  wpAny (model X.prog X.w) X.A (getItem ov iv) (EP X pins σ Q) X.xe s
theorem Fs {o i e:Expr} {to ti te:TE} {tget:V->V->Hp->VK->Prop} {tip:TIp} {tset:yD} {op:Operator} {tpos:Pos} (ho:PE X o to) (hi:PE X i ti) (hg:Ke X tget) (he:PE X e te) (hp:PIp X op tip) (hs:Eu X tset)
  (ha:∀ov iv new,augStore i ov iv new=(do holding [new,ov,iv] (setItem ov iv new);release [new,ov,iv] [];pure .next):=by intros;rfl):PS X (.AugAssign (.Subscript o i tpos) op e pos) (JD to ti te tget tip tset):=by
 intro pins s σ H D I h
 refine wpAny_AugAssign_SubscriptAny (thn (ho pins s σ H _ I h) fun ov s1 ⟨x1,H1,I1,r1,q1⟩=>?_) ha
 refine thn (hi pins s1 σ H1 _ I1 q1) fun iv s2 ⟨x2,H2,I2,r2,q2⟩=>?_
 refine thn (hg pins s2 σ H2 x1 x2 ov iv _ I2 r1 r2 q2) fun old s3 ⟨x3,H3,I3,r3,q3⟩=>?_
 refine thn (he pins s3 σ H3 _ I3 q3) fun v s4 ⟨x4,H4,I4,r4,q4⟩=>?_
 refine thn (hp pins s4 σ H4 x3 x4 old v _ I4 r3 r4 q4) fun new s5 ⟨x5,H5,I5,r5,q5⟩=>?_
 exact thn (hs pins s5 σ H5 x1 x2 x5 ov iv new _ I5 r1 r2 r5 q5) fun _ s6 ⟨H6,I6,q6⟩=>⟨σ,H6,I6,q6⟩
noncomputable def ipI (f:Int->Int->Int):TIp:=fun x y H Q=>∃i j,x=.int i/\y=.int j/\Q (.int (f i j)) H
theorem Hz:PIp X .Add (ipI fun i j=>i+j):=by
 intro pins s σ H x y v u Q I r1 r2 h
 obtain⟨i,j,e1,e2,q⟩:=h
 subst e1;subst e2
 obtain⟨t,rfl⟩:=r1
 obtain⟨t',rfl⟩:=r2
 exact iadd_int ⟨.int _,H,I.tok _,⟨_,rfl⟩,q⟩
end
structure It where
 go:Nat->Hp->Prop
 yld:Nat->Hp->V->Hp->Prop
 stop:Nat->Hp->Prop
noncomputable def sx (X:Cx) (pins:List (Addr × Obj)) (H:Hp) (b:Addr):Prop:=
 H b=none/\b≠X.env.locals/\b∉X.fs/\(b∈X.ex\/X.bh.heap.objs.size<=b)/\(∀x c,X.env.cells.lookup x=some c->c≠b)/\∀p∈X.pn++pins,p.1≠b
theorem Inv.Et {X:Cx} {pins:List (Addr × Obj)} {σ:St} {H H':Hp} {s:Shared} {b:Addr} (I:Inv X pins σ H s) (hb:s.heap.objs.size<=b) (hn:H' b=none):sx X pins H' b:=by
 refine⟨hn,Nat.ne_of_gt (Nat.lt_of_lt_of_le I.lt hb),I.Kg hb,.inr (Nat.le_trans I.sz hb),fun x c e z=>?_,fun p hp z=>?_⟩
 ·obtain⟨v,q⟩:=I.cell x c e
  exact absurd (Nat.lt_of_lt_of_le q.lt (by rw[z];exact hb)) (Nat.lt_irrefl _)
 ·exact absurd (Nat.lt_of_lt_of_le (Heap.lt_size (I.pin p hp).1) (by rw[z];exact hb)) (Nat.lt_irrefl _)
structure Turn (P:Program) (w:World) (K:PySem.W.Frag) (tg:Expr) (J:It) (fp:List Addr) (it:Addr) (tn:Nat->Heap->Prop):Prop where
 mem:it∈fp
 obj:∀i h,tn i h->∀b∈fp,∃o,h.get? b=some o/\∀v,o.data≠.cell v
 keep:∀i h h',tn i h->(∀b∈fp,∀o,h.get? b=some o->h'.get? b=some o)->tn i h'
 item:∀(X:Cx),X.prog=P->X.w=w->X.K=K->X.calm=true->∀(i:Nat) (pins:List (Addr × Obj)) (s:Shared) (σ:St) (H:Hp) (E:Value->Shared->Prop),Inv X pins σ H s->(∀b∈fp,sx X pins H b)->tn i s.heap->J.go i H →
  wpAny (model P w) X.A (pyNext (.ref it)) (fun r s1=>∃u,r=some u ∧
   wpAny (model P w) X.A (letOwnedTupleGo tg (.ref it) u) (fun _ s2=>∃x H',Inv X pins σ H' s2/\RelV x u/\J.yld i H x H'/\tn (i+1) s2.heap/\∀b∈fp,H' b=none) E s1) E s
 done:∀(X:Cx),X.prog=P->X.w=w->X.K=K->X.calm=true->∀(i:Nat) (pins:List (Addr × Obj)) (s:Shared) (σ:St) (H:Hp) (E:Value->Shared->Prop),Inv X pins σ H s->(∀b∈fp,sx X pins H b)->tn i s.heap->J.stop i H →
  wpAny (model P w) X.A (pyNext (.ref it)) (fun r s1=>r=none/\Inv X pins σ H s1) E s
 self:∀(A:Around) (i:Nat) (s:Shared) (Q:Value->Shared->Prop) (E:Value->Shared->Prop),tn i s.heap->Q (.ref it) s->wpAny (model P w) A (pyIter (.ref it)) Q E s
noncomputable abbrev TI:=St->Hp->(It->Hp->Prop)->Prop
noncomputable def PIE (X:Cx) (pins:List (Addr × Obj)) (σ:St) (tg:Expr) (R:It->Hp->Prop) (itv:Value) (s2:Shared):Prop:=
 ∃(it:Addr) (fp:List Addr) (tn:Nat->Heap->Prop) (J:It) (H':Hp),itv=.ref it/\Inv X pins σ H' s2/\Turn X.prog X.w X.K tg J fp it tn/\tn 0 s2.heap/\(∀b∈fp,sx X pins H' b)/\R J H'
noncomputable def PI (X:Cx) (tg iter:Expr) (wi:TI):Prop:=
 ∀(pins:List (Addr × Obj)) (s:Shared) (σ:St) (H:Hp) (R:It->Hp->Prop),Inv X pins σ H s->wi σ H R →
  wpAny (model X.prog X.w) X.A (eval iter X.env) (fun v s1=>wpAny (model X.prog X.w) X.A (pyIter v) (PIE X pins σ tg R) X.xe s1) X.xe s
theorem BY {M:Model} {A:Around} {E:Value->Shared->Prop} {s:Shared} {tg:Expr} {it:Addr} {u:Value} {o:Obj} {n:String} {vs:Array Value} {Q:Unit->Shared->Prop} (ho:s.heap.get? it=some o) (hc:o.cls=.type n) (hd:o.data=.fields vs)
  (hn:["enumerate", "zip", "dict_itemiterator", "dict_reverseitemiterator", "odict_iterator", "itertools.zip_longest", "itertools.pairwise"].contains n=false) (hQ:Q () s):wpAny M A (letOwnedTupleGo tg (.ref it) u) Q E s:=by
 unfold letOwnedTupleGo
 cases tg<;>first
  | exact wpAny_pure hQ
  | (cases u<;>first
    | exact wpAny_pure hQ
    | (refine wpAny_bind (wpAny_load ho ?_)
       rw[hc,hd]
       show wpAny M A (if (["enumerate", "zip", "dict_itemiterator", "dict_reverseitemiterator", "odict_iterator", "itertools.zip_longest", "itertools.pairwise"].contains n&&vs[0]? == some (rawInt _))=true then _ else _) Q E s
       rw[if_neg (by intro h;rw[hn,Bool.false_and] at h;cases h)]
       exact wpAny_pure hQ))
noncomputable def Itl (K:PySem.W.Frag) (a:Addr):It:=
 ⟨fun i H=>∃xs x,SqL K H a xs/\xs[i]?=some x,fun i H x H'=>H'=H/\∀xs,SqL K H a xs->xs[i]?=some x,fun i H=>∃xs,SqL K H a xs/\xs.length<=i⟩
noncomputable def Itt (K:PySem.W.Frag) (a:Addr):It:=
 ⟨fun i H=>∃xs x,SqT K H a xs/\xs[i]?=some x,fun i H x H'=>H'=H/\∀xs,SqT K H a xs->xs[i]?=some x,fun i H=>∃xs,SqT K H a xs/\xs.length<=i⟩
noncomputable def Itr (lo:Int) (n:Nat):It:=⟨fun i _=>i<n,fun i H x H'=>H'=H/\x=.int (lo+i),fun i _=>n<=i⟩
theorem Ad {P:Program} {w:World} {K:PySem.W.Frag} {tg:Expr} (a it:Addr):Turn P w K tg (Itl K a) [it] it (fun i h=>h.IsListIter it a i) where
 mem:=by simp
 obj:=fun i h st b hb=>by
  have e:b=it:=by simpa using hb
  subst e
  obtain⟨o,e,c,d⟩:=st
  exact⟨o,e,fun v z=>by rw[d] at z;cases z⟩
 keep:=fun i h h' st k=>st.at fun o e=>k it (by simp) o e
 item:=by
  intro X hP hw hK hc i pins s σ H E I hf st hg
  subst hP hw hK
  obtain⟨xs,x,hq,hx⟩:=hg
  obtain⟨its,rv,p,hz⟩:=I.list hq
  obtain⟨u,hu,ru⟩:=rv.get hx
  obtain⟨f0,f1,f2,f3,f4,f5⟩:=hf it (by simp)
  refine wpAny_pyNext_list_item st p.isList (x:=u) (by simpa using hu) fun h' st' sb=>?_
  have I1:Inv X pins σ H { s with heap:=h' }:=I.turned (t':=s.toks) (fun b o hb e=>(sb.2 b hb).trans e) f0 f1 f3 f4 f5
  obtain⟨o,e,c,d⟩:=id st'
  exact⟨u,rfl,BY (s:={ s with heap:=h' }) e c d (by decide) ⟨x,H,I1,ru,⟨rfl,fun ys hy=>by rw[I.qb hy hq];exact hx⟩,st',fun b hb=>(hf b hb).1⟩⟩
 done:=by
  intro X hP hw hK hc i pins s σ H E I hf st hg
  subst hP hw hK
  obtain⟨xs,hq,hx⟩:=hg
  obtain⟨its,rv,p,hz⟩:=I.list hq
  obtain⟨f0,f1,f2,f3,f4,f5⟩:=hf it (by simp)
  have hl:=rv.length
  exact wpAny_pyNext_list_end (I.ok.hd hc) st p.isList (by simp;omega) fun h' eb=>⟨rfl,I.turned (t':=s.toks) (fun b o hb e=>eb b o hb e) f0 f1 f3 f4 f5⟩
 self:=fun _ _ _ _ _ st h=>wpAny_pyIter_listiter st h
theorem xP {P:Program} {w:World} {K:PySem.W.Frag} {tg:Expr} (a it:Addr):Turn P w K tg (Itt K a) [it] it (fun i h=>h.IsTupleIter it a i) where
 mem:=by simp
 obj:=fun i h st b hb=>by
  have e:b=it:=by simpa using hb
  subst e
  obtain⟨o,e,c,d⟩:=st
  exact⟨o,e,fun v z=>by rw[d] at z;cases z⟩
 keep:=fun i h h' st k=>st.at fun o e=>k it (by simp) o e
 item:=by
  intro X hP hw hK hc i pins s σ H E I hf st hg
  subst hP hw hK
  obtain⟨xs,x,hq,hx⟩:=hg
  obtain⟨its,rv,p,hz⟩:=I.tuple hq
  obtain⟨u,hu,ru⟩:=rv.get hx
  obtain⟨f0,f1,f2,f3,f4,f5⟩:=hf it (by simp)
  refine wpAny_pyNext_tuple_item st (show s.heap.IsTuple a its.toArray from p) (x:=u) (by simpa using hu) fun h' st' sb=>?_
  have I1:Inv X pins σ H { s with heap:=h' }:=I.turned (t':=s.toks) (fun b o hb e=>(sb.2 b hb).trans e) f0 f1 f3 f4 f5
  obtain⟨o,e,c,d⟩:=id st'
  exact⟨u,rfl,BY (s:={ s with heap:=h' }) e c d (by decide) ⟨x,H,I1,ru,⟨rfl,fun ys hy=>by rw[I.nD hy hq];exact hx⟩,st',fun b hb=>(hf b hb).1⟩⟩
 done:=by
  intro X hP hw hK hc i pins s σ H E I hf st hg
  subst hP hw hK
  obtain⟨xs,hq,hx⟩:=hg
  obtain⟨its,rv,p,hz⟩:=I.tuple hq
  obtain⟨f0,f1,f2,f3,f4,f5⟩:=hf it (by simp)
  have hl:=rv.length
  exact wpAny_pyNext_tuple_end (I.ok.hd hc) st (show s.heap.IsTuple a its.toArray from p) (by simp;omega) fun h' eb=>⟨rfl,I.turned (t':=s.toks) (fun b o hb e=>eb b o hb e) f0 f1 f3 f4 f5⟩
 self:=fun _ _ _ _ _ st h=>wpAny_pyIter_tupleiter st h
theorem ye {P:Program} {w:World} {K:PySem.W.Frag} {tg:Expr} (it:Addr) (lo:Int) (n:Nat):Turn P w K tg (Itr lo n) [it] it (fun i h=>IsRangeIter h it (lo+(i:Nat)*1) ((n:Int) - (i:Nat)) 1) where
 mem:=by simp
 obj:=fun i h st b hb=>by
  have e:b=it:=by simpa using hb
  subst e
  exact⟨_,st,fun v z=>by
   have z':Data.fields _=Data.cell v:=z
   cases z'⟩
 keep:=fun i h h' st k=>k it (by simp) _ st
 item:=by
  intro X hP hw hK hc i pins s σ H E I hf st hg
  subst hP hw hK
  obtain⟨f0,f1,f2,f3,f4,f5⟩:=hf it (by simp)
  have W:=Walks.range (prog:=X.prog) (w:=X.w) (I.ok.hd hc) it lo 1 n
  refine W.item i s _ _ hg st fun v h' tk hv st' kk=>?_
  obtain⟨t,rfl⟩:=hv
  have I1:Inv X pins σ H { s with heap:=h',toks:=tk }:=I.turned (fun b o hb e=>kk b o (by simpa using hb) e) f0 f1 f3 f4 f5
  refine⟨_,rfl,BY (s:={ s with heap:=h',toks:=tk }) (n:="range_iterator") st' rfl rfl (by decide) ⟨.int (lo+i),H,I1,⟨t,?_⟩,⟨rfl,rfl⟩,st',fun b hb=>(hf b hb).1⟩⟩
  rw[Int.mul_one]
 done:=by
  intro X hP hw hK hc i pins s σ H E I hf st hg
  subst hP hw hK
  obtain⟨f0,f1,f2,f3,f4,f5⟩:=hf it (by simp)
  exact wpAny_pyNext_range_end (I.ok.hd hc) st (by have:n<=i:=hg;omega) fun h' eb=>⟨rfl,I.turned (t':=s.toks) (fun b o hb e=>eb b o hb e) f0 f1 f3 f4 f5⟩
 self:=fun _ _ _ _ _ st h=>wpAny_pyIter_rangeiter st h
section
variable {X:Cx} {tg:Expr}
theorem xl {pins:List (Addr × Obj)} {σ:St} {H:Hp} {s:Shared} {R:It->Hp->Prop} {E:Value->Shared->Prop} {lo hi:Int} {t u v:Tok} {tk:Nat} (I:Inv X pins σ H s) (h1:-(2 ^ 62)<=lo) (h2:lo<2 ^ 62) (h3:-(2 ^ 62)<=hi) (h4:hi<2 ^ 62)
  (q:R (Itr lo (hi - lo).toNat) H):wpAny (model X.prog X.w) X.A (pyIter (.ref s.heap.objs.size)) (PIE X pins σ tg R) E { s with heap:=s.heap.push { cls:=.type "range", data:=.fields #[.int lo t,.int hi u,.int 1 v] },toks:=tk }:=by
 refine wpAny_pyIter_range (IsRange.new ..) (small_one h1 h2 h3 h4) ?_
 have I1:Inv X pins σ H { s with heap:=s.heap.push { cls:=.type "range", data:=.fields #[.int lo t,.int hi u,.int 1 v] },toks:=tk }:=I.kept fun b o e=>Heap.get?_push_of_some _ e
 refine⟨(s.heap.push { cls:=.type "range", data:=.fields #[.int lo t,.int hi u,.int 1 v] }).objs.size,[(s.heap.push { cls:=.type "range", data:=.fields #[.int lo t,.int hi u,.int 1 v] }).objs.size],_,_,H,rfl,
  I1.kept (t':=tk) fun b o e=>Heap.get?_push_of_some _ e,ye _ lo (hi - lo).toNat,?_,fun b hb=>?_,q⟩
 ·have e1:lo+((0:Nat):Int)*1=lo:=by simp
  have e2:(((hi - lo).toNat:Nat):Int) - ((0:Nat):Int)=Builtin.Range.rangeSize lo hi 1:=by rw[rangeSize_one];split<;>omega
  show IsRangeIter _ _ (lo+((0:Nat):Int)*1) ((((hi - lo).toNat:Nat):Int) - ((0:Nat):Int)) 1
  rw[e1,e2]
  exact Heap.get?_push_size _ rfl
 ·have e:b=(s.heap.push { cls:=.type "range", data:=.fields #[.int lo t,.int hi u,.int 1 v] }).objs.size:=by simpa using hb
  subst e
  exact I1.Et (Nat.le_refl _) (I1.hok.fresh (Nat.le_refl _))
noncomputable def J_ (ta:TA):TI:=fun σ H R=>ta σ H fun vs H1=>∃j:Int,vs=[.int j]/\-(2 ^ 62)<=j/\j<2 ^ 62/\R (Itr 0 j.toNat) H1
noncomputable def IP (ta:TA):TI:=fun σ H R=>ta σ H fun vs H1=>∃i j:Int,vs=[.int i,.int j]/\(-(2 ^ 62)<=i/\i<2 ^ 62/\-(2 ^ 62)<=j/\j<2 ^ 62)/\R (Itr i (j - i).toNat) H1
theorem z_ {a:Expr} {ta:TA} {p pos:Pos} (hg:Gl X "range") (hm:X.mg "range" = none) (ha:PA X [a] ta) (hs:starEach [a] X.env=[(false,eval a X.env)]:=by rfl):PI X tg (.Call (.Name "range" p) [a] [] pos) (J_ ta):=by
 intro pins s σ H R I h
 refine Call_ (nY I hg hm boot_range (PyProof.Rows.callWith_type1 (thn (ha pos pins s σ H _ I h) fun us s1 ⟨vs,H1,I1,r1,q1⟩=>?_) hs rfl))
 obtain⟨j,e,q1,q2,q⟩:=q1
 subst e
 cases r1 with
 | cons r rr=>
  cases rr
  obtain⟨t,rfl⟩:=r
  exact call_range_1 (xl I1 (by omega) (by omega) q1 q2 (by simpa using q))
theorem Ax {a b:Expr} {ta:TA} {p pos:Pos} (hg:Gl X "range") (hm:X.mg "range" = none) (ha:PA X [a,b] ta) (hs:starEach [a,b] X.env=[(false,eval a X.env),(false,eval b X.env)]:=by rfl) (hs2:starEach [b] X.env=[(false,eval b X.env)]:=by rfl) :
  PI X tg (.Call (.Name "range" p) [a,b] [] pos) (IP ta):=by
 intro pins s σ H R I h
 refine Call_ (nY I hg hm boot_range (PyProof.Rows.callWith_type1 (thn (ha pos pins s σ H _ I h) fun us s1 ⟨vs,H1,I1,r1,q1⟩=>?_) (by rw[hs,hs2]) (by rw[hs2];rfl)))
 obtain⟨i,j,e,⟨q1,q2,q3,q4⟩,q⟩:=q1
 subst e
 cases r1 with
 | cons r rr=>
  cases rr with
  | cons r' rr=>
   cases rr
   obtain⟨t,rfl⟩:=r
   obtain⟨t',rfl⟩:=r'
   exact call_range_2 (xl I1 q1 q2 q3 q4 q)
noncomputable def L_ (wi:TI) (g:TG) (tb:TS):TS:=fun D σ H=>wi σ H fun J H1=>∃W:Nat->Nat->St->Hp->Prop,(∃m,W 0 m σ H1)/\∀i m σ H,W i m σ H →
 (J.stop i H/\D.nx σ H)\/(J.go i H/\∃N:St->Hp->Prop,(∀σ' H',N σ' H'->∃m',m'<m/\W (i+1) m' σ' H')/\∀x H',J.yld i H x H'->g x σ H' fun σ2 H2=>tb { D with nx:=N,ct:=N,bk:=D.nx } σ2 H2)
noncomputable def qU (fp:List Addr) (h:Heap):List (Addr × Obj):=fp.filterMap fun b=>(h.get? b).map fun o=>(b,o)
theorem ja {fp:List Addr} {h:Heap} {b:Addr} {o:Obj} (hb:b∈fp) (e:h.get? b=some o):(b,o)∈qU fp h:=List.mem_filterMap.mpr ⟨b,hb,by rw[e];rfl⟩
theorem AZ {fp:List Addr} {h:Heap} {p:Addr × Obj} (hp:p∈qU fp h):p.1∈fp/\h.get? p.1=some p.2:=by
 obtain⟨b,hb,e⟩:=List.mem_filterMap.mp hp
 cases q:h.get? b with
 | none=>rw[q] at e;cases e
 | some o=>
  rw[q] at e
  have e':(b,o)=p:=Option.some.inj e
  subst e'
  exact⟨hb,q⟩
theorem Inv.pinned {pins:List (Addr × Obj)} {σ:St} {H:Hp} {s:Shared} {fp:List Addr} (I:Inv X pins σ H s) (hf:∀b∈fp,sx X pins H b) (ho:∀b∈fp,∃o,s.heap.get? b=some o/\∀v,o.data≠.cell v):Inv X (pins++qU fp s.heap) σ H s:=
 I.pP fun p hp=>(List.mem_append.mp hp).elim (fun z=>I.pin p (List.mem_append_right _ z)) fun z=>by
  obtain⟨hb,e⟩:=AZ z
  obtain⟨f0,f1,f2,_⟩:=hf p.1 hb
  obtain⟨o,e',d⟩:=ho p.1 hb
  rw[e] at e';cases e'
  exact⟨e,f0,f1,f2,d⟩
theorem Inv.mG {pins pl:List (Addr × Obj)} {σ:St} {H:Hp} {s:Shared} (I:Inv X (pins++pl) σ H s):Inv X pins σ H s:=I.pP fun p hp=>I.pin p (List.mem_append_right _ (List.mem_append_left _ hp))
theorem GP {iter:Expr} {body:List Stmt} {wi:TI} {g:TG} {tb:TS} {pos:Pos} (hp:PassesOwn (model X.prog X.w) X.A X.env X.xe) (hc:X.calm=true) (hi:PI X tg iter wi) (hg:PG X tg g) (hb:PSs X body tb)
  (hs:∀x,foldedSetIterable iter X.env x=pure x:=by intro _;rfl):PS X (.For tg iter body [] pos) (L_ wi g tb):=by
 intro pins s σ H D I h
 refine wpAny_For (thn (hi pins s σ H _ I h) fun v s1 h1=>thn h1 fun itv s2 h2=>?_) hs
 obtain⟨it,fp,tn,J,H2,e,I2,T,st2,f2,W,⟨m0,w0⟩,turn⟩:=h2
 subst e
 -- what stays true of the iterator's objects through the loop
 have stat:∀{H':Hp},(∀b∈fp,H' b=none)->∀b∈fp,sx X pins H' b:=fun hn b hb=>⟨hn b hb,(f2 b hb).2⟩
 refine codeAny_forLoop_any (fun n s'=>∃i σ' H',Inv X pins σ' H' s'/\tn i s'.heap/\(∀b∈fp,H' b=none)/\W i n σ' H') ?_ m0 ⟨0,σ,H2,I2,st2,fun b hb=>(f2 b hb).1,w0⟩
 rintro n s3 ⟨i,σ3,H3,I3,st3,fr3,w3⟩
 rcases turn i n σ3 H3 w3 with⟨stop,qn⟩ | ⟨go,N,hN,step⟩
 ·refine wpAny_passesOwn hp (thn (T.done X rfl rfl rfl hc i pins s3 σ3 H3 X.xe I3 (stat fr3) st3 stop) fun r s4 ⟨hr,I4⟩=>?_)
  subst hr
  exact wpAny_execs_nil ⟨σ3,H3,I4,qn⟩
 ·refine wpAny_passesOwn hp (thn (T.item X rfl rfl rfl hc i pins s3 σ3 H3 X.xe I3 (stat fr3) st3 go) fun r s4 ⟨u,hr,h4⟩=>?_)
  subst hr
  refine wpAny_passesOwn hp (thn h4 fun _ s5 ⟨x,H5,I5,r5,y5,st5,fr5⟩=>?_)
  have I5':=I5.pinned (stat fr5) (T.obj _ _ st5)
  refine wpAny_passesOwn hp (thn (hg _ s5 σ3 H5 x u _ I5' r5 (step x H5 y5)) fun _ s6 ⟨σ6,H6,I6,q6⟩=>?_)
  refine wpAny_passesOwn hp (thn (hb _ s6 σ6 H6 _ I6 q6) fun f s7 q7=>?_)
  have again:∀{σ7:St} {H7:Hp},Inv X (pins++qU fp s5.heap) σ7 H7 s7->N σ7 H7->∃m,m<n/\∃i σ' H',Inv X pins σ' H' s7/\tn i s7.heap/\(∀b∈fp,H' b=none)/\W i m σ' H':=fun{σ7 H7} I7 n7=>by
   obtain⟨m',hm,w7⟩:=hN σ7 H7 n7
   refine⟨m',hm,i+1,σ7,H7,I7.mG,T.keep _ _ _ st5 fun b hb o e=>(I7.pin (b,o) (List.mem_append_right _ (List.mem_append_right _ (ja hb e)))).1,fun b hb=>?_,w7⟩
   obtain⟨o,e,d⟩:=T.obj _ _ st5 b hb
   exact(I7.pin (b,o) (List.mem_append_right _ (List.mem_append_right _ (ja hb e)))).2.1
  cases f with
  | next=>obtain⟨σ7,H7,I7,n7⟩:=q7;exact again I7 n7
  | cont=>obtain⟨σ7,H7,I7,n7⟩:=q7;exact again I7 n7
  | brk=>obtain⟨σ7,H7,I7,q7⟩:=q7;exact⟨σ7,H7,I7.mG,q7⟩
  | ret v=>obtain⟨x7,σ7,H7,I7,r7,q7⟩:=q7;exact⟨x7,σ7,H7,I7.mG,r7,q7⟩
end
noncomputable abbrev R2:=V->V->Hp->VK->Prop
noncomputable def OpR (X:Cx) (f:Value->Value->Sem Value) (r:R2):Prop:=
 ∀(pins:List (Addr × Obj)) (s:Shared) (σ:St) (H:Hp) (x y:V) (v u:Value) (Q:VK),Inv X pins σ H s->RelV x v->RelV y u->r x y H Q →
  wpAny (model X.prog X.w) X.A (f v u) (EP X pins σ Q) X.xe s
noncomputable def UnR (X:Cx) (f:Value->Sem Value) (r:V->Hp->VK->Prop):Prop:=
 ∀(pins:List (Addr × Obj)) (s:Shared) (σ:St) (H:Hp) (x:V) (v:Value) (Q:VK),Inv X pins σ H s->RelV x v->r x H Q →
  wpAny (model X.prog X.w) X.A (f v) (EP X pins σ Q) X.xe s
noncomputable def bg (X:Cx) (f:Value) (r:List V->Hp->VK->Prop):Prop:=
 ∀(pins:List (Addr × Obj)) (s:Shared) (σ:St) (H:Hp) (xs:List V) (us:List Value) (Q:VK),Inv X pins σ H s->Vals xs us->r xs H Q →
  wpAny (model X.prog X.w) X.A (call f us) (EP X pins σ Q) X.xe s
noncomputable def K0 (X:Cx) (r:V->Hp->(Bool->Hp->Prop)->Prop):Prop:=
 ∀(pins:List (Addr × Obj)) (s:Shared) (σ:St) (H:Hp) (x:V) (v:Value) (Q:Bool->Hp->Prop),Inv X pins σ H s->RelV x v->r x H Q →
  wpAny (model X.prog X.w) X.A (truthy v) (TP X pins σ Q) X.xe s
noncomputable def tOp (r:R2) (ta tb:TE):TE:=fun σ H Q=>ta σ H fun x H1=>tb σ H1 fun y H2=>r x y H2 Q
noncomputable def tUn (r:V->Hp->VK->Prop) (ta:TE):TE:=fun σ H Q=>ta σ H fun x H1=>r x H1 Q
noncomputable def rI (C:Int->Int->Prop) (g:Int->Int->V):R2:=fun x y H Q=>∃i j,x=.int i/\y=.int j/\C i j/\Q (g i j) H
noncomputable def rI0 (g:Int->Int->V):R2:=fun x y H Q=>∃i j,x=.int i/\y=.int j/\Q (g i j) H
noncomputable def rU (g:Int->V):V->Hp->VK->Prop:=fun x H Q=>∃i,x=.int i/\Q (g i) H
section
variable {X:Cx} {a b c:Expr} {ta tb tc:TE} {pos:Pos}
theorem HY (ha:PE X a ta) (hb:PE X b tb) {pins:List (Addr × Obj)} {s:Shared} {σ:St} {H:Hp} {R:V->V->Hp->Prop} (I:Inv X pins σ H s)
  (h:ta σ H fun x H1=>tb σ H1 fun y H2=>R x y H2) {Q:Value->Shared->Prop} {f:Value->Value->Sem Value}
  (hf:∀v u s2 x y H2,Inv X pins σ H2 s2->RelV x v->RelV y u->R x y H2->wpAny (model X.prog X.w) X.A (f v u) Q X.xe s2) :
  wpAny (model X.prog X.w) X.A (eval a X.env) (fun v s₁=>wpAny (model X.prog X.w) X.A (eval b X.env) (fun u s₂=>wpAny (model X.prog X.w) X.A (f v u) Q X.xe s₂) X.xe s₁) X.xe s:=by
 refine thn (ha pins s σ H _ I h) fun v s1 ⟨x,H1,I1,r1,q1⟩=>?_
 refine thn (hb pins s1 σ H1 _ I1 q1) fun u s2 ⟨y,H2,I2,r2,q2⟩=>?_
 exact hf v u s2 x y H2 I2 r1 r2 q2
theorem Jo {op:Operator} {r:R2} (ho:OpR X (binaryOp op) r) (ha:PE X a ta) (hb:PE X b tb):PE X (.BinOp a op b pos) (tOp r ta tb):=by
 intro pins s σ H Q I h
 exact wpAny_BinOp (HY ha hb I h fun v u s2 x y H2 I2 rx ry q=>ho pins s2 σ H2 x y v u Q I2 rx ry q)
theorem Kf {op:UnaryOp} {r:V->Hp->VK->Prop} (ho:UnR X (unaryOp op) r) (ha:PE X a ta):PE X (.UnaryOp op a pos) (tUn r ta):=by
 intro pins s σ H Q I h
 exact UnaryOp_ (thn (ha pins s σ H _ I h) fun v s1 ⟨x,H1,I1,r1,q1⟩=>ho pins s1 σ H1 x v Q I1 r1 q1)
theorem opI {f:Value->Value->Sem Value} {C:Int->Int->Prop} {g:Int->Int->Int}
  (rule:∀(i j:Int) (t u:Tok) (s:Shared) (Q:Value->Shared->Prop) (E:Value->Shared->Prop),C i j->Q (.int (g i j) s.toks) { s with toks:=s.toks+1 }->wpAny (model X.prog X.w) X.A (f (.int i t) (.int j u)) Q E s) :
  OpR X f (rI C fun i j=>.int (g i j)):=by
 intro pins s σ H x y v u Q I rx ry h
 obtain⟨i,j,rfl,rfl,hc,q⟩:=h
 obtain⟨t,rfl⟩:=rx
 obtain⟨t',rfl⟩:=ry
 exact rule i j t t' s _ _ hc ⟨.int (g i j),H,I.tok _,⟨_,rfl⟩,q⟩
theorem Kc {f:Value->Value->Sem Value} {g:Int->Int->Int}
  (rule:∀(i j:Int) (t u:Tok) (s:Shared) (Q:Value->Shared->Prop) (E:Value->Shared->Prop),Q (.int (g i j) s.toks) { s with toks:=s.toks+1 }->wpAny (model X.prog X.w) X.A (f (.int i t) (.int j u)) Q E s) :
  OpR X f (rI0 fun i j=>.int (g i j)):=by
 intro pins s σ H x y v u Q I rx ry h
 obtain⟨i,j,rfl,rfl,q⟩:=h
 obtain⟨t,rfl⟩:=rx
 obtain⟨t',rfl⟩:=ry
 exact rule i j t t' s _ _ ⟨.int (g i j),H,I.tok _,⟨_,rfl⟩,q⟩
theorem FP {f:Value->Value->Sem Value} {g:Int->Int->Bool}
  (rule:∀(i j:Int) (t u:Tok) (s:Shared) (Q:Value->Shared->Prop) (E:Value->Shared->Prop),Q (.bool (g i j)) s->wpAny (model X.prog X.w) X.A (f (.int i t) (.int j u)) Q E s) :
  OpR X f (rI0 fun i j=>.bl (g i j)):=by
 intro pins s σ H x y v u Q I rx ry h
 obtain⟨i,j,rfl,rfl,q⟩:=h
 obtain⟨t,rfl⟩:=rx
 obtain⟨t',rfl⟩:=ry
 exact rule i j t t' s _ _ ⟨.bl (g i j),H,I,rfl,q⟩
theorem IB:OpR X (binaryOp .Add) (rI0 fun i j=>.int (i+j)):=Kc fun _ _ _ _ _ _ _ q=>add_int q
theorem f_:OpR X (binaryOp .Sub) (rI0 fun i j=>.int (i - j)):=Kc fun _ _ _ _ _ _ _ q=>sub_int q
theorem qk:OpR X (binaryOp .Mod) (rI (fun _ j=>0<j) fun i j=>.int (i % j)):=opI fun i j _ _ _ _ _ hc q=>by
 have h1:(0:Int)<j:=hc
 exact mod_int' (by omega) (by rw[Int.fmod_eq_emod_of_nonneg i (by omega)];exact q)
theorem unI {f:Value->Sem Value} {g:Int->Int}
  (rule:∀(i:Int) (t:Tok) (s:Shared) (Q:Value->Shared->Prop) (E:Value->Shared->Prop),Q (.int (g i) s.toks) { s with toks:=s.toks+1 }->wpAny (model X.prog X.w) X.A (f (.int i t)) Q E s) :
  UnR X f (rU fun i=>.int (g i)):=by
 intro pins s σ H x v Q I rx h
 obtain⟨i,rfl,q⟩:=h
 obtain⟨t,rfl⟩:=rx
 exact rule i t s _ _ ⟨.int (g i),H,I.tok _,⟨_,rfl⟩,q⟩
theorem mM:UnR X (unaryOp .USub) (rU fun i=>.int (-i)):=unI fun _ _ _ _ _ q=>neg_int q
end
section
variable {X:Cx} {a b c:Expr} {ta tb tc:TE} {pos:Pos}
theorem vT:OpR X (compareOp .Lt) (rI0 fun i j=>.bl (decide (i<j))):=FP fun _ _ _ _ _ _ _ q=>lt_int q
theorem tu:OpR X (compareOp .LtE) (rI0 fun i j=>.bl (decide (i<=j))):=FP fun _ _ _ _ _ _ _ q=>le_int q
theorem zq:OpR X (compareOp .Gt) (rI0 fun i j=>.bl (decide (j<i))):=FP fun _ _ _ _ _ _ _ q=>gt_int q
theorem Js:OpR X (compareOp .GtE) (rI0 fun i j=>.bl (decide (j<=i))):=FP fun _ _ _ _ _ _ _ q=>ge_int q
theorem bY (b:Expr) {op:CmpOp} (h:op≠.In:=by decide) (h2:op≠.NotIn:=by decide):behindInMarks op b=false:=by
 have e1:(op == CmpOp.In)=false:=by cases op<;>first | rfl | exact absurd rfl h
 have e2:(op == CmpOp.NotIn)=false:=by cases op<;>first | rfl | exact absurd rfl h2
 cases b<;>simp[behindInMarks,e1,e2]
theorem Ec {op:CmpOp} {r:R2} (ho:OpR X (compareOp op) r) (ha:PE X a ta) (hb:PE X b tb) (hm:behindInMarks op b=false):PE X (.Compare a [op] [b] pos) (tOp r ta tb):=by
 intro pins s σ H Q I h
 exact wpAny_Compare1 (HY ha hb I h fun v u s2 x y H2 I2 rx ry q=>ho pins s2 σ H2 x y v u Q I2 rx ry q) hm
noncomputable def CN (t:TE):TT:=fun σ H Q=>t σ H fun x H'=>∃k,x=.bl k/\Q k H'
theorem EB {op:CmpOp} {r:R2} (ho:OpR X (compareOp op) r) (ha:PE X a ta) (hb:PE X b tb) (hm:behindInMarks op b=false):PT X (.Compare a [op] [b] pos) (CN (tOp r ta tb)):=by
 intro pins s σ H Q I h
 refine wpAny_isTrue_Compare1 (thn (ha pins s σ H _ I h) fun v s1 ⟨x,H1,I1,r1,q1⟩=>thn (hb pins s1 σ H1 _ I1 q1) fun u s2 ⟨y,H2,I2,r2,q2⟩=>
  thn (ho pins s2 σ H2 x y v u _ I2 r1 r2 q2) fun c s3 ⟨z,H3,I3,r3,k,e,q3⟩=>?_) hm
 subst e
 cases r3
 exact wpAny_truthy_bool ⟨H3,I3,q3⟩
noncomputable def xM (r r':R2) (ta tb tc:TE):TE:=fun σ H Q=>ta σ H fun x H1=>tb σ H1 fun y H2=>r x y H2 fun z H3=>∃k,z=.bl k ∧
 (if k=true then tc σ H3 fun w' H4=>r' y w' H4 Q else Q (.bl false) H3)
theorem Dk {op op':CmpOp} {r r':R2} (ho:OpR X (compareOp op) r) (ho':OpR X (compareOp op') r') (ha:PE X a ta) (hb:PE X b tb) (hc:PE X c tc)
  (hm:lastMarks [op,op'] [b,c]=false:=by with_unfolding_all rfl):PE X (.Compare a [op,op'] [b,c] pos) (xM r r' ta tb tc):=by
 intro pins s σ H Q I h
 refine Compare_chain (thn (ha pins s σ H _ I h) fun v s1 ⟨x,H1,I1,r1,q1⟩=>chain_link (thn (hb pins s1 σ H1 _ I1 q1) fun u s2 ⟨y,H2,I2,r2,q2⟩=>
  thn (ho pins s2 σ H2 x y v u _ I2 r1 r2 q2) fun d s3 ⟨z,H3,I3,r3,k,e,q3⟩=>?_)) hm
 subst e
 cases r3
 refine wpAny_truthy_bool ?_
 cases k with
 | false=>exact ite_ff ⟨.bl false,H3,I3,rfl,q3⟩
 | true=>exact ite_tt (chain_last (thn (hc pins s3 σ H3 _ I3 q3) fun w' s4 ⟨z',H4,I4,r4,q4⟩=>ho' pins s4 σ H4 y z' u w' Q I4 r2 r4 q4))
theorem Dm {op op':CmpOp} {r r':R2} (ho:OpR X (compareOp op) r) (ho':OpR X (compareOp op') r') (ha:PE X a ta) (hb:PE X b tb) (hc:PE X c tc)
  (hm:lastMarks [op,op'] [b,c]=false:=by with_unfolding_all rfl):PT X (.Compare a [op,op'] [b,c] pos) (CN (xM r r' ta tb tc)):=by
 intro pins s σ H Q I h
 refine isTrue_chain (thn (ha pins s σ H _ I h) fun v s1 ⟨x,H1,I1,r1,q1⟩=>test_link (thn (hb pins s1 σ H1 _ I1 q1) fun u s2 ⟨y,H2,I2,r2,q2⟩=>
  thn (ho pins s2 σ H2 x y v u _ I2 r1 r2 q2) fun d s3 ⟨z,H3,I3,r3,k,e,q3⟩=>?_)) hm
 subst e
 cases r3
 refine wpAny_truthy_bool ?_
 cases k with
 | false=>
  obtain⟨k',e',q'⟩:=q3
  cases e'
  exact ite_ff ⟨H3,I3,q'⟩
 | true=>
  refine ite_tt (test_last (thn (hc pins s3 σ H3 _ I3 q3) fun w' s4 ⟨z',H4,I4,r4,q4⟩=>thn (ho' pins s4 σ H4 y z' u w' _ I4 r2 r4 q4) fun d' s5 ⟨z2,H5,I5,r5,k2,e2,q5⟩=>?_))
  subst e2
  cases r5
  exact wpAny_truthy_bool ⟨H5,I5,q5⟩
noncomputable def El (K:PySem.W.Frag) (x:V) (H:Hp) (k:Bool):Prop:=
 match x with
 | .non=>k=false
 | .bl b=>k=b
 | .int i=>k=(i != 0)
 | .str y=>y.length<=sizeLine/\k=((y.length:Int) != 0)
 | .byt y=>y.size<=sizeLine/\k=((y.size:Int) != 0)
 | .ref p=>(∃xs,SqL K H p xs/\k = !xs.isEmpty)\/(∃xs,SqT K H p xs/\k = !xs.isEmpty)\/∃kvs,H p=some (.dK kvs)/\k = !kvs.isEmpty
 | _=>False
theorem yx {κ:Type} {kvs:List (κ × V)} {vs:List (κ × Value)} (r:KV kvs vs):(!vs.isEmpty) = !kvs.isEmpty:=by
 cases r<;>rfl
theorem p8 {xs:List V} {its:List Value} (r:Vals xs its):(!its.toArray.isEmpty) = !xs.isEmpty:=by
 cases r<;>simp
theorem jZ:(sizeLine:Nat)<2 ^ 63:=by rw[sizeLine_eq];decide
theorem Hj:K0 X (fun x H Q=>∃k,El X.K x H k/\Q k H):=by
 intro pins s σ H x v Q I rx h
 obtain⟨k,e,q⟩:=h
 have hl:=jZ
 have hs:sizeLine=16777216:=sizeLine_eq
 cases x with
 | non=>
  cases rx
  have e':k=false:=e
  subst e'
  exact truthy_none ⟨H,I,q⟩
 | bl b=>
  cases rx
  have e':k=b:=e
  subst e'
  exact wpAny_truthy_bool ⟨H,I,q⟩
 | int i=>
  obtain⟨t,rfl⟩:=rx
  have e':k=(i != 0):=e
  subst e'
  exact PySem.P.truthy_int ⟨H,I,q⟩
 | str y=>
  obtain⟨t,rfl⟩:=rx
  obtain⟨hy,e'⟩:y.length<=sizeLine/\k=((y.length:Int) != 0):=e
  subst e'
  exact PySem.P.truthy_str (by omega) ⟨H,I.tok _,q⟩
 | byt y=>
  obtain⟨t,rfl⟩:=rx
  obtain⟨hy,e'⟩:y.size<=sizeLine/\k=((y.size:Int) != 0):=e
  subst e'
  exact PySem.W.truthy_bytes (by omega) ⟨H,I.tok _,q⟩
 | ref p=>
  cases rx
  have e':(∃xs,SqL X.K H p xs/\k = !xs.isEmpty)\/(∃xs,SqT X.K H p xs/\k = !xs.isEmpty)\/∃kvs,H p=some (.dK kvs)/\k = !kvs.isEmpty:=e
  rcases e' with⟨xs,hx,e'⟩ | ⟨xs,hx,e'⟩ | ⟨kvs,hx,e'⟩
  ·subst e'
   obtain⟨its,r,pl,hz⟩:=I.list hx
   have hlen:=r.length
   exact wpAny_truthy_list pl.isList (by simp only[List.size_toArray];omega) ⟨H,I.tok _,by rw[p8 r];exact q⟩
  ·subst e'
   obtain⟨its,r,pl,hz⟩:=I.tuple hx
   have hlen:=r.length
   exact truthy_tuple pl (by simp only[List.size_toArray];omega) ⟨H,I.tok _,by rw[p8 r];exact q⟩
  ·subst e'
   obtain⟨hz,hS,vs,r,m⟩:kvs.length<=sizeLine/\(p == sysModules)=false/\∃vs,KV kvs vs/\s.heap.DictOf (cQ X.prog X.w) p vs:=I.hok p _ hx
   have hlen:kvs.length=vs.length:=Paired.length r
   exact wpAny_truthy_dict hS m (by omega) ⟨H,I.tok _,by rw[yx r];exact q⟩
 | _=>exact(show False from e).elim
theorem By (ha:PE X a ta) (he:∀whole,isTrue a X.env whole=(do let v ← whole;standAt a.pos;holding [v] (truthy v))) :
  PT X a (fun σ H Q=>ta σ H fun x H'=>∃k,El X.K x H' k/\Q k H'):=by
 intro pins s σ H Q I h
 exact isTrue_plain (thn (ha pins s σ H _ I h) fun v s1 ⟨x,H1,I1,r1,q1⟩=>Hj pins s1 σ H1 x v Q I1 r1 q1) (he _)
theorem xQ:OpR X (binaryOp .Add) (fun x y H Q=>∃i j,x=.str i/\y=.str j/\i.length+j.length<=sizeLine/\Q (.str (i++j)) H):=by
 intro pins s σ H x y v u Q I rx ry h
 obtain⟨i,j,rfl,rfl,hz,q⟩:=h
 obtain⟨t,rfl⟩:=rx
 obtain⟨t',rfl⟩:=ry
 exact add_str (fun t' tk=>⟨.str (i++j),H,I.tok _,⟨_,rfl⟩,q⟩) hz
theorem vals1 {x:V} {us:List Value} (r:Vals [x] us):∃u,us=[u]/\RelV x u:=by
 cases r with
 | cons r1 r2=>cases r2;exact⟨_,rfl,r1⟩
theorem vals2 {x y:V} {us:List Value} (r:Vals [x,y] us):∃u w',us=[u,w']/\RelV x u/\RelV y w':=by
 cases r with
 | cons r1 r2=>
  cases r2 with
  | cons r3 r4=>cases r4;exact⟨_,_,rfl,r1,r3⟩
theorem As (hc:X.calm=true):bg X (.builtin "max") (fun xs H Q=>∃i j,xs=[.int i,.int j]/\Q (.int (if j > i then j else i)) H):=by
 intro pins s σ H xs us Q I r h
 obtain⟨i,j,rfl,q⟩:=h
 obtain⟨u,w',rfl,⟨t,rfl⟩,⟨t',rfl⟩⟩:=vals2 r
 refine max_two_ints (I.ok.hd hc) fun h' tk k=>⟨_,H,I.kept k,?_,q⟩
 by_cases hj:j > i
 ·rw[if_pos hj,if_pos hj];exact⟨_,rfl⟩
 ·rw[if_neg hj,if_neg hj];exact⟨_,rfl⟩
theorem tW:bg X (.type "int") (fun xs H Q=>(∃i,xs=[.int i]/\Q (.int i) H)\/∃k,xs=[.bl k]/\Q (.int (if k then 1 else 0)) H):=by
 intro pins s σ H xs us Q I r h
 rcases h with⟨i,rfl,q⟩ | ⟨k,rfl,q⟩
 ·obtain⟨u,rfl,t,rfl⟩:=vals1 r
  exact call_int_int ⟨.int i,H,I,⟨_,rfl⟩,q⟩
 ·obtain⟨u,rfl,r1⟩:=vals1 r
  cases r1
  exact call_int_bool ⟨.int (if k then 1 else 0),H,I.tok _,⟨_,rfl⟩,q⟩
end
structure Gs (h:Heap) (x dx C:Addr) (mA:Str->Option Value):Prop where
 obj:h.get? x=some (PySem.W.instObj C dx)
 ns:h.Ns1 dx mA
 ne:dx≠x
theorem Aw {h:Heap} {dx:Addr} {mA:Str->Option Value} (n:h.Ns1 dx mA):∃od,h.get? dx=some od/\∀name,PySem.W.lookIn name od=some (mA name):=by
 obtain⟨o,es,ep,ho,hd,hk,_,hm⟩:=n
 refine⟨o,ho,fun name=>?_⟩
 have e:=hm name
 unfold nsFind findBy at e
 rw[<- Array.find?_toList] at e
 unfold PySem.W.lookIn
 rw[hd]
 dsimp only
 split
 ·rename_i y q
  rw[q] at e
  exact congrArg some e
 ·rename_i q
  rw[q] at e
  have a:es.toList.any (·.refKey)=false:=by
   rw[List.any_eq_false]
   intro y hy
   obtain⟨z,t,hkey⟩:=hk y (Array.mem_toList_iff.mp hy)
   simp[DictEntry.refKey,hkey]
  have a':¬ es.toList.any (·.refKey)=true:=by rw[a];exact Bool.false_ne_true
  rw[if_neg a']
  exact congrArg some e
theorem Gs.look {h:Heap} {x dx C:Addr} {mA:Str->Option Value} (I:Gs h x dx C mA):∃od,PySem.W.InstAt h x (PySem.W.instObj C dx) C (some od)/\∀name,PySem.W.lookIn name od=some (mA name):=
 let ⟨od,ho,hl⟩:=Aw I.ns
 ⟨od,⟨I.obj,rfl,rfl,ho⟩,hl⟩
theorem kI.some_of {v:V} {o:Option Value} (r:kI (some v) o):∃u,o=some u/\RelV v u:=by
 cases o with
 | none=>exact(show False from r).elim
 | some u=>exact⟨u,rfl,r⟩
section
variable {P:Program} {w:World} {H H':Hp} {h h':Heap} {a C dx:Addr} {fs fs':List (Str × V)}
theorem Ej (hok:HOk P w H h) (e:H a=some (.ins C dx fs)):∃mA,Gs h a dx C mA/\(∀f,kI (fs.lookup f) (mA f))/\PySem.Within mA (fs.map (·.1))/\fs.length<=1000/\H dx=some (.own a):=by
 obtain⟨d,z,ne,ob,mA,n,r,q⟩:=(show bM P w H h a (.ins C dx fs) from hok a _ e)
 exact⟨mA,⟨ob,n,ne⟩,r,q,z,d⟩
end
structure Cls (K:PySem.W.Frag) (C:Addr):Prop where
 pg:PySem.W.plainGet K C Str.empty=true
 hd:PySem.W.hasDictIn K C=true
 po:PySem.W.plainOver K C=true
 sa:PySem.W.findIn K (.ref C) "__setattr__" = some (some (.builtin "object.__setattr__"))
theorem Cls.get {K:PySem.W.Frag} {C:Addr} (c:Cls K C) (f:Str):PySem.W.plainGet K C f=true:=c.pg
section
variable {X:Cx} {pins:List (Addr × Obj)} {σ:St} {H:Hp} {s:Shared} {a C dx:Addr} {fs:List (Str × V)} {f:Str} {v:V} {A:Around} {E:Value->Shared->Prop}
theorem E7 {prog:Program} {w:World} {env:Env} {e:Expr} {f:Str} {pos:Pos} {s:Shared} {Q:Value->Shared->Prop} (hb:attributeBase e f env (eval e env)=eval e env)
  (h:wpAny (model prog w) A (eval e env) (fun o s₁=>wpAny (model prog w) A (getAttr o f true) Q E s₁) E s):wpAny (model prog w) A (eval (.Attribute e f pos) env) Q E s:=
 Attribute_any_ h (by rw[arm_eval_Attribute,hb])
end
section
variable {X:Cx} {pins:List (Addr × Obj)} {σ:St} {H:Hp} {s:Shared} {A:Around} {E:Value->Shared->Prop} {Q:Value->Shared->Prop} {c:Value} {b:Bool}
inductive lb (K:PySem.W.Frag) (H:Hp):V->Value->Prop where
 | non:lb K H .non (.type "NoneType")
 | bl (x:Bool):lb K H (.bl x) (.type "bool")
 | int (i:Int):lb K H (.int i) (.type "int")
 | str (x:Str):lb K H (.str x) (.type "str")
 | flt (x:UInt64):lb K H (.flt x) (.type "float")
 | lst {a:Addr} {xs:List V} (e:H a=some (.lst xs)):lb K H (.ref a) (.type "list")
 | frz {a:Addr} {o:Obj} {xs:List V} (e:H a=some (.frz o (.lst xs))):lb K H (.ref a) (.type "list")
 | tup {a:Addr} {xs:List V} (e:H a=some (.tup xs)):lb K H (.ref a) (.type "tuple")
 | iq {a:Addr} {o:Obj} {kvs:List (Key × V)} (e:H a=some (.frz o (.dK kvs))):lb K H (.ref a) (.type "dict")
 | dK {a:Addr} {kvs:List (Key × V)} (e:H a=some (.dK kvs)):lb K H (.ref a) (.type "dict")
 | dT {a:Addr} {kvs:List (List Key × V)} (e:H a=some (.dT kvs)):lb K H (.ref a) (.type "dict")
 | ins {a C dx:Addr} {fs:List (Str × V)} (e:H a=some (.ins C dx fs)) (cl:Cls K C) (ha:PySem.W.findIn K (.ref C) "__class__" = some (some (.builtin "object.__class__")))
   (hn:PySem.W.specialIn K (.builtin "object.__class__") "__get__" = some (some (.builtin "getset_descriptor.__get__"))) (htk:PySem.W.takesIn K (.builtin "object.__class__")=some true)
   (hm:PySem.W.mroIn K C (.type "object")=some true):lb K H (.ref a) (.ref C)
theorem Av {x:V} {u t:Value} (I:Inv X pins σ H s) (rx:RelV x u) (ty:lb X.K H x t) (e:PySem.W.kitOne X.K t c=some b) (h:∀tk,Q (.bool b) { s with toks:=tk }) :
  wpAny (model X.prog X.w) A (call (.builtin "isinstance") [u,c]) Q E s:=by
 cases ty with
 | non=>cases (show u=Value.none from rx);exact PySem.W.kia_one PySem.W.kitx_none I.kIn True.intro e (fun z=>nomatch z) h
 | bl y=>cases (show u=Value.bool y from rx);exact PySem.W.kia_one PySem.W.kitx_bool I.kIn True.intro e (fun z=>nomatch z) h
 | int i=>obtain⟨t,q⟩:=(show ∃t,u=Value.int i t from rx);cases q;exact PySem.W.kia_one PySem.W.kitx_int I.kIn True.intro e (fun z=>nomatch z) h
 | str y=>obtain⟨t,q⟩:=(show ∃t,u=Value.str y t from rx);cases q;exact PySem.W.kia_one PySem.W.kitx_str I.kIn True.intro e (fun z=>nomatch z) h
 | flt y=>obtain⟨t,q⟩:=(show ∃t,u=Value.float y t from rx);cases q;exact PySem.W.kia_one PySem.W.kitx_float I.kIn True.intro e (fun z=>nomatch z) h
 | @lst a xs ea=>
  cases (show u=Value.ref a from rx)
  obtain⟨_,_,n,_,h1⟩:=(show bM X.prog X.w H s.heap a (.lst xs) from I.hok a _ ea)
  exact PySem.W.kia_one PySem.W.kitx_list I.kIn ⟨_,h1,rfl⟩ e (fun z=>nomatch z) h
 | @frz a ob xs ea=>
  cases (show u=Value.ref a from rx)
  obtain⟨_,_,_,n,_,h1⟩:=(show bM X.prog X.w H s.heap a (.frz ob (.lst xs)) from I.hok a _ ea)
  exact PySem.W.kia_one PySem.W.kitx_list I.kIn ⟨_,h1,rfl⟩ e (fun z=>nomatch z) h
 | @tup a xs ea=>
  cases (show u=Value.ref a from rx)
  obtain⟨_,_,_,p⟩:=(show bM X.prog X.w H s.heap a (.tup xs) from I.hok a _ ea)
  obtain⟨o,h1,⟨h2,_⟩,_⟩:=p
  exact PySem.W.kia_one PySem.W.kitx_tuple I.kIn ⟨o,h1,h2⟩ e (fun z=>nomatch z) h
 | @iq a ob kvs ea=>
  cases (show u=Value.ref a from rx)
  obtain⟨_,_,_,vs,_,p⟩:=(show bM X.prog X.w H s.heap a (.frz ob (.dK kvs)) from I.hok a _ ea)
  obtain⟨o,es,ep,h1,h2,_⟩:=p
  exact PySem.W.kia_one PySem.W.kitx_dict I.kIn ⟨o,h1,h2.1⟩ e (fun z=>nomatch z) h
 | @dK a kvs ea=>
  cases (show u=Value.ref a from rx)
  obtain⟨_,_,vs,_,p⟩:=(show bM X.prog X.w H s.heap a (.dK kvs) from I.hok a _ ea)
  obtain⟨o,es,ep,h1,h2,_⟩:=p
  exact PySem.W.kia_one PySem.W.kitx_dict I.kIn ⟨o,h1,h2.1⟩ e (fun z=>nomatch z) h
 | @dT a kvs ea=>
  cases (show u=Value.ref a from rx)
  obtain⟨_,_,xs,_,o,es,ep,h1,h2,_⟩:=(show bM X.prog X.w H s.heap a (.dT kvs) from I.hok a _ ea)
  exact PySem.W.kia_one PySem.W.kitx_dict I.kIn ⟨o,h1,h2.1⟩ e (fun z=>nomatch z) h
 | @ins a C dx fs ea cl ha hn htk hm=>
  cases (show u=Value.ref a from rx)
  obtain⟨mA,O,_⟩:=Ej I.hok ea
  obtain⟨od,J,_⟩:=O.look
  exact PySem.W.kia_one (PySem.W.kitx_own (cl.get _) cl.hd ha hn htk hm) I.kIn J e (fun z=>nomatch z) h
end
structure cP (k:Nat) (A:Around):Prop where
 hd:A.handled=none
 dp:A.depth+3*k+5<recursionLimit
 un:A.units+16*k+200<cLine
 gd:A.guards=some []
theorem cP.mono {j k:Nat} {A:Around} (r:cP k A) (h:j<=k):cP j A:=⟨r.hd,by have:=r.dp;omega,by have:=r.un;omega,r.gd⟩
theorem cP.deeper {k:Nat} {A:Around} (r:cP (k+1) A) (env:Env):cP k (A.deeper env):=
 ⟨r.hd,by have:=r.dp;show A.depth+1+3*k+5<_;omega,by have:=r.un;show A.units+3+16*k+200<_;omega,r.gd⟩
theorem yn {A:Around} {C:Addr} {us:List Value} {kw:List (Str × Value)}:(A.under (.builtin "type.__call__" ⟨.ref C::us,kw⟩)).depth=A.depth+1:=by
 first | rfl | simp[Around.under,Code.weight,Code.isCreation,Code.isGuard,Code.isCaller,Code.frames,Code.isFrame,guardIds]
theorem yH {A:Around} {C:Addr} {us:List Value} {kw:List (Str × Value)}:(A.under (.builtin "type.__call__" ⟨.ref C::us,kw⟩)).units=A.units+1:=by
 first | rfl | simp[Around.under,Code.cUnits,Code.frames,Code.isFrame]
theorem cP.make {k:Nat} {A:Around} (r:cP (k+1) A) (C:Addr) (us:List Value) (kw:List (Str × Value)):cP k (A.under (.builtin "type.__call__" ⟨.ref C::us,kw⟩)):=
 ⟨r.hd,by have:=r.dp;rw[yn];omega,by have:=r.un;rw[yH];omega,by first | exact r.gd | (simpa [Around.under,Code.envs,Code.isFrame,Code.isGuard,guardIds] using r.gd)⟩
theorem cP.depth {k:Nat} {A:Around} (r:cP k A):A.depth<recursionLimit:=by have:=r.dp;omega
theorem cP.units {k:Nat} {A:Around} (r:cP k A):A.units+64<cLine:=by have:=r.un;omega
noncomputable def Jz:TA:=fun _ H Q=>Q [] H
noncomputable def F5 (ta:TE) (tr:TA):TA:=fun σ H Q=>ta σ H fun x H1=>tr σ H1 fun xs H2=>Q (x::xs) H2
section
variable {X:Cx} {e:Expr} {es:List Expr} {te:TE} {t:TA} {pos:Pos}
theorem jI:PA X [] Jz:=fun _ _ _ _ H Q I h=>Calls.spliced_nil ⟨[],H,I,.nil,h⟩
theorem fq (ha:PE X e te) (hr:PA X es t) (hs:starEach (e::es) X.env=(false,eval e X.env)::starEach es X.env:=by rfl):PA X (e::es) (F5 te t):=by
 intro pos pins s σ H Q I h
 rw[hs]
 show wpAny _ _ (spliced ((false,eval e X.env)::backTo pos (starEach es X.env))) _ _ s
 refine Calls.spliced_cons (thn (ha pins s σ H _ I h) fun u s1 ⟨x,H1,I1,r1,q1⟩=>?_)
 exact thn (hr pos pins s1 σ H1 _ I1 q1) fun us s2 ⟨xs,H2,I2,r2,q2⟩=>⟨x::xs,H2,I2,.cons r1 r2,q2⟩
noncomputable def LO (t:TA):TE:=fun σ H Q=>t σ H fun xs H1=>xs.length<=sizeLine/\∀p,H1 p=none->Q (.ref p) (upd H1 p (.tup xs))
noncomputable def LA (t:TA):TE:=fun σ H Q=>t σ H fun xs H1=>xs.length<=sizeLine/\∀p,H1 p=none->Q (.ref p) (upd H1 p (.lst xs))
theorem Hi {x1} (h:PA X es t):PE X (.Tuple es x1 pos) (LO t):=by
 intro pins s σ H Q I hq
 refine wpAny_Tuple_spliced (thn (h pos pins s σ H _ I hq) fun us s1 ⟨xs,H1,I1,r,z,q⟩=>⟨by rw[<- r.length];exact z,?_⟩)
 have hf:H1 s1.heap.objs.size=none:=I1.hok.fresh (Nat.le_refl _)
 refine⟨.ref s1.heap.objs.size,upd H1 s1.heap.objs.size (.tup xs),I1.laid (t':=s1.toks) (fun b u e=>Heap.get?_push_of_some _ e) (Nat.le_refl _) ?_,rfl,q _ hf⟩
 exact⟨z,us,r,⟨_,Heap.get?_push_size _ rfl,⟨rfl,_,rfl⟩,rfl⟩⟩
theorem HS (h:PA X es t):PE X (.List es pos) (LA t):=by
 intro pins s σ H Q I hq
 refine wpAny_List_spliced (thn (h pos pins s σ H _ I hq) fun us s1 ⟨xs,H1,I1,r,z,q⟩=>⟨by rw[<- r.length];exact z,?_⟩)
 have hf:H1 s1.heap.objs.size=none:=I1.hok.fresh (Nat.le_refl _)
 refine⟨.ref s1.heap.objs.size,upd H1 s1.heap.objs.size (.lst xs),I1.laid (t':=s1.toks) (fun b u e=>Heap.get?_push_of_some _ e) (Nat.le_refl _) ?_,rfl,q _ hf⟩
 exact⟨z,us,0,r,Heap.get?_push_size _ rfl⟩
end
noncomputable abbrev Sp:=List V->Hp->VK->XK->Prop
noncomputable abbrev CXT:=List Env->Hp->Shared->XK->Value->Shared->Prop
structure x_ (P:Program) (w:World) (K:PySem.W.Frag) (mg:Str->Option Value) (base:Heap) (A:Around) (outer:List Env) (s:Shared) (H:Hp):Prop where
 frames:A.frames=some outer
 mod:Mod K mg base
 bs:∀b o,base.get? b=some o->s.heap.get? b=some o/\H b=none
 bsz:base.objs.size<=s.heap.objs.size
 j5:s.heap.FunFrames base outer
 frf:∀b∈frs outer,H b=none
 hok:HOk P w H s.heap
 bare:AllBare s.gens
noncomputable def CE (outer:List Env) (P:Program) (w:World) (H:Hp) (s:Shared) (Q:VK) (u:Value) (s':Shared):Prop:=
 ∃v H',s'.os=s.os/\AllBare s'.gens/\Un (frs outer) [] H H' s.heap s'.heap/\HOk P w H' s'.heap/\RelV v u/\Q v H'
noncomputable def CR (CX:CXT) (outer:List Env) (P:Program) (w:World) (H:Hp) (s:Shared) (Q:VK) (E:XK) (r:Result) (s':Shared):Prop:=
 match r with
 | .ok (.ret u)=>CE outer P w H s Q u s'
 | .ok _=>False
 | .error e=>CX outer H s E e s'
structure ef (P:Program) (w:World) (K:PySem.W.Frag) (mg:Str->Option Value) (base:Heap) (CX:CXT) (k:Nat) (f:Addr) (fd:FuncData) (ps:List Str) (sp:Sp):Prop where
 len:∀vs H Q E,sp vs H Q E->vs.length=ps.length
 run:∀(A:Around) (outer:List Env) (s:Shared) (H:Hp) (args:Args) (us:List Value) (vs:List V) (Q:VK) (E:XK),cP k A->x_ P w K mg base A outer s H->BindsTo s fd args (ps.zip us)->Vals vs us->sp vs H Q E →
  codeAny (model P w) A (.call (.ref f) args) (CR CX outer P w H s Q E) s
theorem ef.mono {P:Program} {w:World} {K:PySem.W.Frag} {mg:Str->Option Value} {base:Heap} {CX:CXT} {j k:Nat} {f:Addr} {fd:FuncData} {ps:List Str} {sp:Sp} (F:ef P w K mg base CX j f fd ps sp) (h:j<=k) :
  ef P w K mg base CX k f fd ps sp:=⟨F.len,fun A outer s H args us vs Q E hr=>F.run A outer s H args us vs Q E (hr.mono h)⟩
theorem ef.imp {P:Program} {w:World} {K:PySem.W.Frag} {mg:Str->Option Value} {base:Heap} {CX:CXT} {k:Nat} {f:Addr} {fd:FuncData} {ps:List Str} {sp sp':Sp} (F:ef P w K mg base CX k f fd ps sp)
  (h:∀vs H Q E,sp' vs H Q E->sp vs H Q E):ef P w K mg base CX k f fd ps sp':=
 ⟨fun vs H Q E q=>F.len vs H Q E (h _ _ _ _ q),fun A outer s H args us vs Q E hr he hb hv hs=>F.run A outer s H args us vs Q E hr he hb hv (h _ _ _ _ hs)⟩
section
variable {X:Cx} {pins:List (Addr × Obj)} {σ:St} {H:Hp} {s s':Shared}
theorem Inv.Ir (I:Inv X pins σ H s):x_ X.prog X.w X.K X.mg X.base X.A X.stack s H:=
 ⟨I.ok.frames,I.ok.mod,I.bs,Nat.le_trans I.ok.bsz I.sz,I.stack,I.pO,I.hok,I.bare⟩
theorem Inv.after {Q:VK} {u:Value} (I:Inv X pins σ H s) (h:CE X.stack X.prog X.w H s Q u s'):EP X pins σ Q u s':=by
 obtain⟨v,H',os,bare,un,hok,r,q⟩:=h
 obtain⟨hh,g,d,t,os'⟩:=s'
 obtain rfl:os'=s.os:=os
 exact⟨v,H',I.call (h':=hh) (g':=g) (d':=d) (t':=t) (ch:=[]) un hok bare (fun b z=>absurd z (by simp)),r,q⟩
end
noncomputable def F6 (sp:Sp) (dvs:List V) (E:XK) (t:TA):TE:=fun σ H Q=>t σ H fun vs H1=>sp (vs++dvs) H1 Q E
noncomputable def Binds (K:PySem.W.Frag) (fd:FuncData) (ps:List Str) (ds:List Value):Prop:=
 ∀(s:Shared) (us:List Value),K.In s.heap->(us++ds).length=ps.length->BindsTo s fd ⟨us,[]⟩ (ps.zip (us++ds))
theorem Binds.all {K:PySem.W.Frag} {fd:FuncData} {ps:List Str} (h:∀us:List Value,us.length=ps.length->bindArgs fd ⟨us,[]⟩=pure (ps.zip us)):Binds K fd ps []:=fun s us _ hl=>by
 rw[List.append_nil] at hl ⊢
 exact .of_eq (h us hl)
noncomputable def Passes (CX:CXT) (X:Cx) (E:XK):Prop:=∀(pins:List (Addr × Obj)) (σ:St) (H:Hp) (s:Shared) (e:Value) (s':Shared),Inv X pins σ H s->CX X.stack H s E e s'->X.xe e s'
section
variable {X:Cx} {CX:CXT} {k:Nat} {f C:Addr} {fd:FuncData} {ps:List Str} {sp:Sp} {dvs:List V} {ds:List Value} {E:XK} {x m:Str} {p pos apos:Pos} {e o:Expr} {es:List Expr} {ta:TE} {t:TA}
theorem DA {pins:List (Addr × Obj)} {σ:St} {H:Hp} {s:Shared} {Q:VK} {us:List Value} {vs:List V} (F:ef X.prog X.w X.K X.mg X.base CX k f fd ps sp) (hr:cP k X.A) (hb:Binds X.K fd ps ds) (hd:Vals dvs ds) (hx:Passes CX X E)
  (I:Inv X pins σ H s) (r:Vals vs us) (h:sp (vs++dvs) H Q E):wpAny (model X.prog X.w) X.A (call (.ref f) us) (EP X pins σ Q) X.xe s:=by
 have r2:Vals (vs++dvs) (us++ds):=r.append hd
 have hl:(us++ds).length=ps.length:=by rw[<- r2.length];exact F.len _ _ _ _ h
 refine wpAny_call (codeAny_mono (F.run X.A X.stack s H ⟨us,[]⟩ (us++ds) (vs++dvs) Q E hr I.Ir (hb s us I.kIn hl) r2 h) fun r s' hq=>?_)
 cases r with
 | error e=>exact hx pins σ H s e s' I hq
 | ok fl=>
  cases fl with
  | ret u=>exact I.after hq
  | next=>exact False.elim hq
  | brk=>exact False.elim hq
  | cont=>exact False.elim hq
theorem zu (F:ef X.prog X.w X.K X.mg X.base CX k f fd ps sp) (hr:cP k X.A) (hg:Gl X x) (hm:X.mg x=some (.ref f)) (hk:PySem.W.keepIn X.K (.ref f)=true) (hb:Binds X.K fd ps ds) (hd:Vals dvs ds) (hx:Passes CX X E)
  (ha:PA X (e::es) t) (hdb:(x == ("__debug__" : Str))=false:=by decide) (he:starEach (e::es) X.env=(false,eval e X.env)::starEach es X.env:=by rfl) (hpl:(backTo pos (starEach es X.env)).any (·.1)=false:=by rfl) :
  PE X (.Call (.Name x p) (e::es) [] pos) (F6 sp dvs E t):=by
 intro pins s σ H Q I h
 refine wpAny_Call_Name_kw (i4 I hg hm ?_ hdb)
 refine PySem.W.callWith_K (h₀:=X.base) I.ok.mod.kin hk (thn (ha pos pins s σ H _ I h) fun us s1 ⟨vs,H1,I1,r,q⟩=>⟨I1.kIn,?_⟩) he hpl
 exact DA F hr hb hd hx I1 r q
end
structure aE (N P:List Str) (sc:Scope):Prop where
 kind:sc.kind=.function
 co:sc.isCoroutine=false
 gen:sc.isGenerator=false
 nd:N.Nodup
 pre:N.take P.length=P
 par:∀x∈P,sc.names.lookup x=some .local\/sc.names.lookup x=some .cell
 Iv:∀y∈sc.names,y.2≠.free
theorem tw {kindOf:Str->Option NameKind} {x:Str}:∀{binds:List (Str × Value)} {m:Str->Option Value},(∀v,(x,v)∉binds)->bindL kindOf binds m x=m x
 | [],_,_=>rfl
 | (n,v)::r,m,h=>by
  unfold bindL
  rw[tw fun w hw=>h w (List.mem_cons_of_mem _ hw)]
  split
  ·have:x≠n:=by rintro rfl;exact h v List.mem_cons_self
   simp[this]
  ·rfl
theorem sW {kindOf:Str->Option NameKind} {x:Str}:∀{binds:List (Str × Value)} {m:Str->Option Value},(∀v,(x,v)∉binds)->bindC kindOf binds m x=m x
 | [],_,_=>rfl
 | (n,v)::r,m,h=>by
  unfold bindC
  rw[sW fun w hw=>h w (List.mem_cons_of_mem _ hw)]
  split
  ·rfl
  ·have:x≠n:=by rintro rfl;exact h v List.mem_cons_self
   simp[this]
theorem j_ {kindOf:Str->Option NameKind} {x:Str} {v:Value}:∀{P:List Str} {vs:List Value} {i:Nat} {m:Str->Option Value},P.Nodup->P[i]?=some x->vs[i]?=some v->kindOf x=some .local →
  bindL kindOf (P.zip vs) m x=some v
 | [],_,_,_,_,h,_,_=>by simp at h
 | _::_,[],_,_,_,_,h,_=>by simp at h
 | p::P,w::vs,0,m,nd,h1,h2,hk=>by
  simp at h1 h2;subst h1;subst h2
  show bindL kindOf ((p,w)::P.zip vs) m p=_
  unfold bindL
  rw[tw fun v hv=>(List.nodup_cons.mp nd).1 (List.of_mem_zip hv).1,if_pos hk]
  simp
 | p::P,w::vs,i+1,m,nd,h1,h2,hk=>by
  show bindL kindOf ((p,w)::P.zip vs) m x=_
  unfold bindL
  exact j_ (i:=i) (List.nodup_cons.mp nd).2 (by simpa using h1) (by simpa using h2) hk
theorem tR {kindOf:Str->Option NameKind} {x:Str} {v:Value}:∀{P:List Str} {vs:List Value} {i:Nat} {m:Str->Option Value},P.Nodup->P[i]?=some x->vs[i]?=some v->kindOf x≠some .local →
  bindC kindOf (P.zip vs) m x=some v
 | [],_,_,_,_,h,_,_=>by simp at h
 | _::_,[],_,_,_,_,h,_=>by simp at h
 | p::P,w::vs,0,m,nd,h1,h2,hk=>by
  simp at h1 h2;subst h1;subst h2
  show bindC kindOf ((p,w)::P.zip vs) m p=_
  unfold bindC
  rw[sW fun v hv=>(List.nodup_cons.mp nd).1 (List.of_mem_zip hv).1,if_neg hk]
  simp
 | p::P,w::vs,i+1,m,nd,h1,h2,hk=>by
  show bindC kindOf ((p,w)::P.zip vs) m x=_
  unfold bindC
  exact tR (i:=i) (List.nodup_cons.mp nd).2 (by simpa using h1) (by simpa using h2) hk
noncomputable def start (N:List Str) (vs:List V):St:=vs.map some++List.replicate (N.length - vs.length) none
noncomputable def gT (CX:CXT) (P:Program) (w:World) (K:PySem.W.Frag) (mg:Str->Option Value) (base:Heap) (N:List Str) (qual:Str) (scope:Scope) (f:Addr) (cd:Value) (A:Around) (outer:List Env) (s:Shared) (H:Hp) (E:XK):Cx where
 prog:=P
 w:=w
 K:=K
 mg:=mg
 base:=base
 A:=A.deeper (envOfC qual scope s.heap.objs.size f cd)
 N:=N
 bh:=s
 bO:=H
 env:=envOfC qual scope s.heap.objs.size f cd
 outer:=outer
 stack:=envOfC qual scope s.heap.objs.size f cd::outer
 ex:=[]
 calm:=true
 fn:=fun _=>true
 pn:=[]
 xe:=fun e s'=>wpAny (model P w) (A.deeper (envOfC qual scope s.heap.objs.size f cd)) (leaving (envOfC qual scope s.heap.objs.size f cd) e) (fun _ s''=>CX outer H s E e s'') (fun e' s''=>CX outer H s E e' s'') s'
theorem wI {sc:Scope} {n:Nat} {x:Str} (h:sc.names.lookup x=some .cell):∃c,(cellsFrom n sc.names []).lookup x=some c:=by
 have q:=PySem.W.cellsFrom_some sc.names n [] (.inl h)
 exact Option.isSome_iff_exists.mp q
theorem nr {CX:CXT} {P:Program} {w:World} {K:PySem.W.Frag} {mg:Str->Option Value} {base:Heap} {N ps:List Str} {qual:Str} {scope:Scope} {f:Addr} {cd:Value} {A:Around} {outer:List Env} {s s1:Shared} {H:Hp} {E:XK} {us:List Value} {vs:List V}
  (S:aE N ps scope) (hd:A.handled=none) (e0:x_ P w K mg base A outer s H) (hl:vs.length=ps.length) (r:Vals vs us)
  (x:InCallC s s.heap.objs.size (bindL (envOfC qual scope s.heap.objs.size f cd).kindOf (ps.zip us) fun _=>none) (cellsFrom (s.heap.objs.size+1) scope.names []) (bindC (envOfC qual scope s.heap.objs.size f cd).kindOf (ps.zip us) fun _=>none) s1) :
  Inv (gT CX P w K mg base N qual scope f cd A outer s H E) [] (start N vs) H s1:=by
 have hpl:ps.length<=N.length:=by have:=congrArg List.length S.pre;rw[List.length_take] at this;omega
 obtain⟨h1,tk,rfl,hk⟩:=x.done
 have noA:∀b:Addr,b∉(gT CX P w K mg base N qual scope f cd A outer s H E).ex:=fun b z=>absurd (show b∈([]:List Addr) from z) (by simp)
 refine⟨⟨e0.mod,S.kind,rfl,rfl,Nat.le_refl _,fun y z c h1 h2=>?_,fun y hy=>?_,fun y c _ h=>?_,fun _=>hd,Around.frames_deeper e0.frames,.inr ⟨rfl,rfl⟩,fun b z=>absurd z (noA b),e0.bs,e0.bsz,fun b _ _=>noA b,fun b z=>absurd z (noA b),e0.j5,e0.frf⟩,
  rfl,e0.bare,Un.kept hk,⟨_,x.toInCall.ns,fun i y v h1 h2 h3=>?_⟩,fun y c h=>⟨_,x.cell y c h⟩,e0.hok.fresh (Nat.le_refl _),fun y c h=>?_,fun p hp=>absurd (show p∈([]:List (Addr × Obj)) from hp) (by simp),e0.hok.kept hk,?_⟩
 ·exact name_of_addr x.apart (PySem.mem_of_lookup h1) (PySem.mem_of_lookup h2)
 ·have hy:scope.names.lookup y=some .cell\/scope.names.lookup y=some .free:=hy
  rcases hy with hy | hy
  ·exact wI hy
  ·exact absurd rfl (S.Iv _ (PySem.mem_of_lookup hy))
 ·exact Nat.le_of_lt (x.above y c (PySem.mem_of_lookup h))
 ·have hi:i<vs.length:=by
   unfold start at h2
   by_cases hi:i<vs.length
   ·exact hi
   ·rw[List.getElem?_append_right (by simpa using hi)] at h2
    rw[List.getElem?_replicate] at h2
    split at h2<;>cases h2
  have ha:vs[i]?=some v:=by
   unfold start at h2
   rw[List.getElem?_append_left (by simpa using hi),List.getElem?_map] at h2
   cases e:vs[i]? with
   | none=>rw[e] at h2;cases h2
   | some a=>rw[e] at h2;cases h2;rfl
  obtain⟨u,hu,rv⟩:=r.get ha
  have hp:ps[i]?=some y:=by
   rw[<- S.pre,List.getElem?_take_of_lt (by omega)];exact h1
  have ndP:ps.Nodup:=by rw[<- S.pre];exact S.nd.sublist (List.take_sublist _ _)
  refine⟨u,rv,?_⟩
  rcases S.par y (List.mem_of_getElem? hp) with k | k
  ·exact .inl ⟨k,j_ ndP hp hu k⟩
  ·obtain⟨c,e⟩:=wI (n:=s.heap.objs.size+1) k
   refine .inr ⟨.inl k,c,e,?_⟩
   have q:=x.cell y c e
   rw[tR ndP hp hu (by show scope.names.lookup y≠_;rw[k];decide)] at q
   exact q
 ·exact e0.hok.fresh (Nat.le_of_lt (x.above y c (PySem.mem_of_lookup h)))
 ·unfold start
  show _=N.length
  rw[List.length_append,List.length_map,List.length_replicate]
  omega
theorem F0 {CX:CXT} {P:Program} {w:World} {K:PySem.W.Frag} {mg:Str->Option Value} {base:Heap} {k:Nat} {f:Addr} {name qual:Str} {params:Arguments} {body:List Stmt} {scope:Scope} {dV kV doc pm cdv ct oc:Value} {an od:Option Addr}
  {osl:Array (Option Value)} {N ps:List Str} {sp:Sp} (lk:K.lookup f=some ⟨oc,od,.func (PySem.W.fnOf name qual params body scope dV kV doc pm an cdv ct),osl⟩) (hcd:PySem.W.codeIn K cdv qual=true) (S:aE N ps scope)
  (len:∀vs H Q E,sp vs H Q E->vs.length=ps.length)
  (hbody:∀(A:Around) (outer:List Env) (s:Shared) (H:Hp) (vs:List V) (Q:VK) (E:XK),cP k (A.deeper (envOfC qual scope s.heap.objs.size f cdv))->sp vs H Q E →
   ∃t,PSs (gT CX P w K mg base N qual scope f cdv A outer s H E) body t/\t { nx:=fun _ H'=>Q .non H',rt:=Q } (start N vs) H) :
  ef P w K mg base CX (k+1) f (PySem.W.fnOf name qual params body scope dV kV doc pm an cdv ct) ps sp:=by
 refine⟨len,fun A outer s H args us vs Q E hr e0 hb r hsp=>?_⟩
 have hl:=len _ _ _ _ hsp
 have KX:K.In s.heap:=e0.mod.kin.keeps fun b o e=>(e0.bs b o e).1
 have lim:s.heap.NoLimit:=e0.mod.nolimit.keeps fun b o e=>(e0.bs b o e).1
 have hkind:∀y∈ps.zip us,scope.names.lookup y.1=some .local\/(scope.names.lookup y.1=some .cell/\((cellsFrom (s.heap.objs.size+1) scope.names []).lookup y.1).isSome=true):=fun⟨n,v⟩ hy=>by
  rcases S.par n (List.of_mem_zip hy).1 with q | q
  ·exact .inl q
  ·exact .inr ⟨q,PySem.W.cellsFrom_some _ _ _ (.inl q)⟩
 refine codeAny_call_function hr.depth (KX _ _ lk) rfl S.co S.gen rfl (PySem.W.codeRec_of KX hcd) (hb _ _ _ _ ?_)
 refine wpAny_newFunctionEnv_cells S.kind hkind fun env he s1 x=>?_
 subst he
 refine⟨lim.keeps x.toInCall.keep,codeAny_func ?_⟩
 obtain⟨t,ht,hq⟩:=hbody A outer s H vs Q E (hr.deeper _) hsp
 have I:Inv (gT CX P w K mg base N qual scope f cdv A outer s H E) [] (start N vs) H s1:=nr S hr.hd e0 hl r x
 refine wpAny_mono (ht [] s1 (start N vs) H _ I hq) (fun fl s' hs=>?_) fun e s' hs=>hs
 have fin:∀{σ':St} {H':Hp} {v:V} {u:Value},Inv (gT CX P w K mg base N qual scope f cdv A outer s H E) [] σ' H' s'->RelV v u->Q v H'->CE outer P w H s Q u s':=
  fun{σ' H' v u} J rv q=>⟨v,H',J.os,J.bare,J.base,J.hok,rv,q⟩
 cases fl with
 | ret u=>
  obtain⟨v,σ',H',J,rv,q⟩:=hs
  exact fin J rv q
 | next=>
  obtain⟨σ',H',J,q⟩:=hs
  exact fin (v:=V.non) (u:=Value.none) J rfl q
 | brk=>
  obtain⟨_,_,_,q⟩:=hs
  exact False.elim q
 | cont=>
  obtain⟨_,_,_,q⟩:=hs
  exact False.elim q
section
variable {X:Cx} {x:Str} {p pos:Pos} {e:Expr} {es:List Expr} {t:TA} {id T:String} {r:List V->Hp->VK->Prop}
noncomputable def tCB (r:List V->Hp->VK->Prop) (t:TA):TE:=fun σ H Q=>t σ H fun vs H1=>r vs H1 Q
theorem mD (hc:bg X (.builtin id) r) (hg:Gl X x) (hm:X.mg x=none) (hv:bootBuiltins x=some (.builtin id)) (ha:PA X (e::es) t) (hn:x≠"__name__" := by decide) (hdb:(x == ("__debug__" : Str))=false:=by decide)
  (he:starEach (e::es) X.env=(false,eval e X.env)::starEach es X.env:=by rfl) (hpl:(backTo pos (starEach es X.env)).any (·.1)=false:=by rfl):PE X (.Call (.Name x p) (e::es) [] pos) (tCB r t):=by
 intro pins s σ H Q I h
 refine wpAny_Call_Name_kw (nY I hg hm hv ?_ hn hdb)
 exact PyProof.Rows.callWith_builtin1 (thn (ha pos pins s σ H _ I h) fun us s1 ⟨vs,H1,I1,r1,q1⟩=>hc pins s1 σ H1 vs us Q I1 r1 q1) he hpl
theorem iE (hc:bg X (.type T) r) (hg:Gl X x) (hm:X.mg x=none) (hv:bootBuiltins x=some (.type T)) (ha:PA X (e::es) t) (hn:x≠"__name__" := by decide) (hdb:(x == ("__debug__" : Str))=false:=by decide)
  (he:starEach (e::es) X.env=(false,eval e X.env)::starEach es X.env:=by rfl) (hpl:(backTo pos (starEach es X.env)).any (·.1)=false:=by rfl):PE X (.Call (.Name x p) (e::es) [] pos) (tCB r t):=by
 intro pins s σ H Q I h
 refine wpAny_Call_Name_kw (nY I hg hm hv ?_ hn hdb)
 exact PyProof.Rows.callWith_type1 (thn (ha pos pins s σ H _ I h) fun us s1 ⟨vs,H1,I1,r1,q1⟩=>hc pins s1 σ H1 vs us Q I1 r1 q1) he hpl
end
end L2
namespace HT
open PySem PyProof.Rows
section
variable {prog:Program} {w:World} {A:Around} {E:Value->Shared->Prop} {s:Shared}
theorem EU {t b:Addr} {vs ws:List Value} {Q:Value->Shared->Prop} (ht:IsTup s.heap t vs.toArray) (hb:IsTup s.heap b ws.toArray) (hv:vs≠[])
  (h1:ws=[]->Q (.ref t) s) (h2:ws≠[]->Q (.ref s.heap.objs.size) { s with heap:=s.heap.push { cls:=.type "tuple", data:=.seq (vs++ws).toArray } })
  (hsz:vs.length+ws.length<=sizeLine):wpAny (model prog w) A (binaryOp .Add (.ref t) (.ref b)) Q E s:=by
 obtain⟨⟨cls,dd,data,sl⟩,ho,hc,n,hd⟩:=id ht
 obtain⟨⟨cls2,dd2,data2,sl2⟩,ho2,hc2,n2,hd2⟩:=id hb
 simp only at hc hd hc2 hd2
 subst hc hd hc2 hd2
 have e:vs.toArray++ws.toArray=(vs++ws).toArray:=by simp
 by_cases hw:ws=[]
 ·exact concat_meets ⟨_,ho,rfl⟩ ⟨_,ho2,rfl⟩ noFill_tuple_add seq_tuple_add PySem.F.slot_tuple_add PySem.F.entry_tuple_add (PySem.F.args_tuple_add_2 _ _)
   (tuple_addW1 t b vs.toArray ws.toArray n n2 dd dd2 sl sl2 (by simpa using hv) (by simp[hw])) ⟨ho,ho2,h1 hw⟩
 ·refine concat_meets ⟨_,ho,rfl⟩ ⟨_,ho2,rfl⟩ noFill_tuple_add seq_tuple_add PySem.F.slot_tuple_add PySem.F.entry_tuple_add (PySem.F.args_tuple_add_2 _ _)
   (tuple_addW2 t b vs.toArray ws.toArray n n2 dd dd2 sl sl2 (by simpa using hv) (by simpa using hw) (by rw[List.size_toArray,List.size_toArray];exact hsz)) ⟨ho,ho2,?_⟩
  rw[e]
  exact h2 hw
noncomputable def sIx (n d:Nat):Option Int->Nat
 | none=>d
 | some v=>if v<0 then (v+(n:Int)).toNat else min v.toNat n
theorem vR (n d:Nat):sIx n d none=d:=rfl
theorem pH (n d k:Nat):sIx n d (some (k:Int))=min k n:=by
 show(if (k:Int)<0 then ((k:Int)+(n:Int)).toNat else min (k:Int).toNat n)=min k n
 rw[if_neg (by omega),Int.toNat_natCast]
theorem G8 (n d:Nat) (hd:d<=n) (o:Option Int):sIx n d o<=n:=by
 cases o with
 | none=>exact hd
 | some v=>
  show(if v<0 then (v+(n:Int)).toNat else min v.toNat n)<=n
  by_cases hv:v<0
  ·rw[if_pos hv];omega
  ·rw[if_neg hv];exact Nat.min_le_right _ _
theorem zH (v:Int) (n d:Nat):(if v<0 then max (v+(n:Int)) 0 else min v (n:Int))=((sIx n d (some v):Nat):Int):=by
 show(if v<0 then max (v+(n:Int)) 0 else min v (n:Int))=(((if v<0 then (v+(n:Int)).toNat else min v.toNat n):Nat):Int)
 by_cases hv:v<0
 ·simp only[if_pos hv];omega
 ·simp only[if_neg hv];omega
theorem x9 (lo hi:Option Int) (n:Nat):Builtin.Slice.sliceAdjust lo hi 1 (n:Int)=(((sIx n 0 lo:Nat):Int),((sIx n n hi:Nat):Int)):=by
 have h1:¬ ((1:Int)<0):=by omega
 unfold Builtin.Slice.sliceAdjust
 simp only[h1,if_false]
 refine Prod.ext ?_ ?_
 ·cases lo with
  | none=>rfl
  | some v=>exact zH v n 0
 ·cases hi with
  | none=>rfl
  | some v=>exact zH v n n
theorem yL (i j:Nat):Builtin.Slice.slicePlaces (i:Int) (j:Int) 1=j - i:=by
 unfold Builtin.Slice.slicePlaces
 have h1:(1:Int) > 0:=by omega
 simp only[h1,if_true,Int.ediv_one]
 split<;>omega
theorem rJ {v:Value} {o:Option Int} {Q:Option Int->Shared->Prop} (p:IsPart v o) (h:Q o s):wpAny (model prog w) A (Builtin.Slice.slicePartIndex v) Q E s:=by
 cases p with
 | none=>exact slicePart_none h
 | int i t=>exact slicePart_int h
theorem iD {sl:Addr} {vl vu:Value} {lo hi:Option Int} {n:Nat} {Q:Int × Int × Nat->Shared->Prop} (hs:s.heap.IsSliceOf sl vl vu .none) (pl:IsPart vl lo) (pu:IsPart vu hi)
  (h:Q (((sIx n 0 lo:Nat):Int),1,sIx n n hi - sIx n 0 lo) s):wpAny (model prog w) A (Builtin.Slice.sliceApplied (.ref sl) (pure (n:Int))) Q E s:=by
 obtain⟨os,hos,hcs,hds⟩:=id hs
 unfold Builtin.Slice.sliceApplied Builtin.Slice.sliceFields
 refine wpAny_bind (wpAny_bind (wpAny_field hos hds (x:=vl) rfl (wpAny_bind (wpAny_field hos hds (x:=vu) rfl (wpAny_bind (wpAny_field hos hds (x:=.none) rfl (wpAny_pure ?_)))))))
 refine wpAny_bind (slicePart_none ?_)
 show wpAny _ _ (if ((1:Int) == 0)=true then _ else _) _ _ s
 rw[if_neg (by decide)]
 refine wpAny_bind (rJ pl (wpAny_bind (rJ pu (wpAny_bind (wpAny_pure ?_)))))
 show wpAny _ _ (match Builtin.Slice.sliceAdjust lo hi 1 (n:Int) with | (lo,hi)=>pure (lo,(1:Int),Builtin.Slice.slicePlaces lo hi 1)) _ _ s
 rw[x9 lo hi n]
 show wpAny _ _ (pure (((sIx n 0 lo:Nat):Int),(1:Int),Builtin.Slice.slicePlaces ((sIx n 0 lo:Nat):Int) ((sIx n n hi:Nat):Int) 1)) _ _ s
 rw[yL]
 exact wpAny_pure h
theorem BG (xs:Array Value) (i k:Nat):((List.range k).filterMap fun(m:Nat)=>xs[((i:Int)+(m:Int)*1).toNat]?).toArray=((xs.toList.drop i).take k).toArray:=by
 have e:(fun(m:Nat)=>xs[((i:Int)+(m:Int)*1).toNat]?)=fun m=>xs[i+m]?:=by
  funext m
  have:((i:Int)+(m:Int)*1).toNat=i+m:=by omega
  rw[this]
 rw[e]
 have:=pick_run xs i k
 rw[List.filterMap_map] at this
 have e2:((fun x=>xs[x]?) ∘ fun x=>i+x)=fun m=>xs[i+m]?:=rfl
 rw[e2] at this
 rw[this]
theorem lR {t sl:Addr} {items:Array Value} {vl vu:Value} {lo hi:Option Int} {Q:Value->Shared->Prop} (ht:IsTup s.heap t items) (hs:s.heap.IsSliceOf sl vl vu .none) (pl:IsPart vl lo) (pu:IsPart vu hi)
  (hw:¬ (sIx items.size 0 lo=0/\sIx items.size items.size hi=items.size))
  (h:Q (.ref s.heap.objs.size) { s with heap:=s.heap.push { cls:=.type "tuple", data:=.seq ((items.toList.drop (sIx items.size 0 lo)).take (sIx items.size items.size hi - sIx items.size 0 lo)).toArray } })
  (hsz:items.size<=sizeLine):wpAny (model prog w) A (getItem (.ref t) (.ref sl)) Q E s:=by
 have htake:sizeOk (.seq ((items.toList.drop (sIx items.size 0 lo)).take (sIx items.size items.size hi - sIx items.size 0 lo)).toArray):=by
  show((items.toList.drop (sIx items.size 0 lo)).take (sIx items.size items.size hi - sIx items.size 0 lo)).toArray.size<=sizeLine
  rw[List.size_toArray,List.length_take,List.length_drop,Array.length_toList]
  omega
 have hj:sIx items.size items.size hi<=items.size:=G8 _ _ (Nat.le_refl _) hi
 obtain⟨os,hos,hcs,hds⟩:=id hs
 have hTs:s.TypeIs (.ref sl) "slice" := ⟨os,hos,hcs⟩
 unfold getItem
 try with_reducible refine wpAny_holding ?_
 first | refine wpAny_bind (wpAny_pure ?_) | skip
 refine wpAny_bind (wpAny_sequenceKey ht.typeIs (by decide) ?_)
 refine wpAny_bind (wpAny_callSpecial?_slot (name:=Str.ofString "__getitem__") ht.typeIs PyProof.Rows.slot_tuple_getitem
  (wpAny_call_entry PyProof.Rows.slot_tuple_getitem ht.typeIs entry_tuple_getitem ?_ (args_tuple_getitem _ _)))
 show wpAny _ _ (Builtin.Tuple.tupleItemsOf (.ref t) >>= _) _ _ s
 refine wpAny_bind (tupleItemsOf_ ht ?_)
 refine wpAny_bind (wpAny_typeOf hTs ?_)
 rw[if_pos (by decide)]
 refine wpAny_bind (iD hs pl pu ?_)
 have hno:¬ ((((sIx items.size 0 lo:Nat):Int) == 0&&(1:Int) == 1&&(sIx items.size items.size hi - sIx items.size 0 lo) == items.size)=true):=by
  intro q
  rw[Bool.and_eq_true,Bool.and_eq_true] at q
  have q1:((sIx items.size 0 lo:Nat):Int)=0:=eq_of_beq q.1.1
  have q2:sIx items.size items.size hi - sIx items.size 0 lo=items.size:=eq_of_beq q.2
  exact hw ⟨by omega,by omega⟩
 show wpAny _ _ (if (((sIx items.size 0 lo:Nat):Int) == 0&&(1:Int) == 1&&(sIx items.size items.size hi - sIx items.size 0 lo) == items.size)=true then _ else _) _ _ s
 rw[if_neg hno,BG]
 first
  | exact wpAny_bind (m:=Builtin.Tuple.tupleExact _) (wpAny_newObj_type (wpAny_pure ⟨_,rfl,wpAny_pure h⟩) htake)
  | exact wpAny_bind (m:=Builtin.Tuple.tupleExact _) (wpAny_newObj_type (wpAny_bind (wpAny_pure (wpAny_pure ⟨_,rfl,wpAny_pure h⟩))) htake)
  | exact wpAny_bind (wpAny_bind (m:=Builtin.Tuple.tupleExact _) (wpAny_newObj_type (wpAny_pure (wpAny_pure ⟨_,rfl,wpAny_pure h⟩)) htake))
  | exact wpAny_bind (wpAny_bind (m:=Builtin.Tuple.tupleExact _) (wpAny_newObj_type (wpAny_pure ⟨_,rfl,wpAny_pure h⟩) htake))
end
end HT
namespace L2
open PySem PySem.Spec PyProof.Rows
noncomputable abbrev TO:=St->Hp->(Option Int->Hp->Prop)->Prop
noncomputable def PO (X:Cx) (e:Option Expr) (t:TO):Prop:=
 ∀(pins:List (Addr × Obj)) (s:Shared) (σ:St) (H:Hp) (Q:Option Int->Hp->Prop),Inv X pins σ H s->t σ H Q →
  wpAny (model X.prog X.w) X.A (evalPart e X.env) (fun u s'=>∃o H',Inv X pins σ H' s'/\IsPart u o/\Q o H') X.xe s
noncomputable def FG:TO:=fun _ H Q=>Q none H
noncomputable def JC (t:TE):TO:=fun σ H Q=>t σ H fun x H1=>∃i,x=.int i/\Q (some i) H1
theorem intsAre_of {ns:List Int}:∀{us:List Value},Vals (ns.map V.int) us->IntsAre us ns:=by
 induction ns with
 | nil=>intro us r;rw[List.map_nil] at r;cases r;exact .nil
 | cons n ns ih=>
  intro us r
  rw[List.map_cons] at r
  cases r with
  | cons r1 r2=>
   obtain⟨t,e⟩:=r1
   subst e
   exact .cons n t (ih r2)
section
variable {X:Cx} {e:Expr} {te:TE} {lo hi:Option Expr} {tl th:TO} {pos p2:Pos}
theorem D1:PO X none FG:=by
 intro pins s σ H Q I h
 rw[evalPart_none]
 exact wpAny_pure ⟨none,H,I,.none,h⟩
theorem Fc (h:PE X e te):PO X (some e) (JC te):=by
 intro pins s σ H Q I hw
 rw[evalPart_some]
 refine thn (h pins s σ H _ I hw) fun u s1 ⟨x,H1,I1,r1,q1⟩=>?_
 obtain⟨i,rfl,q⟩:=q1
 obtain⟨t,rfl⟩:=r1
 exact⟨some i,H1,I1,.int i t,q⟩
noncomputable def SlR (X:Cx) (r:V->Option Int->Option Int->Hp->VK->Prop):Prop:=
 ∀(pins:List (Addr × Obj)) (s:Shared) (σ:St) (H:Hp) (x:V) (v vl vu:Value) (lo hi:Option Int) (sl:Addr) (Q:VK),Inv X pins σ H s->RelV x v->s.heap.IsSliceOf sl vl vu .none->IsPart vl lo->IsPart vu hi->r x lo hi H Q →
  ∃T id,typeLookup (.type T) "__getitem__" = pure (some (.builtin id))/\s.TypeIs v T/\wpAny (model X.prog X.w) X.A (getItem v (.ref sl)) (EP X pins σ Q) X.xe s
theorem SlR.or {r r':V->Option Int->Option Int->Hp->VK->Prop} (h:SlR X r) (h':SlR X r'):SlR X (fun x lo hi H Q=>r x lo hi H Q\/r' x lo hi H Q):=by
 intro pins s σ H x v vl vu lo hi sl Q I rx hs pl pu q
 rcases q with q | q
 ·exact h pins s σ H x v vl vu lo hi sl Q I rx hs pl pu q
 ·exact h' pins s σ H x v vl vu lo hi sl Q I rx hs pl pu q
noncomputable def tSl (r:V->Option Int->Option Int->Hp->VK->Prop) (te:TE) (tl th:TO):TE:=fun σ H Q=>te σ H fun x H1=>tl σ H1 fun l H2=>th σ H2 fun u H3=>r x l u H3 Q
theorem BE {r:V->Option Int->Option Int->Hp->VK->Prop} (hr:SlR X r) (he:PE X e te) (hl:PO X lo tl) (hu:PO X hi th):PE X (.Subscript e (.Slice lo hi none p2) pos) (tSl r te tl th):=by
 intro pins s σ H Q I h
 refine Subscript_ (thn (he pins s σ H _ I h) fun v s1 ⟨x,H1,I1,r1,q1⟩=>?_)
 refine wpAny_Slice (thn (hl pins s1 σ H1 _ I1 q1) fun vl s2 ⟨l,H2,I2,pl,q2⟩=>thn (hu pins s2 σ H2 _ I2 q2) fun vu s3 ⟨u,H3,I3,pu,q3⟩=>?_)
 rw[evalPart_none]
 refine wpAny_pure ?_
 have I4:Inv X pins σ H3 { s3 with heap:=s3.heap.push { cls:=.type "slice", data:=.fields #[vl,vu,.none] } }:=I3.kept (t':=s3.toks) fun b ob q=>Heap.get?_push_of_some _ q
 obtain⟨T,id,hT,ht,hg⟩:=hr pins { s3 with heap:=s3.heap.push { cls:=.type "slice", data:=.fields #[vl,vu,.none] } } σ H3 x v vl vu l u s3.heap.objs.size Q I4 r1 (Heap.IsSliceOf.new ..) pl pu q3
 show wpAny (model X.prog X.w) X.A (subscriptTail e (.Slice lo hi none p2) v (.ref s3.heap.objs.size)) (EP X pins σ Q) X.xe { s3 with heap:=s3.heap.push { cls:=.type "slice", data:=.fields #[vl,vu,.none] } }
 exact tail_any (ops:=[.ref s3.heap.objs.size,v]) ht hT hg (by with_unfolding_all rfl)
noncomputable def rX (xs:List V) (lo hi:Option Int):List V:=(xs.drop (HT.sIx xs.length 0 lo)).take (HT.sIx xs.length xs.length hi - HT.sIx xs.length 0 lo)
theorem oz (xs:List V) (lo hi:Option Int):(rX xs lo hi).length<=xs.length:=by
 unfold rX
 rw[List.length_take,List.length_drop]
 omega
noncomputable def Lg (K:PySem.W.Frag):V->Option Int->Option Int->Hp->VK->Prop:=fun x lo hi H Q=>∃a xs,x=.ref a/\SqT K H a xs ∧
 ¬ (HT.sIx xs.length 0 lo=0/\HT.sIx xs.length xs.length hi=xs.length)/\∀p,H p=none->Q (.ref p) (upd H p (.tup (rX xs lo hi)))
theorem IG:SlR X (Lg X.K):=by
 intro pins s σ H x v vl vu lo hi sl Q I rx hs pl pu h
 obtain⟨a,xs,rfl,hx,hw,q⟩:=h
 cases rx
 obtain⟨its,r,ht,hz⟩:=I.tuple hx
 have hlen:its.toArray.size=xs.length:=by rw[List.size_toArray];exact r.length.symm
 refine⟨"tuple", _,PyProof.Rows.slot_tuple_getitem.lookup,ht.typeIs,?_⟩
 refine HT.lR ht hs pl pu (by rw[hlen];exact hw) ?_ (by rw[hlen];exact hz)
 rw[hlen]
 refine⟨.ref s.heap.objs.size,_,I.laid (t':=s.toks) (o:=.tup (rX xs lo hi)) (fun b ob q=>Heap.get?_push_of_some _ q) (Nat.le_refl _) ?_,rfl,q _ (I.hok.fresh (Nat.le_refl _))⟩
 exact⟨Nat.le_trans (oz xs lo hi) hz,_,(r.drop (HT.sIx xs.length 0 lo)).take (HT.sIx xs.length xs.length hi - HT.sIx xs.length 0 lo),oJ.new _ _⟩
noncomputable def Gd (K:PySem.W.Frag):R2:=fun x y H Q=>∃a b xs ys,x=.ref a/\y=.ref b/\SqT K H a xs/\SqT K H b ys/\xs≠[]/\xs.length+ys.length<=sizeLine ∧
 (ys=[]->Q (.ref a) H)/\(ys≠[]->∀p,H p=none->Q (.ref p) (upd H p (.tup (xs++ys))))
theorem Vals.vk {xs:List V} {us:List Value} (r:Vals xs us):us=[]↔xs=[]:=by
 cases r with
 | nil=>simp
 | cons _ _=>simp
theorem D7:OpR X (binaryOp .Add) (Gd X.K):=by
 intro pins s σ H x y v u Q I rx ry h
 obtain⟨a,b,xs,ys,rfl,rfl,ha,hb,hx,hz,q1,q2⟩:=h
 cases rx
 cases ry
 obtain⟨its,r1,p1,_⟩:=I.tuple ha
 obtain⟨its2,r2,p2,_⟩:=I.tuple hb
 refine HT.EU p1 p2 (fun z=>hx (r1.vk.mp z)) (fun z=>⟨.ref a,H,I,rfl,q1 (r2.vk.mp z)⟩) (fun z=>?_) (by rw[<- r1.length,<- r2.length];exact hz)
 refine⟨.ref s.heap.objs.size,_,I.laid (t':=s.toks) (o:=.tup (xs++ys)) (fun b ob q=>Heap.get?_push_of_some _ q) (Nat.le_refl _) ?_,rfl,q2 (fun w=>z (r2.vk.mpr w)) _ (I.hok.fresh (Nat.le_refl _))⟩
 exact⟨by rw[List.length_append];exact hz,_,r1.append r2,oJ.new _ _⟩
end
noncomputable def ixN (n:Nat) (i:Int):Option Nat:=if 0<=i then (if i<n then some i.toNat else none) else if -(n:Int)<=i then some (i+n).toNat else none
noncomputable def atI {α:Type} (xs:List α) (i:Int):Option α:=(ixN xs.length i).bind fun j=>xs[j]?
theorem vE {n:Nat} {i:Int} {j:Nat} (h:ixN n i=some j):seqIndex? i n=some j/\j<n/\-(n:Int)<=i/\i<n:=by
 unfold ixN at h
 by_cases h0:0<=i
 ·rw[if_pos h0] at h
  by_cases h1:i<n
  ·rw[if_pos h1] at h
   have e:i.toNat=j:=Option.some.inj h
   exact⟨by rw[seqIndex_of h0 h1,e],by omega,by omega,h1⟩
  ·rw[if_neg h1] at h;cases h
 ·rw[if_neg h0] at h
  by_cases h1:-(n:Int)<=i
  ·rw[if_pos h1] at h
   have e:(i+n).toNat=j:=Option.some.inj h
   exact⟨by rw[seqIndex_neg (by omega) h1,e],by omega,h1,by omega⟩
  ·rw[if_neg h1] at h;cases h
theorem pF {α:Type} {xs:List α} {i:Int} {v:α} (h:atI xs i=some v):∃j,seqIndex? i xs.length=some j/\xs[j]?=some v/\j<xs.length/\-(xs.length:Int)<=i/\i<xs.length:=by
 unfold atI at h
 cases e:ixN xs.length i with
 | none=>rw[e] at h;cases h
 | some j=>
  rw[e] at h
  obtain⟨h1,h2,h3,h4⟩:=vE e
  exact⟨j,h1,h,h2,h3,h4⟩
theorem EY {α:Type} {xs:List α} {j:Nat} {v:α} (h:xs[j]?=some v):atI xs (j:Int)=some v:=by
 have hj:j<xs.length:=(List.getElem?_eq_some_iff.mp h).1
 have e:ixN xs.length (j:Int)=some j:=by
  unfold ixN
  rw[if_pos (by omega),if_pos (by omega)];simp
 unfold atI;rw[e];exact h
noncomputable def y0 (b:Expr):Prop:=∀o i,subscripted b false o i=operate [o,i] (getItem o i)
noncomputable def IxR (X:Cx) (r:R2):Prop:=
 ∀(value slice:Expr) (pins:List (Addr × Obj)) (s:Shared) (σ:St) (H:Hp) (x y:V) (v u:Value) (Q:VK),Inv X pins σ H s->RelV x v->RelV y u->r x y H Q →
  subscripted slice false v u=operate [v,u] (getItem v u)->wpAny (model X.prog X.w) X.A (subscriptTail value slice v u) (EP X pins σ Q) X.xe s
noncomputable def MtR (X:Cx) (id:String) (r:V->List V->Hp->VK->Prop):Prop:=
 ∀(pins:List (Addr × Obj)) (s:Shared) (σ:St) (H:Hp) (x:V) (xs:List V) (v:Value) (us:List Value) (Q:VK),Inv X pins σ H s->RelV x v->Vals xs us->r x xs H Q →
  wpAny (model X.prog X.w) X.A (call (.builtin id) (v::us)) (EP X pins σ Q) X.xe s
section
variable {X:Cx} {a b:Expr} {ta tb:TE} {pos:Pos}
theorem IxR.or {r r':R2} (h:IxR X r) (h':IxR X r'):IxR X (fun x y H Q=>r x y H Q\/r' x y H Q):=by
 intro value slice pins s σ H x y v u Q I rx ry q hs
 rcases q with q | q
 ·exact h value slice pins s σ H x y v u Q I rx ry q hs
 ·exact h' value slice pins s σ H x y v u Q I rx ry q hs
theorem JP {r:R2} (hr:IxR X r) (ha:PE X a ta) (hb:PE X b tb) (hs:y0 b):PE X (.Subscript a b pos) (tOp r ta tb):=by
 intro pins s σ H Q I h
 exact Subscript_ (HY ha hb I h fun v u s2 x y H2 I2 rx ry q=>hr a b pins s2 σ H2 x y v u Q I2 rx ry q (hs _ _))
noncomputable def Iw (K:PySem.W.Frag):R2:=fun x y H Q=>∃p xs i v,x=.ref p/\y=.int i/\SqL K H p xs/\atI xs i=some v/\Q v H
noncomputable def Ks (K:PySem.W.Frag):R2:=fun x y H Q=>∃p xs i v,x=.ref p/\y=.int i/\SqT K H p xs/\atI xs i=some v/\Q v H
noncomputable def JX:R2:=fun x y H Q=>∃z i c,x=.str z/\y=.int i/\z.length<=sizeLine/\atI z.cps.toList i=some c/\Q (.str ⟨#[c]⟩) H
theorem D3:IxR X (Iw X.K):=by
 intro value slice pins s σ H x y v u Q I rx ry h hs
 obtain⟨p,xs,i,z,rfl,rfl,hq,he,q⟩:=h
 cases rx
 obtain⟨t,rfl⟩:=ry
 obtain⟨its,r,pl,hz⟩:=I.list hq
 obtain⟨j,h1,h2,h3,h4,h5⟩:=pF he
 obtain⟨w,ew,rw'⟩:=r.get h2
 have hl:=r.length
 have hn:=jZ
 have fin:EP X pins σ Q w s:=⟨z,H,I,rw',q⟩
 by_cases h0:0<=i
 ·have hj:i.toNat=j:=by
   rw[seqIndex_of h0 h5] at h1
   exact Option.some.inj h1
  exact item_listR pl.isList h0 (by omega) (by rw[hj];simpa using ew) fin hs
 ·have hj:(i+(its.toArray.size:Int)).toNat=j:=by
   rw[seqIndex_neg (by omega) h4] at h1
   rw[List.size_toArray,<- hl]
   exact Option.some.inj h1
  exact subscriptTail_builtinR (x:=w) pl.isList.typeIs slot_list_getitem.lookup
   (wpAny_getItem_list_neg (Q:=fun r s'=>r=w/\EP X pins σ Q r s') pl.isList (by omega) (by rw[List.size_toArray]<;>omega) (by omega) (by rw[hj];simpa using ew) ⟨rfl,fin⟩) hs
theorem Hw:IxR X (Ks X.K):=by
 intro value slice pins s σ H x y v u Q I rx ry h hs
 obtain⟨p,xs,i,z,rfl,rfl,hq,he,q⟩:=h
 cases rx
 obtain⟨t,rfl⟩:=ry
 obtain⟨its,r,pl,hz⟩:=I.tuple hq
 obtain⟨j,h1,h2,h3,h4,h5⟩:=pF he
 obtain⟨w,ew,rw'⟩:=r.get h2
 have hl:=r.length
 have hn:=jZ
 have fin:EP X pins σ Q w s:=⟨z,H,I,rw',q⟩
 exact subscriptTail_builtinR (x:=w) pl.typeIs slot_tuple_getitem.lookup
  (getItem_tuple (j:=j) (Q:=fun r s'=>r=w/\EP X pins σ Q r s') pl (by omega) (by omega) (by rw[List.size_toArray,<- hl];exact h1) (by simpa using ew) ⟨rfl,fin⟩) hs
theorem Hv:IxR X JX:=by
 intro value slice pins s σ H x y v u Q I rx ry h hs
 obtain⟨z,i,c,rfl,rfl,hz,he,q⟩:=h
 obtain⟨t,rfl⟩:=rx
 obtain⟨t',rfl⟩:=ry
 obtain⟨j,h1,h2,h3,h4,h5⟩:=pF he
 have hl:z.cps.toList.length=z.length:=by simp[Str.length]
 rw[hl] at h1 h4 h5
 have hn:=jZ
 exact tail_any (typeIs_str s z t) slot_str_getitem.lookup (getItem_str (c:=c) (by
  have e1:decide (i < -(2 ^ 63:Int))=false:=decide_eq_false (by omega)
  have e2:decide (i ≥ 2 ^ 63)=false:=decide_eq_false (by omega)
  rw[e1,e2,Bool.or_false]) (by rw[h1];simpa using h2) ⟨.str ⟨#[c]⟩,H,I.tok _,⟨_,rfl⟩,q⟩) hs
noncomputable def rIx (K:PySem.W.Frag):R2:=fun x y H Q=>Iw K x y H Q\/Ks K x y H Q\/JX x y H Q
theorem ck:IxR X (rIx X.K):=D3.or (Hw.or Hv)
theorem yq (its:List Value) (n j:Nat) (u:Value):Obj.mapSeq (·.setIfInBounds j u) { cls:=.type "list", data:=.seq its.toArray n }={ cls:=.type "list", data:=.seq (its.set j u).toArray n }:=by
 simp[Obj.mapSeq]
theorem Inv.lst {pins:List (Addr × Obj)} {σ:St} {H:Hp} {s:Shared} {p:Addr} {xs:List V} (I:Inv X pins σ H s) (h:H p=some (.lst xs)) :
  ∃(its:List Value) (n:Nat),Vals xs its/\s.heap.get? p=some { cls:=.type "list", data:=.seq its.toArray n }/\xs.length<=sizeLine:=by
 obtain⟨z,its,n,r,e⟩:=I.hok p _ h
 exact⟨its,n,r,e,z⟩
theorem Inv.G2 {pins:List (Addr × Obj)} {σ:St} {H:Hp} {s:Shared} {p:Addr} {xs ys:List V} {its its':List Value} {n n':Nat} {f:Obj->Obj} (I:Inv X pins σ H s) (h:H p=some (.lst xs))
  (ho:s.heap.get? p=some { cls:=.type "list", data:=.seq its.toArray n }) (hf:f { cls:=.type "list", data:=.seq its.toArray n }={ cls:=.type "list", data:=.seq its'.toArray n' }) (r:Vals ys its') (hz:ys.length<=sizeLine) (t:Nat) :
  Inv X pins σ (upd H p (.lst ys)) { s with heap:=s.heap.update p f,toks:=t }:=by
 have e:(s.heap.update p f).get? p=some { cls:=.type "list", data:=.seq its'.toArray n' }:=by
  rw[Heap.get?_update_self f ho (by rw[hf]<;>rfl),hf]
 refine I.write (x:=p) (e:=p) (by rw[h];trivial) (.inl rfl) (fun b u hb q=>(Heap.get?_update_other _ _ (Ne.symm hb)).trans q) ⟨_,e⟩ ?_
 exact⟨hz,its',n',r,e⟩
noncomputable def F_:V->V->V->Hp->(Hp->Prop)->Prop:=fun o i v H Q=>∃p xs k j,o=.ref p/\i=.int k/\H p=some (.lst xs)/\ixN xs.length k=some j/\Q (upd H p (.lst (xs.set j v)))
theorem set_list:Eu X F_:=by
 intro pins s σ H o i v ov iv u Q I ro ri rv h
 obtain⟨p,xs,k,j,rfl,rfl,hp,hj,q⟩:=h
 cases ro
 obtain⟨t,rfl⟩:=ri
 obtain⟨its,n,r,ho,hz⟩:=I.lst hp
 obtain⟨h1,h2,h3,h4⟩:=vE hj
 have hl:=r.length
 have hn:=jZ
 have I':Inv X pins σ (upd H p (.lst (xs.set j v))) { s with heap:=s.heap.update p (Obj.mapSeq (·.setIfInBounds j u)) }:=
  I.G2 hp ho (yq its n j u) (r.set rv j) (by rw[List.length_set];exact hz) s.toks
 by_cases h0:0<=k
 ·have hk:k.toNat=j:=by
   rw[seqIndex_of h0 h4] at h1
   exact Option.some.inj h1
  exact PySem.W.ki_setAt ho h0 (by omega) (by rw[List.size_toArray,<- hl];exact h4) (by rw[hk];exact⟨_,I',q⟩)
 ·have hk:(k+(its.toArray.size:Int)).toNat=j:=by
   rw[seqIndex_neg (by omega) h3] at h1
   rw[List.size_toArray,<- hl]
   exact Option.some.inj h1
  exact PySem.W.ki_setBack ho (by omega) (by rw[List.size_toArray,<- hl];exact h3) (by omega) (by rw[hk];exact⟨_,I',q⟩)
theorem uV (lo hi:Option Int) (n:Nat):(sliceBounds lo hi none n).1=((HT.sIx n 0 lo:Nat):Int)/\(sliceBounds lo hi none n).2.1=((HT.sIx n n hi:Nat):Int)/\(sliceBounds lo hi none n).2.2=1:=by
 refine⟨?_,?_,rfl⟩
 ·cases lo with
  | none=>simp[sliceBounds,HT.sIx]
  | some i=>
   simp only[sliceBounds,HT.sIx,Option.getD_none,show(1:Int) > 0 by decide,if_true]
   by_cases h:i<0
   ·simp only[h,if_true]<;>omega
   ·simp only[h,if_false]<;>omega
 ·cases hi with
  | none=>simp[sliceBounds,HT.sIx]
  | some i=>
   simp only[sliceBounds,HT.sIx,Option.getD_none,show(1:Int) > 0 by decide,if_true]
   by_cases h:i<0
   ·simp only[h,if_true]<;>omega
   ·simp only[h,if_false]<;>omega
theorem sH (its:List Value) (lo hi:Option Int):slicePick its.toArray lo hi none=((its.drop (HT.sIx its.length 0 lo)).take (HT.sIx its.length its.length hi - HT.sIx its.length 0 lo)).toArray:=by
 obtain⟨h1,h2,h3⟩:=uV lo hi its.toArray.size
 unfold slicePick
 rw[h1,h2,h3]
 simp only[sliceRange_one,pick_run,List.size_toArray]<;>rfl
noncomputable def L8 (K:PySem.W.Frag):V->Option Int->Option Int->Hp->VK->Prop:=fun x lo hi H Q=>∃a xs,x=.ref a/\SqL K H a xs/\∀p,H p=none->Q (.ref p) (upd H p (.lst (rX xs lo hi)))
theorem E_:SlR X (L8 X.K):=by
 intro pins s σ H x v vl vu lo hi sl Q I rx hs pl pu h
 obtain⟨a,xs,rfl,hx,q⟩:=h
 cases rx
 obtain⟨its,r,ht,hz⟩:=I.list hx
 have hlen:=r.length
 refine⟨"list", _,slot_list_getitem.lookup,ht.isList.typeIs,?_⟩
 refine wpAny_getItem_list_slice ht.isList hs pl pu .none (by simp) ?_ (by rw[List.size_toArray]<;>omega)
 rw[sH,<- hlen]
 refine⟨.ref s.heap.objs.size,_,I.laid (t':=s.toks) (o:=.lst (rX xs lo hi)) (fun b ob q=>Heap.get?_push_of_some _ q) (Nat.le_refl _) ?_,rfl,q _ (I.hok.fresh (Nat.le_refl _))⟩
 exact⟨Nat.le_trans (oz xs lo hi) hz,_,0,(r.drop (HT.sIx xs.length 0 lo)).take (HT.sIx xs.length xs.length hi - HT.sIx xs.length 0 lo),Heap.get?_push_size _ rfl⟩
theorem vG:bg X (.builtin "len") (fun xs H Q=>∃p ys,xs=[.ref p]/\(SqL X.K H p ys\/SqT X.K H p ys)/\Q (.int ys.length) H):=by
 intro pins s σ H xs us Q I r h
 obtain⟨p,ys,rfl,hq,q⟩:=h
 obtain⟨u,rfl,rx⟩:=vals1 r
 cases rx
 have hn:=jZ
 rcases hq with hq | hq
 ·obtain⟨its,r',pl,hz⟩:=I.list hq
  have hlen:=r'.length
  exact Calls.call_len_list pl.isList (by simp only[List.size_toArray]<;>omega) ⟨.int ys.length,H,I.tok _,⟨s.toks+1,by rw[List.size_toArray,hlen]⟩,q⟩
 ·obtain⟨its,r',pl,hz⟩:=I.tuple hq
  have hlen:=r'.length
  exact len_tuple pl (by simp only[List.size_toArray]<;>omega) ⟨.int ys.length,H,I.tok _,⟨s.toks+1,by rw[List.size_toArray,hlen]⟩,q⟩
theorem vi:bg X (.builtin "len") (fun xs H Q=>∃z,xs=[.str z]/\z.length<=sizeLine/\Q (.int z.length) H):=by
 intro pins s σ H xs us Q I r h
 obtain⟨z,rfl,hz,q⟩:=h
 obtain⟨u,rfl,t,rfl⟩:=vals1 r
 have hn:=jZ
 exact len_str (by omega) ⟨.int z.length,H,I.tok _,⟨_,rfl⟩,q⟩
theorem bg.or {f:Value} {r r':List V->Hp->VK->Prop} (h:bg X f r) (h':bg X f r'):bg X f (fun xs H Q=>r xs H Q\/r' xs H Q):=by
 intro pins s σ H xs us Q I rs q
 rcases q with q | q
 ·exact h pins s σ H xs us Q I rs q
 ·exact h' pins s σ H xs us Q I rs q
theorem lU:bg X (.type "list") (fun xs H Q=>∃p ys,xs=[.ref p]/\(SqL X.K H p ys\/SqT X.K H p ys)/\∀l,H l=none->Q (.ref l) (upd H l (.lst ys))):=by
 intro pins s σ H xs us Q I r h
 obtain⟨p,ys,rfl,hq,q⟩:=h
 obtain⟨u,rfl,rx⟩:=vals1 r
 cases rx
 have fin:∀(its:List Value),Vals ys its->ys.length<=sizeLine->∀(h':Heap) (c':Nat),(∀b o',s.heap.get? b=some o'->h'.get? b=some o') →
   h'.get? s.heap.objs.size=some { cls:=.type "list", dict:=none,data:=.seq its.toArray c',slots:=#[] }->EP X pins σ Q (.ref s.heap.objs.size) { s with heap:=h' }:=fun its r' hz h' c' kp e=>
  ⟨.ref s.heap.objs.size,_,I.laid (t':=s.toks) kp (Nat.le_refl _) (show bM X.prog X.w _ h' _ (.lst ys) from⟨hz,its,c',r',e⟩),rfl,q _ (I.hok.fresh (Nat.le_refl _))⟩
 rcases hq with hq | hq
 ·obtain⟨its,r',pl,hz⟩:=I.list hq
  have hlen:=r'.length
  obtain⟨o,ho,hc,n,hd⟩:=pl.isList
  exact call_list_seq p (.inl rfl) ho hc hd (fun h' c' kp e=>fin its r' hz h' c' kp e) (by simp only[List.size_toArray]<;>omega)
 ·obtain⟨its,r',pl,hz⟩:=I.tuple hq
  have hlen:=r'.length
  obtain⟨o,ho,hc,n,hd⟩:=pl
  exact call_list_seq p (.inr rfl) ho hc hd (fun h' c' kp e=>fin its r' hz h' c' kp e) (by simp only[List.size_toArray]<;>omega)
theorem kx:bg X (.type "tuple") (fun xs H Q=>∃p ys,xs=[.ref p]/\((SqL X.K H p ys/\∀l,H l=none->Q (.ref l) (upd H l (.tup ys)))\/(SqT X.K H p ys/\Q (.ref p) H))):=by
 intro pins s σ H xs us Q I r h
 obtain⟨p,ys,rfl,h⟩:=h
 obtain⟨u,rfl,rx⟩:=vals1 r
 cases rx
 rcases h with⟨hq,q⟩ | ⟨hq,q⟩
 ·obtain⟨its,r',pl,hz⟩:=I.list hq
  have hlen:=r'.length
  refine call_tuple_list pl.isList (fun h' kp=>?_) (by simp only[List.size_toArray]<;>omega)
  have I1:Inv X pins σ H { s with heap:=h' }:=I.kept (t':=s.toks) kp
  have I2:Inv X pins σ (upd H h'.objs.size (.tup ys)) { s with heap:=h'.push { cls:=.type "tuple", data:=.seq its.toArray } }:=
   I1.laid (t':=s.toks) (fun b o e=>Heap.get?_push_of_some _ e) (Nat.le_refl _) (show bM X.prog X.w _ _ _ (.tup ys) from⟨hz,its,r',oJ.new _ _⟩)
  exact⟨.ref h'.objs.size,_,I2,rfl,q _ (I1.hok.fresh (Nat.le_refl _))⟩
 ·obtain⟨its,r',pl,hz⟩:=I.tuple hq
  exact call_tuple_same pl ⟨.ref p,H,I,rfl,q⟩
noncomputable def tyV (K:PySem.W.Frag) (T:String) (x:V) (H:Hp):Prop:=match x with
 | .str _=>T="str"
 | .int _=>T="int"
 | .ref p=>(T="list" /\ ∃xs,SqL K H p xs)\/(T="tuple" /\ ∃o,K.lookup p=some o/\o.cls=.type "tuple" /\ o.dict=none) ∨
   (T="dict" /\ ((∃kvs,H p=some (.dK kvs))\/∃kvs,H p=some (.dT kvs)))\/(T="set" /\ ∃S n,H p=some (.set S n))\/(T="tuple" /\ ∃xs,H p=some (.tup xs))
 | _=>False
theorem G1 {pins:List (Addr × Obj)} {σ:St} {H:Hp} {s:Shared} {T:String} {x:V} {v:Value} (I:Inv X pins σ H s) (r:RelV x v) (ty:tyV X.K T x H) :
  s.TypeIs v T/\∀a,v=.ref a->∃ob,s.heap.get? a=some ob/\ob.dict=none:=by
 cases x with
 | str z=>
  obtain⟨t,rfl⟩:=r
  cases (show T="str" from ty)
  exact⟨typeIs_str s z t,fun _ e=>nomatch e⟩
 | int i=>
  obtain⟨t,rfl⟩:=r
  cases (show T="int" from ty)
  exact⟨typeIs_int s i t,fun _ e=>nomatch e⟩
 | ref p=>
  cases r
  rcases ty with⟨rfl,xs,hq⟩ | ⟨rfl,o,hk,hc,hd⟩ | ⟨rfl,hk⟩ | ⟨rfl,S,n,hk⟩ | ⟨rfl,xs,hk⟩
  ·obtain⟨its,_,pl,_⟩:=I.list hq
   refine⟨pl.isList.typeIs,fun a e=>?_⟩
   cases e
   obtain⟨o,n,e,c,hd,_⟩:=pl
   exact⟨o,e,hd⟩
  ·refine⟨⟨o,I.kIn p o hk,hc⟩,fun a e=>?_⟩
   cases e
   exact⟨o,I.kIn _ o hk,hd⟩
  ·have z:∃o,s.heap.get? p=some o/\o.ExactDict:=by
    rcases hk with⟨kvs,hk⟩ | ⟨kvs,hk⟩
    ·obtain⟨_,_,_,_,o,_,_,e,ex,_⟩:=I.hok p _ hk
     exact⟨o,e,ex⟩
    ·obtain⟨_,_,_,_,o,_,_,e,ex,_⟩:=I.hok p _ hk
     exact⟨o,e,ex⟩
   obtain⟨o,e,ex⟩:=z
   refine⟨⟨o,e,ex.1⟩,fun a e2=>?_⟩
   cases e2
   exact⟨o,e,ex.2.1⟩
  ·obtain⟨o,_,_,_,e,ex,_⟩:=I.hok p _ hk
   refine⟨⟨o,e,ex.1⟩,fun a e2=>?_⟩
   cases e2
   exact⟨o,e,ex.2.1⟩
  ·obtain⟨_,_,_,o,e,⟨c,_⟩,hd⟩:=I.hok p _ hk
   refine⟨⟨o,e,c⟩,fun a e2=>?_⟩
   cases e2
   exact⟨o,e,hd⟩
 | _=>exact False.elim ty
noncomputable def tBM (K:PySem.W.Frag) (T:String) (r:V->List V->Hp->VK->Prop) (to:TE) (t:TA):TE:=fun σ H Q=>to σ H fun x H1=>tyV K T x H1/\t σ H1 fun xs H2=>r x xs H2 Q
variable {o e:Expr} {es:List Expr} {to:TE} {t:TA} {name:Str} {apos cpos:Pos} {T id:String} {r:V->List V->Hp->VK->Prop}
theorem IT (pa:PlainAttrs T) (slot:Slot T name id) (hty:typeOf (.builtin id)=pure (.type "method_descriptor")) (hm:MtR X id r) (ho:PE X o to) (ha:PA X (e::es) t)
  (hbase:attributeBase o name X.env (eval o X.env)=eval o X.env:=by rfl)
  (hfew:((backTo cpos (starEach (e::es) X.env)).all (fun x=>!x.1)&&(backToKw cpos (keywordEach [] X.env)).all (fun x=>x.1.isSome)
   && decide ((e::es).length+([]:List Keyword).length+(if ([]:List Keyword).isEmpty then 0 else 1)<30))=true:=by rfl)
  (hline:(apos.endLine == cpos.line)=true:=by rfl) (hs:starEach (e::es) X.env=(false,eval e X.env)::starEach es X.env:=by rfl) (hplain:(backTo cpos (starEach es X.env)).any (·.1)=false:=by rfl) :
  PE X (.Call (.Attribute o name apos) (e::es) [] cpos) (tBM X.K T r to t):=by
 intro pins s σ H Q I h
 refine wpAny_Call_method_late hbase hfew hline rfl (thn (ho pins s σ H _ I h) fun v s1 ⟨x,H1,I1,r1,ty,q1⟩=>?_)
 obtain⟨h1,h2⟩:=G1 I1 r1 ty
 refine⟨T,id,pa,slot,hty,h1,h2,?_⟩
 have hA:=ha cpos pins s1 σ H1 _ I1 q1
 rw[hs] at hA ⊢
 refine Calls.callWith_builtin (by show(false || (backTo cpos (starEach es X.env)).any (·.1))=false;rw[hplain]<;>rfl) (Calls.evalArgs_plain ?_)
 exact thn hA fun us s2 ⟨vs,H2,I2,r2,q2⟩=>hm pins s2 σ H2 x vs v us Q I2 r1 r2 q2
/- xs.append(e),list.index on a module's tuple .. are MtR facts of 06m -/
end
noncomputable def MtM (X:Cx) (id:String) (r:V->List V->Hp->VK->Prop):Prop:=
 ∀(pins:List (Addr × Obj)) (s:Shared) (σ:St) (H:Hp) (x:V) (xs:List V) (v:Value) (us:List Value) (Q:VK),Inv X pins σ H s->RelV x v->Vals xs us->r x xs H Q →
  wpAny (model X.prog X.w) X.A (call (.builtin id) (v::us)) (EP X pins σ Q) X.xe s
theorem Vals.one:∀{x:V} {us:List Value},Vals [x] us->∃u,us=[u]/\RelV x u
 | _,_,.cons r .nil=>⟨_,rfl,r⟩
theorem Vals.eraseIdx:∀{xs:List V} {us:List Value} (i:Nat),Vals xs us->Vals (xs.eraseIdx i) (us.eraseIdx i)
 | _,_,_,.nil=>.nil
 | _,_,0,.cons _ t=>t
 | _,_,i+1,.cons r t=>.cons r (Vals.eraseIdx i t)
theorem Vals.rep {xs:List V} {us:List Value} (h:Vals xs us):∀k:Nat,Vals (List.replicate k xs).flatten (List.replicate k us).flatten
 | 0=>.nil
 | k+1=>by
  rw[List.replicate_succ,List.replicate_succ,List.flatten_cons,List.flatten_cons]
  exact Vals.append h (Vals.rep h k)
theorem tT {α:Type}:∀(l:List α) (i:Nat),(l.eraseIdx i).length<=l.length
 | [],_=>Nat.le_refl _
 | _::_,0=>Nat.le_succ _
 | _::r,i+1=>Nat.succ_le_succ (tT r i)
theorem foldl_rep (its:List Value):∀(k:Nat) (acc:List Value),
  List.foldl (fun x1 x2=>x1++x2) acc.toArray (List.replicate k its.toArray)=(acc++(List.replicate k its).flatten).toArray
 | 0,acc=>by simp
 | k+1,acc=>by
  have e:acc.toArray++its.toArray=(acc++its).toArray:=by simp
  have e2:(acc++its)++(List.replicate k its).flatten=acc++(List.replicate (k+1) its).flatten:=by
   rw[List.replicate_succ,List.flatten_cons,List.append_assoc]
  rw[<- e2,<- foldl_rep its k (acc++its),<- e,List.replicate_succ,List.foldl_cons]
section
variable {X:Cx} {pins:List (Addr × Obj)} {σ:St} {H:Hp} {s:Shared} {l b:Addr} {xs ys zs:List V}
theorem Inv.Ko {its its':List Value} {n:Nat} {f:Array Value->Array Value} {t':Nat} (I:Inv X pins σ H s) (hH:H l=some (.lst xs))
  (e:s.heap.get? l=some { cls:=.type "list", data:=.seq its.toArray n }) (hf:f its.toArray=its'.toArray) (hv:Vals ys its') (hz:ys.length<=sizeLine) :
  Inv X pins σ (upd H l (.lst ys)) { s with heap:=s.heap.update l (Obj.mapSeq f),toks:=t' }:=by
 have q:=PySem.IsL.update e f
 rw[hf] at q
 refine I.write (x:=l) (e:=l) (by rw[hH];exact trivial) (.inl rfl) (fun b' u hb hu=>(Heap.get?_update_other s.heap (Obj.mapSeq f) (Ne.symm hb)).trans hu) ⟨_,q⟩ ?_
 exact⟨hz,its',_,hv,q⟩
theorem Inv.He {its:List Value} {t':Nat} (I:Inv X pins σ H s) (hv:Vals ys its) (hz:ys.length<=sizeLine) :
  Inv X pins σ (upd H s.heap.objs.size (.lst ys)) { s with heap:=s.heap.push { cls:=.type "list", data:=.seq its.toArray },toks:=t' }:=
 I.laid (fun _ _ q=>Heap.get?_push_of_some _ q) (Nat.le_refl _) ⟨hz,its,0,hv,Heap.get?_push_size _ rfl⟩
theorem Inv.fresh (I:Inv X pins σ H s):H s.heap.objs.size=none:=I.hok.fresh (Nat.le_refl _)
theorem Inv.Jm (I:Inv X pins σ H s) (hH:H l=some (.lst xs)):xs.length<=sizeLine/\∃(its:List Value) (n:Nat),Vals xs its/\xs.length=its.length/\s.heap.get? l=some { cls:=.type "list", data:=.seq its.toArray n }:=by
 obtain⟨z,its,n,r,e⟩:=I.hok l _ hH
 exact⟨z,its,n,r,r.length,e⟩
theorem DK {n:Nat} (h:n<=sizeLine):Builtin.List.listTooLong n=false:=by
 unfold Builtin.List.listTooLong
 exact decide_eq_false (by omega)
end
section
variable {X:Cx}
noncomputable def yT:V->List V->Hp->VK->Prop:=fun x vs H Q=>∃l xs y,x=.ref l/\vs=[y]/\H l=some (.lst xs)/\xs.length<sizeLine/\Q .non (upd H l (.lst (xs++[y])))
theorem tY:MtM X "list.append" yT:=by
 intro pins s σ H x vs v us Q I rx rv h
 obtain⟨l,xs,y,rfl,rfl,hH,hz,q⟩:=h
 cases rx
 obtain⟨u,rfl,ru⟩:=rv.one
 obtain⟨z,its,n,r,hl,e⟩:=I.Jm hH
 refine call_meets F.slot_list_append ⟨_,e,rfl⟩ F.entry_list_append (F.args_list_append_2 _ _) (PySem.list_append l its.toArray n u (by rw[List.size_toArray];omega)) ⟨e,?_⟩
 refine⟨.non,_,I.Ko (its':=its++[u]) hH e (by simp) (r.append (.cons ru .nil)) ?_,rfl,q⟩
 rw[List.length_append,List.length_singleton]
 omega
noncomputable def C7:V->List V->Hp->VK->Prop:=fun x vs H Q=>∃l xs i k y,x=.ref l/\vs=[.int i]/\H l=some (.lst xs)/\-(2 ^ 63)<=i/\i<2 ^ 63/\seqIndex? i xs.length=some k/\xs[k]?=some y/\Q y (upd H l (.lst (xs.eraseIdx k)))
theorem Cr:MtM X "list.pop" C7:=by
 intro pins s σ H x vs v us Q I rx rv h
 obtain⟨l,xs,i,k,y,rfl,rfl,hH,h1,h2,hk,hy,q⟩:=h
 cases rx
 obtain⟨u,rfl,ru⟩:=rv.one
 obtain⟨t,rfl⟩:=ru
 obtain⟨z,its,n,r,hl,e⟩:=I.Jm hH
 obtain⟨w,hw,rw'⟩:=r.get hy
 refine call_meets F.slot_list_pop ⟨_,e,rfl⟩ F.entry_list_pop (F.args_list_pop_2 _ _)
  (MeetsSeq.list_pop_at l its.toArray n i t k w (fitsIndex_both h1 h2) (by rw[List.size_toArray,<- hl];exact hk) (by rw[<- Array.getElem?_toList];exact hw) (by rw[List.size_toArray];omega)) ⟨e,?_⟩
 refine⟨y,_,I.Ko (its':=its.eraseIdx k) hH e ?_ (r.eraseIdx k) ?_,rw',q⟩
 ·show its.toArray.eraseIdxIfInBounds k=(its.eraseIdx k).toArray
  rw[List.eraseIdxIfInBounds_toArray]
 ·have:=tT xs k
  omega
theorem len_rep {α:Type} (xs:List α) (k:Nat):(List.replicate k xs).flatten.length=k*xs.length:=by
 induction k with
 | zero=>simp
 | succ k ih=>rw[List.replicate_succ,List.flatten_cons,List.length_append,ih,Nat.succ_mul,Nat.add_comm]
end
end L2
namespace Att
open PySem PySem.W PySem.Calls PyProof.Rows
theorem o9 {P:Params} {h:Heap}:∀(ns:List Int) (vs:List Value),WellAll P h vs (ns.map WData.int)->IntsAre vs ns:=by
 intro ns
 induction ns with
 | nil=>
  intro vs w
  rw[List.map_nil] at w
  cases w
  exact .nil
 | cons n ns ih=>
  intro vs w
  rw[List.map_cons] at w
  cases w with
  | cons a b=>
   cases a
   exact .cons _ _ (ih _ b)
theorem A8 {l:OpenLaw} {n:Nat} (hn:l.most=some n) {P:Params} {h:Heap} {args:List WData} {vals:List Value}
  (hpre:l.row.toRowW.claim.pre args=true) (hwl:WellAll P h vals args) :
  ∃a vs ns,vals=[Value.ref a]/\args=[WData.list (ns.map WData.int)]/\h.get? a=some { cls:=.type "list", data:=.seq vs.toArray }/\IntsAre vs ns/\ns.length<=n:=by
 have hsh:WShape.hasAll [] args [.list .int]=true:=(pre_splitW hpre).1
 have hc:l.pre.holds [] { args:=args }=true:=(pre_splitW hpre).2
 obtain⟨d,r,rfl,h1,h2⟩:=hasAllW_cons hsh
 obtain rfl:=hasAllW_nil h2
 obtain⟨xs,rfl,h3⟩:=hasW_list h1
 obtain⟨ns,rfl⟩:=items_int h3
 have hlen:ns.length<=n:=by
  unfold OpenLaw.pre at hc
  have h4:(WTm.not (.lt (.lit (.int (n:Int))) (.len (.arg 0)))).holds [] { args:=[.list (ns.map .int)] }=true:=by
   have h4:=(holds_andW hc).1
   rw[hn] at h4
   exact h4
  have h5:=condW_of h4 (w_not (w_lt w_lit (w_len_list (w_arg rfl))))
  rw[List.length_map] at h5
  refine Nat.le_of_not_lt fun q=>?_
  have q':(n:Int)<((ns.length:Nat):Int):=by omega
  first
   | (rw[decide_eq_true q'] at h5;exact absurd h5 (by decide))
   | (simp at h5;omega)
 cases hwl with
 | cons w1 w2=>
  cases w2
  cases w1 with
  | list ho hall=>exact⟨_,_,ns,rfl,rfl,ho,o9 ns _ hall,hlen⟩
theorem A6 (l:OpenLaw) (args:List WData):l.row.toRowW.claim.post args (.bool true) args=true:=
 postW_of (r:=l.row.toRowW) (X:=(true == true))
  (show WShape.has [] (.bool true) .bool=true by first | rfl | decide | simp[WShape.has,WShape.arms,WShape.armsAll])
  (show(WTm.eq .res (.lit (.bool true))).value [] { args:=args,res:=some (.bool true),after:=args }=some (.bool (true == true)) from w_eq_bool (w_res rfl) w_lit) rfl
theorem wc {l:OpenLaw} {n:Nat} {q:Program} {loose:List Str} {XP:(Str->Option Value)->Heap->Prop} {YP:World->Heap->Prop} {d:DefRec}
  (hn:l.most=some n) (hdf:d.params.defaults=[])
  (call:∀(w:World) (bh s₁:Shared) (mg mb:Str->Option Value) (fa:Addr) (o:Obj) (pm cd doc:Value) (a:Addr) (vs:List Value) (ns:List Int),
   Ground q loose [] XP w bh mg mb s₁.heap->YP w s₁.heap →
   s₁.heap.get? fa=some o->o.data=.func (docDef d.name d.params d.body d.scope pm cd doc)->s₁.heap.CodeRec cd d.name->mg d.name=some (.ref fa) →
   s₁.heap.get? a=some { cls:=.type "list", data:=.seq vs.toArray }->IntsAre vs ns->ns.length<=n->s₁.gens = #[] →
   codeAny (model l.prog w) callerA (.call (.ref fa) ⟨[.ref a],[]⟩) (fun r s'=>r=.ok (.ret (.bool true))/\OldK s₁.heap s'.heap/\s'.os=s₁.os/\AllBare s'.gens) s₁) :
  WalkO q loose XP YP l.row.toRowW d [] (fun f vs=>PySem.call f vs):=by
 intro w bh s₁ mg mb G Y fa o pm cd doc dV kV ho hd hcd hD hmg hg args vals as hpre hlay hrd hwl hlo
 obtain rfl:dV=.none:=Dflts.none hD hdf
 obtain rfl:kV=.none:=Dflts.noKw hD
 obtain⟨a,vs,ns,rfl,rfl,hobj,hints,hlen⟩:=A8 hn hpre hwl
 refine enter_call (codeAny_mono (call w bh s₁ mg mb fa o pm cd doc a vs ns G Y ho (fd_plain hd) hcd hmg hobj hints hlen hg) fun r s' hq=>?_)
 obtain⟨rfl,h2,h3,h4⟩:=hq
 exact⟨.inl ⟨.bool true,.bool true,[],rfl,fun _=>rfl,.bool true,A6 l _,fun _=>⟨List.Pairwise.nil,fun _ hm=>(nomatch hm)⟩⟩,h2,h3,h4⟩
end Att
namespace L2
open PySem PySem.Spec PyProof.Rows
theorem sN:∀{vs:List Value} {ns:List Int},IntsAre vs ns->Vals (ns.map V.int) vs
 | _,_,.nil=>.nil
 | _,_,.cons n t h=>.cons ⟨t,rfl⟩ (sN h)
noncomputable def KZ (H:Hp):Prop:=∀b,H b=none\/∃o xs,H b=some (.frz o (.lst xs))
end L2
/- THE LAST THEOREM (shape;LID,My.* are yours):
  My.Adr: a structure of the addresses that your layer names (classes,functions);My.Txt K t: a structure (Prop) of the equations over K;
  My.txt_mk:{K} {implicit addresses ..} (e1:nsIn K mainGlobals "law" = some (some (.ref f))) (e2:K.lookup f=some ⟨oc,od,.func (fnOf "law" "law" params body scope dV kV doc pm an cdv ct),sl⟩) (e3:codeIn K cdv "law" = true) .. : ∃t,My.Txt K t
(the tactic k_is has no namespace: write k_is) -/
namespace L2
open PySem PySem.Spec PyProof.Rows
noncomputable def fU (s:Stmt):Arguments:=match s with
 | .FunctionDef _ a _ _ _ _ _ _ _ _=>a
 | _=>{ posonlyargs:=[],args:=[],vararg:=none,kwonlyargs:=[],kw_defaults:=[],kwarg:=none,defaults:=[] }
noncomputable def bQ (s:Stmt):List Stmt:=match s with
 | .FunctionDef _ _ b _ _ _ _ _ _ _=>b
 | _=>[]
noncomputable def ak (s:Stmt):Scope:=match s with
 | .FunctionDef _ _ _ _ _ _ sc _ _ _=>sc
 | _=>{ kind:=.function,names:=[],isGenerator:=false,isCoroutine:=false }
noncomputable abbrev CX0:CXT:=fun _ _ _ _ _ _=>False
noncomputable abbrev E0:XK:=fun _ _ _=>False
theorem Ji {X:Cx}:Passes CX0 X E0:=fun _ _ _ _ _ _ _ h=>h.elim
structure Fun (K:PySem.W.Frag) (x qual:Str) (st:Stmt) (f:Addr) (fd:FuncData):Prop where
 ex:∃(oc:Value) (od:Option Addr) (kV doc pm:Value) (an:Option Addr) (cdv ct:Value) (osl:Array (Option Value)),
  fd=PySem.W.fnOf x qual (fU st) (bQ st) (ak st) .none kV doc pm an cdv ct/\K.lookup f=some ⟨oc,od,.func fd,osl⟩/\PySem.W.codeIn K cdv qual=true
 kp:PySem.W.keepIn K (.ref f)=true
section
variable {P:Program} {w:World} {K:PySem.W.Frag} {mg:Str->Option Value} {base:Heap}
theorem Fun.ok {x qual:Str} {st:Stmt} {f:Addr} {fd:FuncData} {N ps:List Str} {k:Nat} {sp:Sp} (F:Fun K x qual st f fd) (S:aE N ps (ak st)) (len:∀vs H Q E,sp vs H Q E->vs.length=ps.length)
  (hbody:∀(cdv:Value) (A:Around) (outer:List Env) (s:Shared) (H:Hp) (vs:List V) (Q:VK) (E:XK),cP k (A.deeper (envOfC qual (ak st) s.heap.objs.size f cdv))->sp vs H Q E →
   ∃t,PSs (gT CX0 P w K mg base N qual (ak st) f cdv A outer s H E).nox (bQ st) t/\t { nx:=fun _ H'=>Q .non H',rt:=Q } (start N vs) H):ef P w K mg base CX0 (k+1) f fd ps sp:=by
 obtain⟨oc,od,kV,doc,pm,an,cdv,ct,osl,rfl,lk,hcd⟩:=F.ex
 refine F0 lk hcd S len fun A outer s H vs Q E hr hsp=>?_
 obtain⟨t,h,q⟩:=hbody cdv A outer s H vs Q E hr hsp
 exact⟨t,h.nox,q⟩
theorem Fun.binds {x qual:Str} {st:Stmt} {f:Addr} {fd:FuncData} {ps:List Str} (F:Fun K x qual st f fd)
  (h:∀(kV doc pm:Value) (an:Option Addr) (cdv ct:Value) (us:List Value),us.length=ps.length->bindArgs (PySem.W.fnOf x qual (fU st) (bQ st) (ak st) .none kV doc pm an cdv ct) ⟨us,[]⟩=pure (ps.zip us)):Binds K fd ps []:=by
 obtain⟨oc,od,kV,doc,pm,an,cdv,ct,osl,rfl,lk,hcd⟩:=F.ex
 exact .all (h kV doc pm an cdv ct)
theorem yk {x qual:Str} {st:Stmt} {f:Addr} {oc:Value} {od an:Option Addr} {osl:Array (Option Value)} {kV doc pm cdv ct:Value} (l:K.lookup f=some ⟨oc,od,.func (PySem.W.fnOf x qual (fU st) (bQ st) (ak st) .none kV doc pm an cdv ct),osl⟩)
  (c:PySem.W.codeIn K cdv qual=true) (k:PySem.W.keepIn K (.ref f)=true):Fun K x qual st f (PySem.W.fnOf x qual (fU st) (bQ st) (ak st) .none kV doc pm an cdv ct):=⟨⟨oc,od,kV,doc,pm,an,cdv,ct,osl,rfl,l,c⟩,k⟩
end
noncomputable def PTs (X:Cx) (ifs:List Expr) (t:TT):Prop:=
 ∀(pins:List (Addr × Obj)) (s:Shared) (σ:St) (H:Hp) (Q:Bool->Hp->Prop),Inv X pins σ H s->t σ H Q →
  wpAny (model X.prog X.w) X.A (forIn ifs true fun c r=>if r=true then do let ok ← isTrue c X.env (eval c X.env);pure (ForInStep.yield ok) else pure (ForInStep.yield r)) (TP X pins σ Q) X.xe s
noncomputable def Ki:TT:=fun _ H Q=>Q true H
theorem E8 {X:Cx}:PTs X [] Ki:=fun _ _ _ H _ I h=>wpAny_tests_nil ⟨H,I,h⟩
theorem Fg {X:Cx} {c:Expr} {t:TT} (h:PT X c t):PTs X [c] t:=fun pins s σ H Q I q=>wpAny_tests_one (h pins s σ H Q I q)
theorem xm {prog:Program} {w:World} {A:Around} {R:Result->Shared->Prop} {s:Shared} {elt target iter:Expr} {ifs:List Expr} {scope:Scope} {pos:Pos} {it acc:Value} {env:Env} (I:Nat->Shared->Prop)
  (turn:∀n s,I n s->wpAny (model prog w) A (pyNext it) (fun r s₁=>match r with
   | none=>R (.ok .next) s₁
   | some v=>wpAny (model prog w) A (letOwnedTupleGo target it v) (fun _ s₁=>wpAny (model prog w) A (assign target env v) (fun _ s₂=>
     wpAny (model prog w) A (forIn ifs true fun c r=>if r=true then do let ok ← isTrue c env (eval c env);pure (ForInStep.yield ok) else pure (ForInStep.yield r)) (fun ok s₃=>
      if ok=true then wpAny (model prog w) A (eval elt env) (fun x s₄=>
       wpAny (model prog w) A (call (.builtin "list.append") [acc,x]) (fun _ s₅=>∃m,m<n/\I m s₅) (fun _ _=>False) s₄) (fun _ _=>False) s₃
      else ∃m,m<n/\I m s₃) (fun _ _=>False) s₂) (fun _ _=>False) s₁) (fun _ _=>False) s₁) (fun _ _=>False) s)
  (n:Nat) (h:I n s) :
  codeAny (model prog w) A (.compLoop (.ListComp elt [⟨target,iter,ifs,0⟩] scope pos) 0 it acc env) R s:=by
 refine codeAny_loop rfl I (fun n s hI=>?_) n h
 show wpAny _ A ((compTurn (.ListComp elt [⟨target,iter,ifs,0⟩] scope pos) 0 it acc env).onRaise (fun x=>do noteFrame x env;theTreesLotGoes x)) _ _ s
 refine wpAny_noted ?_
 rw[compTurn_list]
 refine wpAny_noRaise ?_
 refine wpAny_bind (wpAny_standAt (wpAny_bind (wpAny_mono (turn n s hI) (fun r s₁ h₁=>?_) fun _ _ h'=>h')))
 cases r with
 | none=>exact wpAny_pure h₁
 | some v=>
  refine wpAny_bind (wpAny_mono h₁ (fun _ s₁' h₁'=>?_) fun _ _ h'=>h')
  refine wpAny_bind (wpAny_mono h₁' (fun _ s₂ h₂=>wpAny_bind (wpAny_mono h₂ (fun ok s₃ h₃=>?_) fun _ _ h'=>h')) fun _ _ h'=>h')
  cases ok with
  | false=>exact wpAny_pure ⟨rfl,h₃⟩
  | true=>
   exact wpAny_bind (wpAny_bind (wpAny_mono h₃ (fun x s₄ h₄=>wpAny_bind (wpAny_mono h₄ (fun _ s₅ h₅=>wpAny_pure (wpAny_pure ⟨rfl,h₅⟩)) fun _ _ h'=>h')) fun _ _ h'=>h'))
noncomputable def iA (X:Cx) (scope:Scope) (cl:List (Str × Addr)) (C:Addr) (bh:Shared) (bO:Hp) (fp:List Addr) (N':List Str):Cx:=
 { X with N:=N',bh:=bh,bO:=bO,env:=compEnvC scope cl C X.env,outer:=X.stack,ex:=fp,fn:=fun _=>false,pn:=[] }
theorem lA {env:Env}:∀(names:List (Str × NameKind)) (cs:List (Str × Addr)),(∀y∈names,y.2=.free->∃a,env.cells.lookup y.1=some a)->(∀x c,cs.lookup x=some c->env.cells.lookup x=some c) →
  ∃cl:List (Str × Addr),(forIn names cs fun(y:Str × NameKind) (r:List (Str × Addr))=>if (y.2 == NameKind.free)=true then do let a ← cellOf env y.1;pure (ForInStep.yield ((y.1,a)::r)) else pure (ForInStep.yield r):Sem (List (Str × Addr)))=pure cl ∧
   (∀x c,cl.lookup x=some c->env.cells.lookup x=some c)/\(∀x,((x,NameKind.free)∈names\/∃c,cs.lookup x=some c)->∃c,cl.lookup x=some c)
 | [],cs,_,h=>⟨cs,rfl,h,fun x hx=>by
   rcases hx with z | z
   ·cases z
   ·exact z⟩
 | (n,k)::r,cs,hf,h=>by
  by_cases hk:k=.free
  ·subst hk
   obtain⟨a,ha⟩:=hf (n,.free) (by simp) rfl
   obtain⟨cl,e,h1,h2⟩:=lA r ((n,a)::cs) (fun y hy=>hf y (List.mem_cons_of_mem _ hy)) (fun x c q=>by
    rw[List.lookup_cons] at q
    cases hx:x == n with
    | true=>
     rw[hx] at q
     have:x=n:=by simpa using hx
     subst this
     cases q;exact ha
    | false=>rw[hx] at q;exact h x c q)
   refine⟨cl,?_,h1,fun x hx=>?_⟩
   ·rw[List.forIn_cons]
    have e0:cellOf env n=pure a:=by unfold cellOf;rw[ha]
    simp only[beq_self_eq_true,if_true,e0]
    exact e
   ·have hc:∀z c,cs.lookup z=some c->∃c,((n,a)::cs).lookup z=some c:=fun z c q=>by
     rw[List.lookup_cons]
     cases z == n with
     | true=>exact⟨a,rfl⟩
     | false=>exact⟨c,q⟩
    rcases hx with z | ⟨c,z⟩
    ·rcases List.mem_cons.mp z with q | q
     ·cases q
      exact h2 n (.inr ⟨a,by simp[List.lookup_cons]⟩)
     ·exact h2 x (.inl q)
    ·exact h2 x (.inr (hc x c z))
  ·obtain⟨cl,e,h1,h2⟩:=lA r cs (fun y hy=>hf y (List.mem_cons_of_mem _ hy)) h
   have hb:(k == NameKind.free)=false:=by simpa using hk
   refine⟨cl,?_,h1,fun x hx=>?_⟩
   ·rw[List.forIn_cons]
    simp only[hb,Bool.false_eq_true,if_false]
    exact e
   ·rcases hx with z | z
    ·rcases List.mem_cons.mp z with q | q
     ·cases q;exact absurd rfl hk
     ·exact h2 x (.inl q)
    ·exact h2 x (.inr z)
theorem sF {env:Env} {scope:Scope} (h:∀y∈scope.names,y.2=.free->∃a,env.cells.lookup y.1=some a) :
  ∃cl:List (Str × Addr),closureFor scope env=pure cl/\(∀x c,cl.lookup x=some c->env.cells.lookup x=some c)/\(∀x,(x,NameKind.free)∈scope.names->∃c,cl.lookup x=some c):=by
 obtain⟨cl,e,h1,h2⟩:=lA (env:=env) scope.names [] h (fun x c q=>by cases q)
 refine⟨cl,?_,h1,fun x hx=>h2 x (.inl hx)⟩
 exact Eq.trans (congrArg (fun t:Sem (List (Str × Addr))=>t >>= fun cs=>pure cs) e) rfl
theorem lookup_mem {x:Str} {k:NameKind}:∀{names:List (Str × NameKind)},names.lookup x=some k->(x,k)∈names
 | [],h=>by cases h
 | (n,j)::r,h=>by
  rw[List.lookup_cons] at h
  cases hx:x == n with
  | true=>
   rw[hx] at h
   have:x=n:=by simpa using hx
   subst this
   cases h;simp
  | false=>rw[hx] at h;exact List.mem_cons_of_mem _ (lookup_mem h)
theorem gq {env:Env} (hf:env.scope.kind=.function):∀{names:List (Str × NameKind)} {x:Str},names.lookup x=some .free->env.kindOf x=some .cell →
  (names.map fun(n,k)=>if (k == NameKind.free&&env.scope.kind == .function&&env.kindOf n == some .cell) then (n,NameKind.cell) else (n,k)).lookup x=some .cell
 | [],_,h,_=>by cases h
 | (n,k)::r,x,h,hc=>by
  have ih:=@gq env hf r x
  show List.lookup x ((if (k == NameKind.free&&env.scope.kind == .function&&env.kindOf n == some .cell)=true then (n,NameKind.cell) else (n,k))::_)=_
  cases hx:x == n with
  | true=>
   have:x=n:=by simpa using hx
   subst this
   simp only[List.lookup_cons,hx] at h
   cases h
   rw[if_pos (by simp[hf,hc])]
   simp[List.lookup_cons]
  | false=>
   simp only[List.lookup_cons,hx] at h
   by_cases hq:(k == NameKind.free&&env.scope.kind == .function&&env.kindOf n == some .cell)=true
   ·rw[if_pos hq];simp only[List.lookup_cons,hx];exact ih h hc
   ·rw[if_neg hq];simp only[List.lookup_cons,hx];exact ih h hc
theorem i3 {env:Env}:∀{names:List (Str × NameKind)} {x:Str} {k:NameKind},(names.map fun(n,k)=>if (k == NameKind.free&&env.scope.kind == .function&&env.kindOf n == some .cell) then (n,NameKind.cell) else (n,k)).lookup x=some k →
  names.lookup x=some k\/(names.lookup x=some .free/\k=.cell)
 | [],_,_,h=>by cases h
 | (n,j)::r,x,k,h=>by
  have ih:=@i3 env r x k
  have h':List.lookup x ((if (j == NameKind.free&&env.scope.kind == .function&&env.kindOf n == some .cell)=true then (n,NameKind.cell) else (n,j))::(r.map fun(n,k)=>if (k == NameKind.free&&env.scope.kind == .function&&env.kindOf n == some .cell) then (n,NameKind.cell) else (n,k)))=some k:=h
  by_cases hq:(j == NameKind.free&&env.scope.kind == .function&&env.kindOf n == some .cell)=true
  ·rw[if_pos hq] at h'
   have hj:j=.free:=by
    have:=Bool.and_eq_true_iff.mp (Bool.and_eq_true_iff.mp hq).1
    simpa using this.1
   simp only[List.lookup_cons] at h' ⊢
   cases hx:x == n with
   | true=>rw[hx] at h';cases h';exact .inr ⟨by rw[hj],rfl⟩
   | false=>rw[hx] at h';exact ih h'
  ·rw[if_neg hq] at h'
   simp only[List.lookup_cons] at h' ⊢
   cases hx:x == n with
   | true=>rw[hx] at h';cases h';exact .inl rfl
   | false=>rw[hx] at h';exact ih h'
noncomputable def sM (ix:List Nat) (σ:St):St:=none::ix.map fun i=>(σ[i]?).join
noncomputable abbrev Kw (J:It) (tt:TT) (te:TE) (σ':V->St) (acc:Addr) (H1:Hp) (Q:VK):Prop:=
 ∃W:Nat->Nat->List V->Hp->Prop,(∃m,W 0 m [] (upd H1 acc (.lst [])))/\∀i m ys H,W i m ys H →
  (J.stop i H/\Q (.ref acc) H)\/(J.go i H/\∀x H',J.yld i H x H'->tt (σ' x) H' fun b H2=>if b=true then te (σ' x) H2 fun y H3=>
    H3 acc=some (.lst ys)/\ys.length<sizeLine/\∃m',m'<m/\W (i+1) m' (ys++[y]) (upd H3 acc (.lst (ys++[y])))
   else ∃m',m'<m/\W (i+1) m' ys H2)
noncomputable def FY (wi:TI) (ix:List Nat) (tt:TT) (te:TE):TE:=fun σ H Q=>wi σ H fun J H1=>∀acc,H1 acc=none->Kw J tt te (fun x=>(sM ix σ).set 0 (some x)) acc H1 Q
theorem HOk.sameBut {P:Program} {w:World} {H:Hp} {h h':Heap} {C:Addr} (x:HOk P w H h) (hn:H C=none) (k:∀b u,b≠C->h.get? b=some u->h'.get? b=some u):HOk P w H h':=fun b u e=>by
 have nC:∀b u,H b=some u->b≠C:=fun b u e z=>by rw[z,hn] at e;cases e
 refine(x b u e).ke (fun c v hc q=>k c v ?_ q) (fun _ q=>q) fun _ _ q=>q
 rcases hc with z | z
 ·rw[z];exact nC b u e
 ·exact nC c _ z
theorem xq:isSubtype (.type "tuple") (.type "set")=pure false:=by rw[isSubtype_type];kernel_rfl
theorem u9:isSubtype (.type "tuple") (.type "frozenset")=pure false:=by rw[isSubtype_type];kernel_rfl
noncomputable abbrev gr (led:Bool):Obj:={ cls:=.type "set", dict:=none,data:=.set #[] 0 (.fresh 0 0 led) }
set_option maxHeartbeats 3200000 in
theorem set_tuple {prog:Program} {w:World} {B:Around} {Er:Value->Shared->Prop} {z:Shared} {a:Addr} {its:Array Value} {zs:List Int} {Q:Value->Shared->Prop}
  (hh:B.handled=none) (ht:z.heap.IsTuple a its) (hi:IntsAre its.toList zs) (hb:its.size+1<scanBound)
  (fin:∀(g':Heap) (tk:Nat),g'.SetOf (intKind prog w) z.heap.objs.size (fun k'=>(firstMet (fun i=>zs.getD i 0) its.size).any (· == k')) (firstMet (fun i=>zs.getD i 0) its.size).length →
   (∀b o,b<z.heap.objs.size->z.heap.get? b=some o->g'.get? b=some o)->Q (.ref z.heap.objs.size) { z with heap:=g',toks:=tk }) :
  wpAny (model prog w) B (call (.type "set") [.ref a]) Q Er z:=by
 obtain⟨_,_,_⟩:=F.called_set.mro
 have:=F.called_set.made
 have:=F.called_set.sub
 refine wpAny_call (codeAny_of_tree ?_)
 show wpAny _ _ (callAny (.type "set") _) _ _ _
 refine wpAny_pure ⟨Code.quiet_builtin _ (by decide +kernel),codeAny_builtin F.entry_type_call ?_⟩
 rw[Around.under_plain (weight_type_call_type "set" [.ref a] []) rfl]
 have:=F.called_set.notType
 have:=F.called_set.canCreate
 have:=F.typeCall_set_1 (.ref a)
 repeat (any_goals (first | assumption | wp_step))
 refine codeAny_mono (code_set_new_1 (.ref a) (E:=Er) (Q₁:=fun v y=>∃led:Bool,v=.ref z.heap.objs.size/\y={ z with heap:=z.heap.push (gr led) }) fun led=>⟨led,rfl,rfl⟩) fun r y hr=>?_
 cases r with
 | error e=>exact hr
 | ok fl=>
  cases fl with
  | ret v=>
   obtain⟨led,rfl,rfl⟩:=hr
   have hS:(z.heap.push (gr led)).get? z.heap.objs.size=some (gr led):=Heap.get?_push_size _ rfl
   have hT:Shared.TypeIs { z with heap:=z.heap.push (gr led) } (.ref z.heap.objs.size) "set" := ⟨_,hS,rfl⟩
   have:=F.called_set.init.lookup
   have:=F.called_set.init.bind (.ref z.heap.objs.size)
   repeat (any_goals (first | assumption | wp_step))
   refine codeAny_mono (codeAny_call_builtin (R:=wants (fun r y=>r=.none/\∃g' tk,y={ z with heap:=g',toks:=tk } ∧
     g'.SetOf (intKind prog w) z.heap.objs.size (fun k'=>(firstMet (fun i=>zs.getD i 0) its.size).any (· == k')) (firstMet (fun i=>zs.getD i 0) its.size).length ∧
     (∀b o,b<z.heap.objs.size->z.heap.get? b=some o->g'.get? b=some o)) Er) F.called_set.init.plain F.entry_set_init (check_set_init_1 hT ?_)) fun r₂ y₂ hr₂=>?_
   ·obtain⟨ol,hol,hcl,nl,hdl⟩:=id ht
    obtain⟨oc,od,oda,osl⟩:=ol
    simp only at hcl hdl
    subst hcl;subst hdl
    have hol':(z.heap.push (gr led)).get? a=some { cls:=.type "tuple", dict:=od,data:=.seq its nl,slots:=osl }:=Heap.get?_push_of_some _ hol
    have:=xq
    have:=u9
    have:(Value.type "tuple" == Value.type "dict")=false:=by decide
    have ht1:(z.heap.push (gr led)).IsTuple a its:=⟨_,hol',rfl,nl,rfl⟩
    unfold Builtin.«set.__init__» noKeywords Builtin.Frozenset.updateFrom
    generalize hPI:pyIter=PI
    wp_walk
    subst hPI
    refine wpAny_pyIter_tuple ht1 ?_
    refine wpAny_bind (wpAny_runValue ?_)
    have hlS:a<z.heap.objs.size:=Heap.lt_size hol
    have hneI:a≠(z.heap.push (gr led)).objs.size:=by
     rw[Heap.size_push];exact Nat.ne_of_lt (Nat.lt_succ_of_lt hlS)
    have hSf:z.heap.objs.size∉[(z.heap.push (gr led)).objs.size,a]:=by
     rw[Heap.size_push];simp only[List.mem_cons,List.mem_singleton,List.not_mem_nil,or_false,not_or]
     exact⟨Nat.ne_of_lt (Nat.lt_succ_self _),Nat.ne_of_gt hlS⟩
    have hval:∀(i:Nat) (v:Value),its[i]?=some v->∃t,v=.int ((fun i=>zs.getD i 0) i) t:=fun i v hv=>IntsAre.int_at hi i v (by rw[Array.getElem?_toList];exact hv)
    refine codeAny_set_update_loopS ((Walks.tuple (by simp[hh]) _ a hneI its).toS) z.heap.objs.size
     hSf (fun i=>zs.getD i 0) hval hb (its.size - 0) 0 _ (by omega) (Nat.zero_le _)
     ⟨⟨_,Heap.get?_push_size _ rfl,rfl,rfl⟩,?hP⟩ ?hS0 ?hR
    case hP=>exact⟨_,Heap.get?_push_of_some _ hol',rfl,nl,rfl⟩
    case hS0=>
     exact SetOf_congr ((setObjOf_fresh (knd:=intKind prog w) led).setOf (Heap.get?_push_of_some _ hS) (by unfold scanBound;omega)) (fun _=>rfl) rfl
    case hR=>
     intro s' hm hS'
     obtain⟨h',g',d',tk',os'⟩:=s'
     obtain rfl:g'=z.gens:=hm.gens
     obtain rfl:d'=z.drawn:=hm.drawn
     obtain rfl:os'=z.os:=hm.os
     show wpAny _ _ _ _ _ _
     refine wpAny_pure ?_
     show wpAny _ _ (ret Value.none) _ _ _
     refine wpAny_pure ⟨rfl,h',tk',rfl,hS',fun b o hb e=>?_⟩
     refine hm.heap b o ?_ (Heap.get?_push_of_some _ (Heap.get?_push_of_some _ e))
     simp only[List.mem_cons,List.mem_singleton,List.not_mem_nil,or_false,not_or]
     refine⟨Nat.ne_of_lt hb,?_⟩
     show b≠(z.heap.push (gr led)).objs.size
     rw[Heap.size_push];exact Nat.ne_of_lt (Nat.lt_succ_of_lt hb)
   ·cases r₂ with
    | error e=>exact hr₂
    | ok fl₂=>
     cases fl₂ with
     | ret r=>
      obtain⟨rfl,g',tk,rfl,hS',hk'⟩:=hr₂
      repeat (any_goals (first | assumption | wp_step))
      exact fin _ _ hS' hk'
     | _=>exact hr₂.elim
  | _=>exact hr.elim
section
variable {X:Cx}
theorem wO:bg X (.builtin "isinstance") (fun vs H Q=>∃x t n b,vs=[x,.ty n]/\lb X.K H x t/\PySem.W.kitOne X.K t (.type n)=some b/\Q (.bl b) H):=by
 intro pins s σ H xs us Q I r h
 obtain⟨x,t,n,b,rfl,ty,e,q⟩:=h
 obtain⟨u,w',rfl,r1,r2⟩:=vals2 r
 cases r2
 exact Av I r1 ty e fun tk=>⟨.bl b,H,I.tok tk,rfl,q⟩
noncomputable def unl (ns:List Int):List Int:=firstMet (fun i=>ns.getD i 0) ns.length
theorem IE (ns:List Int):(unl ns).length<=ns.length:=firstMet_length_le _ _
theorem mj (hc:X.calm=true):bg X (.type "set") (fun vs H Q=>∃p ns,vs=[.ref p]/\SqT X.K H p (ns.map V.int)/\ns.length+1<scanBound/\∀l,H l=none->Q (.ref l) (upd H l (.set (fun k=>(unl ns).any (· == k)) (unl ns).length))):=by
 intro pins s σ H xs us Q I r h
 obtain⟨p,ns,rfl,hq,hb,q⟩:=h
 obtain⟨u,rfl,rx⟩:=vals1 r
 cases rx
 obtain⟨its,r',pl,hz⟩:=I.tuple hq
 have hlen:=r'.length
 rw[List.length_map] at hlen
 have e0:its.toArray.size=ns.length:=by rw[List.size_toArray,hlen]
 refine set_tuple (I.ok.hd hc) (show s.heap.IsTuple p its.toArray from pl) (zs:=ns) (by simpa using intsAre_of r') (by rw[e0];exact hb) fun g' tk hS hk=>?_
 rw[e0] at hS
 exact⟨.ref s.heap.objs.size,_,I.laid (t':=tk) (fun b o e=>hk b o (Heap.lt_size e) e) (Nat.le_refl _) (show bM X.prog X.w _ g' _ (.set _ _) from hS),rfl,q _ (I.hok.fresh (Nat.le_refl _))⟩
theorem rW:bg X (.builtin "len") (fun vs H Q=>∃p S n,vs=[.ref p]/\H p=some (.set S n)/\Q (.int n) H):=by
 intro pins s σ H xs us Q I r h
 obtain⟨p,S,n,rfl,hH,q⟩:=h
 obtain⟨u,rfl,rx⟩:=vals1 r
 cases rx
 obtain⟨o,es,ep,tb,ho,hex,hd,hel,hmem,hsz,hfit,rfl⟩:=(show s.heap.SetOf (intKind X.prog X.w) p S n from I.hok p _ hH)
 have hb:(es.size:Int)<2 ^ 63:=by unfold scanBound at hsz;omega
 exact PySem.call_len_set ho hex hd hfit hb ⟨.int es.size,H,I.tok _,⟨_,rfl⟩,q⟩
theorem kh {prog:Program} {w:World} {A:Around} {E:Value->Shared->Prop} {s:Shared} {t sl:Addr} {items:Array Value} {vl vu:Value} {lo hi:Option Int} {Q:Value->Shared->Prop} (ht:IsTup s.heap t items) (hs:s.heap.IsSliceOf sl vl vu .none) (pl:IsPart vl lo) (pu:IsPart vu hi)
  (h1:HT.sIx items.size 0 lo=0) (h2:HT.sIx items.size items.size hi=items.size) (h:Q (.ref t) s):wpAny (model prog w) A (getItem (.ref t) (.ref sl)) Q E s:=by
 obtain⟨os,hos,hcs,hds⟩:=id hs
 have hTs:s.TypeIs (.ref sl) "slice" := ⟨os,hos,hcs⟩
 unfold getItem
 try with_reducible refine wpAny_holding ?_
 first | refine wpAny_bind (wpAny_pure ?_) | skip
 refine wpAny_bind (wpAny_sequenceKey ht.typeIs (by decide) ?_)
 refine wpAny_bind (wpAny_callSpecial?_slot (name:=Str.ofString "__getitem__") ht.typeIs PyProof.Rows.slot_tuple_getitem (wpAny_call_entry PyProof.Rows.slot_tuple_getitem ht.typeIs entry_tuple_getitem ?_ (args_tuple_getitem _ _)))
 show wpAny _ _ (Builtin.Tuple.tupleItemsOf (.ref t) >>= _) _ _ s
 refine wpAny_bind (tupleItemsOf_ ht (wpAny_bind (wpAny_typeOf hTs ?_)))
 rw[if_pos (by decide)]
 refine wpAny_bind (HT.iD hs pl pu ?_)
 rw[h1,h2]
 show wpAny _ _ (if (((0:Nat):Int) == 0&&(1:Int) == 1&&(items.size - 0) == items.size)=true then _ else _) _ _ s
 rw[if_pos (by simp)]
 show wpAny _ _ (Builtin.Tuple.tupleIsExact (.ref t) >>= _) _ _ s
 unfold Builtin.Tuple.tupleIsExact
 refine wpAny_bind (wpAny_bind (wpAny_typeOf ht.typeIs (wpAny_pure ?_)))
 show wpAny _ _ (if (Value.type "tuple" == Value.type "tuple")=true then _ else _) _ _ s
 rw[if_pos (by decide)]
 refine wpAny_bind (wpAny_rule ?_)
 first
  | exact wpAny_pure ⟨_,rfl,wpAny_pure h⟩
  | exact wpAny_bind (wpAny_pure (wpAny_pure ⟨_,rfl,wpAny_pure h⟩))
noncomputable def IS (K:PySem.W.Frag):V->Option Int->Option Int->Hp->VK->Prop:=fun x lo hi H Q=>∃a xs,x=.ref a/\SqT K H a xs/\HT.sIx xs.length 0 lo=0/\HT.sIx xs.length xs.length hi=xs.length/\Q (.ref a) H
theorem Es:SlR X (IS X.K):=by
 intro pins s σ H x v vl vu lo hi sl Q I rx hs pl pu h
 obtain⟨a,xs,rfl,hx,h1,h2,q⟩:=h
 cases rx
 obtain⟨its,r,ht,hz⟩:=I.tuple hx
 have hlen:its.toArray.size=xs.length:=by rw[List.size_toArray];exact r.length.symm
 refine⟨"tuple", _,PyProof.Rows.slot_tuple_getitem.lookup,ht.typeIs,?_⟩
 exact kh ht hs pl pu (by rw[hlen];exact h1) (by rw[hlen];exact h2) ⟨.ref a,H,I,rfl,q⟩
noncomputable def BR (K:PySem.W.Frag):R2:=fun x y H Q=>∃a b ys,x=.ref a/\y=.ref b/\SqT K H a []/\SqT K H b ys/\Q (.ref b) H
theorem B5:OpR X (binaryOp .Add) (BR X.K):=by
 intro pins s σ H x y v u Q I rx ry h
 obtain⟨a,b,ys,rfl,rfl,ha,hb,q⟩:=h
 cases rx
 cases ry
 obtain⟨its,r1,p1,_⟩:=I.tuple ha
 obtain⟨its2,r2,p2,_⟩:=I.tuple hb
 cases r1
 obtain⟨⟨cls,dd,data,sl⟩,ho,hc,n,hd⟩:=id p1
 obtain⟨⟨cls2,dd2,data2,sl2⟩,ho2,hc2,n2,hd2⟩:=id p2
 simp only at hc hd hc2 hd2
 subst hc hd hc2 hd2
 exact concat_meets ⟨_,ho,rfl⟩ ⟨_,ho2,rfl⟩ noFill_tuple_add seq_tuple_add PySem.F.slot_tuple_add PySem.F.entry_tuple_add (PySem.F.args_tuple_add_2 _ _)
  (tuple_addW0 a b _ _ n n2 dd dd2 sl sl2 (by simp)) ⟨ho,ho2,⟨.ref b,H,I,rfl,q⟩⟩
end
open AutoSeq1 (wpAny_loadPart')
noncomputable def pk (a:Addr) (lo hi st:Int):HO:=.ext fun h=>∃t u v,h.get? a=some { cls:=.type "range", data:=.fields #[.int lo t,.int hi u,.int st v] }
noncomputable def uA (lo st:Int) (n:Nat):List Int:=(List.range n).map fun(i:Nat)=>lo+(i:Int)*st
theorem ow (lo st:Int) (n:Nat):(uA lo st n).length=n:=by simp[uA]
theorem qz {lo st:Int} {n:Nat} {acc:Array Value} (h:ItemsOf (fun i v=>∃t,v=.int (lo+i*st) t) acc n):Vals ((uA lo st n).map V.int) acc.toList:=by
 obtain⟨hs,hv⟩:=h
 have key:∀(l:List Value) (k:Nat),(∀j v,l[j]?=some v->∃t,v=Value.int (lo+((k+j:Nat):Int)*st) t)->Vals (((List.range' k l.length).map fun(i:Nat)=>lo+(i:Int)*st).map V.int) l:=by
  intro l
  induction l with
  | nil=>intro k _;exact .nil
  | cons a r ih=>
   intro k hk
   rw[List.length_cons,List.range'_succ,List.map_cons,List.map_cons]
   refine .cons ?_ (ih (k+1) fun j v e=>?_)
   ·obtain⟨t,q⟩:=hk 0 a rfl
    exact⟨t,by rw[q];simp⟩
   ·obtain⟨t,q⟩:=hk (j+1) v (by simpa using e)
    exact⟨t,by rw[q];congr 3;omega⟩
 have:=key acc.toList 0 fun j v e=>by
  obtain⟨t,q⟩:=hv j v (by simpa using e)
  exact⟨t,by rw[q];simp⟩
 unfold uA
 rw[List.range_eq_range',<- hs]
 simpa using this
section
variable {X:Cx}
theorem Inv.rng {pins:List (Addr × Obj)} {σ:St} {H:Hp} {s:Shared} {lo hi st:Int} {t u v:Tok} {tk:Nat} (I:Inv X pins σ H s) :
  Inv X pins σ (upd H s.heap.objs.size (pk s.heap.objs.size lo hi st)) { s with heap:=s.heap.push { cls:=.type "range", data:=.fields #[.int lo t,.int hi u,.int st v] },toks:=tk }:=by
 refine I.laid (fun b o e=>Heap.get?_push_of_some _ e) (Nat.le_refl _) ?_
 refine⟨⟨t,u,v,Heap.get?_push_size _ rfl⟩,⟨_,Heap.get?_push_size _ rfl⟩,fun h1 h2 ⟨a,b,c,e⟩ k=>⟨a,b,c,k _ e⟩⟩
theorem AA:bg X (.type "range") (fun vs H Q=>∃j,vs=[.int j]/\∀p,H p=none->Q (.ref p) (upd H p (pk p 0 j 1))):=by
 intro pins s σ H xs us Q I r h
 obtain⟨j,rfl,q⟩:=h
 obtain⟨u,rfl,t,rfl⟩:=vals1 r
 exact call_range_1 ⟨.ref _,_,I.rng,rfl,q _ (I.hok.fresh (Nat.le_refl _))⟩
theorem Ap:bg X (.type "range") (fun vs H Q=>∃i j,vs=[.int i,.int j]/\∀p,H p=none->Q (.ref p) (upd H p (pk p i j 1))):=by
 intro pins s σ H xs us Q I r h
 obtain⟨i,j,rfl,q⟩:=h
 obtain⟨u,w',rfl,⟨t,rfl⟩,⟨t',rfl⟩⟩:=vals2 r
 exact call_range_2 ⟨.ref _,_,I.rng,rfl,q _ (I.hok.fresh (Nat.le_refl _))⟩
structure qB (lo hi st:Int) (n:Nat):Prop where
 sm:Builtin.Range.small lo hi st=true
 sz:Builtin.Range.rangeSize lo hi st=n
 le:n<=2 ^ 20
theorem Inv.F3 {pins:List (Addr × Obj)} {σ:St} {H:Hp} {s:Shared} {p:Addr} {lo hi st:Int} (I:Inv X pins σ H s) (h:H p=some (pk p lo hi st)):∃t u v,IsRange s.heap p lo hi st t u v:=by
 obtain⟨⟨t,u,v,e⟩,_⟩:=I.hok p _ h
 exact⟨t,u,v,e⟩
theorem sk (hc:X.calm=true):bg X (.type "list") (fun vs H Q=>∃p lo hi st n,vs=[.ref p]/\H p=some (pk p lo hi st)/\qB lo hi st n/\∀l,H l=none->Q (.ref l) (upd H l (.lst ((uA lo st n).map V.int)))):=by
 intro pins s σ H xs us Q I r h
 obtain⟨p,lo,hi,st,n,rfl,hp,ok,q⟩:=h
 obtain⟨u,rfl,rx⟩:=vals1 r
 cases rx
 obtain⟨t,u,v,hr⟩:=I.F3 hp
 have hn:=ok.le
 refine call_list_range (I.ok.hd hc) hr ok.sm ok.sz (by omega) fun h' tk acc c kp e hi=>?_
 have hv:=qz hi
 refine⟨.ref s.heap.objs.size,_,I.laid (t':=tk) kp (Nat.le_refl _) (show bM X.prog X.w _ h' _ (.lst _) from⟨?_,acc.toList,c,hv,by simpa using e⟩),rfl,q _ (I.hok.fresh (Nat.le_refl _))⟩
 rw[List.length_map,ow,sizeLine_eq];omega
end
section
variable {prog:Program} {w:World} {A:Around} {E:Value->Shared->Prop} {s:Shared}
theorem wq {Q:List Value->Shared->Prop} {r:Addr} {a b c:Int} {t u v:Tok} {n:Nat} (hh:A.handled=none) (hr:IsRange s.heap r a b c t u v) (ok:qB a b c n)
  (hQ:∀h' tk (acc:Array Value),(∀b o,s.heap.get? b=some o->h'.get? b=some o)->ItemsOf (fun i v=>∃t,v=.int (a+i*c) t) acc n->Q acc.toList { s with heap:=h',toks:=tk }) :
  wpAny (model prog w) A (collect (.ref r)) Q E s:=by
 unfold collect
 refine wpAny_bind (wpAny_runValue (codeAny_builtin F.entry_proto_collect ?_))
 rw[Around.under_plainId F.plain_proto_collect _]
 show wpAny _ A.in1 (newList [] >>= fun l=>again (.builtin "list.__iadd__" ⟨[l,.ref r],[]⟩)) _ _ s
 refine wpAny_bind (wpAny_newObj_type (wpAny_pure ⟨plainId_quiet F.plain_list_iadd _,codeAny_builtin F.entry_list_iadd ?_⟩))
 rw[Around.under_plainId F.plain_list_iadd _]
 show wpAny _ A.in1 (Builtin.List.listExtendWith (.ref s.heap.objs.size) (.ref r) (.ref s.heap.objs.size)) _ _ _
 have hn:=ok.le
 refine wpAny_mono (wpAny_extend_range (A:=A) (R:=fun z y=>z=.ok (.ret (.ref s.heap.objs.size))/\∃h' tk acc c',y={ s with heap:=h',toks:=tk }/\(∀b o,s.heap.get? b=some o->h'.get? b=some o) ∧
   h'.get? s.heap.objs.size=some { cls:=.type "list", dict:=none,data:=.seq acc c',slots:=#[] }/\ItemsOf (fun i v=>∃t,v=.int (a+i*c) t) acc n)
  (s:={ s with heap:=s.heap.push { cls:=.type "list", data:=.seq ([]:List Value).toArray } }) hh (Heap.get?_push_of_some _ hr) ok.sm ok.sz (by omega) _ _ 0 (Heap.get?_push_size _ rfl)
  (fun h' tk acc c' kp e hi=>⟨rfl,h',tk,acc,c',rfl,fun b o q=>kp b o (Nat.ne_of_lt (Heap.lt_size q)) (Heap.get?_push_of_some _ q),e,hi⟩)) (fun fin y h=>?_) (fun e y h=>?_)
 ·have last:∀y,(∃h' tk acc c',y={ s with heap:=h',toks:=tk }/\(∀b o,s.heap.get? b=some o->h'.get? b=some o) ∧
    h'.get? s.heap.objs.size=some { cls:=.type "list", dict:=none,data:=.seq acc c',slots:=#[] }/\ItemsOf (fun i v=>∃t,v=.int (a+i*c) t) acc n)->wpAny (model prog w) A (match Value.ref s.heap.objs.size with
   | Value.ref a=>do
    match (← load a).data with
     | Data.seq xs _=>pure xs.toList
     | _=>unsupported "internal:collect"
   | _=>unsupported "internal:collect") Q E y:=by
   rintro y ⟨h',tk,acc,c',rfl,kp,e,hi⟩
   show wpAny _ A (load s.heap.objs.size >>= _) _ _ _
   refine wpAny_bind (wpAny_load e ?_)
   exact wpAny_pure (hQ h' tk acc kp hi)
  cases fin with
  | done f=>
   obtain⟨e,h⟩:=h
   cases e
   exact last _ h
  | again c'=>exact⟨h.1,codeAny_mono h.2 fun r y hr=>by obtain⟨rfl,h⟩:=hr;exact last _ h⟩
 ·exact absurd h.1 (by simp)
theorem zX {Q:Value->Shared->Prop} {r:Addr} {a b c:Int} {t u v:Tok} {n:Nat} (hh:A.handled=none) (hr:IsRange s.heap r a b c t u v) (ok:qB a b c n)
  (hQ:∀(h':Heap) (tk:Nat) (acc:Array Value),(∀b o,s.heap.get? b=some o->h'.get? b=some o)->ItemsOf (fun i v=>∃t,v=.int (a+i*c) t) acc n->Q (.ref h'.objs.size) { s with heap:=h'.push { cls:=.type "tuple", data:=.seq acc },toks:=tk }) :
  wpAny (model prog w) A (call (.type "tuple") [.ref r]) Q E s:=by
 refine callType_codes (Q₁:=fun obj s₁=>s₁.TypeIs obj "tuple" /\ Q obj s₁) F.called_tuple (F.typeCall_tuple_1 _) F.entry_object_init ?_ fun obj s₁ h₁=>
  ⟨h₁.1,F.args_object_init_2 obj _,object_init_meets F.called_tuple.init.lookup F.called_tuple.made (by decide) prog w A.in1 _ s₁ ⟨h₁.1,rfl,h₁.2⟩⟩
 refine codeAny_of_tree ?_
 show wpAny _ A.in1.in1 (do checkBuiltinCall "tuple.__new__" ⟨[.type "tuple", .ref r],[]⟩;again (.builtin "tuple.__new__" ⟨[.type "tuple", .ref r],[]⟩)) _ _ s
 refine wpAny_bind (wpAny_of_eq (F.newCall_tuple_1 _) (wpAny_pure ⟨plainId_quiet F.plain_tuple_new _,codeAny_builtin F.entry_tuple_new ?_⟩))
 rw[Around.under_plainId F.plain_tuple_new _]
 have hsub:=sub_tuple_self
 have hinit:=init_tuple_lookup
 have hmh:=madeHere_tuple
 have hT:s.TypeIs (.ref r) "range" := ⟨_,hr,rfl⟩
 have hh':A.in1.in1.handled=none:=by simp[hh]
 wp_walk using wpAny_typeOf hT,wq hh' hr ok
 intro h' tk acc kp hi
 show wpAny _ _ (Builtin.Tuple.tupleExact acc.toList.toArray >>= fun v=>ret v) _ _ _
 unfold Builtin.Tuple.tupleExact
 have hn:=ok.le
 refine wpAny_bind (wpAny_newObj_type ?_ (by show acc.toList.toArray.size<=sizeLine;simp only[Array.toArray_toList];rw[hi.1,sizeLine_eq];omega))
 rw[show acc.toList.toArray=acc by simp]
 exact wpAny_pure ⟨⟨_,Heap.get?_push_size _ rfl,rfl⟩,hQ h' tk acc kp hi⟩
end
section
variable {X:Cx}
theorem rA (hc:X.calm=true):bg X (.type "tuple") (fun vs H Q=>∃p lo hi st n,vs=[.ref p]/\H p=some (pk p lo hi st)/\qB lo hi st n/\∀l,H l=none->Q (.ref l) (upd H l (.tup ((uA lo st n).map V.int)))):=by
 intro pins s σ H xs us Q I r h
 obtain⟨p,lo,hi,st,n,rfl,hp,ok,q⟩:=h
 obtain⟨u,rfl,rx⟩:=vals1 r
 cases rx
 obtain⟨t,u,v,hr⟩:=I.F3 hp
 have hn:=ok.le
 refine zX (I.ok.hd hc) hr ok fun h' tk acc kp hi=>?_
 have hv:=qz hi
 have I1:Inv X pins σ H { s with heap:=h',toks:=tk }:=I.kept kp
 refine⟨.ref h'.objs.size,_,I1.laid (t':=tk) (o:=.tup _) (fun b ob q=>Heap.get?_push_of_some _ q) (Nat.le_refl _) ⟨?_,acc.toList,hv,by simpa using oJ.new h' acc⟩,rfl,q _ (I1.hok.fresh (Nat.le_refl _))⟩
 rw[List.length_map,ow,sizeLine_eq];omega
theorem B3 {a b:Int} (h1:-1000000<=a) (h2:a<=1000000) (h3:-1000000<=b) (h4:b<=1000000) (h:b - a<=1000000):qB a b 1 (b - a).toNat:=
 ⟨small_one (by omega) (by omega) (by omega) (by omega),by rw[rangeSize_one];split<;>omega,by omega⟩
inductive RdD (K:PySem.W.Frag) (H:Hp):V->PyData->Prop
 | non:RdD K H .non .none
 | bl (b:Bool):RdD K H (.bl b) (.bool b)
 | int (i:Int):RdD K H (.int i) (.int i)
 | str (x:Str):RdD K H (.str x) (.str x)
 | tup {a:Addr} {xs:List V} {ds:List PyData} (h:SqT K H a xs) (hl:xs.length=ds.length) (hx:∀(i:Nat) x d,xs[i]?=some x->ds[i]?=some d->RdD K H x d):RdD K H (.ref a) (.tuple ds)
 | lst {a:Addr} {xs:List V} {ds:List PyData} (h:SqL K H a xs) (hl:xs.length=ds.length) (hx:∀(i:Nat) x d,xs[i]?=some x->ds[i]?=some d->RdD K H x d):RdD K H (.ref a) (.list ds)
theorem jE {h:Heap}:∀{us:List Value} {ds:List PyData},us.length=ds.length->(∀(i:Nat) u d,us[i]?=some u->ds[i]?=some d->∃as,Reads h u d as)->∃as,ReadsAll h us ds as
 | [],[],_,_=>⟨_,.nil⟩
 | [],_::_,hl,_=>by simp at hl
 | _::_,[],hl,_=>by simp at hl
 | u::us,d::ds,hl,hx=>by
  obtain⟨as,h1⟩:=hx 0 u d rfl rfl
  obtain⟨bs,h2⟩:=jE (us:=us) (ds:=ds) (by simpa using hl) fun i u d e1 e2=>hx (i+1) u d (by simpa using e1) (by simpa using e2)
  exact⟨_,.cons h1 h2⟩
theorem Vals.get' {xs:List V} {us:List Value} {i:Nat} {u:Value} (r:Vals xs us) (h:us[i]?=some u):∃x,xs[i]?=some x/\RelV x u:=by
 have hl:=r.length
 have hi:i<xs.length:=by rw[hl];exact(List.getElem?_eq_some_iff.mp h).1
 obtain⟨u',e1,e2⟩:=r.get (List.getElem?_eq_getElem hi)
 rw[h] at e1;cases e1
 exact⟨_,List.getElem?_eq_getElem hi,e2⟩
theorem Inv.reads {pins:List (Addr × Obj)} {σ:St} {H:Hp} {s:Shared} (I:Inv X pins σ H s) {x:V} {d:PyData} (r:RdD X.K H x d):∀u,RelV x u->∃as,Reads s.heap u d as:=by
 induction r with
 | non=>intro u ru;cases (show u=Value.none from ru);exact⟨_,.none⟩
 | bl b=>intro u ru;cases (show u=Value.bool b from ru);exact⟨_,.bool b⟩
 | int i=>intro u ru;obtain⟨t,q⟩:=(show ∃t,u=Value.int i t from ru);cases q;exact⟨_,.int i t⟩
 | str y=>intro u ru;obtain⟨t,q⟩:=(show ∃t,u=Value.str y t from ru);cases q;exact⟨_,.str y t⟩
 | @tup a xs ds h hl hx ih=>
  intro u ru
  cases (show u=Value.ref a from ru)
  obtain⟨its,rv,p,hz⟩:=I.tuple h
  obtain⟨o,ho,hc,n,hd⟩:=p
  obtain⟨as,ra⟩:=jE (h:=s.heap) (us:=its) (ds:=ds) (by rw[<- rv.length,hl]) fun i u d e1 e2=>by
   obtain⟨y,e3,ry⟩:=rv.get' e1
   exact ih i y d e3 e2 u ry
  exact⟨_,.tuple ho hc hd (by simpa using ra)⟩
 | @lst a xs ds h hl hx ih=>
  intro u ru
  cases (show u=Value.ref a from ru)
  obtain⟨its,rv,p,hz⟩:=I.list h
  obtain⟨o,ho,hc,n,hd⟩:=p.isList
  obtain⟨as,ra⟩:=jE (h:=s.heap) (us:=its) (ds:=ds) (by rw[<- rv.length,hl]) fun i u d e1 e2=>by
   obtain⟨y,e3,ry⟩:=rv.get' e1
   exact ih i y d e3 e2 u ry
  exact⟨_,.list ho hc hd (by simpa using ra)⟩
theorem zW (hg:X.A.guards=some []) (hu:X.A.units+64<cLine):bg X (.builtin "repr") (fun vs H Q=>∃p d,vs=[.ref p]/\RdD X.K H (.ref p) d/\d.showable=true/\d.hasDict=false/\d.depth<=60/\d.shown.length<=sizeLine/\Q (.str d.shown) H):=by
 intro pins s σ H xs us Q I r h
 obtain⟨p,d,rfl,rd,hs,hd,hdp,hz,q⟩:=h
 obtain⟨u,rfl,rx⟩:=vals1 r
 cases rx
 obtain⟨as,ra⟩:=I.reads rd (.ref p) rfl
 exact repr_of_reads' ra hs (PyData.noDict_hsm hd) hg (by omega) (fun _ _ e=>e) (fun h' u tk kp=>⟨.str d.shown,H,I.kept kp,⟨_,rfl⟩,q⟩) hz
theorem yu:bg X (.builtin "repr") (fun vs H Q=>∃i,vs=[.int i]/\i.natAbs.log2<1920/\Q (.str (toString i)) H):=by
 intro pins s σ H xs us Q I r h
 obtain⟨i,rfl,hi,q⟩:=h
 obtain⟨u,rfl,t,rfl⟩:=vals1 r
 exact PySem.P.repr_of_int hi ⟨.str (toString i),H,I.tok _,⟨_,rfl⟩,q⟩
end
theorem AL {ns:List Int} (h:ns.Nodup):(unl ns).length=ns.length:=by
 have key:∀(l acc:List Int),(acc++l).Nodup->l.foldl step_dedup acc=acc++l:=by
  intro l
  induction l with
  | nil=>intro acc _;simp
  | cons a r ih=>
   intro acc hn
   have h1:a∉acc:=by
    have:=List.nodup_append.mp hn
    exact fun hm=>this.2.2 a hm a (by simp) rfl
   have e:step_dedup acc a=acc++[a]:=by
    unfold step_dedup
    have:acc.any (· == a)=false:=by
     rw[Bool.eq_false_iff]
     intro z
     obtain⟨x,hx,e⟩:=List.any_eq_true.mp z
     have:x=a:=by simpa using e
     exact h1 (this ▸ hx)
    simp[this]
   rw[List.foldl_cons,e,ih (acc++[a]) (by rw[List.append_assoc];exact hn),List.append_assoc]
   rfl
 have e:(List.range ns.length).map (fun i=>ns.getD i 0)=ns:=by
  apply List.ext_getElem
  ·simp
  ·intro i h1 h2
   simp[List.getD_eq_getElem?_getD,List.getElem?_eq_getElem h2]
 unfold unl firstMet
 rw[e,key ns [] (by simpa using h)]
 rfl
theorem Inv.L5 {X:Cx} {pins:List (Addr × Obj)} {σ:St} {H:Hp} {s:Shared} {C:Addr} {o:Obj} {h':Heap} (I:Inv X (pins++[(C,o)]) σ H s) (cC:∀x c,X.env.cells.lookup x=some c->c≠C) (hC:X.bh.heap.objs.size<=C) (pC:∀p∈X.pn++pins,p.1≠C) (hs:Heap.SameBut C s.heap h'):Inv X pins σ H { s with heap:=h' }:=by
 have kb:∀b u,b≠C->s.heap.get? b=some u->h'.get? b=some u:=fun b u hb z=>hs.extBut b u hb z
 obtain⟨q0,q1,q2,q3,q4⟩:=I.pin (C,o) (List.mem_append_right _ (List.mem_append_right _ (List.mem_singleton.mpr rfl)))
 have J:Inv X pins σ H s:=I.pP fun p hp=>I.pin p (List.mem_append_right _ (List.mem_append_left _ hp))
 refine J.xA (s':={ s with heap:=h' }) (ch:=[C]) rfl ⟨fun b u z n a c=>kb b u (fun e=>c (by rw[e];exact List.mem_singleton.mpr rfl)) z,fun b u z n a c=>⟨u.slots,kb b _ (fun e=>c (by rw[e];exact List.mem_singleton.mpr rfl)) z⟩,fun b u z n c=>n,fun b u z c=>⟨u,kb b u (fun e=>c (by rw[e];exact List.mem_singleton.mpr rfl)) z⟩,fun b xs z=>z,fun b ob u z=>z,fun b ps z=>⟨#[],by simpa using z⟩⟩ (J.hok.sameBut q1 kb) J.bare fun b hb=>?_
 have e:=List.mem_singleton.mp hb
 subst e
 exact⟨.inr hC,q2,fun x c z=>cC x c z,pC⟩
section
variable {prog:Program} {w:World} {A:Around} {E:Value->Shared->Prop} {s:Shared}
theorem ya {it t:Addr} {i:Nat} {its:Array Value} {x:Value} {Q:Value->Shared->Prop} (hi:s.heap.IsTupleIter it t i) (ht:s.heap.IsTuple t its) (hx:its[i]?=some x) (hQ:∀h',h'.IsTupleIter it t (i+1)->Heap.SameBut it s.heap h'->Q x { s with heap:=h' }) :
  wpAny (model prog w) A (Builtin.SmallTypes.nextOf (.ref it)) Q E s:=by
 obtain⟨oi,h1,h2,h3⟩:=id hi
 obtain⟨ot,k1,_,nt,k2⟩:=ht
 unfold Builtin.SmallTypes.nextOf
 refine wpAny_bind (wpAny_callSpecial?_slot (name:=Str.ofString "__next__") hi.typeIs F.slot_tuple_iterator_next (wpAny_call_entry F.slot_tuple_iterator_next hi.typeIs F.entry_tuple_iterator_next ?_ (F.args_tuple_iterator_next_1 _)))
 refine wpAny_bind (m:=field (.ref it) 0) (wpAny_field h1 h3 (x:=.ref t) rfl ?_)
 show wpAny _ _ (if (Value.ref t == Value.none)=true then _ else field (.ref it) 1 >>= _) _ _ s
 rw[if_neg (show ¬ ((Value.ref t == Value.none)=true) from Bool.false_ne_true)]
 refine wpAny_bind (wpAny_field h1 h3 (x:=.int i 0) rfl (wpAny_bind (m:=seqItems? (.ref t)) (wpAny_seqItems k1 k2 ?_)))
 simp only[Int.toNat_natCast,hx]
 exact wpAny_bind (wpAny_setField h1 h3 (by simp) (wpAny_pure ⟨x,rfl,wpAny_pure (hQ _ ⟨_,Heap.get?_update_self _ h1 (Obj.isFreed_of_fields (Obj.data_mapFields h3 _)),(Obj.cls_mapFields ..).trans h2,by rw[Obj.data_mapFields h3];simp[rawInt]⟩ (Heap.SameBut.update ..))⟩))
theorem tS {it t:Addr} {i:Nat} {its:Array Value} {Q:Value->Shared->Prop} (hh:A.handled=none) (hi:s.heap.IsTupleIter it t i) (ht:s.heap.IsTuple t its) (hx:its[i]?=none)
  (hE:∀h' e,Heap.ExtBut it s.heap h'->(∃o,h'.get? e=some o/\o.cls=.type "StopIteration")->E (.ref e) { s with heap:=h' }):wpAny (model prog w) A (Builtin.SmallTypes.nextOf (.ref it)) Q E s:=by
 obtain⟨oi,h1,h2,h3⟩:=id hi
 obtain⟨ot,k1,_,nt,k2⟩:=ht
 unfold Builtin.SmallTypes.nextOf
 refine wpAny_bind (wpAny_callSpecial?_slot (name:=Str.ofString "__next__") hi.typeIs F.slot_tuple_iterator_next (wpAny_call_entry F.slot_tuple_iterator_next hi.typeIs F.entry_tuple_iterator_next ?_ (F.args_tuple_iterator_next_1 _)))
 refine wpAny_bind (m:=field (.ref it) 0) (wpAny_field h1 h3 (x:=.ref t) rfl ?_)
 show wpAny _ _ (if (Value.ref t == Value.none)=true then _ else field (.ref it) 1 >>= _) _ _ s
 rw[if_neg (show ¬ ((Value.ref t == Value.none)=true) from Bool.false_ne_true)]
 refine wpAny_bind (wpAny_field h1 h3 (x:=.int i 0) rfl (wpAny_bind (m:=seqItems? (.ref t)) (wpAny_seqItems k1 k2 ?_)))
 simp only[Int.toNat_natCast,hx]
 refine wpAny_bind (wpAny_rule (wpAny_bind (wpAny_setField h1 h3 (by simp) (wpAny_bind (m:=newExc (.type "StopIteration") []) ?_))))
 simp only[newExc,newTuple]
 refine wpAny_bind (wpAny_newObj_type (wpAny_bind (m:=firstArgMember _ _) (wpAny_of_eq (a:=Value.none) (by first | rfl | (simp only[firstArgMember];rfl)) (wpAny_newObj_type ?_ (by size_fits)))) (by size_fits))
 simp only[raiseNew]
 refine wpAny_bind (wpAny_handled ?_)
 first | rw[show A.in1.handled=none from hh] | rw[hh]
 exact wpAny_bind (wpAny_pure (wpAny_throw (hE _ _ (((Heap.SameBut.update ..).extBut.push _).push _) ⟨_,Heap.get?_push_size _ rfl,rfl⟩)))
end
theorem Draws.tup {prog:Program} {w:World} {A:Around} (hh:A.handled=none) (it t:Addr) (hne:t≠it) (its:Array Value):Draws prog w A it [it,t] its.size (fun i v=>its[i]?=some v) (fun i h=>h.IsTupleIter it t i/\h.IsTuple t its) where
 live:=fun _ _ z=>let ⟨o,ho,_⟩:=z.1;⟨o,ho⟩
 frame:=fun _ _ _ z hk=>⟨z.1.at fun o e=>hk it (by simp) o e,z.2.at fun o e=>hk t (by simp) o e⟩
 item:=fun i s Q E hi z hQ=>ya z.1 z.2 (x:=its[i]) (by simp[hi]) fun h' a b=>hQ _ h' s.toks (by simp[hi]) ⟨a,z.2.extBut b.extBut hne⟩ b
 done:=fun s Q E z hE=>tS hh z.1 z.2 (by simp) hE
section
open AutoSeq1 (wpAny_loadPart')
theorem x8 (t:Addr) (its:Array Value) (n:Nat) (dct:Option Addr) (sl:Array (Option Value)) :
  Meets (Builtin.«enumerate.__new__» ⟨[.type "enumerate", .ref t],[]⟩) (fun _ R s=>s.heap.get? t=some { cls:=.type "tuple", dict:=dct,data:=.seq its n,slots:=sl } ∧
   R (.ok (.ret (.ref (s.heap.push { cls:=.type "tuple_iterator", data:=.fields #[.ref t,.int 0 0] }).objs.size))) { s with heap:=(s.heap.push { cls:=.type "tuple_iterator", data:=.fields #[.ref t,.int 0 0] }).push { cls:=.type "enumerate", data:=.fields #[.none,.bool false,.ref s.heap.objs.size,rawInt 0,.none,.none] } }):=
 .of_wp fun prog w A R s z=>by
  obtain⟨hp,gs,dr,tk,os⟩:=s;obtain⟨ht,z⟩:=z
  have su:=sub_enumerate
  have hT:Heap.IsTuple (Shared.heap ⟨hp,gs,dr,tk,os⟩) t its:=⟨_,ht,rfl,n,rfl⟩
  wp_walk using wpAny_loadPart' ht
  refine wpAny_stack_any fun st=>wpAny_pure ?_
  split
  ·rename_i c _ _ _ _ _
   cases (c == Value.type "enumerate")<;>(wp_walk using wpAny_loadPart' ht,wpAny_pyIter_tuple hT;exact⟨_,rfl,z⟩)
  ·(wp_walk using wpAny_loadPart' ht,wpAny_pyIter_tuple hT);exact⟨_,rfl,z⟩
end
section
variable {prog:Program} {w:World} {A:Around} {E:Value->Shared->Prop} {s:Shared}
theorem Jp {t:Addr} {its:Array Value} {Q:Value->Shared->Prop} (hT:s.heap.IsTuple t its)
  (q:∀h',IsEnum h' (s.heap.objs.size+1) s.heap.objs.size 0 .none->h'.IsTupleIter s.heap.objs.size t 0->h'.objs.size=s.heap.objs.size+2->(∀b o,s.heap.get? b=some o->h'.get? b=some o)->Q (.ref (s.heap.objs.size+1)) { s with heap:=h' }) :
  wpAny (model prog w) A (call (.type "enumerate") [.ref t]) Q E s:=by
 obtain⟨⟨c,dct,dt,sl⟩,ht,hc,n,hd⟩:=hT
 replace hc:c=.type "tuple" := hc
 replace hd:dt=.seq its n:=hd
 subst hc hd
 refine callType_new F.called_enumerate (by decide) (F.typeCall_enumerate_1 _) (F.newCall_enumerate_1 _) (fun obj=>F.args_object_init_2 obj _) F.entry_enumerate_new (x8 t its n dct sl) ⟨ht,?_⟩
 have hz:(s.heap.push { cls:=.type "tuple_iterator", data:=.fields #[.ref t,.int 0 0] }).objs.size=s.heap.objs.size+1:=Heap.size_push ..
 show _/\_
 rw[hz]
 have he:IsEnum ((s.heap.push { cls:=.type "tuple_iterator", data:=.fields #[.ref t,.int 0 0] }).push { cls:=.type "enumerate", data:=.fields #[.none,.bool false,.ref s.heap.objs.size,rawInt 0,.none,.none] }) (s.heap.objs.size+1) s.heap.objs.size 0 .none:=by
  have y:=Heap.get?_push_size (s.heap.push { cls:=.type "tuple_iterator", data:=.fields #[.ref t,.int 0 0] }) (o:={ cls:=.type "enumerate", data:=.fields #[.none,.bool false,.ref s.heap.objs.size,rawInt 0,.none,.none] }) rfl
  rw[hz] at y;exact y
 exact⟨⟨_,he,rfl⟩,q _ he ⟨_,Heap.get?_push_of_some _ (Heap.get?_push_size _ rfl),rfl,rfl⟩ (by rw[Heap.size_push,hz]) fun b o x=>Heap.get?_push_of_some _ (Heap.get?_push_of_some _ x)⟩
end
theorem Inv.yielded {X:Cx} {pins:List (Addr × Obj)} {σ:St} {H:Hp} {s:Shared} {fp:List Addr} {T:Addr} {o:HO} {h':Heap} {t':Nat} (I:Inv X pins σ H s) (hf:∀b∈fp,sx X pins H b) (k:∀b u,b∉fp->s.heap.get? b=some u->h'.get? b=some u)
  (hT:s.heap.objs.size<=T) (new:bM X.prog X.w (upd H T o) h' T o):Inv X pins σ (upd H T o) { s with heap:=h',toks:=t' }:=by
 have nT:∀b u,s.heap.get? b=some u->b≠T:=fun b u e z=>absurd (Heap.lt_size e) (by rw[z];exact Nat.not_lt.mpr hT)
 have nH:∀b u,H b=some u->b≠T:=fun b u e z=>absurd (I.hok.lt e) (by rw[z];exact Nat.not_lt.mpr hT)
 have nf:∀b u,H b=some u->b∉fp:=fun b u e z=>by rw[(hf b z).1] at e;cases e
 refine I.xA (s':={ s with heap:=h',toks:=t' }) (ch:=fp) rfl ⟨fun b u e n _ c=>k b u c e,fun b u e n _ c=>⟨u.slots,k b u c e⟩,fun b u e n c=>by rw[aC (nT b u e)];exact n,fun b u e c=>⟨u,k b u c e⟩,fun b xs e=>by rw[aC (nH b _ e)];exact e,fun b ob u e=>by rw[aC (nH b _ e)];exact e,fun b ps e=>⟨#[],by rw[aC (nH b _ e),e];simp⟩⟩ (fun b u e=>?_) I.bare (fun b hb=>?_)
 ·by_cases hb:b=T
  ·subst hb
   rw[aP] at e
   cases e
   exact new
  ·rw[aC hb] at e
   refine(I.hok b u e).ke (fun c v hc q=>k c v ?_ q) (fun c q=>by rw[aC (nH c _ q)];exact q) fun c xs q=>by rw[aC (nH c _ q)];exact q
   rcases hc with z | z
   ·rw[z];exact nf b u e
   ·exact nf c _ z
 ·obtain⟨_,g1,_,g3,g4,g5⟩:=hf b hb
  exact⟨g3,g1,g4,g5⟩
theorem Inv.yS {X:Cx} {pins:List (Addr × Obj)} {σ:St} {H:Hp} {s:Shared} {fp:List Addr} {h':Heap} {t':Nat} (I:Inv X pins σ H s) (hf:∀b∈fp,sx X pins H b) (k:∀b u,b∉fp->s.heap.get? b=some u->h'.get? b=some u):Inv X pins σ H { s with heap:=h',toks:=t' }:=by
 have nf:∀b u,H b=some u->b∉fp:=fun b u e z=>by rw[(hf b z).1] at e;cases e
 refine I.xA (s':={ s with heap:=h',toks:=t' }) (ch:=fp) rfl ⟨fun b u e n _ c=>k b u c e,fun b u e n _ c=>⟨u.slots,k b u c e⟩,fun b u e n c=>n,fun b u e c=>⟨u,k b u c e⟩,fun b xs e=>e,fun b ob u e=>e,fun b ps e=>⟨#[],by rw[e];simp⟩⟩ (fun b u e=>?_) I.bare (fun b hb=>?_)
 ·refine(I.hok b u e).ke (fun c v hc q=>k c v ?_ q) (fun c q=>q) fun c xs q=>q
  rcases hc with z | z
  ·rw[z];exact nf b u e
  ·exact nf c _ z
 ·obtain⟨_,g1,_,g3,g4,g5⟩:=hf b hb
  exact⟨g3,g1,g4,g5⟩
noncomputable def Iel (K:PySem.W.Frag) (a:Addr):It:=
 ⟨fun i H=>∃xs x,SqL K H a xs/\xs[i]?=some x,fun i H x H'=>∃p v,x=.ref p/\H p=none/\(∀xs,SqL K H a xs->xs[i]?=some v)/\H'=upd H p (.tup [.int i,v]),fun i H=>∃xs,SqL K H a xs/\xs.length<=i⟩
noncomputable def Iet (K:PySem.W.Frag) (a:Addr):It:=
 ⟨fun i H=>∃xs x,SqT K H a xs/\xs[i]?=some x,fun i H x H'=>∃p v,x=.ref p/\H p=none/\(∀xs,SqT K H a xs->xs[i]?=some v)/\H'=upd H p (.tup [.int i,v]),fun i H=>∃xs,SqT K H a xs/\xs.length<=i⟩
theorem wD {h:Heap} {e it:Addr} {i:Int} {old:Value} (z:IsEnum h e it i old):∃o,h.get? e=some o/\∀v,o.data≠.cell v:=⟨_,z,fun v q=>nomatch q⟩
theorem qE {prog:Program} {w:World} {A:Around} {it:Addr} {fp:List Addr} {n:Nat} {P:Nat->Value->Prop} {St:Nat->Heap->Prop} (D:Draws prog w A.in1 it fp n P St) (e:Addr) (hei:e≠it) (hef:e∉fp) (i:Nat) (s:Shared) (Q:Option Value->Shared->Prop) (E:Value->Shared->Prop) (hi:i<n)
  (hst:(∃old,IsEnum s.heap e it i old)/\St i s.heap)
  (hQ:∀T vals h' tk,(∃t x,P i x/\vals = #[.int i t,x])->s.heap.objs.size<=T->oJ h' T vals->((∃x,IsEnumOut h' e it ((i:Int)+1) x T)/\St (i+1) h'/\T≠e/\T≠it)->(∀b o,b∉[e,it]->s.heap.get? b=some o->h'.get? b=some o)->Q (some (.ref T)) { s with heap:=h',toks:=tk }) :
  wpAny (model prog w) A (pyNext (.ref e)) Q E s:=by
 obtain⟨⟨old,he⟩,hs⟩:=hst
 refine wpAny_pyNext_enum_itemD D he hs hi hei hef fun x h1 tk hP ho hs1 hT _ hk=>?_
 refine hQ s.heap.objs.size #[.int i tk,x] h1 (tk+1) ⟨tk,x,hP,rfl⟩ (Nat.le_refl _) ⟨_,hT,⟨rfl,_,rfl⟩,rfl⟩ ⟨⟨_,ho⟩,hs1,Nat.ne_of_gt (Heap.lt_size he),?_⟩ fun b o hb y=>hk b o (fun z=>hb (by simp[z])) (fun z=>hb (by simp[z])) y
 obtain⟨_,y⟩:=D.live _ _ hs
 exact Nat.ne_of_gt (Heap.lt_size y)
theorem xG {P:Program} {w:World} {K:PySem.W.Frag} {elts:List Expr} {k:Nat} {pos:Pos} {a it e:Addr} (hei:e≠it):Turn P w K (.Tuple elts k pos) (Iel K a) [e,it] e (fun i h=>(∃old,IsEnum h e it i old)/\h.IsListIter it a i) where
 mem:=by simp
 obj:=fun i h z b hb=>by
  obtain⟨⟨old,z1⟩,z2⟩:=z
  rcases List.mem_cons.mp hb with rfl | hb
  ·exact wD z1
  ·rw[List.mem_singleton.mp hb]
   obtain⟨o,q,_,d⟩:=z2
   exact⟨o,q,fun v y=>by rw[d] at y;cases y⟩
 keep:=fun i h h' z kk=>⟨let ⟨old,z1⟩:=z.1;⟨old,kk e (by simp) _ z1⟩,z.2.at fun o q=>kk it (by simp) o q⟩
 item:=by
  intro X hP hw hK hc i pins s σ H E I hf st hg
  subst hP hw hK
  obtain⟨xs,x,hq,hx⟩:=hg
  obtain⟨its,rv,p,hz⟩:=I.list hq
  obtain⟨u,hu,ru⟩:=rv.get hx
  have hl:=rv.length
  have plt:a<s.heap.objs.size:=by obtain⟨o,q,_⟩:=p.isList;exact Heap.lt_size q
  have hai:a≠it/\a≠e:=by
   obtain⟨oa,qa,ca,_⟩:=p.isList
   obtain⟨⟨old,z1⟩,oi,qi,ci,_⟩:=st
   exact⟨(fun q=>by rw[q,qi] at qa;cases qa;rw[ci] at ca;injection ca with y;exact absurd y (by decide)),(fun q=>by rw[q,z1] at qa;cases qa;injection ca with y;exact absurd y (by decide))⟩
  have DD:=(Draws.list (prog:=X.prog) (w:=X.w) (A:=X.A.in1) (I.ok.hd hc) it a hai.1 its.toArray)
  have hef0:e∉[it,a]:=by simp;exact⟨hei,fun q=>hai.2 q.symm⟩
  have W:=WalksT.enumerateD (prog:=X.prog) (w:=X.w) (A:=X.A) DD e hei hef0 (by simp)
  refine qE DD e hei hef0 i s _ _ (by rw[List.size_toArray,<- hl];exact(List.getElem?_eq_some_iff.mp hx).1) ⟨st.1,st.2,p.isList⟩ fun T vals h1 tk hv hT ht hm k1=>?_
  obtain⟨t,v,hv1,hv2⟩:=hv
  have ev:v=u:=by
   have:its[i]?=some v:=by simpa using hv1
   rw[hu] at this;exact(Option.some.inj this).symm
  subst ev
  refine⟨.ref T,rfl,W.go elts k pos i T { s with heap:=h1,toks:=tk } _ _ hm fun h2 st2 k2=>?_⟩
  have kk:∀b o,b∉[e,it]->s.heap.get? b=some o->h2.get? b=some o:=fun b o hb q=>k2 b o hb (k1 b o hb q)
  have hT2:oJ h2 T vals:=by
   obtain⟨o,q,c⟩:=ht
   exact⟨o,k2 T o (fun z=>W.apart _ _ _ hm z) q,c⟩
  have hn:H T=none:=I.hok.fresh hT
  have nTf:∀b∈[e,it],b≠T:=fun b hb z=>by
   have hlt:b<s.heap.objs.size:=by
    rcases List.mem_cons.mp hb with rfl | hb
    ·obtain⟨old,z1⟩:=st.1;exact Heap.lt_size z1
    ·rw[List.mem_singleton.mp hb];obtain⟨o,q,_⟩:=st.2;exact Heap.lt_size q
   rw[z] at hlt;exact absurd hlt (Nat.not_lt.mpr hT)
  refine⟨.ref T,upd H T (.tup [.int i,x]),I.yielded (t':=tk) hf kk hT ⟨by show 2<=sizeLine;decide,[.int i t,v],.cons ⟨t,rfl⟩ (.cons ru .nil),?_⟩,rfl,⟨T,x,rfl,hn,fun ys hy=>by rw[I.qb hy hq];exact hx,rfl⟩,⟨st2.1,st2.2.1⟩,fun b hb=>by rw[aC (nTf b hb)];exact(hf b hb).1⟩
  rw[hv2] at hT2;exact hT2
 done:=by
  intro X hP hw hK hc i pins s σ H E I hf st hg
  subst hP hw hK
  obtain⟨xs,hq,hx⟩:=hg
  obtain⟨its,rv,p,hz⟩:=I.list hq
  obtain⟨⟨old,z1⟩,z2⟩:=st
  have hl:=rv.length
  exact wpAny_pyNext_enum_end (I.ok.hd hc) z1 z2 p.isList (Array.getElem?_eq_none (by rw[List.size_toArray];omega)) fun h' eb=>⟨rfl,I.yS (t':=s.toks) hf fun b u hb q=>eb b u (fun z=>hb (by simp[z])) q⟩
 self:=fun A i s Q E z q=>by
  obtain⟨⟨old,z1⟩,z2⟩:=z
  exact wpAny_pyIter_enum z1 q
theorem yo {P:Program} {w:World} {K:PySem.W.Frag} {elts:List Expr} {k:Nat} {pos:Pos} {a it e:Addr} (hei:e≠it):Turn P w K (.Tuple elts k pos) (Iet K a) [e,it] e (fun i h=>(∃old,IsEnum h e it i old)/\h.IsTupleIter it a i) where
 mem:=by simp
 obj:=fun i h z b hb=>by
  obtain⟨⟨old,z1⟩,z2⟩:=z
  rcases List.mem_cons.mp hb with rfl | hb
  ·exact wD z1
  ·rw[List.mem_singleton.mp hb]
   obtain⟨o,q,_,d⟩:=z2
   exact⟨o,q,fun v y=>by rw[d] at y;cases y⟩
 keep:=fun i h h' z kk=>⟨let ⟨old,z1⟩:=z.1;⟨old,kk e (by simp) _ z1⟩,z.2.at fun o q=>kk it (by simp) o q⟩
 item:=by
  intro X hP hw hK hc i pins s σ H E I hf st hg
  subst hP hw hK
  obtain⟨xs,x,hq,hx⟩:=hg
  obtain⟨its,rv,p,hz⟩:=I.tuple hq
  obtain⟨u,hu,ru⟩:=rv.get hx
  have hl:=rv.length
  have plt:a<s.heap.objs.size:=by obtain⟨o,q,_⟩:=(show s.heap.IsTuple a its.toArray from p);exact Heap.lt_size q
  have hai:a≠it/\a≠e:=by
   obtain⟨oa,qa,ca,_⟩:=(show s.heap.IsTuple a its.toArray from p)
   obtain⟨⟨old,z1⟩,oi,qi,ci,_⟩:=st
   exact⟨(fun q=>by rw[q,qi] at qa;cases qa;rw[ci] at ca;injection ca with y;exact absurd y (by decide)),(fun q=>by rw[q,z1] at qa;cases qa;injection ca with y;exact absurd y (by decide))⟩
  have DD:=(Draws.tup (prog:=X.prog) (w:=X.w) (A:=X.A.in1) (I.ok.hd hc) it a hai.1 its.toArray)
  have hef0:e∉[it,a]:=by simp;exact⟨hei,fun q=>hai.2 q.symm⟩
  have W:=WalksT.enumerateD (prog:=X.prog) (w:=X.w) (A:=X.A) DD e hei hef0 (by simp)
  refine qE DD e hei hef0 i s _ _ (by rw[List.size_toArray,<- hl];exact(List.getElem?_eq_some_iff.mp hx).1) ⟨st.1,st.2,(show s.heap.IsTuple a its.toArray from p)⟩ fun T vals h1 tk hv hT ht hm k1=>?_
  obtain⟨t,v,hv1,hv2⟩:=hv
  have ev:v=u:=by
   have:its[i]?=some v:=by simpa using hv1
   rw[hu] at this;exact(Option.some.inj this).symm
  subst ev
  refine⟨.ref T,rfl,W.go elts k pos i T { s with heap:=h1,toks:=tk } _ _ hm fun h2 st2 k2=>?_⟩
  have kk:∀b o,b∉[e,it]->s.heap.get? b=some o->h2.get? b=some o:=fun b o hb q=>k2 b o hb (k1 b o hb q)
  have hT2:oJ h2 T vals:=by
   obtain⟨o,q,c⟩:=ht
   exact⟨o,k2 T o (fun z=>W.apart _ _ _ hm z) q,c⟩
  have hn:H T=none:=I.hok.fresh hT
  have nTf:∀b∈[e,it],b≠T:=fun b hb z=>by
   have hlt:b<s.heap.objs.size:=by
    rcases List.mem_cons.mp hb with rfl | hb
    ·obtain⟨old,z1⟩:=st.1;exact Heap.lt_size z1
    ·rw[List.mem_singleton.mp hb];obtain⟨o,q,_⟩:=st.2;exact Heap.lt_size q
   rw[z] at hlt;exact absurd hlt (Nat.not_lt.mpr hT)
  refine⟨.ref T,upd H T (.tup [.int i,x]),I.yielded (t':=tk) hf kk hT ⟨by show 2<=sizeLine;decide,[.int i t,v],.cons ⟨t,rfl⟩ (.cons ru .nil),?_⟩,rfl,⟨T,x,rfl,hn,fun ys hy=>by rw[I.nD hy hq];exact hx,rfl⟩,⟨st2.1,st2.2.1⟩,fun b hb=>by rw[aC (nTf b hb)];exact(hf b hb).1⟩
  rw[hv2] at hT2;exact hT2
 done:=by
  intro X hP hw hK hc i pins s σ H E I hf st hg
  subst hP hw hK
  obtain⟨xs,hq,hx⟩:=hg
  obtain⟨its,rv,p,hz⟩:=I.tuple hq
  obtain⟨⟨old,z1⟩,z2⟩:=st
  have hl:=rv.length
  have pt:s.heap.IsTuple a its.toArray:=p
  have DD:Draws X.prog X.w X.A.in1 it [it,a] i (fun _ _=>True) (fun j h=>j=i/\h.IsTupleIter it a j/\h.IsTuple a its.toArray):={
   live:=fun _ _ z=>let ⟨o,ho,_⟩:=z.2.1;⟨o,ho⟩
   frame:=fun _ _ _ z hk=>⟨z.1,z.2.1.at fun o e=>hk it (by simp) o e,z.2.2.at fun o e=>hk a (by simp) o e⟩
   item:=fun j s Q E hj z hQ=>absurd z.1 (Nat.ne_of_lt hj)
   done:=fun s Q E z hE=>tS (I.ok.hd hc) z.2.1 z.2.2 (Array.getElem?_eq_none (by rw[List.size_toArray];omega)) hE }
  exact wpAny_pyNext_enum_endD DD z1 ⟨rfl,z2,pt⟩ fun h' eb=>⟨rfl,I.yS (t':=s.toks) hf fun b u hb q=>eb b u (fun z=>hb (by simp[z])) q⟩
 self:=fun A i s Q E z q=>by
  obtain⟨⟨old,z1⟩,z2⟩:=z
  exact wpAny_pyIter_enum z1 q
noncomputable def Ka (K:PySem.W.Frag) (tl:TE):TI:=fun σ H R=>tl σ H fun x H1=>∃a,x=.ref a/\(((∃xs,SqL K H1 a xs)/\R (Iel K a) H1)\/((∃xs,SqT K H1 a xs)/\R (Iet K a) H1))
theorem Ep {X:Cx} {elts:List Expr} {kt:Nat} {tp p pos:Pos} {l:Expr} {tl:TE} (hg:Gl X "enumerate") (hm:X.mg "enumerate" = none) (hl:PE X l tl) (hs:starEach [l] X.env=[(false,eval l X.env)]:=by rfl) :
  PI X (.Tuple elts kt tp) (.Call (.Name "enumerate" p) [l] [] pos) (Ka X.K tl):=by
 intro pins s σ H R I h
 have h':F5 tl Jz σ H (fun vs H1=>match vs with
  | [x]=>∃a,x=.ref a/\(((∃xs,SqL X.K H1 a xs)/\R (Iel X.K a) H1)\/((∃xs,SqT X.K H1 a xs)/\R (Iet X.K a) H1))
  | _=>False):=h
 refine Call_ (nY I hg hm PyProof.Rows.boot_enumerate (PyProof.Rows.callWith_type1 (thn (fq hl jI hs pos pins s σ H _ I h') fun us s1 ⟨vs,H1,I1,r1,q1⟩=>?_) hs rfl))
 cases r1 with
 | nil=>exact q1.elim
 | cons r rr=>
  cases rr with
  | cons _ _=>exact q1.elim
  | nil=>
   obtain⟨a,rfl,q⟩:=q1
   cases r
   have fp:∀{h':Heap},∀b∈[s1.heap.objs.size+1,s1.heap.objs.size],sx X pins H1 b:=fun{h'} b hb=>by
    have hb':s1.heap.objs.size<=b:=by
     rcases List.mem_cons.mp hb with z | hb
     ·omega
     ·have:=List.mem_singleton.mp hb;omega
    exact I1.Et hb' (I1.hok.fresh hb')
   rcases q with⟨⟨xs,hq⟩,q⟩ | ⟨⟨xs,hq⟩,q⟩
   ·obtain⟨its,rv,pl,hz⟩:=I1.list hq
    refine call_enumerate_list pl.isList fun h2 z1 z2 hsz kp=>wpAny_pyIter_enum (s:={ s1 with heap:=h2 }) z1 ?_
    exact⟨s1.heap.objs.size+1,[s1.heap.objs.size+1,s1.heap.objs.size],_,_,H1,rfl,I1.kept (t':=s1.toks) kp,xG (a:=a) (Nat.succ_ne_self _),⟨⟨_,z1⟩,z2⟩,fp (h':=h2),q⟩
   ·obtain⟨its,rv,pl,hz⟩:=I1.tuple hq
    refine Jp (show s1.heap.IsTuple a its.toArray from pl) fun h2 z1 z2 hsz kp=>wpAny_pyIter_enum (s:={ s1 with heap:=h2 }) z1 ?_
    exact⟨s1.heap.objs.size+1,[s1.heap.objs.size+1,s1.heap.objs.size],_,_,H1,rfl,I1.kept (t':=s1.toks) kp,yo (a:=a) (Nat.succ_ne_self _),⟨⟨_,z1⟩,z2⟩,fp (h':=h2),q⟩
noncomputable def CW (nt:Nat) (ix:List Nat) (σ:St):St:=List.replicate nt none++ix.map fun i=>(σ[i]?).join
noncomputable def wb (nt:Nat) (ix:List Nat) (σ σ':St):Prop:=∃ts:St,ts.length=nt/\σ'=ts++ix.map fun i=>(σ[i]?).join
noncomputable abbrev Hd (J:It) (nt:Nat) (ix:List Nat) (σ:St) (tg:TG) (tt:TT) (te:TE) (acc:Addr) (H1:Hp) (Q:VK):Prop:=
 ∃W:Nat->Nat->List V->Hp->Prop,(∃m,W 0 m [] (upd H1 acc (.lst [])))/\∀i m ys H,W i m ys H →
  (J.stop i H/\Q (.ref acc) H)\/(J.go i H/\∀σ0 x H',wb nt ix σ σ0->J.yld i H x H'->tg x σ0 H' fun σ2 Hn=>wb nt ix σ σ2/\tt σ2 Hn fun b H2=>if b=true then te σ2 H2 fun y H3=>
    H3 acc=some (.lst ys)/\ys.length<sizeLine/\∃m',m'<m/\W (i+1) m' (ys++[y]) (upd H3 acc (.lst (ys++[y])))
   else ∃m',m'<m/\W (i+1) m' ys H2)
noncomputable def yA (wi:TI) (nt:Nat) (ix:List Nat) (tg:TG) (tt:TT) (te:TE):TE:=fun σ H Q=>wi σ H fun J H1=>∀acc,H1 acc=none->Hd J nt ix σ tg tt te acc H1 Q
theorem AU {X:Cx} {use:Option (Value->Sem Unit)} {Q2:Value->Shared->Prop} {pins:List (Addr × Obj)} {s:Shared} {σ:St} {H:Hp} {Q:VK} {elt iter tg:Expr} {tn':List Str} {tgr:TG} {ifs:List Expr} {scope osc:Scope} {pos:Pos} {wi:TI} {tt:TT} {te:TE} (ix:List Nat) (N':List Str)
  (hxe:X.xe=fun _ _=>False) (hc:X.calm=true) (ho:X.env.scope=osc) (hN:N'=tn'++ix.map fun i=>(X.N[i]?).getD ("" : Str)) (hnd:N'.Nodup)
  (hall:(∀y∈scope.names,y.2=.free->osc.names.lookup y.1=some .cell)/\(∀y∈scope.names,y.2≠.cell)/\scope.kind=.function/\(∀y∈scope.names,y.2=.local->scope.names.lookup y.1=some .local)/\(∀y∈N'.drop tn'.length,scope.names.lookup y=some .free))
  (hi:PI X tg iter wi) (hg:∀cl C bh bO fp,PG (iA X scope cl C bh bO fp N') tg tgr)
  (ht:∀cl C bh bO fp,PTs (iA X scope cl C bh bO fp N') ifs tt)
  (he:∀cl C bh bO fp,PE (iA X scope cl C bh bO fp N') elt te)
  (hs:∀x,foldedSetIterable iter X.env x=pure x) (I:Inv X pins σ H s) (h:yA wi tn'.length ix tgr tt te σ H Q)
  (hfin:∀(acc C:Addr) (H5:Hp) (s5:Shared) (o:Obj),Inv X (pins++[(C,o)]) σ H5 s5->(∀x c,X.env.cells.lookup x=some c->c≠C)->X.bh.heap.objs.size<=C->(∀p∈X.pn++pins,p.1≠C)->(∃m,∀h':Heap,h'.get? C=some o->h'.Ns C m)->Q (.ref acc) H5->compPost (model X.prog X.w) X.A X.xe use Q2 (.ref acc) C (.ok .next) s5) :
  wpAny (model X.prog X.w) X.A (comprehension (.ListComp elt [⟨tg,iter,ifs,0⟩] scope pos) scope X.env (firstIterPos [⟨tg,iter,ifs,0⟩] pos) (newList []) false (eval iter X.env) use) Q2 X.xe s:=by
 obtain⟨hfr,hcell,hkind,hnames,hcap⟩:=hall
 subst ho
 have outc:∀y∈scope.names,y.2=.free->X.env.kindOf y.1=some .cell:=fun y hy q=>hfr y hy q
 obtain⟨cl,hclos,hcl1,hcl2⟩:=sF (env:=X.env) (scope:=scope) fun y hy q=>I.ok.has y.1 (.inl (outc y hy q))
 refine wpAny_comprehension_free (use:=use) rfl hs hclos hkind hnames (thn (hi pins s σ H _ I h) fun v s1 h1=>thn h1 fun itv s2 h2=>?_)
 obtain⟨it,fp,tn,J,H2,e,I2,T,st2,f2,rest⟩:=h2
 subst e
 have hf2:H2 s2.heap.objs.size=none:=I2.hok.fresh (Nat.le_refl _)
 obtain⟨W,⟨m0,w0⟩,turn⟩:=rest s2.heap.objs.size hf2
 -- the list
 refine wpAny_newObj_type ?_
 have I3:Inv X pins σ (upd H2 s2.heap.objs.size (.lst [])) { s2 with heap:=s2.heap.push { cls:=.type "list", dict:=none,data:=.seq ([]:List Value).toArray } }:=I2.He (its:=[]) (t':=s2.toks) .nil (Nat.zero_le _)
 have keep3:∀b o,s2.heap.get? b=some o->(s2.heap.push { cls:=.type "list", dict:=none,data:=.seq ([]:List Value).toArray }).get? b=some o:=fun b o q=>Heap.get?_push_of_some _ q
 have fp3:∀b∈fp,∃o,s2.heap.get? b=some o/\∀v,o.data≠.cell v:=T.obj _ _ st2
 have st3:tn 0 (s2.heap.push { cls:=.type "list", dict:=none,data:=.seq ([]:List Value).toArray }):=T.keep _ _ _ st2 fun b _ o q=>keep3 b o q
 have fpn:∀b∈fp,(upd H2 s2.heap.objs.size (HO.lst [])) b=none:=fun b hb=>by
  obtain⟨o,q,_⟩:=fp3 b hb
  rw[aC (Nat.ne_of_lt (Heap.lt_size q))]
  exact(f2 b hb).1
 revert I3 keep3 st3 fpn w0
 generalize hS3:({ s2 with heap:=s2.heap.push { cls:=.type "list", dict:=none,data:=.seq ([]:List Value).toArray } }:Shared)=s3
 generalize hH3:upd H2 s2.heap.objs.size (HO.lst [])=H3
 intro w0 I3 keep3 st3 fpn
 have acc3:H3 s2.heap.objs.size=some (.lst []):=by rw[<- hH3];exact aP
 generalize s2.heap.objs.size=acc at *
 have e3:s2.heap.push { cls:=.type "list", dict:=none,data:=.seq ([]:List Value).toArray }=s3.heap:=by rw[<- hS3]
 have keep3':∀b o,s2.heap.get? b=some o->s3.heap.get? b=some o:=fun b o q=>by rw[<- e3];exact keep3 b o q
 have st3':tn 0 s3.heap:=by rw[<- e3];exact st3
 refine wpAny_newFunctionEnv hcell (by intro y hy;simp at hy) (fun h₁ hns₁ hsb₁=>?_) hkind
 have hC:s3.heap.objs.size=s3.heap.objs.size:=rfl
 have keep4:∀b o,s3.heap.get? b=some o->h₁.get? b=some o:=fun b o q=>hsb₁.extBut b o (Nat.ne_of_lt (Heap.lt_size q)) (Heap.get?_push_of_some _ q)
 have fpC:∀b∈fp,b≠s3.heap.objs.size:=fun b hb=>by
  obtain⟨o,q,_⟩:=fp3 b hb
  exact Nat.ne_of_lt (Heap.lt_size (keep3' b o q))
 -- the block's context
 generalize hX':iA X scope cl s3.heap.objs.size s3 H3 fp N'=X'
 have hXp:X'.prog=X.prog:=by rw[<- hX'];rfl
 have hXw:X'.w=X.w:=by rw[<- hX'];rfl
 have hXK:X'.K=X.K:=by rw[<- hX'];rfl
 have hXA:X'.A=X.A:=by rw[<- hX'];rfl
 have hXe:X'.env=compEnvC scope cl s3.heap.objs.size X.env:=by rw[<- hX'];rfl
 have hXc:X'.calm=true:=by rw[<- hX'];exact hc
 have hXx:X'.xe=fun _ _=>False:=by rw[<- hX'];exact hxe
 have hXf:X'.fs=frs X.stack:=by rw[<- hX'];rfl
 have hXex:X'.ex=fp:=by rw[<- hX'];rfl
 have hXN:X'.N=N':=by rw[<- hX'];rfl
 have hXs:X'.bh=s3:=by rw[<- hX'];rfl
 have hXH:X'.bO=H3:=by rw[<- hX'];rfl
 have hXpn:X'.pn=[]:=by rw[<- hX'];rfl
 have okX:X'.Ok:=by
  rw[<- hX']
  refine⟨I3.ok.mod,hkind,I3.ok.glob,I3.ok.blt,Nat.le_refl _,fun a b c p q=>I3.ok.inj a b c (hcl1 a c p) (hcl1 b c q),fun y hy=>?_,fun _ _ z=>(by cases z),I3.ok.hd,I3.ok.frames,.inl rfl,fun b hb=>⟨fpC b hb,fun y c p=>(f2 b hb).2.2.2.2.1 y c (hcl1 y c p)⟩,
   I3.bs,Nat.le_trans I3.ok.bsz I3.sz,fun b o p hb=>?_,fun b hb z=>?_,I3.stack,I3.pO⟩
  ·have hy':(relabel scope X.env).names.lookup y=some .cell\/(relabel scope X.env).names.lookup y=some .free:=hy
   have free:scope.names.lookup y=some .free->∃c,cl.lookup y=some c:=fun q=>hcl2 y (lookup_mem q)
   rcases hy' with q | q
   ·rcases i3 q with z | ⟨z,_⟩
    ·exact absurd rfl (hcell _ (lookup_mem z))
    ·exact free z
   ·rcases i3 q with z | ⟨_,z⟩
    ·exact free z
    ·cases z
  ·rcases(f2 b hb).2.2.2.1 with z | z
   ·exact I3.ok.uN b o p z
   ·exact absurd (Nat.lt_of_lt_of_le (Heap.lt_size p) (Nat.le_trans I3.ok.bsz z)) (Nat.lt_irrefl _)
  ·rcases List.mem_cons.mp (I3.ic b z) with q | q
   ·exact(f2 b hb).2.1 q
   ·exact(f2 b hb).2.2.1 q
 have I4:∀tk,Inv X' [] (CW tn'.length ix σ) H3 { s3 with heap:=h₁,toks:=tk }:=fun tk=>by
  have hloc:=I3.loc
  refine⟨okX,by rw[hXs],I3.bare,?_,⟨fun y=>([]:List (Str × Value)).reverse.lookup y,by rw[hXe];exact hns₁,fun i y v e1 e2 e3=>?_⟩,fun y c p=>?_,?_,fun y c p=>?_,fun p hp=>?_,?_,?_⟩
  ·rw[hXf,hXex,hXH,hXs];exact Un.kept keep4
  ·rw[hXN,hN] at e1
   by_cases hit':i<tn'.length
   ·exfalso
    unfold CW at e2
    rw[List.getElem?_append_left (by simpa using hit'),List.getElem?_replicate,if_pos hit'] at e2
    cases e2
   ·have e10:N'[i]?=some y:=by rw[hN];exact e1
    obtain⟨j,rfl⟩:∃j,i=tn'.length+j:=⟨i - tn'.length,by omega⟩
    have e1':(ix.map fun i=>(X.N[i]?).getD ("" : Str))[j]?=some y:=by
     rw[List.getElem?_append_right (by omega)] at e1
     rw[show tn'.length+j - tn'.length=j by omega] at e1
     exact e1
    have e2':(ix.map fun i=>(σ[i]?).join)[j]?=some (some v):=by
     unfold CW at e2
     rw[List.getElem?_append_right (by simp)] at e2
     simpa using e2
    rw[List.getElem?_map] at e1' e2'
    cases hj:ix[j]? with
    | none=>rw[hj] at e1';cases e1'
    | some i0=>
     rw[hj] at e1' e2'
     have e1'':(X.N[i0]?).getD ("" : Str)=y:=by simpa using e1'
     have e2'':(σ[i0]?).join=some v:=by simpa using e2'
     have hsv:σ[i0]?=some (some v):=by
      cases q:σ[i0]? with
      | none=>rw[q] at e2'';cases e2''
      | some z=>rw[q] at e2'';have:z=some v:=by simpa using e2''
                rw[this]
     have hlt:i0<X.N.length:=by
      have:=(List.getElem?_eq_some_iff.mp hsv).1
      rw[I3.len] at this;exact this
     have hNy:X.N[i0]?=some y:=by
      rw[List.getElem?_eq_getElem hlt] at e1'' ⊢
      simpa using e1''
     have hyt:y∈N'.drop tn'.length:=by
      refine List.mem_of_getElem? (i:=j) ?_
      rw[List.getElem?_drop];exact e10
     have hyf:=hcap y hyt
     have hyc:=outc (y,.free) (lookup_mem hyf) rfl
     obtain⟨m,hn,hl⟩:=hloc
     obtain⟨u,r,l⟩:=hl i0 y v hNy hsv (.inr (.inl hyc))
     refine⟨u,r,?_⟩
     rcases l with⟨k1,_⟩ | ⟨_,c,p,z⟩
     ·have hyc':X.env.kindOf y=some .cell:=hyc
      rw[k1] at hyc';cases hyc'
     ·obtain⟨c',p'⟩:=hcl2 y (lookup_mem hyf)
      have pc:c'=c:=by
       have:=hcl1 y c' p'
       rw[p] at this;cases this;rfl
      subst pc
      refine .inr ⟨.inl ?_,c',by rw[hXe];exact p',?_⟩
      ·rw[hXe];exact gq I3.ok.kind hyf hyc
      ·obtain⟨o,q1,q2⟩:=z
       exact⟨o,keep4 c' o q1,q2⟩
  ·rw[hXe] at p
   obtain⟨v,o,q1,q2⟩:=I3.cell y c (hcl1 y c p)
   exact⟨v,o,keep4 c o q1,q2⟩
  ·rw[hXe];exact I3.hok.fresh (Nat.le_refl _)
  ·rw[hXe] at p;exact I3.eI y c (hcl1 y c p)
  ·rw[hXpn] at hp;cases hp
  ·rw[hXp,hXw];exact I3.hok.kept keep4
  ·rw[hXN,hN];simp[CW]
 -- the loop
 have stat:∀{H':Hp},(∀b∈fp,H' b=none)->∀b∈fp,sx X' [] H' b:=fun hn b hb=>by
  refine⟨hn b hb,by rw[hXe];exact fpC b hb,?_,.inl (by rw[hXex];exact hb),fun y c p=>?_,fun p hp=>by rw[hXpn] at hp;cases hp⟩
  ·rw[hXf];intro z
   rcases List.mem_cons.mp (I3.ic b z) with q | q
   ·exact(f2 b hb).2.1 q
   ·exact(f2 b hb).2.2.1 q
  ·rw[hXe] at p;exact(f2 b hb).2.2.2.2.1 y c (hcl1 y c p)
 have fin:∀{H5:Hp} {s5:Shared} {σ5:St},Inv X' [] σ5 H5 s5->Q (.ref acc) H5->compPost (model X.prog X.w) X.A X.xe use Q2 (.ref acc) s3.heap.objs.size (.ok .next) s5:=fun{H5 s5 σ5} I5 q=>by
  obtain⟨m,hn,_⟩:=I5.loc
  rw[hXe] at hn
  have hn':s5.heap.Ns s3.heap.objs.size m:=hn
  obtain⟨oC,esC,epC,hC1,hC2,hC3⟩:=hn'
  have u5:=I5.base
  rw[hXf,hXex,hXH,hXs] at u5
  have fr:H5 s3.heap.objs.size=none:=by have:=I5.free;rw[hXe] at this;exact this
  have hok5:=I5.hok
  rw[hXp,hXw] at hok5
  have hos:s5.os=s3.os:=by have:=I5.os;rw[hXs] at this;exact this
  have IX:Inv X pins σ H5 s5:=I3.xA (s':=s5) (ch:=fp) hos u5 hok5 I5.bare (fun b hb=>by
   obtain⟨g0,g1,g2,g3,g4,g5⟩:=f2 b hb
   exact⟨g3,g1,g4,g5⟩)
  have cC:∀x c,X.env.cells.lookup x=some c->c≠s3.heap.objs.size:=fun x c z e=>by
   obtain⟨v,q⟩:=I3.cell x c z
   exact absurd q.lt (by rw[e];exact Nat.lt_irrefl _)
  have pC:∀p∈X.pn++pins,p.1≠s3.heap.objs.size:=fun p hp e=>by
   have:=Heap.lt_size (I3.pin p hp).1
   rw[e] at this
   exact Nat.lt_irrefl _ this
  refine hfin acc s3.heap.objs.size H5 s5 oC (IX.pP fun p hp=>?_) cC I3.sz pC ⟨m,fun h' z=>⟨oC,esC,epC,z,hC2,hC3⟩⟩ q
  rcases List.mem_append.mp hp with z | z
  ·exact IX.pin p (List.mem_append_right _ z)
  ·have e:=List.mem_singleton.mp z
   subst e
   refine⟨hC1,fr,Nat.ne_of_gt I3.lt,I3.Kg (Nat.le_refl _),fun v e=>?_⟩
   have e':oC.data=.cell v:=e
   rw[hC2] at e';cases e'
 have loop:∀tk,codeAny (model X.prog X.w) X.A (.compLoop (.ListComp elt [⟨tg,iter,ifs,0⟩] scope pos) 0 (.ref it) (.ref acc) (compEnvC scope cl s3.heap.objs.size X.env))
   (compPost (model X.prog X.w) X.A X.xe use Q2 (.ref acc) s3.heap.objs.size) { s3 with heap:=h₁,toks:=tk }:=fun tk=>by
  refine xm (fun n s'=>∃i ys σ' H',Inv X' [] σ' H' s'/\wb tn'.length ix σ σ'/\tn i s'.heap/\(∀b∈fp,H' b=none)/\W i n ys H') (fun n s5 h5=>?_) m0
   ⟨0,[],CW tn'.length ix σ,H3,I4 tk,⟨_,List.length_replicate,rfl⟩,T.keep _ _ _ st3' fun b _ o q=>keep4 b o q,fpn,w0⟩
  obtain⟨i,ys,σ5,H5,I5,hσ,st5,fr5,w5⟩:=h5
  rcases turn i n ys H5 w5 with⟨stop,q⟩ | ⟨go,step⟩
  ·have d:=T.done X' hXp hXw hXK hXc i [] s5 σ5 H5 (fun _ _=>False) I5 (stat fr5) st5 stop
   rw[hXA] at d
   refine thn d fun r s6 ⟨hr,I6⟩=>?_
   subst hr
   exact fin I6 q
  ·have d:=T.item X' hXp hXw hXK hXc i [] s5 σ5 H5 (fun _ _=>False) I5 (stat fr5) st5 go
   rw[hXA] at d
   refine thn d fun r s6 ⟨u,hr,h6⟩=>?_
   subst hr
   refine thn h6 fun _ s7 ⟨z,H7,I7,r7,y7,st7,fr7⟩=>?_
   have I7':=I7.pinned (stat fr7) (T.obj _ _ st7)
   have again:∀{H9:Hp} {s9:Shared} {ys9:List V} {σ9:St},Inv X' ([]++qU fp s7.heap) σ9 H9 s9->wb tn'.length ix σ σ9->(∃m',m'<n/\W (i+1) m' ys9 H9)->∃m',m'<n/\∃i ys σ' H',Inv X' [] σ' H' s9/\wb tn'.length ix σ σ'/\tn i s9.heap/\(∀b∈fp,H' b=none)/\W i m' ys H':=fun{H9 s9 ys9 σ9} I9 c9 ⟨m',hm,w9⟩=>by
    refine⟨m',hm,i+1,ys9,_,H9,I9.mG,c9,T.keep _ _ _ st7 fun b hb o e=>(I9.pin (b,o) (List.mem_append_right _ (List.mem_append_right _ (ja hb e)))).1,fun b hb=>?_,w9⟩
    obtain⟨o,e,_⟩:=T.obj _ _ st7 b hb
    exact(I9.pin (b,o) (List.mem_append_right _ (List.mem_append_right _ (ja hb e)))).2.1
   have ht':=ht cl s3.heap.objs.size s3 H3 fp
   have he':=he cl s3.heap.objs.size s3 H3 fp
   have hg':=hg cl s3.heap.objs.size s3 H3 fp
   rw[hX'] at ht' he' hg'
   rw[<- hXe]
   have a0:=hg' _ s7 σ5 H7 z u _ I7' r7 (step σ5 z H7 hσ y7)
   rw[hXp,hXw,hXA,hXx] at a0
   refine thn a0 fun _ s8 ⟨σ8,H8,I8,c8,q8⟩=>?_
   have a1:=ht' _ s8 _ H8 _ I8 q8
   rw[hXp,hXw,hXA,hXx] at a1
   refine thn a1 fun b s9 ⟨H9,I9,q9⟩=>?_
   cases b with
   | false=>exact again I9 c8 q9
   | true=>
    have a2:=he' _ s9 _ H9 _ I9 q9
    rw[hXp,hXw,hXA,hXx] at a2
    refine thn a2 fun yv s10 ⟨y,H10,I10,r10,q1,q2,q3⟩=>?_
    have a3:=tY (X:=X') _ s10 _ H10 (.ref acc) [y] (.ref acc) [yv] (fun _ Hq=>∃m',m'<n/\W (i+1) m' (ys++[y]) Hq) I10 rfl (.cons r10 .nil) ⟨acc,ys,y,rfl,rfl,q1,q2,q3⟩
    rw[hXp,hXw,hXA,hXx] at a3
    exact thn a3 fun _ s11 ⟨_,H11,I11,_,q11⟩=>again I11 c8 q11
 refine codeAny_compStart_list (loop _) ?_
 exact T.self _ 0 _ _ _ (T.keep _ _ _ st3' fun b _ o q=>keep4 b o q) (loop _)
section
variable {X:Cx} {elt iter tg:Expr} {tn':List Str} {tgr:TG} {ifs:List Expr} {scope osc:Scope} {pos:Pos} {wi:TI} {tt:TT} {te:TE}
theorem Bn (ix:List Nat) (tn' N':List Str)
  (hxe:X.xe=fun _ _=>False) (hc:X.calm=true) (ho:X.env.scope=osc) (hN:N'=tn'++ix.map fun i=>(X.N[i]?).getD ("" : Str)) (hnd:N'.Nodup)
  (hall:(∀y∈scope.names,y.2=.free->osc.names.lookup y.1=some .cell)/\(∀y∈scope.names,y.2≠.cell)/\scope.kind=.function/\(∀y∈scope.names,y.2=.local->scope.names.lookup y.1=some .local)/\(∀y∈N'.drop tn'.length,scope.names.lookup y=some .free))
  (hi:PI X tg iter wi) (hg:∀cl C bh bO fp,PG (iA X scope cl C bh bO fp N') tg tgr)
  (ht:∀cl C bh bO fp,PTs (iA X scope cl C bh bO fp N') ifs tt)
  (he:∀cl C bh bO fp,PE (iA X scope cl C bh bO fp N') elt te)
  (hs:∀x,foldedSetIterable iter X.env x=pure x:=by intro _;rfl) :
  PE X (.ListComp elt [⟨tg,iter,ifs,0⟩] scope pos) (yA wi tn'.length ix tgr tt te):=by
 intro pins s σ H Q I h
 have e:eval (.ListComp elt [⟨tg,iter,ifs,0⟩] scope pos) X.env=comprehension (.ListComp elt [⟨tg,iter,ifs,0⟩] scope pos) scope X.env (firstIterPos [⟨tg,iter,ifs,0⟩] pos) (newList []) false (eval iter X.env) none:=by
  rw[eval_ListComp];rfl
 rw[e]
 refine AU (use:=none) (Q2:=EP X pins σ Q) ix N' hxe hc ho hN hnd hall hi hg ht he hs I h fun acc C H5 s5 o I5 cC hC pC hm q=>?_
 obtain⟨m,hm⟩:=hm
 exact⟨m,hm _ (I5.pin (C,o) (List.mem_append_right _ (List.mem_append_right _ (List.mem_singleton.mpr rfl)))).1,fun h' hs'=>⟨.ref acc,H5,I5.L5 cC hC pC hs',rfl,q⟩⟩
end
section
variable {κ:Type} [DecidableEq κ]
noncomputable def mw (kvs:List (κ × V)) (k:κ):Option V:=(kvs.find? fun kv=>decide (kv.1=k)).map (·.2)
noncomputable def putK (kvs:List (κ × V)) (k:κ) (v:V):List (κ × V):=
 if (kvs.any fun kv=>decide (kv.1=k))=true then kvs.map (fun kv=>if kv.1=k then (kv.1,v) else kv) else kvs++[(k,v)]
theorem lJ {p:κ × V} {r:List (κ × V)} {k:κ} (e:p.1=k):mw (p::r) k=some p.2:=by simp[mw,List.find?_cons,e]
theorem lW {p:κ × V} {r:List (κ × V)} {k:κ} (e:¬ p.1=k):mw (p::r) k=mw r k:=by simp[mw,List.find?_cons,e]
theorem xo (k:κ):∀kvs:List (κ × V),(kvs.any fun kv=>decide (kv.1=k))=(mw kvs k).isSome
 | []=>rfl
 | p::r=>by
  rw[List.any_cons]
  by_cases e:p.1=k
  ·simp only[lJ e,decide_eq_true e,Bool.true_or,Option.isSome_some]
  ·rw[lW e,decide_eq_false e,Bool.false_or];exact xo k r
theorem oq (kvs:List (κ × V)) (k:κ) (v:V):(putK kvs k v).length<=kvs.length+1:=by
 unfold putK
 split
 ·rw[List.length_map];omega
 ·rw[List.length_append,List.length_cons,List.length_nil];omega
theorem kI.AF {o:Option V} {u:Option Value} (r:kI o u):o.isSome=u.isSome:=by
 cases o with
 | none=>cases u with
  | none=>rfl
  | some _=>exact(show False from r).elim
 | some _=>cases u with
  | none=>exact(show False from r).elim
  | some _=>rfl
theorem kI.getD {o:Option V} {u:Option Value} {d:V} {d':Value} (r:kI o u) (rd:RelV d d'):RelV (o.getD d) (u.getD d'):=by
 cases o with
 | none=>cases u with
  | none=>exact rd
  | some _=>exact(show False from r).elim
 | some _=>cases u with
  | none=>exact(show False from r).elim
  | some _=>exact r
theorem KV.val {kvs:List (κ × V)} {vs:List (κ × Value)} (r:KV kvs vs) (k:κ):kI (mw kvs k) (valueAt vs k):=by
 unfold KV at r
 induction r with
 | nil=>exact True.intro
 | @cons p q ps qs h t ih=>
  obtain⟨h1,h2⟩:=h
  by_cases e:p.1=k
  ·have e':q.1=k:=h1.symm.trans e
   have b:valueAt (q::qs) k=some q.2:=by simp[valueAt,List.find?_cons,e']
   rw[lJ e,b];exact h2
  ·have e':¬ q.1=k:=fun z=>e (h1.trans z)
   have b:valueAt (q::qs) k=valueAt qs k:=by simp[valueAt,List.find?_cons,e']
   rw[lW e,b];exact ih
theorem KV.any {kvs:List (κ × V)} {vs:List (κ × Value)} (r:KV kvs vs) (k:κ):(kvs.any fun kv=>decide (kv.1=k))=vs.any fun kv=>decide (kv.1=k):=by
 unfold KV at r
 induction r with
 | nil=>rfl
 | cons h t ih=>rw[List.any_cons,List.any_cons,ih,h.1]
theorem KV.zZ {kvs:List (κ × V)} {vs:List (κ × Value)} (r:KV kvs vs) (k:κ) {y:V} {u:Value} (ry:RelV y u) :
  KV (kvs.map fun kv=>if kv.1=k then (kv.1,y) else kv) (vs.map fun kv=>if kv.1=k then (kv.1,u) else kv):=by
 unfold KV at r ⊢
 induction r with
 | nil=>exact .nil
 | @cons p q ps qs h t ih=>
  rw[List.map_cons,List.map_cons]
  refine .cons ?_ ih
  obtain⟨h1,h2⟩:=h
  by_cases e:p.1=k
  ·rw[if_pos e,if_pos (h1.symm.trans e)];exact⟨h1,ry⟩
  ·rw[if_neg e,if_neg (fun z=>e (h1.trans z))];exact⟨h1,h2⟩
theorem KV.put {kvs:List (κ × V)} {vs:List (κ × Value)} (r:KV kvs vs) (k:κ) {y:V} {u:Value} (ry:RelV y u):KV (putK kvs k y) (stored vs k u):=by
 unfold putK stored
 rw[r.any k]
 by_cases e:(vs.any fun kv=>decide (kv.1=k))=true
 ·rw[if_pos e,if_pos e];exact r.zZ k ry
 ·rw[if_neg e,if_neg e];exact Paired.snoc r ⟨rfl,ry⟩
theorem KV.length {kvs:List (κ × V)} {vs:List (κ × Value)} (r:KV kvs vs):kvs.length=vs.length:=Paired.length r
end
theorem yV {P:Program} {w:World} {k:Key} {u:Value} (r:RelV (kV k) u):(cQ P w).is k u=true:=by
 cases k with
 | inl i=>obtain⟨t,e⟩:=(show ∃t,u=Value.int i t from r);subst e;exact vK P w i t
 | inr x=>obtain⟨t,e⟩:=(show ∃t,u=Value.str x t from r);subst e;exact vO P w x t
theorem tU {P:Program} {w:World}:∀{ks:List Key} {us:List Value},Vals (ks.map kV) us->ItemsAre (cQ P w) ks us
 | [],_,r=>by rw[List.map_nil] at r;cases r;exact .nil
 | k::ks,_,r=>by
  rw[List.map_cons] at r
  cases r with
  | cons h t=>exact .cons (yV h) (tU t)
noncomputable abbrev KT (H:Hp):List (List Key × V)->List (List Key × Addr × Value)->Prop:=Paired fun p q=>p.1=q.1/\H q.2.1=some (.tup (p.1.map kV))/\RelV p.2 q.2.2
theorem KT.val {H:Hp} {kvs:List (List Key × V)} {xs:List (List Key × Addr × Value)} (r:KT H kvs xs) (k:List Key):kI (mw kvs k) ((atKey xs k).map (·.2)):=by
 induction r with
 | nil=>exact True.intro
 | @cons p q ps qs h t ih=>
  obtain⟨h1,_,h2⟩:=h
  by_cases e:p.1=k
  ·have e':q.1=k:=h1.symm.trans e
   have b:atKey (q::qs) k=some q.2:=by simp[atKey,List.find?_cons,e']
   rw[lJ e,b];exact h2
  ·have e':¬ q.1=k:=fun z=>e (h1.trans z)
   have b:atKey (q::qs) k=atKey qs k:=by simp[atKey,List.find?_cons,e']
   rw[lW e,b];exact ih
theorem KT.zZ {H:Hp} {kvs:List (List Key × V)} {xs:List (List Key × Addr × Value)} (r:KT H kvs xs) (k:List Key) {y:V} {u:Value} (ry:RelV y u) :
  KT H (kvs.map fun kv=>if kv.1=k then (kv.1,y) else kv) (xs.map (putAt k u)):=by
 induction r with
 | nil=>exact .nil
 | @cons p q ps qs h t ih=>
  rw[List.map_cons,List.map_cons]
  refine .cons ?_ ih
  obtain⟨h1,h2,h3⟩:=h
  unfold putAt
  by_cases e:p.1=k
  ·rw[if_pos e,if_pos (h1.symm.trans e)];exact⟨h1,h2,ry⟩
  ·rw[if_neg e,if_neg (fun z=>e (h1.trans z))];exact⟨h1,h2,h3⟩
theorem KT.put {H:Hp} {kvs:List (List Key × V)} {xs:List (List Key × Addr × Value)} (r:KT H kvs xs) (k:List Key) {b:Addr} {y:V} {u:Value} (hb:H b=some (.tup (k.map kV))) (ry:RelV y u) :
  KT H (putK kvs k y) (storedH xs k b u):=by
 have e:(kvs.any fun kv=>decide (kv.1=k))=(atKey xs k).isSome:=by
  rw[xo,(r.val k).AF,Option.isSome_map]
 unfold putK storedH
 rw[e]
 by_cases q:(atKey xs k).isSome=true
 ·rw[if_pos q,if_pos q];exact r.zZ k ry
 ·rw[if_neg q,if_neg q];exact Paired.snoc r ⟨rfl,hb,ry⟩
theorem KT.keeps {H H':Hp} {kvs:List (List Key × V)} {xs:List (List Key × Addr × Value)} (r:KT H kvs xs) (ht:∀b ys,H b=some (.tup ys)->H' b=some (.tup ys)):KT H' kvs xs:=
 Paired.rP r fun _ _ z=>⟨z.1,ht _ _ z.2.1,z.2.2⟩
section
variable {P:Program} {w:World} {H:Hp} {h:Heap} {a:Addr}
theorem Gh {u:HO} (ok:HOk P w H h) (e:Rd H a u):bM P w H h a u:=e.ok ok
theorem wV {kvs:List (Key × V)} (ok:HOk P w H h) (e:Rd H a (.dK kvs)):kvs.length<=sizeLine/\(a == sysModules)=false/\∃vs,KV kvs vs/\h.DictOf (cQ P w) a vs:=
 show bM P w H h a (.dK kvs) from Gh ok e
theorem JO {kvs:List (Key × V)} (ok:HOk P w H h) (e:H a=some (.dK kvs)):kvs.length<=sizeLine/\(a == sysModules)=false/\∃vs,KV kvs vs/\h.DictOf (cQ P w) a vs:=wV ok (.inl e)
theorem rp {ks:List Key} (ok:HOk P w H h) (e:H a=some (.tup (ks.map kV))):(tupleKind (cQ P w)).is h ks a:=by
 obtain⟨_,its,r,o,h1,⟨h2,n,h3⟩,_⟩:=(show bM P w H h a (.tup (ks.map kV)) from ok a _ e)
 exact⟨o,its.toArray,n,h1,h2,h3,by simpa using tU r⟩
theorem xy {kvs:List (List Key × V)} (ok:HOk P w H h) (e:Rd H a (.dT kvs)):kvs.length<=sizeLine/\(a == sysModules)=false ∧
  ∃xs,KT H kvs xs/\h.DictOfH (tupleKind (cQ P w)) a xs:=by
 obtain⟨z,y,xs,r,o,es,ep,h1,h2,h3,h4,h5⟩:=(show bM P w H h a (.dT kvs) from Gh ok e)
 refine⟨z,y,xs,r,o,es,ep,h1,h2,h3,h4,fun x hx=>?_,h5⟩
 have all:∀{l:List (List Key × V)} {m:List (List Key × Addr × Value)},KT H l m->∀x∈m,(tupleKind (cQ P w)).is h x.1 x.2.1:=by
  intro l m q
  induction q with
  | nil=>intro x hx;exact nomatch hx
  | @cons p q ps qs hq t ih=>
   intro x hx
   rcases List.mem_cons.mp hx with e | hx
   ·subst e
    exact rp ok (by rw[<- hq.1];exact hq.2.1)
   ·exact ih x hx
 exact all r x hx
theorem Ga {kvs:List (List Key × V)} (ok:HOk P w H h) (e:H a=some (.dT kvs)):kvs.length<=sizeLine/\(a == sysModules)=false ∧
  ∃xs,KT H kvs xs/\h.DictOfH (tupleKind (cQ P w)) a xs:=xy ok (.inl e)
end
noncomputable def vA (H:Hp) (a:Addr) (y:V) (r:Option V):Prop:=
 (∃kvs k,Rd H a (.dK kvs)/\y=kV k/\r=mw kvs k)\/∃kvs k b,Rd H a (.dT kvs)/\y=.ref b/\H b=some (.tup (k.map kV))/\r=mw kvs k
noncomputable def CG (H:Hp) (a:Addr) (y v:V) (H':Hp):Prop:=
 (∃kvs k,H a=some (.dK kvs)/\y=kV k/\kvs.length<sizeLine/\H'=upd H a (.dK (putK kvs k v))) ∨
 ∃kvs k b,H a=some (.dT kvs)/\y=.ref b/\H b=some (.tup (k.map kV))/\kvs.length<sizeLine/\H'=upd H a (.dT (putK kvs k v))
theorem vA.t {H:Hp} {a b:Addr} {kvs:List (List Key × V)} {k:List Key} (e:H a=some (.dT kvs)) (eb:H b=some (.tup (k.map kV))):vA H a (.ref b) (mw kvs k):=.inr ⟨kvs,k,b,.inl e,rfl,eb,rfl⟩
theorem CG.t {H:Hp} {a b:Addr} {kvs:List (List Key × V)} {k:List Key} {v:V} (e:H a=some (.dT kvs)) (eb:H b=some (.tup (k.map kV))) (hl:kvs.length<sizeLine) :
  CG H a (.ref b) v (upd H a (.dT (putK kvs k v))):=.inr ⟨kvs,k,b,e,rfl,eb,hl,rfl⟩
section
variable {X:Cx} {pins:List (Addr × Obj)} {σ:St} {H:Hp} {s:Shared} {a:Addr} {y v:V} {u r:Value} {o:Option V} {A:Around} {E:Value->Shared->Prop}
theorem Inv.big (I:Inv X pins σ H s):sysModules<s.heap.objs.size:=by
 have h:mainGlobals<s.heap.objs.size:=(I.mod.glob.keeps I.bk).lt
 exact Nat.lt_trans (by decide) h
theorem Af {Q:Value->Shared->Prop} (hu:A.units+1<cLine) (I:Inv X pins σ H s) (g:vA H a y (some v)) (ry:RelV y u) (h:∀w' s',Inv X pins σ H s'->RelV v w'->Q w' s') :
  wpAny (model X.prog X.w) A (getItem (.ref a) u) Q E s:=by
 rcases g with⟨kvs,k,e,ey,l⟩ | ⟨kvs,k,b,e,ey,eb,l⟩
 ·subst ey
  obtain⟨z,hd,vs,rel,dd⟩:=wV I.hok e
  obtain⟨w',hw,rw'⟩:=kI.some_of (v:=v) (o:=valueAt vs k) (by rw[l];exact rel.val k)
  exact wpAny_getItem_of (yV ry) dd.mapOf hw (h w' _ (I.tok _) rw')
 ·subst ey
  cases (show u=Value.ref b from ry)
  obtain⟨z,hd,xs,rel,dd⟩:=xy I.hok e
  obtain⟨w',hw,rw'⟩:=kI.some_of (v:=v) (o:=(atKey xs k).map (·.2)) (by rw[l];exact rel.val k)
  obtain⟨p,hp,hp2⟩:=Option.map_eq_some_iff.mp hw
  refine wpAny_getItem_heap (tupleKind_room_in1 hu) (rp I.hok eb) dd hp ?_
  rw[hp2]
  exact h w' _ (I.tok _) rw'
theorem vf {h':Heap} {t':Nat} {ob:HO} (I:Inv X pins σ H s) (mu:Mut (H a)) (hs:Heap.SameBut a s.heap h') (he:∃q,h'.get? a=some q) (new:bM X.prog X.w (upd H a ob) h' a ob) :
  Inv X pins σ (upd H a ob) { s with heap:=h',toks:=t' }:=
 I.write (x:=a) (e:=a) mu (.inl rfl) (fun b q hb z=>(hs.2 b hb).trans z) he new
theorem Hb {P:Program} {w:World} {H':Hp} {h':Heap} {kvs:List (Key × V)} {vs:List (Key × Value)} (z:kvs.length<=sizeLine) (hd:(a == sysModules)=false) (rel:KV kvs vs) (dd:h'.DictOf (cQ P w) a vs) :
  bM P w H' h' a (.dK kvs):=⟨z,hd,vs,rel,dd⟩
theorem AQ {H':Hp} {Q:Unit->Shared->Prop} (hu:A.units+1<cLine) (I:Inv X pins σ H s) (g:CG H a y v H') (ry:RelV y u) (rv:RelV v r) (h:∀s',Inv X pins σ H' s'->Q () s') :
  wpAny (model X.prog X.w) A (setItem (.ref a) u r) Q E s:=by
 rcases g with⟨kvs,k,e,ey,l,eH⟩ | ⟨kvs,k,b,e,ey,eb,l,eH⟩
 ·subst ey eH
  obtain⟨z,hd,vs,rel,dd⟩:=JO I.hok e
  have hz:vs.length<=sizeLine:=by rw[<- rel.length];exact z
  have hl:(putK kvs k v).length<=sizeLine:=by have:=oq kvs k v;omega
  refine wpAny_setItem_pairs (hsz:=hz) (yV ry) dd fun h' dd' hs=>h _ ?_
  have he:∃q,h'.get? a=some q:=let ⟨q,_,_,hq,_⟩:=dd';⟨q,hq⟩
  exact vf I (by rw[e];exact True.intro) hs he (Hb hl hd (rel.put k rv) dd')
 ·subst ey eH
  cases (show u=Value.ref b from ry)
  obtain⟨z,hd,xs,rel,dd⟩:=Ga I.hok e
  have hz:xs.length<=sizeLine:=by rw[<- Paired.length rel];exact z
  have hl:(putK kvs k v).length<=sizeLine:=by have:=oq kvs k v;omega
  refine wpAny_setItem_heap (hsz:=hz) (tupleKind_room_in1 hu) (rp I.hok eb) dd fun h' dd' hs=>h _ ?_
  obtain⟨q,es,ep,hq,h2,h3,h4,_,h5⟩:=dd'
  refine vf I (by rw[e];exact True.intro) hs ⟨q,hq⟩ ⟨hl,hd,_,(rel.put k eb rv).keeps fun c ys ec=>?_,q,es,ep,hq,h2,h3,h4,h5⟩
  rw[aC (F1 ec e (fun z=>nomatch z))]
  exact ec
end
noncomputable def GW (i:Expr):Prop:=∀ov iv,subscripted i false ov iv=operate [ov,iv] (getItem ov iv)
theorem EO {prog:Program} {w:World} {A:Around} {E:Value->Shared->Prop} {s:Shared} {env:Env} {value slice:Expr} {pos:Pos} {T id:String} {Q:Value->Shared->Prop}
  (hl:typeLookup (.type T) "__getitem__" = pure (some (.builtin id))) (hs:GW slice)
  (h:wpAny (model prog w) A (eval value env) (fun o s₁=>wpAny (model prog w) A (eval slice env) (fun i s₂=>s₂.TypeIs o T/\wpAny (model prog w) A (getItem o i) Q E s₂) E s₁) E s) :
  wpAny (model prog w) A (eval (.Subscript value slice pos) env) Q E s:=by
 refine Subscript_ (wpAny_mono h (fun o s₁ h₁=>wpAny_mono h₁ (fun i s₂ h₂=>?_) fun _ _ x=>x) fun _ _ x=>x)
 obtain⟨hT,h₂⟩:=h₂
 unfold subscriptTail
 refine wpAny_bind ?_
 rw[getitemInPython_of_ne hT.not_modules]
 refine wpAny_bind (wpAny_specialOf hT hl ?_)
 have fin:wpAny (model prog w) A (subscripted slice false o i) (fun r s₃=>wpAny (model prog w) A (letTemporaryGo value o r >>= fun _=>pure r) Q E s₃) E s₂:=by
  rw[hs o i]
  exact wpAny_operating (wpAny_mono h₂ (fun r s₃ h₃=>wpAny_bind (wpAny_letTemporaryGo (wpAny_pure h₃))) fun _ _ x=>x)
 first
  | exact wpAny_pure (wpAny_bind fin)
  | exact wpAny_bind (wpAny_pure (wpAny_bind fin))
  | exact wpAny_bind fin
theorem vY {X:Cx} {pins:List (Addr × Obj)} {σ:St} {H:Hp} {s:Shared} {a:Addr} {y:V} {o:Option V} (I:Inv X pins σ H s) (g:vA H a y o):s.TypeIs (.ref a) "dict" := by
 rcases g with⟨kvs,k,e,_,_⟩ | ⟨kvs,k,b,e,_,_,_⟩
 ·obtain⟨_,_,vs,_,dd⟩:=wV I.hok e
  exact dd.typeIs
 ·obtain⟨_,_,xs,_,dd⟩:=xy I.hok e
  exact dd.typeIs
noncomputable def Jq (td ty:TE):TE:=fun σ H Q=>td σ H fun x H1=>ty σ H1 fun y H2=>∃a v,x=.ref a/\vA H2 a y (some v)/\Q v H2
noncomputable def Kr (td ty tv:TE):TS:=fun D σ H=>tv σ H fun v H1=>td σ H1 fun x H2=>ty σ H2 fun y H3=>∃a H4,x=.ref a/\CG H3 a y v H4/\D.nx σ H4
section
variable {X:Cx} {o i e value:Expr} {pos pos' tpos:Pos} {td ty tv:TE}
theorem Fw (hu:X.A.units+1<cLine) (ho:PE X o td) (hi:PE X i ty) (hs:GW i):PE X (.Subscript o i pos) (Jq td ty):=by
 intro pins s σ H Q I h
 refine EO PySem.F.slot_dict_getitem.lookup hs (thn (ho pins s σ H _ I h) fun u s1 ⟨x,H1,I1,rx,q1⟩=>thn (hi pins s1 σ H1 _ I1 q1) fun iv s2 ⟨y,H2,I2,ry,a,v,ex,g,q2⟩=>?_)
 subst ex
 obtain rfl:u=Value.ref a:=rx
 exact⟨vY I2 g,Af hu I2 g ry fun w' s3 I3 rw'=>⟨v,H2,I3,rw',q2⟩⟩
theorem FL (hu:X.A.units+1<cLine) (ho:PE X o td) (hi:PE X i ty) (hv:PE X value tv) (hs:swapsWith value (some (.Subscript o i pos')) pos.line X.env=pure false) :
  PS X (.Assign [.Subscript o i pos'] value pos) (Kr td ty tv):=by
 intro pins s σ H D I h
 refine wpAny_Assign_Subscript (thn (hv pins s σ H _ I h) fun r s1 ⟨v,H1,I1,rv,q1⟩=>thn (ho pins s1 σ H1 _ I1 q1) fun u s2 ⟨x,H2,I2,rx,q2⟩=>thn (hi pins s2 σ H2 _ I2 q2) fun iv s3 ⟨y,H3,I3,ry,a,H4,ex,g,q3⟩=>?_) hs
 subst ex
 obtain rfl:u=Value.ref a:=rx
 exact AQ hu I3 g ry rv fun s4 I4=>⟨σ,H4,I4,q3⟩
end
theorem DC {P:Program} {w:World} {H:Hp} (h:Heap) (hb:sysModules<h.objs.size):bM P w H (h.push { cls:=.type "dict", data:=.dict #[] }) h.objs.size (.dK []):=
 ⟨Nat.zero_le _,beq_eq_false_iff_ne.mpr (Ne.symm (Nat.ne_of_lt hb)),[],.nil,Heap.DictOf.new h⟩
theorem wt {P:Program} {w:World} {H:Hp} (h:Heap) (hb:sysModules<h.objs.size):bM P w H (h.push { cls:=.type "dict", data:=.dict #[] }) h.objs.size (.dT []):=
 ⟨Nat.zero_le _,beq_eq_false_iff_ne.mpr (Ne.symm (Nat.ne_of_lt hb)),[],.nil,_,#[],0,Heap.get?_push_size _ rfl,⟨rfl,rfl,rfl⟩,rfl,rfl,List.nodup_nil⟩
noncomputable def Hc:TE:=fun _ H Q=>∀p,H p=none->Q (.ref p) (upd H p (.dK []))
noncomputable def Ip:TE:=fun _ H Q=>∀p,H p=none->Q (.ref p) (upd H p (.dT []))
section
variable {X:Cx} {pos:Pos}
theorem C4:PE X (.Dict [] [] pos) Hc:=fun pins s σ H Q I h=>
 wpAny_Dict_empty ⟨.ref s.heap.objs.size,_,I.laid (a:=s.heap.objs.size) (o:=.dK []) (t':=s.toks) (fun _ _ q=>Heap.get?_push_of_some _ q) (Nat.le_refl _) (DC s.heap I.big),rfl,h _ (I.hok.fresh (Nat.le_refl _))⟩
theorem Bp:PE X (.Dict [] [] pos) Ip:=fun pins s σ H Q I h=>
 wpAny_Dict_empty ⟨.ref s.heap.objs.size,_,I.laid (a:=s.heap.objs.size) (o:=.dT []) (t':=s.toks) (fun _ _ q=>Heap.get?_push_of_some _ q) (Nat.le_refl _) (wt s.heap I.big),rfl,h _ (I.hok.fresh (Nat.le_refl _))⟩
end
structure M2 (X:Cx) (o:Expr) (m:Str) (apos:Pos) (e f:Expr) (cpos:Pos):Prop where
 base:attributeBase o m X.env (eval o X.env)=eval o X.env
 few:((backTo cpos (starEach [e,f] X.env)).all (fun x=>!x.1)&&(backToKw cpos (keywordEach [] X.env)).all (fun x=>x.1.isSome)
  && decide (([e,f]:List Expr).length+([]:List Keyword).length+(if ([]:List Keyword).isEmpty then 0 else 1)<30))=true
 line:(apos.endLine == cpos.line)=true
 trees:backTo cpos (starEach [e,f] X.env)=[(false,eval e X.env),(false,eval f X.env)]
noncomputable def IsD (H:Hp) (a:Addr):Prop:=(∃kvs,Rd H a (.dK kvs))\/∃kvs,Rd H a (.dT kvs)
theorem HE {X:Cx} {pins:List (Addr × Obj)} {σ:St} {H:Hp} {s:Shared} {a:Addr} (I:Inv X pins σ H s) (d:IsD H a) :
  s.TypeIs (.ref a) "dict" /\ (∀b,Value.ref a=.ref b->∃ob,s.heap.get? b=some ob/\ob.dict=none)/\(a == sysModules)=false:=by
 rcases d with⟨kvs,e⟩ | ⟨kvs,e⟩
 ·obtain⟨_,hd,vs,_,dd⟩:=wV I.hok e
  refine⟨dd.typeIs,fun b q=>?_,hd⟩
  cases q
  obtain⟨ob,_,_,h1,h2,_⟩:=dd
  exact⟨ob,h1,h2.2.1⟩
 ·obtain⟨_,hd,xs,_,dd⟩:=xy I.hok e
  refine⟨dd.typeIs,fun b q=>?_,hd⟩
  cases q
  obtain⟨ob,_,_,h1,h2,_⟩:=dd
  exact⟨ob,h1,h2.2.1⟩
section
variable {X:Cx} {pins:List (Addr × Obj)} {σ:St} {H:Hp} {s:Shared} {a:Addr} {y d:V} {u r:Value} {o:Option V} {A:Around} {E:Value->Shared->Prop}
theorem Ia {Q:Value->Shared->Prop} (hu:A.units+1<cLine) (I:Inv X pins σ H s) (g:vA H a y o) (ry:RelV y u) (rd:RelV d r) (h:∀w' s',Inv X pins σ H s'->RelV (o.getD d) w'->Q w' s') :
  wpAny (model X.prog X.w) A (call (.builtin "dict.get") [.ref a,u,r]) Q E s:=by
 rcases g with⟨kvs,k,e,ey,l⟩ | ⟨kvs,k,b,e,ey,eb,l⟩
 ·subst ey
  obtain⟨z,hd,vs,rel,dd⟩:=wV I.hok e
  refine call_meetsIn PySem.F.slot_dict_get dd.typeIs PySem.F.entry_dict_get (PySem.F.args_dict_get_3 _ _ _) (meets_dict_get_default (cQ X.prog X.w) a (yV ry) hd r) ⟨_,dd.mapOf,h _ _ (I.tok _) ?_⟩
  rw[l]
  exact(rel.val k).getD rd
 ·subst ey
  cases (show u=Value.ref b from ry)
  obtain⟨z,hd,xs,rel,dd⟩:=xy I.hok e
  refine call_meetsIn PySem.F.slot_dict_get dd.typeIs PySem.F.entry_dict_get (PySem.F.args_dict_get_3 _ _ _) (meetsH_dict_get_default (tupleKind (cQ X.prog X.w)) a b hd r) ⟨tupleKind_room_in1 hu,k,xs,rp I.hok eb,dd,h _ _ (I.tok _) ?_⟩
  rw[l]
  exact(rel.val k).getD rd
end
noncomputable def Gz (td ty tx:TE):TE:=fun σ H Q=>td σ H fun x H1=>∃a,x=.ref a/\IsD H1 a/\ty σ H1 fun y H2=>tx σ H2 fun z H3=>∃o,vA H3 a y o/\Q (o.getD z) H3
section
variable {X:Cx} {o e f:Expr} {apos cpos:Pos} {td ty tx:TE}
theorem DG (hu:X.A.units+1<cLine) (ho:PE X o td) (he:PE X e ty) (hf:PE X f tx) (m:M2 X o "get" apos e f cpos):PE X (.Call (.Attribute o "get" apos) [e,f] [] cpos) (Gz td ty tx):=by
 intro pins s σ H Q I h
 refine wpAny_Call_method m.base m.few m.line PySem.F.plainAttrs_dict PySem.F.slot_dict_get PySem.F.type_dict_get (thn (ho pins s σ H _ I h) fun u s1 ⟨x,H1,I1,rx,a,ex,d,q1⟩=>?_)
 subst ex
 obtain rfl:u=Value.ref a:=rx
 obtain⟨t1,t2,_⟩:=HE I1 d
 refine⟨t1,t2,?_⟩
 rw[m.trees]
 refine Calls.callWith_builtin rfl (Calls.evalArgs_plain (Calls.spliced_cons (thn (he pins s1 σ H1 _ I1 q1) fun iv s2 ⟨y,H2,I2,ry,q2⟩=>
  Calls.spliced_cons (thn (hf pins s2 σ H2 _ I2 q2) fun fv s3 ⟨z,H3,I3,rz,ov,g,q3⟩=>Calls.spliced_nil ?_))))
 exact Ia hu I3 g ry rz fun w' s4 I4 rw'=>⟨_,H3,I4,rw',q3⟩
end
end L2
namespace L2.FE
open PySem PySem.Spec PyProof.Rows
inductive D where
 | non | bl (b:Bool) | int (i:Int) | str (x:Str) | tup (ds:List D) | frl (ds:List D) | ref (n:Nat) | fn (x:Str) | edic | scr (ds:List D) | exc (c:Str) (fs:List (Str × Int)) | clo (f:Str) (ds:List D)
inductive O where
 | lst (ds:List D) | set (ns:List Int) | dic (kvs:List (Key × D)) | dit (kvs:List (List Key × D))
noncomputable abbrev Hh:=List O
noncomputable abbrev En:=List (Option D)
structure Xc where
 cls:Str
 fs:List (Str × Int)
inductive R (β:Type) where
 | ok (b:β) (h:Hh)
 | err (x:Xc) (h:Hh)
 | bad
noncomputable def R.bind {β γ:Type} (r:R β) (f:β->Hh->R γ):R γ:=match r with
 | .ok b h=>f b h
 | .err x h=>.err x h
 | .bad=>.bad
inductive Fl where
 | nx (e:En) | bk (e:En) | ct (e:En) | rt (d:D)
noncomputable abbrev ME:=En->Hh->R D
noncomputable abbrev MT:=En->Hh->R Bool
noncomputable abbrev MA:=En->Hh->R (List D)
noncomputable abbrev MS:=En->Hh->R Fl
noncomputable def Fro (K:PySem.W.Frag) (H:Hp) (p:Addr) (vs:List V):Prop:=
 (∃o,H p=some (.frz o (.lst vs)))\/∃(o:Obj) (its:Array Value) (n:Nat),K.lookup p=some o/\o.cls=.type "list" /\ o.dict=none/\o.data=.seq its n/\its.size<=sizeLine/\Vals vs its.toList
theorem Fro.sq {K:PySem.W.Frag} {H:Hp} {p:Addr} {vs:List V} (h:Fro K H p vs):SqL K H p vs:=by
 rcases h with⟨o,h⟩ | h
 ·exact .inl (.inr ⟨o,h⟩)
 ·exact .inr h
noncomputable def Fr1 (H:Hp) (p:Addr) (vs:List V):Prop:=∃o,H p=some (.frz o (.lst vs))
theorem Fr1.fro {K:PySem.W.Frag} {H:Hp} {p:Addr} {vs:List V} (h:Fr1 H p vs):Fro K H p vs:=.inl h
theorem Fr1.sq {K:PySem.W.Frag} {H:Hp} {p:Addr} {vs:List V} (h:Fr1 H p vs):SqL K H p vs:=let ⟨o,h⟩:=h;.inl (.inr ⟨o,h⟩)
theorem Fr1.rd {H:Hp} {p:Addr} {vs:List V} (h:Fr1 H p vs):Rd H p (.lst vs):=.inr h
noncomputable def AtO (p:Addr) (o:Obj):HO:=.frz o (.ext fun h=>h.get? p=some o)
noncomputable def XFs (H:Hp) (dc:Option Addr) (fs:List (Str × Int)):Prop:=(dc=none/\fs=[])\/∃dx od,dc=some dx/\H dx=some (.frz od (.xd (fs.map fun x=>(x.1,V.int x.2))))
noncomputable def lS (H:Hp) (clos:List (Str × Addr)):List Str->List V->Prop:=Paired fun y v=>∃c o u,clos.lookup y=some c/\H c=some (AtO c o)/\o.data=.cell (some u)/\RelV v u
structure xg (f x qual:Str) (ys:List Str) (params:Arguments) (body:Expr) (scope:Scope):Prop where
 tx:∃(p0 p2 p3:Pos) (qs:List (Str × Pos)),qs.map (·.1)=ys/\body=.Call (.Name f p0) (qs.map (fun y=>Expr.Name y.1 y.2)++[.Name x p2]) [] p3
 kind:scope.kind=.function
 co:scope.isCoroutine=false
 gen:scope.isGenerator=false
 HJ:∀z∈scope.names,z.2≠.cell
 glob:scope.names.lookup f=some .globalImplicit
 loc:scope.names.lookup x=some .local
 free:∀y∈ys,scope.names.lookup y=some .free/\(y == ("__debug__" : Str))=false/\(y == ("__classdict__" : Str))=false
 nd:(f == ("__debug__" : Str))=false/\(x == ("__debug__" : Str))=false
 bind:∀clos pm cdv ctv u,bindArgs (PySem.W.kla_fn "<lambda>" qual params body scope clos pm cdv ctv) ⟨[u],[]⟩=pure [(x,u)]
noncomputable def Gi (f:Str) (clos:List (Str × Addr)) (ys:List Str) (o:Obj) (c':Addr) (qual:Str):Prop:=
 ∃(params:Arguments) (body:Expr) (scope:Scope) (pm ctv:Value) (x:Str),o=PySem.W.kla_obj "<lambda>" qual params body scope clos pm c' ctv/\xg f x qual ys params body scope
mutual
inductive aM (K:PySem.W.Frag) (g:Str->Option Addr) (α:List Addr) (H:Hp):D->V->Prop where
 | non:aM K g α H .non .non
 | bl (b):aM K g α H (.bl b) (.bl b)
 | int (i):aM K g α H (.int i) (.int i)
 | str (x):aM K g α H (.str x) (.str x)
 | ref {n p}:α[n]?=some p->aM K g α H (.ref n) (.ref p)
 | tup {ds p vs}:H p=some (.tup vs)->aw K g α H ds vs->aM K g α H (.tup ds) (.ref p)
 | frl {ds p vs}:Fr1 H p vs->aw K g α H ds vs->aM K g α H (.frl ds) (.ref p)
 | scr {ds p vs}:Fro K H p vs->aw K g α H ds vs->aM K g α H (.scr ds) (.ref p)
 | fn {x f}:g x=some f->aM K g α H (.fn x) (.ref f)
 | edic {p o}:H p=some (.frz o (.dK []))->aM K g α H .edic (.ref p)
 | exc {c C p o fs}:g c=some C->H p=some (AtO p o)->o.cls=.ref C->(∃vs,o.data=.fields vs)->XFs H o.dict fs->aM K g α H (.exc c fs) (.ref p)
 | clo {f ds p o clos ys vs c' oc qual t vc}:H p=some (AtO p o)->Gi f clos ys o c' qual->H c'=some (AtO c' oc)->oc.data=.fields vc->vc[1]?=some (.str qual t)->lS H clos ys vs->aw K g α H ds vs->aM K g α H (.clo f ds) (.ref p)
inductive aw (K:PySem.W.Frag) (g:Str->Option Addr) (α:List Addr) (H:Hp):List D->List V->Prop where
 | nil:aw K g α H [] []
 | cons {d v ds vs}:aM K g α H d v->aw K g α H ds vs->aw K g α H (d::ds) (v::vs)
end
structure Ex0 (K:PySem.W.Frag) (α:List Addr) (H:Hp) (α':List Addr) (H':Hp):Prop where
 pre:α <+: α'
 tup:∀(p:Addr) (xs:List V),H p=some (.tup xs)->H' p=some (.tup xs)
 frz:∀(p:Addr) (o:Obj) (u:HO),H p=some (.frz o u)->H' p=some (.frz o u)
 tbl:∀(p:Addr) (ps:Array Value),H p=some (.tbl ps)->∃more,H' p=some (.tbl (ps++more))
theorem Ex0.fro {K:PySem.W.Frag} {α α':List Addr} {H H':Hp} (e:Ex0 K α H α' H') (p:Addr) (xs:List V) (h:Fro K H p xs):Fro K H' p xs:=by
 rcases h with⟨o,h⟩ | h
 ·exact .inl ⟨o,e.frz _ _ _ h⟩
 ·exact .inr h
theorem Ex0.fr1 {K:PySem.W.Frag} {α α':List Addr} {H H':Hp} (e:Ex0 K α H α' H') (p:Addr) (xs:List V) (h:Fr1 H p xs):Fr1 H' p xs:=let ⟨o,h⟩:=h;⟨o,e.frz _ _ _ h⟩
structure Ext (K:PySem.W.Frag) (α:List Addr) (H:Hp) (α':List Addr) (H':Hp):Prop extends Ex0 K α H α' H' where
 kept:∀p o,H p=some o->p∉α->(∀ps,o≠.tbl ps)->H' p=some o
 new:∀p,p∈α'->p∉α->H p=none
section
variable {K:PySem.W.Frag} {g:Str->Option Addr} {α α' α'':List Addr} {H H' H'':Hp}
theorem Ext.keep (e:Ext K α H α' H') (p:Addr) (o:HO) (h:H p=some o) (n:p∉α) (t:∀ps,o≠.tbl ps:=by intro _ z;cases z):H' p=some o:=e.kept p o h n t
theorem Ext.stays (e:Ext K α H α' H') {p:Addr} {o:HO} (h:H p=some o) (n:p∉α):H' p≠none:=by
 cases o with
 | tbl ps=>obtain⟨m,q⟩:=e.tbl p ps h;rw[q];exact fun z=>nomatch z
 | _=>rw[e.keep p _ h n];exact fun z=>nomatch z
theorem Ex0.refl:Ex0 K α H α H:=⟨List.prefix_refl _,fun _ _ h=>h,fun _ _ _ h=>h,fun _ ps h=>⟨#[],by rw[h];simp⟩⟩
theorem Ex0.trans (a:Ex0 K α H α' H') (b:Ex0 K α' H' α'' H''):Ex0 K α H α'' H'':=⟨a.pre.trans b.pre,fun p xs h=>b.tup p xs (a.tup p xs h),fun p o u h=>b.frz p o u (a.frz p o u h),fun p ps h=>by
  obtain⟨m1,e1⟩:=a.tbl p ps h
  obtain⟨m2,e2⟩:=b.tbl p _ e1
  exact⟨m1++m2,by rw[e2,Array.append_assoc]⟩⟩
theorem Ext.refl:Ext K α H α H:=⟨.refl,fun _ _ h _ _=>h,fun _ h n=>absurd h n⟩
theorem Ext.trans (a:Ext K α H α' H') (b:Ext K α' H' α'' H''):Ext K α H α'' H'':=⟨a.toEx0.trans b.toEx0,fun p o h n t=>b.kept p o (a.kept p o h n t) (fun z=>by rw[a.new p z n] at h;cases h) t,fun p z n=>by
  by_cases q:p∈α'
  ·exact a.new p q n
  ·have:=b.new p z q
   cases e:H p with
   | none=>rfl
   | some o=>exact absurd this (a.stays e n)⟩
theorem Ex0.get (e:Ex0 K α H α' H') {n:Nat} {p:Addr} (h:α[n]?=some p):α'[n]?=some p:=by
 obtain⟨t,rfl⟩:=e.pre
 have hl:n<α.length:=by
  by_cases hl:n<α.length
  ·exact hl
  ·rw[List.getElem?_eq_none (by omega)] at h;cases h
 rw[List.getElem?_append_left hl];exact h
mutual
theorem aM.ex0 (e:Ex0 K α H α' H'):∀{d:D} {v:V},aM K g α H d v->aM K g α' H' d v
 | _,_,.non=>.non
 | _,_,.bl b=>.bl b
 | _,_,.int i=>.int i
 | _,_,.str x=>.str x
 | _,_,.ref h=>.ref (e.get h)
 | _,_,.tup h r=>.tup (e.tup _ _ h) (aw.ex0 e r)
 | _,_,.frl h r=>.frl (e.fr1 _ _ h) (aw.ex0 e r)
 | _,_,.scr h r=>.scr (e.fro _ _ h) (aw.ex0 e r)
 | _,_,.fn h=>.fn h
 | _,_,.edic h=>.edic (e.frz _ _ _ h)
 | _,_,.exc hg h hc hd hf=>.exc hg (e.frz _ _ _ h) hc hd (hf.elim .inl fun⟨dx,od,a,b⟩=>.inr ⟨dx,od,a,e.frz _ _ _ b⟩)
 | _,_,.clo h l hc hd hv cs r=>.clo (e.frz _ _ _ h) l (e.frz _ _ _ hc) hd hv (L2.Paired.rP cs fun _ _ ⟨c,o,u,l,a,b⟩=>⟨c,o,u,l,e.frz _ _ _ a,b⟩) (aw.ex0 e r)
theorem aw.ex0 (e:Ex0 K α H α' H'):∀{ds:List D} {vs:List V},aw K g α H ds vs->aw K g α' H' ds vs
 | _,_,.nil=>.nil
 | _,_,.cons r t=>.cons (aM.ex0 e r) (aw.ex0 e t)
end
theorem aM.ext (e:Ext K α H α' H') {d:D} {v:V} (r:aM K g α H d v):aM K g α' H' d v:=r.ex0 e.toEx0
theorem aw.ext (e:Ext K α H α' H') {d:List D} {v:List V} (r:aw K g α H d v):aw K g α' H' d v:=r.ex0 e.toEx0
theorem aw.length:∀{ds:List D} {vs:List V},aw K g α H ds vs->ds.length=vs.length
 | _,_,.nil=>rfl
 | _,_,.cons _ t=>by simp[aw.length t]
theorem aw.append:∀{ds es:List D} {vs us:List V},aw K g α H ds vs->aw K g α H es us->aw K g α H (ds++es) (vs++us)
 | _,_,_,_,.nil,s=>s
 | _,_,_,_,.cons r t,s=>.cons r (aw.append t s)
theorem aw.get:∀{ds:List D} {vs:List V} {i:Nat} {d:D},aw K g α H ds vs->ds[i]?=some d->∃v,vs[i]?=some v/\aM K g α H d v
 | _,_,_,_,.nil,e=>by simp at e
 | _,_,0,_,.cons r _,e=>by simp at e;subst e;exact⟨_,rfl,r⟩
 | _,_,i+1,d,.cons _ t,e=>by
  obtain⟨u,h1,h2⟩:=aw.get (i:=i) (d:=d) t (by simpa using e)
  exact⟨u,by simpa using h1,h2⟩
theorem aw.set {d:D} {v:V} (r:aM K g α H d v):∀{ds:List D} {vs:List V} (i:Nat),aw K g α H ds vs->aw K g α H (ds.set i d) (vs.set i v)
 | _,_,_,.nil=>.nil
 | _,_,0,.cons _ t=>.cons r t
 | _,_,i+1,.cons q t=>.cons q (aw.set r i t)
theorem aw.take:∀{ds:List D} {vs:List V} (n:Nat),aw K g α H ds vs->aw K g α H (ds.take n) (vs.take n)
 | _,_,0,_=>.nil
 | _,_,_+1,.nil=>.nil
 | _,_,n+1,.cons r t=>.cons r (aw.take n t)
theorem aw.drop:∀{ds:List D} {vs:List V} (n:Nat),aw K g α H ds vs->aw K g α H (ds.drop n) (vs.drop n)
 | _,_,0,r=>r
 | _,_,_+1,.nil=>.nil
 | _,_,n+1,.cons _ t=>aw.drop n t
theorem aw.erase:∀{ds:List D} {vs:List V} (i:Nat),aw K g α H ds vs->aw K g α H (ds.eraseIdx i) (vs.eraseIdx i)
 | _,_,_,.nil=>.nil
 | _,_,0,.cons _ t=>t
 | _,_,i+1,.cons q t=>.cons q (aw.erase i t)
theorem aw.ints (ns:List Int):aw K g α H (ns.map D.int) (ns.map V.int):=by
 induction ns with
 | nil=>exact .nil
 | cons n r ih=>exact .cons (.int n) ih
theorem aw.zm:∀{ns:List Int} {vs:List V},aw K g α H (ns.map D.int) vs->vs=ns.map V.int
 | [],_,.nil=>rfl
 | n::r,_,.cons (.int _) t=>by rw[aw.zm t];rfl
theorem aw.flat {ds:List D} {vs:List V} (r:aw K g α H ds vs):∀k,aw K g α H (List.replicate k ds).flatten (List.replicate k vs).flatten
 | 0=>.nil
 | k+1=>by rw[List.replicate_succ,List.replicate_succ,List.flatten_cons,List.flatten_cons];exact r.append (aw.flat r k)
end
noncomputable def OAt (K:PySem.W.Frag) (g:Str->Option Addr) (α:List Addr) (H:Hp) (p:Addr):O->Prop
 | .lst ds=>∃vs,H p=some (.lst vs)/\aw K g α H ds vs
 | .set ns=>H p=some (.set (fun k=>ns.any (· == k)) ns.length)
 | .dic kvs=>∃kws,H p=some (.dK kws)/\Paired (fun(a:Key × D) (b:Key × V)=>a.1=b.1/\aM K g α H a.2 b.2) kvs kws
 | .dit kvs=>∃kws,H p=some (.dT kws)/\Paired (fun(a:List Key × D) (b:List Key × V)=>a.1=b.1/\aM K g α H a.2 b.2) kvs kws
noncomputable def v9 (H:Hp) (q:Addr × Pos × Str):Prop:=H q.1=some (.tbl #[])\/∃(c':Addr) (oc:Obj) (vc:Array Value) (t:Tok),H q.1=some (.tbl #[rawInt q.2.1.line,rawInt q.2.1.col,.ref c'])/\H c'=some (AtO c' oc)/\oc.data=.fields vc/\vc[1]?=some (.str q.2.2 t)
noncomputable def D_ (fd:FuncData):Option Pos:=match fd.body with
 | .stmts b=>(match b.getLast? with
  | some (.Return (some (.Lambda _ _ _ pos)) _)=>some pos
  | some (.Return (some (.Call _ es _ _)) _)=>(match es.getLast? with | some (.Lambda _ _ _ pos)=>some pos | _=>none)
  | _=>none)
 | _=>none
noncomputable def lT (K:PySem.W.Frag) (f:Addr):Option (Addr × Pos × Str):=match K.lookup f with
 | some ⟨_,_,.func fd,_⟩=>(match D_ fd,fd.code with
  | some pos,.ref c=>(match K.lookup c with
   | some ⟨_,_,.fields vs,_⟩=>(match (vs[11]?:Option Value) with | some (.ref P)=>some (P,pos,fd.qualname++".<locals>." ++ "<lambda>") | _=>none)
   | _=>none)
  | _,_=>none)
 | _=>none
noncomputable def jQ (K:PySem.W.Frag) (H:Hp):Prop:=∀f P,lT K f=some P->v9 H P
structure aZ (K:PySem.W.Frag) (g:Str->Option Addr) (α:List Addr) (H:Hp) (h:Hh):Prop where
 len:α.length=h.length
 inj:∀(n m:Nat) (p:Addr),α[n]?=some p->α[m]?=some p->n=m
 here:∀(n:Nat) (p:Addr) (o:O),α[n]?=some p->h[n]?=some o->OAt K g α H p o
 tab:jQ K H
section
variable {K:PySem.W.Frag} {g:Str->Option Addr} {α α':List Addr} {H H':Hp} {h:Hh}
theorem Paired.Kz {kvs:List (Key × D)} {kws:List (Key × V)} (e:Ex0 K α H α' H') (r:Paired (fun(a:Key × D) (b:Key × V)=>a.1=b.1/\aM K g α H a.2 b.2) kvs kws) :
  Paired (fun(a:Key × D) (b:Key × V)=>a.1=b.1/\aM K g α' H' a.2 b.2) kvs kws:=L2.Paired.rP r fun _ _ q=>⟨q.1,q.2.ex0 e⟩
theorem Paired.Jk {kvs:List (List Key × D)} {kws:List (List Key × V)} (e:Ex0 K α H α' H') (r:Paired (fun(a:List Key × D) (b:List Key × V)=>a.1=b.1/\aM K g α H a.2 b.2) kvs kws) :
  Paired (fun(a:List Key × D) (b:List Key × V)=>a.1=b.1/\aM K g α' H' a.2 b.2) kvs kws:=L2.Paired.rP r fun _ _ q=>⟨q.1,q.2.ex0 e⟩
theorem v9.mono {P:Addr × Pos × Str} (t:v9 H P) (a:∀b ps,H b=some (.tbl ps)->H' b=some (.tbl ps)) (z:∀b o u,H b=some (.frz o u)->H' b=some (.frz o u)):v9 H' P:=by
 rcases t with h | ⟨c',oc,vc,tk,h,hc,hd⟩
 ·exact .inl (a _ _ h)
 ·exact .inr ⟨c',oc,vc,tk,a _ _ h,z _ _ _ hc,hd⟩
theorem jQ.mono (t:jQ K H) (a:∀b ps,H b=some (.tbl ps)->H' b=some (.tbl ps)) (z:∀b o u,H b=some (.frz o u)->H' b=some (.frz o u)):jQ K H':=fun f P e=>(t f P e).mono a z
theorem jQ.upd {p:Addr} {o:HO} (t:jQ K H) (n:H p=none\/∃u,H p=some u/\(∀ys,u≠.tup ys)/\(∀w ys,u≠.frz w ys)/\∀ps,u≠.tbl ps):jQ K (upd H p o):=by
 have ne:∀q u,H q=some u->((∃w ys,u=.frz w ys)\/∃ps,u=.tbl ps)->q≠p:=by
  rintro q u e z rfl
  rcases n with n | ⟨u',e',_,n2,n3⟩
  ·rw[e] at n;cases n
  ·rw[e] at e';cases e'
   rcases z with⟨w,ys,z⟩ | ⟨ps,z⟩
   ·exact n2 _ _ z
   ·exact n3 _ z
 intro f P e
 rcases t f P e with h | ⟨c',oc,vc,tk,h,hc,hd⟩
 ·exact .inl (by rw[aC (ne _ _ h (.inr ⟨_,rfl⟩))];exact h)
 ·exact .inr ⟨c',oc,vc,tk,by rw[aC (ne _ _ h (.inr ⟨_,rfl⟩))];exact h,by rw[aC (ne _ _ hc (.inl ⟨_,_,rfl⟩))];exact hc,hd⟩
theorem OAt.isS {p:Addr} {o:O} (h:OAt K g α H p o):∃u,H p=some u/\(∀ys,u≠.tup ys)/\(∀w ys,u≠.frz w ys)/\∀ps,u≠.tbl ps:=by
 cases o with
 | lst ds=>obtain⟨vs,e,_⟩:=h;exact⟨_,e,fun _ z=>(nomatch z),fun _ _ z=>(nomatch z),fun _ z=>nomatch z⟩
 | set n=>exact⟨_,h,fun _ z=>(nomatch z),fun _ _ z=>(nomatch z),fun _ z=>nomatch z⟩
 | dic kvs=>obtain⟨vs,e,_⟩:=h;exact⟨_,e,fun _ z=>(nomatch z),fun _ _ z=>(nomatch z),fun _ z=>nomatch z⟩
 | dit kvs=>obtain⟨vs,e,_⟩:=h;exact⟨_,e,fun _ z=>(nomatch z),fun _ _ z=>(nomatch z),fun _ z=>nomatch z⟩
theorem aZ.mem (r:aZ K g α H h) {p:Addr} (hp:p∈α):∃u,H p=some u/\(∀ys,u≠.tup ys)/\(∀w ys,u≠.frz w ys)/\∀ps,u≠.tbl ps:=by
 obtain⟨n,hn,e⟩:=List.getElem_of_mem hp
 have hn':n<h.length:=by rw[<- r.len];exact hn
 exact(r.here n p _ (by rw[List.getElem?_eq_getElem hn,e]) (List.getElem?_eq_getElem hn')).isS
theorem OAt.ex0 {p:Addr} {o:O} (e:Ex0 K α H α' H') (h:OAt K g α H p o) (k:∀u,H p=some u->H' p=some u):OAt K g α' H' p o:=by
 cases o with
 | lst ds=>obtain⟨vs,a,r⟩:=h;exact⟨vs,k _ a,r.ex0 e⟩
 | set n=>exact k _ h
 | dic kvs=>obtain⟨kws,a,r⟩:=h;exact⟨kws,k _ a,Paired.Kz e r⟩
 | dit kvs=>obtain⟨kws,a,r⟩:=h;exact⟨kws,k _ a,Paired.Jk e r⟩
noncomputable def Fi (H:Hp) (p:Addr):Prop:=H p=none\/∃u,H p=some u/\(∀ys,u≠.tup ys)/\(∀w ys,u≠.frz w ys)/\∀ps,u≠.tbl ps
theorem Ex0.upd {p:Addr} {o:HO} (n:Fi H p):Ex0 K α H α (upd H p o):=by
 have ne:∀q u,H q=some u->((∃ys,u=.tup ys)\/(∃w ys,u=.frz w ys)\/∃ps,u=.tbl ps)->q≠p:=by
  rintro q u e z rfl
  rcases n with n | ⟨u',e',n1,n2,n3⟩
  ·rw[e] at n;cases n
  ·rw[e] at e';cases e'
   rcases z with⟨ys,z⟩ | ⟨w,ys,z⟩ | ⟨ps,z⟩
   ·exact n1 _ z
   ·exact n2 _ _ z
   ·exact n3 _ z
 refine⟨List.prefix_refl _,fun q xs h=>?_,fun q o u h=>?_,fun q ps h=>⟨#[],?_⟩⟩
 ·rw[aC (ne q _ h (.inl ⟨_,rfl⟩))];exact h
 ·rw[aC (ne q _ h (.inr (.inl ⟨_,_,rfl⟩)))];exact h
 ·rw[aC (ne q _ h (.inr (.inr ⟨_,rfl⟩))),h];simp
theorem Ex0.more (e:Ex0 K α H α H') (l:List Addr):Ex0 K α H (α++l) H':=⟨List.prefix_append _ _,e.tup,e.frz,e.tbl⟩
theorem Ext.fresh {p:Addr} {o:HO} (n:H p=none):Ext K α H α (upd H p o):=⟨Ex0.upd (.inl n),fun q u h _ _=>by rw[aC (aN h n)];exact h,fun _ z m=>absurd z m⟩
theorem Ext.push {p:Addr} {o:HO} (n:H p=none):Ext K α H (α++[p]) (upd H p o):=⟨(Ex0.upd (.inl n)).more _,fun q u h _ _=>by rw[aC (aN h n)];exact h,fun q z m=>by
 rcases List.mem_append.mp z with z | z
 ·exact absurd z m
 ·rw[List.mem_singleton.mp z];exact n⟩
theorem aZ.off {p:Addr} {o:HO} (r:aZ K g α H h) (n:Fi H p) (m:p∉α):aZ K g α (upd H p o) h:=by
 refine⟨r.len,r.inj,fun k q u a b=>(r.here k q u a b).ex0 (Ex0.upd n) fun w e=>?_,r.tab.upd n⟩
 rw[aC];exact e
 rintro rfl;exact m (List.mem_of_getElem? a)
theorem aZ.free (r:aZ K g α H h) {p:Addr} (n:H p=none):p∉α:=fun z=>by
 obtain⟨u,e,_⟩:=r.mem z
 rw[n] at e;cases e
theorem aZ.grow {p:Addr} {o:HO} (r:aZ K g α H h) (n:H p=none):aZ K g α (upd H p o) h:=r.off (.inl n) (r.free n)
theorem aZ.adopt {p:Addr} {u:O} (r:aZ K g α H h) (n:p∉α) (a:OAt K g (α++[p]) H p u):aZ K g (α++[p]) H (h++[u]):=by
 have old:∀{m:Nat} {q:Addr},(α++[p])[m]?=some q->(α[m]?=some q)\/(m=α.length/\q=p):=by
  intro m q h1
  by_cases hm:m<α.length
  ·rw[List.getElem?_append_left hm] at h1
   exact .inl h1
  ·have hl:m<(α++[p]).length:=by
    by_cases hl:m<(α++[p]).length
    ·exact hl
    ·rw[List.getElem?_eq_none (by omega)] at h1;cases h1
   have e:m=α.length:=by simp at hl;omega
   subst e
   rw[List.getElem?_append_right (Nat.le_refl _)] at h1
   simp at h1
   exact .inr ⟨rfl,h1.symm⟩
 refine⟨by simp[r.len],fun m k q h1 h2=>?_,fun m q w h1 h2=>?_,r.tab⟩
 ·rcases old h1 with a1 | ⟨e1,e2⟩
  ·rcases old h2 with a2 | ⟨e3,e4⟩
   ·exact r.inj m k q a1 a2
   ·rw[e4] at a1;exact absurd (List.mem_of_getElem? a1) n
  ·rcases old h2 with a2 | ⟨e3,e4⟩
   ·rw[e2] at a2;exact absurd (List.mem_of_getElem? a2) n
   ·rw[e1,e3]
 ·rcases old h1 with a1 | ⟨e1,e2⟩
  ·have hm:m<α.length:=by
    by_cases hl:m<α.length
    ·exact hl
    ·rw[List.getElem?_eq_none (by omega)] at a1;cases a1
   rw[List.getElem?_append_left (by rw[<- r.len];exact hm)] at h2
   exact(r.here m q w a1 h2).ex0 (Ex0.refl.more _) fun _ z=>z
  ·subst e1 e2
   rw[r.len,List.getElem?_append_right (Nat.le_refl _)] at h2
   simp at h2
   subst h2
   exact a
theorem aZ.push {p:Addr} {o:HO} {u:O} (r:aZ K g α H h) (n:H p=none) (a:OAt K g (α++[p]) (upd H p o) p u):aZ K g (α++[p]) (upd H p o) (h++[u]):=(r.grow n).adopt (r.free n) a
theorem Ext.write {p:Addr} {o:HO} {k:Nat} (r:aZ K g α H h) (hk:α[k]?=some p):Ext K α H α (upd H p o):=
 ⟨Ex0.upd (.inr (r.mem (List.mem_of_getElem? hk))),fun q u h m _=>by
  rw[aC];exact h
  rintro rfl;exact m (List.mem_of_getElem? hk),fun _ z m=>absurd z m⟩
theorem aZ.write {p:Addr} {o:HO} {u':O} {k:Nat} (r:aZ K g α H h) (hk:α[k]?=some p) (a:OAt K g α (upd H p o) p u'):aZ K g α (upd H p o) (h.set k u'):=by
 have x:Ext K α H α (upd H p o):=Ext.write r hk
 refine⟨by simp[r.len],r.inj,fun m q w h1 h2=>?_,r.tab.upd (.inr (r.mem (List.mem_of_getElem? hk)))⟩
 rw[List.getElem?_set] at h2
 by_cases hm:k=m
 ·subst hm
  rw[if_pos rfl] at h2
  split at h2
  ·cases h2;rw[h1] at hk;cases hk;exact a
  ·cases h2
 ·rw[if_neg hm] at h2
  refine(r.here m q w h1 h2).ex0 x.toEx0 fun z e=>?_
  rw[aC];exact e
  rintro rfl;exact hm (r.inj _ _ _ hk h1)
end
noncomputable abbrev GG:=Str->Option Addr
noncomputable abbrev EE:=List Addr->Hp->Xc->Prop
structure mF (K:PySem.W.Frag) (g:GG) (α:List Addr) (H:Hp) (env:En) (σ:St):Prop where
 len:env.length=σ.length
 vars:∀(i:Nat) (d:D),env[i]?=some (some d)->∃v,σ[i]?=some (some v)/\aM K g α H d v
structure eP (K:PySem.W.Frag) (g:GG) (α:List Addr) (H:Hp) (env:En) (σ:St) (h:Hh):Prop where
 heap:aZ K g α H h
 vs:mF K g α H env σ
noncomputable def WQ (K:PySem.W.Frag) (g:GG) (ε:EE) (α:List Addr) (H:Hp) {β:Type} (r:R β) (k:β->Hh->Prop):Prop:=match r with
 | .ok b h=>k b h
 | .err x h=>∀α' H',Ext K α H α' H'->aZ K g α' H' h->ε α' H' x
 | .bad=>False
section
variable {K:PySem.W.Frag} {g:GG} {ε:EE} {α α':List Addr} {H H':Hp} {β γ:Type}
theorem WQ.bind {r:R β} {f:β->Hh->R γ} {k:γ->Hh->Prop} (w:WQ K g ε α H (r.bind f) k):WQ K g ε α H r fun b h=>WQ K g ε α H (f b h) k:=by
 cases r<;>exact w
theorem WQ.ext {r:R β} {k:β->Hh->Prop} (e:Ext K α H α' H') (w:WQ K g ε α H r k):WQ K g ε α' H' r k:=by
 cases r with
 | ok b h=>exact w
 | err x h=>exact fun a b c d=>w a b (e.trans c) d
 | bad=>exact w
theorem WQ.mono {r:R β} {k k':β->Hh->Prop} (w:WQ K g ε α H r k) (m:∀b h,r=.ok b h->k b h->k' b h):WQ K g ε α H r k':=by
 cases r with
 | ok b h=>exact m b h rfl w
 | err x h=>exact w
 | bad=>exact w
theorem mF.ext {env:En} {σ:St} (v:mF K g α H env σ) (e:Ext K α H α' H'):mF K g α' H' env σ:=
 ⟨v.len,fun i d h=>let ⟨x,a,b⟩:=v.vars i d h;⟨x,a,b.ext e⟩⟩
theorem eP.ext {env:En} {σ:St} {h h':Hh} (v:eP K g α H env σ h) (e:Ext K α H α' H') (r:aZ K g α' H' h'):eP K g α' H' env σ h':=⟨r,v.vs.ext e⟩
theorem mF.set {env:En} {σ:St} {i:Nat} {d:D} {x:V} (v:mF K g α H env σ) (r:aM K g α H d x):mF K g α H (env.set i (some d)) (σ.set i (some x)):=by
 refine⟨by simp[v.len],fun j e h=>?_⟩
 rw[List.getElem?_set] at h ⊢
 by_cases hj:i=j
 ·subst hj
  rw[if_pos rfl] at h ⊢
  have hl:=v.len
  split at h
  ·rw[if_pos (by omega)]
   cases h
   exact⟨x,rfl,r⟩
  ·cases h
 ·rw[if_neg hj] at h ⊢
  exact v.vars j e h
end
noncomputable def aF (K:PySem.W.Frag) (g:GG) (α:List Addr) (H:Hp) (Q:VK):D->Hh->Prop:=fun d h=>∀v H' α',Ext K α H α' H'->aZ K g α' H' h->aM K g α' H' d v->Q v H'
noncomputable def n_ (K:PySem.W.Frag) (g:GG) (α:List Addr) (H:Hp) (Q:Bool->Hp->Prop):Bool->Hh->Prop:=fun b h=>∀H' α',Ext K α H α' H'->aZ K g α' H' h->Q b H'
noncomputable def JS (K:PySem.W.Frag) (g:GG) (α:List Addr) (H:Hp) (Q:List V->Hp->Prop):List D->Hh->Prop:=fun ds h=>∀vs H' α',Ext K α H α' H'->aZ K g α' H' h->aw K g α' H' ds vs->Q vs H'
noncomputable def eA (K:PySem.W.Frag) (g:GG) (α:List Addr) (H:Hp) (E:Ends):Fl->Hh->Prop:=fun fl h=>∀H' α',Ext K α H α' H'->aZ K g α' H' h->match fl with
 | .nx e=>∀σ,mF K g α' H' e σ->E.nx σ H'
 | .bk e=>∀σ,mF K g α' H' e σ->E.bk σ H'
 | .ct e=>∀σ,mF K g α' H' e σ->E.ct σ H'
 | .rt d=>∀v,aM K g α' H' d v->E.rt v H'
noncomputable def tM (K:PySem.W.Frag) (g:GG) (ε:EE) (m:ME):TE:=fun σ H Q=>∃α env h,eP K g α H env σ h/\WQ K g ε α H (m env h) (aF K g α H Q)
noncomputable def tMT (K:PySem.W.Frag) (g:GG) (ε:EE) (m:MT):TT:=fun σ H Q=>∃α env h,eP K g α H env σ h/\WQ K g ε α H (m env h) (n_ K g α H Q)
noncomputable def tMA (K:PySem.W.Frag) (g:GG) (ε:EE) (m:MA):TA:=fun σ H Q=>∃α env h,eP K g α H env σ h/\WQ K g ε α H (m env h) (JS K g α H Q)
noncomputable def tMS (K:PySem.W.Frag) (g:GG) (ε:EE) (m:MS):TS:=fun E σ H=>∃α env h,eP K g α H env σ h/\WQ K g ε α H (m env h) (eA K g α H E)
section
variable {K:PySem.W.Frag} {g:GG} {ε:EE} {α α':List Addr} {H H':Hp} {env:En} {σ:St} {h:Hh}
theorem aF.ext {Q:VK} {d:D} (e:Ext K α H α' H') (p:aF K g α H Q d h):aF K g α' H' Q d h:=fun v H2 α2 e2 r rd=>p v H2 α2 (e.trans e2) r rd
theorem n_.ext {Q:Bool->Hp->Prop} {d:Bool} (e:Ext K α H α' H') (p:n_ K g α H Q d h):n_ K g α' H' Q d h:=fun H2 α2 e2 r=>p H2 α2 (e.trans e2) r
theorem eA.ext {E:Ends} {d:Fl} (e:Ext K α H α' H') (p:eA K g α H E d h):eA K g α' H' E d h:=fun H2 α2 e2 r=>p H2 α2 (e.trans e2) r
theorem WQ.post {Q:VK} {r:R D} (e:Ext K α H α' H') (w:WQ K g ε α H r (aF K g α H Q)):WQ K g ε α' H' r (aF K g α' H' Q):=(w.ext e).mono fun _ _ _ p=>p.ext e
theorem WQ.J0 {Q:Bool->Hp->Prop} {r:R Bool} (e:Ext K α H α' H') (w:WQ K g ε α H r (n_ K g α H Q)):WQ K g ε α' H' r (n_ K g α' H' Q):=(w.ext e).mono fun _ _ _ p=>p.ext e
theorem WQ.zL {E:Ends} {r:R Fl} (e:Ext K α H α' H') (w:WQ K g ε α H r (eA K g α H E)):WQ K g ε α' H' r (eA K g α' H' E):=(w.ext e).mono fun _ _ _ p=>p.ext e
theorem tM.use {m:ME} {Q:VK} {k:D->Hh->Prop} (s:eP K g α H env σ h) (w:WQ K g ε α H (m env h) k)
  (q:∀d h' v H' α',Ext K α H α' H'->eP K g α' H' env σ h'->aM K g α' H' d v->k d h'->Q v H'):tM K g ε m σ H Q:=
 ⟨α,env,h,s,w.mono fun d h' _ kk v H' α' e r rd=>q d h' v H' α' e (s.ext e r) rd kk⟩
theorem tMT.use {m:MT} {Q:Bool->Hp->Prop} {k:Bool->Hh->Prop} (s:eP K g α H env σ h) (w:WQ K g ε α H (m env h) k)
  (q:∀d h' H' α',Ext K α H α' H'->eP K g α' H' env σ h'->k d h'->Q d H'):tMT K g ε m σ H Q:=
 ⟨α,env,h,s,w.mono fun d h' _ kk H' α' e r=>q d h' H' α' e (s.ext e r) kk⟩
theorem tMA.use {m:MA} {Q:List V->Hp->Prop} {k:List D->Hh->Prop} (s:eP K g α H env σ h) (w:WQ K g ε α H (m env h) k)
  (q:∀d h' v H' α',Ext K α H α' H'->eP K g α' H' env σ h'->aw K g α' H' d v->k d h'->Q v H'):tMA K g ε m σ H Q:=
 ⟨α,env,h,s,w.mono fun d h' _ kk v H' α' e r rd=>q d h' v H' α' e (s.ext e r) rd kk⟩
theorem aF.now {Q:VK} {d:D} {v:V} (p:aF K g α H Q d h) (r:aZ K g α H h) (rd:aM K g α H d v):Q v H:=p v H α Ext.refl r rd
end
theorem PE.imp {X:Cx} {e:Expr} {t t':TE} (h:PE X e t) (i:∀σ H Q,t' σ H Q->t σ H Q):PE X e t':=fun pins s σ H Q I w=>h pins s σ H Q I (i σ H Q w)
theorem PT.imp {X:Cx} {e:Expr} {t t':TT} (h:PT X e t) (i:∀σ H Q,t' σ H Q->t σ H Q):PT X e t':=fun pins s σ H Q I w=>h pins s σ H Q I (i σ H Q w)
theorem PW.imp {X:Cx} {e:Expr} {t t':TT} (h:PW X e t) (i:∀σ H Q,t' σ H Q->t σ H Q):PW X e t':=fun wh pins s σ H Q I w=>h wh pins s σ H Q I (i σ H Q w)
theorem PA.imp {X:Cx} {e:List Expr} {t t':TA} (h:PA X e t) (i:∀σ H Q,t' σ H Q->t σ H Q):PA X e t':=fun p pins s σ H Q I w=>h p pins s σ H Q I (i σ H Q w)
theorem PS.imp {X:Cx} {e:Stmt} {t t':TS} (h:PS X e t) (i:∀σ H Q,t' σ H Q->t σ H Q):PS X e t':=fun pins s σ H Q I w=>h pins s σ H Q I (i Q σ H w)
theorem PSs.imp {X:Cx} {e:List Stmt} {t t':TS} (h:PSs X e t) (i:∀σ H Q,t' σ H Q->t σ H Q):PSs X e t':=fun pins s σ H Q I w=>h pins s σ H Q I (i Q σ H w)
noncomputable def ag (i:Nat):ME:=fun env h=>match env[i]? with
 | some (some d)=>.ok d h
 | _=>.bad
noncomputable def cC (d:D):ME:=fun _ h=>.ok d h
noncomputable def av (f:D->D->Hh->R D) (a b:ME):ME:=fun env h=>(a env h).bind fun x h1=>(b env h1).bind fun y h2=>f x y h2
noncomputable def cUn (f:D->Hh->R D) (a:ME):ME:=fun env h=>(a env h).bind fun x h1=>f x h1
noncomputable def ao:MA:=fun _ h=>.ok [] h
noncomputable def ae (a:ME) (r:MA):MA:=fun env h=>(a env h).bind fun x h1=>(r env h1).bind fun xs h2=>.ok (x::xs) h2
noncomputable def ai (f:List D->Hh->R D) (a:MA):ME:=fun env h=>(a env h).bind fun xs h1=>f xs h1
noncomputable def a_ (f:D->Hh->R Bool) (a:ME):MT:=fun env h=>(a env h).bind fun x h1=>f x h1
noncomputable def ft (a:MT):MT:=fun env h=>(a env h).bind fun b h1=>.ok (!b) h1
noncomputable def BB (a b:MT):MT:=fun env h=>(a env h).bind fun x h1=>if x=true then b env h1 else .ok false h1
noncomputable def vt (a b:MT):MT:=fun env h=>(a env h).bind fun x h1=>if x=true then .ok true h1 else b env h1
noncomputable def cIf (c:MT) (a b:ME):ME:=fun env h=>(c env h).bind fun x h1=>if x=true then a env h1 else b env h1
noncomputable def asB:D->Hh->R Bool
 | .bl b,h=>.ok b h
 | _,_=>.bad
noncomputable def wg (a b:ME):ME:=fun env h=>(a env h).bind fun x h1=>(asB x h1).bind fun k h2=>if k=true then b env h2 else .ok (.bl false) h2
noncomputable def CO (a:ME):ME:=fun env h=>(a env h).bind fun x h1=>(asB x h1).bind fun k h2=>.ok (.bl (!k)) h2
noncomputable def jD (f f':D->D->Hh->R D) (a b c:ME):ME:=fun env h=>(a env h).bind fun x h1=>(b env h1).bind fun y h2=>(f x y h2).bind fun z h3=>(asB z h3).bind fun k h4=>
 if k=true then (c env h4).bind fun w h5=>f' y w h5 else .ok (.bl false) h4
noncomputable def fY (K:PySem.W.Frag) (g:GG) (ε:EE) (f:D->D->Hh->R D) (r:R2):Prop:=
 ∀(α:List Addr) (H:Hp) (h:Hh) (a b:D) (x y:V) (Q:VK),aZ K g α H h->aM K g α H a x->aM K g α H b y->WQ K g ε α H (f a b h) (aF K g α H Q)->r x y H Q
noncomputable def Kx (K:PySem.W.Frag) (g:GG) (ε:EE) (f:D->Hh->R D) (r:V->Hp->VK->Prop):Prop:=
 ∀(α:List Addr) (H:Hp) (h:Hh) (a:D) (x:V) (Q:VK),aZ K g α H h->aM K g α H a x->WQ K g ε α H (f a h) (aF K g α H Q)->r x H Q
noncomputable def Kj (K:PySem.W.Frag) (g:GG) (ε:EE) (f:D->Hh->R Bool) (r:V->Hp->(Bool->Hp->Prop)->Prop):Prop:=
 ∀(α:List Addr) (H:Hp) (h:Hh) (a:D) (x:V) (Q:Bool->Hp->Prop),aZ K g α H h->aM K g α H a x->WQ K g ε α H (f a h) (n_ K g α H Q)->r x H Q
noncomputable def m9 (K:PySem.W.Frag) (g:GG) (ε:EE) (f:List D->Hh->R D) (r:List V->Hp->VK->Prop):Prop:=
 ∀(α:List Addr) (H:Hp) (h:Hh) (a:List D) (x:List V) (Q:VK),aZ K g α H h->aw K g α H a x->WQ K g ε α H (f a h) (aF K g α H Q)->r x H Q
noncomputable def B4 (K:PySem.W.Frag) (g:GG) (ε:EE) (f:D->List D->Hh->R D) (r:V->List V->Hp->VK->Prop):Prop:=
 ∀(α:List Addr) (H:Hp) (h:Hh) (o:D) (a:List D) (y:V) (x:List V) (Q:VK),aZ K g α H h->aM K g α H o y->aw K g α H a x->WQ K g ε α H (f o a h) (aF K g α H Q)->r y x H Q
section
variable {X:Cx} {g:GG} {ε:EE} {a b c:Expr} {ma mb mc:ME} {pos:Pos}
theorem af (i:Nat) {x:Str} {pos:Pos} (hN:X.N[i]?=some x:=by rfl) (hv:Vis X.env.scope x:=by first | exact Or.inl rfl | exact Or.inr (Or.inl rfl) | exact Or.inr (Or.inr rfl)) (hd:(x == ("__debug__" : Str))=false:=by decide)
  (hcd:(x == ("__classdict__" : Str))=false:=by decide):PE X (.Name x pos) (tM X.K g ε (ag i)):=by
 refine PE.imp (Cb hN hv hd hcd) fun σ H Q ⟨α,env,h,s,w⟩=>?_
 unfold ag at w
 cases e:env[i]? with
 | none=>rw[e] at w;exact w.elim
 | some d=>
  cases d with
  | none=>rw[e] at w;exact w.elim
  | some d=>
   rw[e] at w
   obtain⟨v,hv,rd⟩:=s.vs.vars i d e
   exact⟨v,hv,aF.now w s.heap rd⟩
theorem tI {v:V} {d:D} {Q:VK} {σ:St} {H:Hp} (rd:∀α,aM X.K g α H d v) (t:tM X.K g ε (cC d) σ H Q):tC v σ H Q:=by
 obtain⟨α,env,h,s,w⟩:=t
 exact aF.now w s.heap (rd α)
theorem aq {i j pos}:PE X (.Constant (.int i) j pos) (tM X.K g ε (cC (.int i))):=PE.imp Hr fun _ _ _ t=>tI (fun _=>.int i) t
theorem eJ {i j pos}:PE X (.Constant (.bool i) j pos) (tM X.K g ε (cC (.bl i))):=PE.imp Kq fun _ _ _ t=>tI (fun _=>.bl i) t
theorem dQ {i j pos}:PE X (.Constant (.str i) j pos) (tM X.K g ε (cC (.str i))):=PE.imp HA fun _ _ _ t=>tI (fun _=>.str i) t
theorem nu {j pos}:PE X (.Constant .none j pos) (tM X.K g ε (cC .non)):=PE.imp G9 fun _ _ _ t=>tI (fun _=>.non) t
theorem vZ {x:Str} {f:Addr} {pos:Pos} (hg:Gl X x) (hm:X.mg x=some (.ref f)) (hf:g x=some f) (hd:(x == ("__debug__" : Str))=false:=by decide):PE X (.Name x pos) (tM X.K g ε (cC (.fn x))):=
 PE.imp (zJ (v:=.ref f) hg hm rfl hd) fun _ _ _ t=>tI (fun _=>.fn hf) t
theorem jS {x:Str} {i:Int} {t:Tok} {pos:Pos} (hg:Gl X x) (hm:X.mg x=some (.int i t)) (hd:(x == ("__debug__" : Str))=false:=by decide):PE X (.Name x pos) (tM X.K g ε (cC (.int i))):=
 PE.imp (zJ (v:=.int i) hg hm ⟨t,rfl⟩ hd) fun _ _ _ t=>tI (fun _=>.int i) t
theorem ud {f:D->D->Hh->R D} {r:R2} {K:PySem.W.Frag} (im:fY K g ε f r) {σ:St} {H:Hp} {Q:VK} (t:tM K g ε (av f ma mb) σ H Q):tOp r (tM K g ε ma) (tM K g ε mb) σ H Q:=by
 obtain⟨α,env,h,s,w⟩:=t
 refine tM.use s w.bind fun d1 h1 v1 H1 α1 e1 s1 r1 w1=>?_
 refine tM.use s1 (w1.ext e1).bind fun d2 h2 v2 H2 α2 e2 s2 r2 w2=>?_
 exact im α2 H2 h2 d1 d2 v1 v2 Q s2.heap (r1.ext e2) r2 ((w2.ext e2).mono fun _ _ _ p=>p.ext (e1.trans e2))
theorem ay {op:Operator} {r:R2} {f:D->D->Hh->R D} (ho:OpR X (binaryOp op) r) (im:fY X.K g ε f r) (ha:PE X a (tM X.K g ε ma)) (hb:PE X b (tM X.K g ε mb)):PE X (.BinOp a op b pos) (tM X.K g ε (av f ma mb)):=
 PE.imp (Jo ho ha hb) fun _ _ _ t=>ud im t
theorem nB {op:CmpOp} {r:R2} {f:D->D->Hh->R D} (ho:OpR X (compareOp op) r) (im:fY X.K g ε f r) (ha:PE X a (tM X.K g ε ma)) (hb:PE X b (tM X.K g ε mb)) (hm:behindInMarks op b=false):PE X (.Compare a [op] [b] pos) (tM X.K g ε (av f ma mb)):=
 PE.imp (Ec ho ha hb hm) fun _ _ _ t=>ud im t
theorem wa {K:PySem.W.Frag} {m:ME} {t:TE} (ht:∀σ H Q,tM K g ε m σ H Q->t σ H Q) {σ:St} {H:Hp} {Q:Bool->Hp->Prop} (w:tMT K g ε (a_ asB m) σ H Q):CN t σ H Q:=by
 obtain⟨α,env,h,s,w⟩:=w
 refine ht _ _ _ (tM.use s w.bind fun d1 h1 v1 H1 α1 e1 s1 r1 w1=>?_)
 unfold asB at w1
 cases r1 with
 | bl k=>exact⟨k,rfl,w1 H1 α1 e1 s1.heap⟩
 | _=>exact w1.elim
theorem cS {op:CmpOp} {r:R2} {f:D->D->Hh->R D} (ho:OpR X (compareOp op) r) (im:fY X.K g ε f r) (ha:PE X a (tM X.K g ε ma)) (hb:PE X b (tM X.K g ε mb)) (hm:behindInMarks op b=false):PT X (.Compare a [op] [b] pos) (tMT X.K g ε (a_ asB (av f ma mb))):=
 PT.imp (EB ho ha hb hm) fun _ _ _ t=>wa (fun _ _ _ u=>ud im u) t
theorem tG {f f':D->D->Hh->R D} {r r':R2} {K:PySem.W.Frag} (im:fY K g ε f r) (im':fY K g ε f' r') {σ:St} {H:Hp} {Q:VK} (t:tM K g ε (jD f f' ma mb mc) σ H Q):xM r r' (tM K g ε ma) (tM K g ε mb) (tM K g ε mc) σ H Q:=by
 obtain⟨α,env,h,s,w⟩:=t
 refine tM.use s w.bind fun d1 h1 v1 H1 α1 e1 s1 r1 w1=>?_
 refine tM.use s1 (w1.ext e1).bind fun d2 h2 v2 H2 α2 e2 s2 r2 w2=>?_
 refine im α2 H2 h2 d1 d2 v1 v2 _ s2.heap (r1.ext e2) r2 ((w2.ext e2).bind.mono fun z h3 _ w3 v3 H3 α3 e3 hr3 r3=>?_)
 have w4:=w3.bind
 unfold asB at w4
 cases r3 with
 | bl k=>
  refine⟨k,rfl,?_⟩
  have s3:=s2.ext e3 hr3
  cases k with
  | true=>
   have w5:WQ K g ε α2 H2 ((mc env h3).bind fun w h5=>f' d2 w h5) _:=w4
   rw[if_pos rfl]
   refine tM.use s3 (w5.ext e3).bind fun d4 h4 v4 H4 α4 e4 s4 r4 w6=>?_
   exact im' α4 H4 h4 d2 d4 v2 v4 Q s4.heap (r2.ext (e3.trans e4)) r4 ((w6.ext e4).mono fun _ _ _ p=>p.ext (e1.trans (e2.trans (e3.trans e4))))
  | false=>
   rw[if_neg Bool.false_ne_true]
   have w5:aF K g α H Q (.bl false) h3:=w4
   exact w5 _ H3 α3 (e1.trans (e2.trans e3)) s3.heap (.bl false)
 | _=>exact w4.elim
theorem C8 {op op':CmpOp} {r r':R2} {f f':D->D->Hh->R D} (ho:OpR X (compareOp op) r) (ho':OpR X (compareOp op') r') (im:fY X.K g ε f r) (im':fY X.K g ε f' r') (ha:PE X a (tM X.K g ε ma)) (hb:PE X b (tM X.K g ε mb)) (hc:PE X c (tM X.K g ε mc))
  (hm:lastMarks [op,op'] [b,c]=false:=by with_unfolding_all rfl):PE X (.Compare a [op,op'] [b,c] pos) (tM X.K g ε (jD f f' ma mb mc)):=PE.imp (Dk ho ho' ha hb hc hm) fun _ _ _ t=>tG im im' t
theorem xp {op op':CmpOp} {r r':R2} {f f':D->D->Hh->R D} (ho:OpR X (compareOp op) r) (ho':OpR X (compareOp op') r') (im:fY X.K g ε f r) (im':fY X.K g ε f' r') (ha:PE X a (tM X.K g ε ma)) (hb:PE X b (tM X.K g ε mb)) (hc:PE X c (tM X.K g ε mc))
  (hm:lastMarks [op,op'] [b,c]=false:=by with_unfolding_all rfl):PT X (.Compare a [op,op'] [b,c] pos) (tMT X.K g ε (a_ asB (jD f f' ma mb mc))):=PT.imp (Dm ho ho' ha hb hc hm) fun _ _ _ t=>wa (fun _ _ _ u=>tG im im' u) t
theorem sO {op:UnaryOp} {r:V->Hp->VK->Prop} {f:D->Hh->R D} (ho:UnR X (unaryOp op) r) (im:Kx X.K g ε f r) (ha:PE X a (tM X.K g ε ma)):PE X (.UnaryOp op a pos) (tM X.K g ε (cUn f ma)):=
 PE.imp (Kf ho ha) fun σ H Q ⟨α,env,h,s,w⟩=>tM.use s w.bind fun d1 h1 v1 H1 α1 e1 s1 r1 w1=>im α1 H1 h1 d1 v1 Q s1.heap r1 (w1.post e1)
theorem dB {r:R2} {f:D->D->Hh->R D} (hr:IxR X r) (im:fY X.K g ε f r) (ha:PE X a (tM X.K g ε ma)) (hb:PE X b (tM X.K g ε mb)) (hs:y0 b):PE X (.Subscript a b pos) (tM X.K g ε (av f ma mb)):=
 PE.imp (JP hr ha hb hs) fun _ _ _ t=>ud im t
theorem fj {f:D->Hh->R Bool} (im:Kj X.K g ε f (fun x H Q=>∃k,El X.K x H k/\Q k H)) (ha:PE X a (tM X.K g ε ma)) (he:∀whole,isTrue a X.env whole=(do let v ← whole;standAt a.pos;holding [v] (truthy v))):PT X a (tMT X.K g ε (a_ f ma)):=
 PT.imp (By ha he) fun σ H Q ⟨α,env,h,s,w⟩=>tM.use s w.bind fun d1 h1 v1 H1 α1 e1 s1 r1 w1=>im α1 H1 h1 d1 v1 Q s1.heap r1 (w1.J0 e1)
theorem iw {mt:MT} (ha:PT X a (tMT X.K g ε mt)):PT X (.UnaryOp .Not a pos) (tMT X.K g ε (ft mt)):=
 PT.imp (Ic ha) fun σ H Q ⟨α,env,h,s,w⟩=>tMT.use s w.bind fun d1 h1 H1 α1 e1 s1 w1=>w1 H1 α1 e1 s1.heap
end
section
variable {X:Cx} {g:GG} {ε:EE} {a b c e:Expr} {es:List Expr} {rest:List Expr} {ma mb mc me:ME} {mt mu:MT} {pos:Pos}
theorem Fe (ha:PT X a (tMT X.K g ε mt)):PW X (.BoolOp .And [a] pos) (tMT X.K g ε mt):=pw_and1 ha
theorem uZ (ha:PT X a (tMT X.K g ε mt)):PW X (.BoolOp .Or [a] pos) (tMT X.K g ε mt):=pw_or1 ha
theorem HH (ha:PT X a (tMT X.K g ε mt)) (hb:PW X (.BoolOp .And (b::rest) pos) (tMT X.K g ε mu)):PW X (.BoolOp .And (a::b::rest) pos) (tMT X.K g ε (BB mt mu)):=
 PW.imp (pw_and ha hb) fun σ H Q ⟨α,env,h,s,w⟩=>tMT.use s w.bind fun d1 h1 H1 α1 e1 s1 w1=>by
  cases d1 with
  | true=>rw[if_pos rfl] at w1 ⊢;exact tMT.use s1 (w1.ext e1) fun d2 h2 H2 α2 e2 s2 w2=>w2 H2 α2 (e1.trans e2) s2.heap
  | false=>rw[if_neg Bool.false_ne_true] at w1 ⊢;exact w1 H1 α1 e1 s1.heap
theorem zc (ha:PT X a (tMT X.K g ε mt)) (hb:PW X (.BoolOp .Or (b::rest) pos) (tMT X.K g ε mu)):PW X (.BoolOp .Or (a::b::rest) pos) (tMT X.K g ε (vt mt mu)):=
 PW.imp (pw_or ha hb) fun σ H Q ⟨α,env,h,s,w⟩=>tMT.use s w.bind fun d1 h1 H1 α1 e1 s1 w1=>by
  cases d1 with
  | true=>rw[if_pos rfl] at w1 ⊢;exact w1 H1 α1 e1 s1.heap
  | false=>rw[if_neg Bool.false_ne_true] at w1 ⊢;exact tMT.use s1 (w1.ext e1) fun d2 h2 H2 α2 e2 s2 w2=>w2 H2 α2 (e1.trans e2) s2.heap
theorem l8 (hc:PT X c (tMT X.K g ε mt)) (ha:PE X a (tM X.K g ε ma)) (hb:PE X b (tM X.K g ε mb)):PE X (.IfExp c a b pos) (tM X.K g ε (cIf mt ma mb)):=
 PE.imp (B_ hc ha hb) fun σ H Q ⟨α,env,h,s,w⟩=>tMT.use s w.bind fun d1 h1 H1 α1 e1 s1 w1=>by
  cases d1 with
  | true=>rw[if_pos rfl] at w1 ⊢;exact tM.use s1 (w1.ext e1) fun d2 h2 v2 H2 α2 e2 s2 r2 w2=>w2 v2 H2 α2 (e1.trans e2) s2.heap r2
  | false=>rw[if_neg Bool.false_ne_true] at w1 ⊢;exact tM.use s1 (w1.ext e1) fun d2 h2 v2 H2 α2 e2 s2 r2 w2=>w2 v2 H2 α2 (e1.trans e2) s2.heap r2
theorem yd {op} (h:PE X a (tM X.K g ε ma)):PE X (.BoolOp op [a] pos) (tM X.K g ε ma):=HD h
theorem Bm {K:PySem.W.Frag} {α:List Addr} {H H1:Hp} {α1:List Addr} {d:D} {v:V} {h:Hh} {β:Type} {f:Bool->Hh->R β} {k:β->Hh->Prop} (r:aM K g α1 H1 d v) (w:WQ K g ε α H ((asB d h).bind f) k):∃b,v=.bl b/\d=.bl b/\WQ K g ε α H (f b h) k:=by
 cases r with
 | bl b=>exact⟨b,rfl,rfl,w⟩
 | _=>exact w.elim
theorem yB (ha:PE X a (tM X.K g ε ma)) (hb:PE X (.BoolOp .And (b::rest) pos) (tM X.K g ε mb)):PE X (.BoolOp .And (a::b::rest) pos) (tM X.K g ε (wg ma mb)):=
 PE.imp (GK ha hb) fun σ H Q ⟨α,env,h,s,w⟩=>tM.use s w.bind fun d1 h1 v1 H1 α1 e1 s1 r1 w1=>by
  obtain⟨k,rfl,rfl,w2⟩:=Bm r1 w1
  refine⟨k,rfl,?_⟩
  cases k with
  | true=>rw[if_pos rfl] at w2 ⊢;exact tM.use s1 (w2.ext e1) fun d2 h2 v2 H2 α2 e2 s2 r2 w2=>w2 v2 H2 α2 (e1.trans e2) s2.heap r2
  | false=>rw[if_neg Bool.false_ne_true] at w2 ⊢;exact w2 _ H1 α1 e1 s1.heap (.bl false)
theorem Gr (ha:PE X a (tM X.K g ε ma)):PE X (.UnaryOp .Not a pos) (tM X.K g ε (CO ma)):=
 PE.imp (Ib ha) fun σ H Q ⟨α,env,h,s,w⟩=>tM.use s w.bind fun d1 h1 v1 H1 α1 e1 s1 r1 w1=>by
  obtain⟨k,rfl,rfl,w2⟩:=Bm r1 w1
  exact⟨k,rfl,w2 _ H1 α1 e1 s1.heap (.bl _)⟩
variable {mr:MA}
theorem aj:PA X [] (tMA X.K g ε ao):=PA.imp jI fun σ H Q ⟨α,env,h,s,w⟩=>w [] H α Ext.refl s.heap .nil
theorem aa (ha:PE X e (tM X.K g ε ma)) (hr:PA X es (tMA X.K g ε mr)) (hs:starEach (e::es) X.env=(false,eval e X.env)::starEach es X.env:=by rfl):PA X (e::es) (tMA X.K g ε (ae ma mr)):=
 PA.imp (fq ha hr hs) fun σ H Q ⟨α,env,h,s,w⟩=>tM.use s w.bind fun d1 h1 v1 H1 α1 e1 s1 r1 w1=>tMA.use s1 (w1.ext e1).bind fun d2 h2 v2 H2 α2 e2 s2 r2 w2=>w2 _ H2 α2 (e1.trans e2) s2.heap (.cons (r1.ext e2) r2)
noncomputable def cG:List D->Hh->R D:=fun ds h=>if ds.length<=1000000 then .ok (.tup ds) h else .bad
theorem aF.tup {K:PySem.W.Frag} {α:List Addr} {H:Hp} {h:Hh} {ds:List D} {vs:List V} {Q:VK} {p:Addr} (w:aF K g α H Q (.tup ds) h) (r:aZ K g α H h) (rd:aw K g α H ds vs) (n:H p=none):Q (.ref p) (upd H p (.tup vs)):=
 w _ _ α (Ext.fresh n) (r.grow n) (.tup aP (rd.ext (Ext.fresh n)))
theorem WQ.fc {K:PySem.W.Frag} {α:List Addr} {H:Hp} {β:Type} {c:Prop} [Decidable c] {r:R β} {k:β->Hh->Prop} (w:WQ K g ε α H (if c then r else .bad) k):c/\WQ K g ε α H r k:=by
 by_cases h:c
 ·rw[if_pos h] at w;exact⟨h,w⟩
 ·rw[if_neg h] at w;exact w.elim
theorem hW {n:Nat} (h:n<=1000000):n<=sizeLine:=by rw[sizeLine_eq];omega
theorem bK {x1} (ha:PA X es (tMA X.K g ε mr)):PE X (.Tuple es x1 pos) (tM X.K g ε (ai cG mr)):=
 PE.imp (Hi ha) fun σ H Q ⟨α,env,h,s,w⟩=>tMA.use s w.bind fun d1 h1 v1 H1 α1 e1 s1 r1 w1=>by
  obtain⟨hl,w2⟩:=WQ.fc w1
  exact⟨hW (by rw[<- r1.length];exact hl),fun p hp=>aF.tup (aF.ext e1 w2) s1.heap r1 hp⟩
theorem Cz {f:List D->Hh->R D} {r:List V->Hp->VK->Prop} {K:PySem.W.Frag} (im:m9 K g ε f r) {σ:St} {H:Hp} {Q:VK} (t:tM K g ε (ai f mr) σ H Q):tCB r (tMA K g ε mr) σ H Q:=by
 obtain⟨α,env,h,s,w⟩:=t
 exact tMA.use s w.bind fun d1 h1 v1 H1 α1 e1 s1 r1 w1=>im α1 H1 h1 d1 v1 Q s1.heap r1 (w1.post e1)
theorem aQ {id:String} {x:Str} {p:Pos} {f:List D->Hh->R D} {r:List V->Hp->VK->Prop} (hc:bg X (.builtin id) r) (im:m9 X.K g ε f r) (hg:Gl X x) (hm:X.mg x=none) (hv:bootBuiltins x=some (.builtin id)) (ha:PA X (e::es) (tMA X.K g ε mr)) (hn:x≠"__name__" := by decide) (hdb:(x == ("__debug__" : Str))=false:=by decide)
  (he:starEach (e::es) X.env=(false,eval e X.env)::starEach es X.env:=by rfl) (hpl:(backTo pos (starEach es X.env)).any (·.1)=false:=by rfl):PE X (.Call (.Name x p) (e::es) [] pos) (tM X.K g ε (ai f mr)):=
 PE.imp (mD hc hg hm hv ha hn hdb he hpl) fun _ _ _ t=>Cz im t
theorem dj {id:String} {x:Str} {p:Pos} {f:List D->Hh->R D} {r:List V->Hp->VK->Prop} (hc:bg X (.type id) r) (im:m9 X.K g ε f r) (hg:Gl X x) (hm:X.mg x=none) (hv:bootBuiltins x=some (.type id)) (ha:PA X (e::es) (tMA X.K g ε mr)) (hn:x≠"__name__" := by decide) (hdb:(x == ("__debug__" : Str))=false:=by decide)
  (he:starEach (e::es) X.env=(false,eval e X.env)::starEach es X.env:=by rfl) (hpl:(backTo pos (starEach es X.env)).any (·.1)=false:=by rfl):PE X (.Call (.Name x p) (e::es) [] pos) (tM X.K g ε (ai f mr)):=
 PE.imp (iE hc hg hm hv ha hn hdb he hpl) fun _ _ _ t=>Cz im t
end
noncomputable def cw:MS:=fun env h=>.ok (.nx env) h
noncomputable def aO (a b:MS):MS:=fun env h=>(a env h).bind fun fl h1=>match fl with
 | .nx e=>b e h1
 | fl=>.ok fl h1
noncomputable def f6 (a:ME):MS:=fun env h=>(a env h).bind fun _ h1=>.ok (.nx env) h1
noncomputable def bG (a:ME):MS:=fun env h=>(a env h).bind fun d h1=>.ok (.rt d) h1
noncomputable def eX (c:MT) (a b:MS):MS:=fun env h=>(c env h).bind fun x h1=>if x=true then a env h1 else b env h1
noncomputable def cb (i:Nat) (a:ME):MS:=fun env h=>(a env h).bind fun d h1=>.ok (.nx (env.set i (some d))) h1
noncomputable def BU (i j:Nat) (a:MA):MS:=fun env h=>(a env h).bind fun ds h1=>match ds with
 | [x,y]=>.ok (.nx ((env.set i (some x)).set j (some y))) h1
 | _=>.bad
noncomputable def kL (f:D->D->D->Hh->R Unit) (o i v:ME):MS:=fun env h=>(v env h).bind fun x h1=>(o env h1).bind fun y h2=>(i env h2).bind fun z h3=>(f y z x h3).bind fun _ h4=>.ok (.nx env) h4
section
variable {X:Cx} {g:GG} {ε:EE} {e:Expr} {me:ME} {ms mu:MS} {mt:MT} {st:Stmt} {rest:List Stmt} {pos:Pos}
theorem eP.nx {K:PySem.W.Frag} {α α':List Addr} {H H':Hp} {env:En} {σ:St} {h':Hh} {E:Ends} (s:eP K g α' H' env σ h') (e:Ext K α H α' H') (w:eA K g α H E (.nx env) h'):E.nx σ H':=w H' α' e s.heap σ s.vs
theorem cg:PSs X [] (tMS X.K g ε cw):=PSs.imp EM fun E σ H ⟨α,env,h,s,w⟩=>s.nx Ext.refl w
theorem tMS.use {K:PySem.W.Frag} {α:List Addr} {H:Hp} {env:En} {σ:St} {h:Hh} {m:MS} {E:Ends} {k:Fl->Hh->Prop} (s:eP K g α H env σ h) (w:WQ K g ε α H (m env h) k)
  (q:∀fl h' H' α',Ext K α H α' H'->aZ K g α' H' h'->k fl h'->match fl with
   | .nx e=>∀σ',eP K g α' H' e σ' h'->E.nx σ' H'
   | .bk e=>∀σ',eP K g α' H' e σ' h'->E.bk σ' H'
   | .ct e=>∀σ',eP K g α' H' e σ' h'->E.ct σ' H'
   | .rt d=>∀v,aM K g α' H' d v->E.rt v H'):tMS K g ε m E σ H:=
 ⟨α,env,h,s,w.mono fun fl h' _ kk H' α' e r=>by
  have:=q fl h' H' α' e r kk
  cases fl with
  | nx e=>exact fun σ' v=>this σ' ⟨r,v⟩
  | bk e=>exact fun σ' v=>this σ' ⟨r,v⟩
  | ct e=>exact fun σ' v=>this σ' ⟨r,v⟩
  | rt d=>exact this⟩
theorem au (h1:PS X st (tMS X.K g ε ms)) (h2:PSs X rest (tMS X.K g ε mu)):PSs X (st::rest) (tMS X.K g ε (aO ms mu)):=
 PSs.imp (DM h1 h2) fun E σ H ⟨α,env,h,s,w⟩=>tMS.use s w.bind fun fl h' H' α' e r kk=>by
  cases fl with
  | nx env'=>exact fun σ' s'=>⟨α',env',h',s',WQ.zL e kk⟩
  | bk env'=>exact fun σ' s'=>(show eA X.K g α H E (.bk env') h' from kk) H' α' e r σ' s'.vs
  | ct env'=>exact fun σ' s'=>(show eA X.K g α H E (.ct env') h' from kk) H' α' e r σ' s'.vs
  | rt d=>exact fun v rv=>(show eA X.K g α H E (.rt d) h' from kk) H' α' e r v rv
theorem aA (h1:PS X st (tMS X.K g ε ms)):PSs X [st] (tMS X.K g ε ms):=zM h1
theorem fh (he:PE X e (tM X.K g ε me)) (hs:swapsWith e none pos.line X.env=pure false:=by rfl):PS X (.Expr e pos) (tMS X.K g ε (f6 me)):=
 PS.imp (E5 he hs) fun E σ H ⟨α,env,h,s,w⟩=>tM.use s w.bind fun d1 h1 v1 H1 α1 e1 s1 r1 w1=>s1.nx e1 w1
theorem bw (he:PE X e (tM X.K g ε me)):PS X (.Return (some e) pos) (tMS X.K g ε (bG me)):=
 PS.imp (Dv he) fun E σ H ⟨α,env,h,s,w⟩=>tM.use s w.bind fun d1 h1 v1 H1 α1 e1 s1 r1 w1=>(show eA X.K g α H E (.rt d1) h1 from w1) H1 α1 e1 s1.heap v1 r1
theorem i8 {c:Expr} {A B:List Stmt} (hc:PT X c (tMT X.K g ε mt)) (ha:PSs X A (tMS X.K g ε ms)) (hb:PSs X B (tMS X.K g ε mu)):PS X (.If c A B pos) (tMS X.K g ε (eX mt ms mu)):=
 PS.imp (JE hc ha hb) fun E σ H ⟨α,env,h,s,w⟩=>tMT.use s w.bind fun d1 h1 H1 α1 e1 s1 w1=>by
  cases d1 with
  | true=>rw[if_pos rfl] at w1 ⊢;exact⟨α1,env,h1,s1,WQ.zL e1 w1⟩
  | false=>rw[if_neg Bool.false_ne_true] at w1 ⊢;exact⟨α1,env,h1,s1,WQ.zL e1 w1⟩
theorem bR {i:Nat} {x:Str} {pos':Pos} (hN:X.N.Nodup) (hi:X.N[i]?=some x) (hx:Loc X.env.scope x) (he:PE X e (tM X.K g ε me)) (hs:swapsWith e (some (.Name x pos')) pos.line X.env=pure false:=by rfl) (hf:X.fn x=true\/X.env.scope.names.lookup x=some .local:=by first | exact .inl rfl | exact .inr rfl | assumption) :
  PS X (.Assign [.Name x pos'] e pos) (tMS X.K g ε (cb i me)):=
 PS.imp (Ih hN hi hx he hs hf) fun E σ H ⟨α,env,h,s,w⟩=>tM.use s w.bind fun d1 h1 v1 H1 α1 e1 s1 r1 w1=>(show eA X.K g α H E (.nx (env.set i (some d1))) h1 from w1) H1 α1 e1 s1.heap _ (s1.vs.set r1)
theorem Jj {i j:Nat} {x y:Str} {a b:Expr} {ma:MA} {px py pt:Pos} {kt k2 pt2} (hc:X.calm=true) (hN:X.N.Nodup) (hi:X.N[i]?=some x) (hj:X.N[j]?=some y) (hij:i≠j)
  (hx:X.env.scope.names.lookup x=some .local) (hy:X.env.scope.names.lookup y=some .local) (ha:PA X [a,b] (tMA X.K g ε ma))
  (hw:swappedStores [.Tuple [.Name x px,.Name y py] kt pt] (.Tuple [a,b] k2 pt2) X.env=pure (some [x,y]))
  (hs:swapsWithSole [.Tuple [.Name x px,.Name y py] kt pt] (.Tuple [a,b] k2 pt2) pos.line X.env=pure false:=by rfl) :
  PS X (.Assign [.Tuple [.Name x px,.Name y py] kt pt] (.Tuple [a,b] k2 pt2) pos) (tMS X.K g ε (BU i j ma)):=
 PS.imp (Gu hc hN hi hj hij hx hy ha hw hs) fun E σ H ⟨α,env,h,s,w⟩=>tMA.use s w.bind fun d1 h1 v1 H1 α1 e1 s1 r1 w1=>by
  cases r1 with
  | nil=>exact w1.elim
  | cons ra rr=>
   cases rr with
   | nil=>exact w1.elim
   | cons rb rr=>
    cases rr with
    | nil=>exact⟨_,_,rfl,(show eA X.K g α H E (.nx _) h1 from w1) H1 α1 e1 s1.heap _ ((s1.vs.set ra).set rb)⟩
    | cons _ _=>exact w1.elim
noncomputable def Km (K:PySem.W.Frag) (g:GG) (ε:EE) (f:D->D->D->Hh->R Unit) (t:yD):Prop:=
 ∀(α:List Addr) (H:Hp) (h:Hh) (o i v:D) (x y z:V) (Q:Hp->Prop),aZ K g α H h->aM K g α H o x->aM K g α H i y->aM K g α H v z->WQ K g ε α H (f o i v h) (fun _ h'=>∀H' α',Ext K α H α' H'->aZ K g α' H' h'->Q H')->t x y z H Q
theorem yX {o i:Expr} {mo mi:ME} {t:yD} {f:D->D->D->Hh->R Unit} {p:Pos} (he:PE X e (tM X.K g ε me)) (ho:PE X o (tM X.K g ε mo)) (hi:PE X i (tM X.K g ε mi)) (hp:Eu X t) (im:Km X.K g ε f t)
  (ha:∀v,assign (.Subscript o i p) X.env v=(do
   let ov ← holding [v] (eval o X.env)
   let iv ← holding [v,ov] (eval i X.env)
   standAt p
   holding [v,ov,iv] (setItem ov iv v)
   release [v,ov,iv] []):=by intro _;rfl)
  (hs:swapsWithSole [.Subscript o i p] e pos.line X.env=pure false:=by rfl) (hw:swappedStores [.Subscript o i p] e X.env=pure none:=by rfl)
  (h1:(assignEach [.Subscript o i p] X.env).map (·.2)=[assign (.Subscript o i p) X.env]:=by rfl):PS X (.Assign [.Subscript o i p] e pos) (tMS X.K g ε (kL f mo mi me)):=
 PS.imp (Dl he (HQ ho hi hp ha) hs hw h1) fun E σ H ⟨α,env,h,s,w⟩=>tM.use s w.bind fun d1 h1 v1 H1 α1 e1 s1 r1 w1=>tM.use s1 (w1.ext e1).bind fun d2 h2 v2 H2 α2 e2 s2 r2 w2=>tM.use s2 (w2.ext e2).bind fun d3 h3 v3 H3 α3 e3 s3 r3 w3=>by
  refine im α3 H3 h3 d2 d3 d1 v2 v3 v1 _ s3.heap (r2.ext e3) r3 ((r1.ext e2).ext e3) ((w3.ext e3).bind.mono fun _ h4 _ w4 H4 α4 e4 hr4=>?_)
  exact(show eA X.K g α H E (.nx env) h4 from w4) H4 α4 (e1.trans (e2.trans (e3.trans e4))) hr4 _ (s3.vs.ext e4)
end
theorem Fv {X:Cx} {pins:List (Addr × Obj)} {σ:St} {H:Hp} {s:Shared} {p:Addr} {u:HO} (I:Inv X pins σ H s) (h:H p=some u) (mu:Mut (some u)):∃o,Inv X pins σ (upd H p (.frz o u)) s:=by
 obtain⟨o,ho⟩:∃o,s.heap.get? p=some o:=by
  have hl:=(I.hok p _ h).lt
  cases e:s.heap.get? p with
  | some o=>exact⟨o,rfl⟩
  | none=> 
   have q:=I.hok p _ h
   cases u with
   | lst xs=>obtain⟨_,_,_,_,e'⟩:=q;rw[e] at e';cases e'
   | dK kvs=>obtain⟨_,_,_,_,o,_,_,e',_⟩:=q;rw[e] at e';cases e'
   | dT kvs=>obtain⟨_,_,_,_,o,_,_,e',_⟩:=q;rw[e] at e';cases e'
   | set S n=>obtain⟨o,_,_,_,e',_⟩:=q;rw[e] at e';cases e'
   | ins C dx fs=>obtain⟨_,_,_,e',_⟩:=q;rw[e] at e';cases e'
   | ext φ=>obtain⟨_,⟨_,e'⟩,_⟩:=q;rw[e] at e';cases e'
   | _=>exact absurd mu (fun z=>z)
 have nt:∀b xs,H b=some (.tup xs)->b≠p:=fun b xs e z=>by subst z;rw[h] at e;cases e;exact mu
 have nf:∀b o u,H b=some (.frz o u)->b≠p:=fun b o u e z=>by subst z;rw[h] at e;cases e;exact mu
 have nb:∀b ps,H b=some (.tbl ps)->b≠p:=fun b ps e z=>by subst z;rw[h] at e;cases e;exact mu
 have no:∀b y,H b=some (.own y)->b≠p:=fun b ps e z=>by subst z;rw[h] at e;cases e;exact mu
 have hok:HOk X.prog X.w (upd H p (.frz o u)) s.heap:=fun b v q=>by
  by_cases hb:b=p
  ·subst hb
   rw[aP] at q;cases q
   exact⟨ho,(I.hok b _ h).ke (fun _ _ _ z=>z) (fun c z=>by rw[aC (no c _ z)];exact z) fun c xs z=>by rw[aC (nt c xs z)];exact z⟩
  ·rw[aC hb] at q
   exact(I.hok b v q).ke (fun _ _ _ z=>z) (fun c z=>by rw[aC (no c _ z)];exact z) fun c xs z=>by rw[aC (nt c xs z)];exact z
 refine⟨o,?_⟩
 have np:∀b,H b=none->b≠p:=fun b e z=>by subst z;rw[h] at e;cases e
 have:=I.un (H':=upd H p (.frz o u)) (h':=s.heap) (t':=s.toks) ⟨fun b o q _ _ _=>q,fun b o q _ _ _=>⟨o.slots,q⟩,fun b v q n _=>(by rw[aC (np b n)];exact n),fun b o q _=>⟨o,q⟩,fun b xs q=>(by rw[aC (nt b xs q)];exact q),fun b o v q=>(by rw[aC (nf b o v q)];exact q),fun b ps q=>⟨#[],by rw[aC (nb b ps q),q];simp⟩⟩ hok
 exact this
noncomputable def ki (Q:VK):VK:=fun v H=>Q v H\/∃p u,v=.ref p/\H p=some u/\Mut (some u)/\∀o,Q v (upd H p (.frz o u))
theorem EP.frz {X:Cx} {pins:List (Addr × Obj)} {σ:St} {Q:VK} {u:Value} {s':Shared} (h:EP X pins σ (ki Q) u s'):EP X pins σ Q u s':=by
 obtain⟨v,H',I,r,q | ⟨p,u,rfl,e,m,q⟩⟩:=h
 ·exact⟨v,H',I,r,q⟩
 ·obtain⟨o,I'⟩:=Fv I e m
  exact⟨_,_,I',r,q o⟩
theorem PE.frz {X:Cx} {e:Expr} {t:TE} (h:PE X e t):PE X e fun σ H Q=>t σ H (ki Q):=fun pins s σ H Q I w=>thn (h pins s σ H _ I w) fun _ _ z=>EP.frz z
theorem OpR.frz {X:Cx} {f:Value->Value->Sem Value} {r:R2} (h:OpR X f r):OpR X f fun x y H Q=>r x y H (ki Q):=fun pins s σ H x y v u Q I rx ry q=>thn (h pins s σ H x y v u _ I rx ry q) fun _ _ z=>EP.frz z
theorem bg.frz {X:Cx} {f:Value} {r:List V->Hp->VK->Prop} (h:bg X f r):bg X f fun xs H Q=>r xs H (ki Q):=fun pins s σ H xs us Q I rx q=>thn (h pins s σ H xs us _ I rx q) fun _ _ z=>EP.frz z
noncomputable abbrev NL:=List D->Hh->R D
noncomputable def v7:NL:=fun ys h2=>.ok (.ref h2.length) (h2++[O.lst ys])
noncomputable def az:NL:=fun ys h2=>.ok (.frl ys) h2
class lC (nl:NL):Prop where
 at':∀{K:PySem.W.Frag} {g:GG} {ε:EE} {α1 α2:List Addr} {H1 H2:Hp} {h:Hh} {as:List D} {ys:List V} {acc:Addr} {Q:D->Hh->Prop} {R:VK},WQ K g ε α1 H1 (nl as h) Q->(∀d h',Q d h'->aF K g α1 H1 R d h')->Ext K α1 H1 α2 H2->aZ K g α2 H2 h->aw K g α2 H2 as ys->H2 acc=some (.lst ys)->acc∉α2->H1 acc=none->ki R (.ref acc) H2
instance:lC v7 where
 at':=fun{K g ε α1 α2 H1 H2 h as ys acc Q R} w hq x2 hr2 ra ha hna hacc=>by
  have x3:Ext K α1 H1 (α2++[acc]) H2:=⟨x2.toEx0.trans (Ex0.refl.more _),x2.kept,fun p z n=>by
   rcases List.mem_append.mp z with z | z
   ·exact x2.new p z n
   ·rw[List.mem_singleton.mp z];exact hacc⟩
  refine .inl (hq _ _ w _ H2 (α2++[acc]) x3 (hr2.adopt hna ⟨ys,ha,ra.ex0 (Ex0.refl.more _)⟩) (.ref ?_))
  rw[<- hr2.len,List.getElem?_append_right (Nat.le_refl _)];simp
instance:lC az where
 at':=fun{K g ε α1 α2 H1 H2 h as ys acc Q R} w hq x2 hr2 ra ha hna hacc=>by
  refine .inr ⟨acc,_,rfl,ha,trivial,fun o=>?_⟩
  have soft:Fi H2 acc:=.inr ⟨_,ha,fun _ z=>(nomatch z),fun _ _ z=>(nomatch z),fun _ z=>nomatch z⟩
  have x6:Ex0 K α2 H2 α2 (upd H2 acc (.frz o (.lst ys))):=Ex0.upd soft
  refine hq _ _ w _ _ α2 ⟨x2.toEx0.trans x6,fun p u z n nt=>?_,x2.new⟩ (hr2.off soft hna) (.frl ⟨o,aP⟩ (ra.ex0 x6))
  rw[aC (aN z hacc)];exact x2.kept p u z n nt
theorem NL.post {nl:NL} [lC nl] {K:PySem.W.Frag} {g:GG} {ε:EE} {α:List Addr} {H:Hp} {h:Hh} {ds:List D} {vs:List V} {Q:VK} {p:Addr} (w:WQ K g ε α H (nl ds h) (aF K g α H Q)) (r:aZ K g α H h) (rd:aw K g α H ds vs) (n:H p=none):ki Q (.ref p) (upd H p (.lst vs)):=
 lC.at' w (fun _ _ z=>z) (Ext.fresh n) (r.grow n) (rd.ext (Ext.fresh n)) aP (r.free n) n
noncomputable def cO (nl:NL):List D->Hh->R D:=fun ds h=>if ds.length<=1000000 then nl ds h else .bad
theorem bP {X:Cx} {g:GG} {ε:EE} {es:List Expr} {mr:MA} {pos:Pos} {nl:NL} [lC nl] (ha:PA X es (tMA X.K g ε mr)):PE X (.List es pos) (tM X.K g ε (ai (cO nl) mr)):=
 PE.imp (PE.frz (HS ha)) fun σ H Q ⟨α,env,h,s,w⟩=>tMA.use s w.bind fun d1 h1 v1 H1 α1 e1 s1 r1 w1=>by
  obtain⟨hl,w2⟩:=WQ.fc w1
  exact⟨hW (by rw[<- r1.length];exact hl),fun p hp=>NL.post (w2.post e1) s1.heap r1 hp⟩
noncomputable def aG (h:Hh) (n:Nat):Option (List D):=match h[n]? with
 | some (.lst ds)=>some ds
 | _=>none
inductive Src where
 | snap (ds:List D)
 | live (n:Nat)
 | liveE (n:Nat)
noncomputable abbrev MI:=En->Hh->R Src
noncomputable abbrev Rdr:=Hh->Nat->Option (Option D)
noncomputable def Src.rdr:Src->Rdr
 | .snap ds=>fun _ i=>some ds[i]?
 | .live n=>fun h i=>(aG h n).map fun ds=>ds[i]?
 | .liveE n=>fun h i=>(aG h n).map fun ds=>(ds[i]?).map fun d=>D.tup [.int i,d]
noncomputable def Src.fuel (s:Src) (h:Hh):Nat:=match s with
 | .snap ds=>ds.length
 | .live n=>((aG h n).getD []).length
 | .liveE n=>((aG h n).getD []).length
noncomputable def Reads (K:PySem.W.Frag) (g:GG) (J:It) (rd:Rdr) (α₀:List Addr) (bO:Hp):Prop:=
 ∀(α:List Addr) (H:Hp) (h:Hh),Ext K α₀ bO α H->aZ K g α H h->∀i,match rd h i with
  | none=>True
  | some none=>J.stop i H
  | some (some d)=>J.go i H/\∀x H',J.yld i H x H'->∃α',Ext K α H α' H'/\aZ K g α' H' h/\aM K g α' H' d x
noncomputable def tMI (K:PySem.W.Frag) (g:GG) (ε:EE) (m:MI):TI:=fun σ H T=>∃α env h,eP K g α H env σ h/\WQ K g ε α H (m env h) fun sr h'=>∀J H' α',Ext K α H α' H'->aZ K g α' H' h'->Reads K g J sr.rdr α' H'->T J H'
theorem PI.imp {X:Cx} {tg e:Expr} {t t':TI} (h:PI X tg e t) (i:∀σ H Q,t' σ H Q->t σ H Q):PI X tg e t':=fun pins s σ H Q I w=>h pins s σ H Q I (i σ H Q w)
noncomputable def nA (rd:Rdr) (tg:D->En->Hh->R En) (body:MS):Nat->Nat->En->Hh->R Fl
 | k,i,env,h=>match rd h i with
  | none=>.bad
  | some none=>.ok (.nx env) h
  | some (some d)=>match k with
   | 0=>.bad
   | k+1=>(tg d env h).bind fun e1 h1=>(body e1 h1).bind fun fl h2=>match fl with
    | .nx e=>nA rd tg body k (i+1) e h2
    | .ct e=>nA rd tg body k (i+1) e h2
    | .bk e=>.ok (.nx e) h2
    | .rt d=>.ok (.rt d) h2
noncomputable def dw (tg:D->En->Hh->R En) (body:MS):List D->En->Hh->R Fl
 | [],env,h=>.ok (.nx env) h
 | d::ds,env,h=>(tg d env h).bind fun e1 h1=>(body e1 h1).bind fun fl h2=>match fl with
  | .nx e=>dw tg body ds e h2
  | .ct e=>dw tg body ds e h2
  | .bk e=>.ok (.nx e) h2
  | .rt d=>.ok (.rt d) h2
theorem DX (tg:D->En->Hh->R En) (body:MS) (all:List D):∀(ds:List D) (i:Nat) (env:En) (h:Hh),all.drop i=ds->nA (Src.snap all).rdr tg body ds.length i env h=dw tg body ds env h:=by
 intro ds
 induction ds with
 | nil=>
  intro i env h e
  have:all[i]?=none:=by
   have:=congrArg List.length e
   simp at this
   exact List.getElem?_eq_none (by omega)
  unfold nA dw Src.rdr
  simp[this]
 | cons d ds ih=>
  intro i env h e
  have h0:all[i]?=some d:=by
   have:=congrArg (fun l=>l[0]?) e
   simpa using this
  have h1:all.drop (i+1)=ds:=by
   have:=congrArg List.tail e
   simpa using this
  unfold nA dw
  have:(Src.snap all).rdr h i=some (some d):=by unfold Src.rdr;simp[h0]
  rw[this]
  show((tg d env h).bind _)=_
  congr 1
  funext e1 h2
  congr 1
  funext fl h3
  cases fl with
  | nx e=>exact ih (i+1) e h3 h1
  | ct e=>exact ih (i+1) e h3 h1
  | bk e=>rfl
  | rt d=>rfl
noncomputable def fO (mi:MI) (tg:D->En->Hh->R En) (body:MS):MS:=fun env h=>(mi env h).bind fun sr h1=>match sr with
 | .snap ds=>dw tg body ds env h1
 | .live n=>nA (Src.live n).rdr tg body ((aG h1 n).getD []).length 0 env h1
 | .liveE n=>nA (Src.liveE n).rdr tg body ((aG h1 n).getD []).length 0 env h1
theorem Fd {mi:MI} {tg:D->En->Hh->R En} {body:MS} {env:En} {h:Hh}:fO mi tg body env h=(mi env h).bind fun sr h1=>nA sr.rdr tg body (sr.fuel h1) 0 env h1:=by
 unfold fO
 congr 1
 funext sr h1
 cases sr with
 | snap ds=>exact(DX tg body ds ds 0 env h1 rfl).symm
 | live n=>rfl
 | liveE n=>rfl
noncomputable def gN (i:Nat):D->En->Hh->R En:=fun d env h=>.ok (env.set i (some d)) h
noncomputable def gT2 (i j:Nat):D->En->Hh->R En:=fun d env h=>match d with
 | .tup [x,y]=>.ok ((env.set i (some x)).set j (some y)) h
 | _=>.bad
noncomputable def Hx (K:PySem.W.Frag) (g:GG) (ε:EE) (tg:D->En->Hh->R En) (t:TG):Prop:=
 ∀(α:List Addr) (H:Hp) (h:Hh) (env:En) (σ:St) (d:D) (x:V) (Q:St->Hp->Prop),eP K g α H env σ h->aM K g α H d x →
  WQ K g ε α H (tg d env h) (fun e1 h1=>∀σ' H' α',Ext K α H α' H'->eP K g α' H' e1 σ' h1->Q σ' H')->t x σ H Q
theorem jj {K:PySem.W.Frag} {g:GG} {ε:EE} {i:Nat}:Hx K g ε (gN i) (qR i):=fun α H h env σ d x Q s r w=>w _ H α Ext.refl ⟨s.heap,s.vs.set r⟩
theorem q_ {K:PySem.W.Frag} {g:GG} {ε:EE} {i j:Nat}:Hx K g ε (gT2 i j) (IK K 2 (Bv (qR i) (Bv (qR j) IU))):=fun α H h env σ d x Q s r w=>by
 unfold gT2 at w
 cases r with
 | tup hq rs=>
  cases rs with
  | nil=>exact w.elim
  | cons ra rr=>
   cases rr with
   | nil=>exact w.elim
   | cons rb rr=>
    cases rr with
    | nil=>exact⟨_,_,rfl,SqT.of hq,rfl,_,_,rfl,_,_,rfl,rfl,w _ H α Ext.refl ⟨s.heap,(s.vs.set ra).set rb⟩⟩
    | cons _ _=>exact w.elim
 | _=>exact w.elim
section
variable {X:Cx} {g:GG} {ε:EE}
theorem jC {tg iter:Expr} {body:List Stmt} {mi:MI} {t:TG} {fg:D->En->Hh->R En} {mb:MS} {pos:Pos} (hp:PassesOwn (model X.prog X.w) X.A X.env X.xe) (hc:X.calm=true) (hi:PI X tg iter (tMI X.K g ε mi)) (hg:PG X tg t) (ig:Hx X.K g ε fg t) (hb:PSs X body (tMS X.K g ε mb))
  (hs:∀x,foldedSetIterable iter X.env x=pure x:=by intro _;rfl):PS X (.For tg iter body [] pos) (tMS X.K g ε (fO mi fg mb)):=by
 refine PS.imp (GP hp hc hi hg hb hs) fun E σ H ⟨α,env,h,s,w⟩=>?_
 rw[Fd] at w
 refine⟨α,env,h,s,w.bind.mono fun sr h1 _ w1 J H1 α1 e1 hr1 rd=>?_⟩
 refine⟨fun i m σ H=>∃α env h,Ext X.K α1 H1 α H/\eP X.K g α H env σ h/\WQ X.K g ε α H (nA sr.rdr fg mb m i env h) (eA X.K g α H E),⟨sr.fuel h1,α1,env,h1,Ext.refl,s.ext e1 hr1,w1.zL e1⟩,?_⟩
 rintro i m σ2 H2 ⟨α2,env2,h2,x2,s2,w2⟩
 have q:=rd α2 H2 h2 x2 s2.heap i
 unfold nA at w2
 cases e:sr.rdr h2 i with
 | none=>rw[e] at w2;exact w2.elim
 | some od=>
  rw[e] at w2 q
  cases od with
  | none=>exact .inl ⟨q,s2.nx Ext.refl w2⟩
  | some d=>
   cases m with
   | zero=>exact w2.elim
   | succ m=>
    have w3:=WQ.bind (show WQ X.K g ε α2 H2 ((fg d env2 h2).bind _) _ from w2)
    refine .inr ⟨q.1,fun σ' H'=>∃α env h,Ext X.K α1 H1 α H'/\eP X.K g α H' env σ' h/\WQ X.K g ε α H' (nA sr.rdr fg mb m (i+1) env h) (eA X.K g α H' E),fun σ' H' z=>⟨m,Nat.lt_succ_self _,z⟩,fun x H3 y=>?_⟩
    obtain⟨α3,x3,hr3,rx⟩:=q.2 x H3 y
    refine ig α3 H3 h2 env2 σ2 d x _ (s2.ext x3 hr3) rx ((w3.ext x3).mono fun e4 h4 _ w4 σ4 H4 α4 x4 s4=>?_)
    refine tMS.use s4 ((w4.ext x3).ext x4).bind fun fl h5 H5 α5 x5 hr5 w5=>?_
    have tr:Ext X.K α2 H2 α5 H5:=x3.trans (x4.trans x5)
    cases fl with
    | nx e=>exact fun σ' s'=>⟨α5,e,h5,x2.trans tr,s',((w5.ext x5)).mono fun _ _ _ p=>p.ext tr⟩
    | ct e=>exact fun σ' s'=>⟨α5,e,h5,x2.trans tr,s',((w5.ext x5)).mono fun _ _ _ p=>p.ext tr⟩
    | bk e=>exact fun σ' s'=>(show eA X.K g α2 H2 E (.nx e) h5 from w5) H5 α5 tr hr5 σ' s'.vs
    | rt d=>exact fun v rv=>(show eA X.K g α2 H2 E (.rt d) h5 from w5) H5 α5 tr hr5 v rv
theorem aZ.lst {K:PySem.W.Frag} {α:List Addr} {H:Hp} {h:Hh} {n:Nat} {ds:List D} (r:aZ K g α H h) (e:aG h n=some ds) {p:Addr} (hp:α[n]?=some p):∃vs,H p=some (.lst vs)/\aw K g α H ds vs:=by
 unfold aG at e
 cases o:h[n]? with
 | none=>rw[o] at e;cases e
 | some o'=>
  rw[o] at e
  have q:=r.here n p o' hp o
  cases o' with
  | lst ds'=>cases e;obtain⟨vs,a,b⟩:=q;exact⟨vs,a,b⟩
  | set n=>cases e
  | dic k=>cases e
  | dit k=>cases e
noncomputable def Bz:D->Hh->R Src
 | .tup ds,h=>.ok (.snap ds) h
 | .frl ds,h=>.ok (.snap ds) h
 | .scr ds,h=>.ok (.snap ds) h
 | .ref n,h=>match aG h n with
  | some _=>.ok (.live n) h
  | none=>.bad
 | _,_=>.bad
noncomputable def eB (a:ME):MI:=fun env h=>(a env h).bind Bz
noncomputable def KW (K:PySem.W.Frag) (tl:TE):TI:=fun σ H R=>tl σ H fun x H1=>∃a,x=.ref a/\(((∃xs,SqL K H1 a xs)/\R (Itl K a) H1)\/((∃xs,SqT K H1 a xs)/\R (Itt K a) H1))
theorem Ht {tg l:Expr} {tl:TE} (hl:PE X l tl):PI X tg l (KW X.K tl):=by
 intro pins s σ H R I h
 refine thn (hl pins s σ H _ I h) fun v s1 ⟨x,H1,I1,r1,q1⟩=>?_
 obtain⟨a,e,q⟩:=q1
 subst e
 cases r1
 rcases q with⟨⟨xs,hq⟩,q⟩ | ⟨⟨xs,hq⟩,q⟩
 ·obtain⟨its,rv,p,hz⟩:=I1.list hq
  refine wpAny_pyIter_list p.isList ?_
  refine⟨s1.heap.objs.size,[s1.heap.objs.size],_,_,H1,rfl,I1.kept (t':=s1.toks) fun b o e=>Heap.get?_push_of_some _ e,Ad a _,⟨_,Heap.get?_push_size _ rfl,rfl,rfl⟩,fun b hb=>?_,q⟩
  have e:b=s1.heap.objs.size:=by simpa using hb
  subst e
  exact I1.Et (Nat.le_refl _) (I1.hok.fresh (Nat.le_refl _))
 ·obtain⟨its,rv,p,hz⟩:=I1.tuple hq
  refine wpAny_pyIter_tuple (show s1.heap.IsTuple a its.toArray from p) ?_
  refine⟨s1.heap.objs.size,[s1.heap.objs.size],_,_,H1,rfl,I1.kept (t':=s1.toks) fun b o e=>Heap.get?_push_of_some _ e,xP a _,⟨_,Heap.get?_push_size _ rfl,rfl,rfl⟩,fun b hb=>?_,q⟩
  have e:b=s1.heap.objs.size:=by simpa using hb
  subst e
  exact I1.Et (Nat.le_refl _) (I1.hok.fresh (Nat.le_refl _))
theorem Ai {K:PySem.W.Frag} {α:List Addr} {H:Hp} {a:Addr} {ds:List D} {vs:List V} (hq':H a=some (.tup vs)) (rs:aw K g α H ds vs):Reads K g (Itt K a) (Src.snap ds).rdr α H:=by
 intro α2 H2 h2 x2 hr i
 have hq2:SqT K H2 a vs:=SqT.of (x2.tup _ _ hq')
 have rs2:=rs.ext x2
 show match some ds[i]? with | none=>True | some none=>_ | some (some d)=>_
 cases e:ds[i]? with
 | none=>
  have:ds.length<=i:=List.getElem?_eq_none_iff.mp e
  exact⟨vs,hq2,by rw[<- rs.length];exact this⟩
 | some d=>
  obtain⟨v,ev,rv⟩:=rs2.get e
  refine⟨⟨vs,v,hq2,ev⟩,fun x H' y=>?_⟩
  obtain⟨e1,e2⟩:=y
  subst e1
  have:=e2 vs hq2
  rw[ev] at this
  cases this
  exact⟨α2,Ext.refl,hr,rv⟩
theorem tL {K:PySem.W.Frag} {α:List Addr} {H:Hp} {a:Addr} {ds:List D} {vs:List V} (hq:Fro K H a vs) (rs:aw K g α H ds vs):Reads K g (Itl K a) (Src.snap ds).rdr α H:=by
 intro α2 H2 h2 x2 hr i
 have hq2:=x2.fro _ _ hq
 have rs2:=rs.ext x2
 show match some ds[i]? with | none=>True | some none=>_ | some (some d)=>_
 cases e:ds[i]? with
 | none=>
  have:ds.length<=i:=List.getElem?_eq_none_iff.mp e
  exact⟨vs,hq2.sq,by rw[<- rs.length];exact this⟩
 | some d=>
  obtain⟨v,ev,rv⟩:=rs2.get e
  refine⟨⟨vs,v,hq2.sq,ev⟩,fun x H' y=>?_⟩
  obtain⟨e1,e2⟩:=y
  subst e1
  have:=e2 vs hq2.sq
  rw[ev] at this
  cases this
  exact⟨α2,Ext.refl,hr,rv⟩
theorem AW {K:PySem.W.Frag} {α:List Addr} {H:Hp} {a:Addr} {n:Nat} (ha:α[n]?=some a):Reads K g (Itl K a) (Src.live n).rdr α H:=by
 intro α2 H2 h2 x2 hr i
 show match (aG h2 n).map fun ds=>ds[i]? with | none=>True | some none=>_ | some (some d)=>_
 cases e:aG h2 n with
 | none=>trivial
 | some ds=>
  obtain⟨vs,hq',rs⟩:=hr.lst e (x2.get ha)
  have hq:SqL K H2 a vs:=SqL.of hq'
  show match some ds[i]? with | none=>True | some none=>_ | some (some d)=>_
  cases ei:ds[i]? with
  | none=>
   have:ds.length<=i:=List.getElem?_eq_none_iff.mp ei
   exact⟨vs,hq,by rw[<- rs.length];exact this⟩
  | some d=>
   obtain⟨v,ev,rv⟩:=rs.get ei
   refine⟨⟨vs,v,hq,ev⟩,fun x H' y=>?_⟩
   obtain⟨e1,e2⟩:=y
   subst e1
   have:=e2 vs hq
   rw[ev] at this
   cases this
   exact⟨α2,Ext.refl,hr,rv⟩
theorem gj {tg e:Expr} {me:ME} (he:PE X e (tM X.K g ε me)):PI X tg e (tMI X.K g ε (eB me)):=
 PI.imp (Ht he) fun σ H T ⟨α,env,h,s,w⟩=>tM.use s w.bind fun d1 h1 v1 H1 α1 e1 s1 r1 w1=>by
  unfold Bz at w1
  cases r1 with
  | tup hq rs=>exact⟨_,rfl,.inr ⟨⟨_,SqT.of hq⟩,w1 _ H1 α1 e1 s1.heap (Ai hq rs)⟩⟩
  | frl hq rs=>exact⟨_,rfl,.inl ⟨⟨_,hq.sq⟩,w1 _ H1 α1 e1 s1.heap (tL hq.fro rs)⟩⟩
  | scr hq rs=>exact⟨_,rfl,.inl ⟨⟨_,hq.sq⟩,w1 _ H1 α1 e1 s1.heap (tL hq rs)⟩⟩
  | @ref n p hp=>
   cases el:aG h1 n with
   | none=>simp only[el] at w1;exact w1.elim
   | some ds=>
    simp only[el] at w1
    obtain⟨vs,hq,_⟩:=s1.heap.lst el hp
    exact⟨p,rfl,.inl ⟨⟨_,SqL.of hq⟩,w1 _ H1 α1 e1 s1.heap (AW hp)⟩⟩
  | _=>exact w1.elim
noncomputable def gL (ds:List D):List D:=(List.range ds.length).map fun(i:Nat)=>D.tup [.int i,ds.getD i .non]
noncomputable def wL:D->Hh->R Src
 | .tup ds,h=>.ok (.snap (gL ds)) h
 | .frl ds,h=>.ok (.snap (gL ds)) h
 | .ref n,h=>match aG h n with
  | some _=>.ok (.liveE n) h
  | none=>.bad
 | _,_=>.bad
noncomputable def nN (a:ME):MI:=fun env h=>(a env h).bind wL
theorem sL {ds:List D} {i:Nat}:(gL ds)[i]?=(ds[i]?).map fun d=>D.tup [.int i,d]:=by
 unfold gL
 rw[List.getElem?_map]
 by_cases hi:i<ds.length
 ·have e:ds.getD i .non=ds[i]:=by rw[List.getD_eq_getElem?_getD,List.getElem?_eq_getElem hi];rfl
  rw[List.getElem?_range hi,List.getElem?_eq_getElem hi,Option.map_some,Option.map_some,e]
 ·rw[List.getElem?_eq_none (by simpa using hi),List.getElem?_eq_none (by omega)];rfl
theorem qA {K:PySem.W.Frag} {α:List Addr} {H:Hp} {h:Hh} {i:Nat} {d:D} {v:V} {p:Addr} (hr:aZ K g α H h) (rv:aM K g α H d v) (hp:H p=none) :
  ∃α',Ext K α H α' (upd H p (.tup [.int i,v]))/\aZ K g α' (upd H p (.tup [.int i,v])) h/\aM K g α' (upd H p (.tup [.int i,v])) (.tup [.int i,d]) (.ref p):=
 ⟨α,Ext.fresh hp,hr.grow hp,.tup aP (.cons (.int _) (.cons (rv.ext (Ext.fresh hp)) .nil))⟩
theorem vU {K:PySem.W.Frag} {α:List Addr} {H:Hp} {a:Addr} {ds:List D} {vs:List V} (hq':H a=some (.tup vs)) (rs:aw K g α H ds vs):Reads K g (Iet K a) (Src.snap (gL ds)).rdr α H:=by
 intro α2 H2 h2 x2 hr i
 have hq2:SqT K H2 a vs:=SqT.of (x2.tup _ _ hq')
 have rs2:=rs.ext x2
 show match some (gL ds)[i]? with | none=>True | some none=>_ | some (some d)=>_
 rw[sL]
 cases e:ds[i]? with
 | none=>
  have:ds.length<=i:=List.getElem?_eq_none_iff.mp e
  exact⟨vs,hq2,by rw[<- rs.length];exact this⟩
 | some d=>
  obtain⟨v,ev,rv⟩:=rs2.get e
  refine⟨⟨vs,v,hq2,ev⟩,fun x H' y=>?_⟩
  obtain⟨p,v',e1,hp,e2,e3⟩:=y
  subst e1 e3
  have:=e2 vs hq2
  rw[ev] at this
  cases this
  exact qA hr rv hp
theorem wJ {K:PySem.W.Frag} {α:List Addr} {H:Hp} {a:Addr} {ds:List D} {vs:List V} (hq:Fro K H a vs) (rs:aw K g α H ds vs):Reads K g (Iel K a) (Src.snap (gL ds)).rdr α H:=by
 intro α2 H2 h2 x2 hr i
 have hq2:SqL K H2 a vs:=(x2.fro _ _ hq).sq
 have rs2:=rs.ext x2
 show match some (gL ds)[i]? with | none=>True | some none=>_ | some (some d)=>_
 rw[sL]
 cases e:ds[i]? with
 | none=>
  have:ds.length<=i:=List.getElem?_eq_none_iff.mp e
  exact⟨vs,hq2,by rw[<- rs.length];exact this⟩
 | some d=>
  obtain⟨v,ev,rv⟩:=rs2.get e
  refine⟨⟨vs,v,hq2,ev⟩,fun x H' y=>?_⟩
  obtain⟨p,v',e1,hp,e2,e3⟩:=y
  subst e1 e3
  have:=e2 vs hq2
  rw[ev] at this
  cases this
  exact qA hr rv hp
theorem wj {K:PySem.W.Frag} {α:List Addr} {H:Hp} {a:Addr} {n:Nat} (ha:α[n]?=some a):Reads K g (Iel K a) (Src.liveE n).rdr α H:=by
 intro α2 H2 h2 x2 hr i
 show match (aG h2 n).map fun ds=>(ds[i]?).map fun d=>D.tup [.int i,d] with | none=>True | some none=>_ | some (some d)=>_
 cases e:aG h2 n with
 | none=>trivial
 | some ds=>
  obtain⟨vs,hq',rs⟩:=hr.lst e (x2.get ha)
  have hq:SqL K H2 a vs:=SqL.of hq'
  show match some ((ds[i]?).map fun d=>D.tup [.int i,d]) with | none=>True | some none=>_ | some (some d)=>_
  cases ei:ds[i]? with
  | none=>
   have:ds.length<=i:=List.getElem?_eq_none_iff.mp ei
   exact⟨vs,hq,by rw[<- rs.length];exact this⟩
  | some d=>
   obtain⟨v,ev,rv⟩:=rs.get ei
   refine⟨⟨vs,v,hq,ev⟩,fun x H' y=>?_⟩
   obtain⟨p,v',e1,hp,e2,e3⟩:=y
   subst e1 e3
   have:=e2 vs hq
   rw[ev] at this
   cases this
   exact qA hr rv hp
theorem zO {elts:List Expr} {kt:Nat} {tp p pos:Pos} {e:Expr} {me:ME} (hg:Gl X "enumerate") (hm:X.mg "enumerate" = none) (he:PE X e (tM X.K g ε me)) (hs:starEach [e] X.env=[(false,eval e X.env)]:=by rfl):PI X (.Tuple elts kt tp) (.Call (.Name "enumerate" p) [e] [] pos) (tMI X.K g ε (nN me)):=
 PI.imp (Ep hg hm he hs) fun σ H T ⟨α,env,h,s,w⟩=>tM.use s w.bind fun d1 h1 v1 H1 α1 e1 s1 r1 w1=>by
  unfold wL at w1
  cases r1 with
  | tup hq rs=>exact⟨_,rfl,.inr ⟨⟨_,SqT.of hq⟩,w1 _ H1 α1 e1 s1.heap (vU hq rs)⟩⟩
  | frl hq rs=>exact⟨_,rfl,.inl ⟨⟨_,hq.sq⟩,w1 _ H1 α1 e1 s1.heap (wJ hq.fro rs)⟩⟩
  | @ref n p hp=>
   cases el:aG h1 n with
   | none=>simp only[el] at w1;exact w1.elim
   | some ds=>
    simp only[el] at w1
    obtain⟨vs,hq,_⟩:=s1.heap.lst el hp
    exact⟨p,rfl,.inl ⟨⟨_,SqL.of hq⟩,w1 _ H1 α1 e1 s1.heap (wj hp)⟩⟩
  | _=>exact w1.elim
noncomputable def bT (lo:Int) (n:Nat):List D:=(List.range n).map fun(i:Nat)=>D.int (lo+i)
noncomputable def m8:List D->Hh->R Src
 | [.int j],h=>if j.natAbs<=1000000 then .ok (.snap (bT 0 j.toNat)) h else .bad
 | _,_=>.bad
noncomputable def t_:List D->Hh->R Src
 | [.int i,.int j],h=>if i.natAbs<=1000000/\j.natAbs<=1000000 then .ok (.snap (bT i (j - i).toNat)) h else .bad
 | _,_=>.bad
noncomputable def kj (f:List D->Hh->R Src) (a:MA):MI:=fun env h=>(a env h).bind f
theorem tE {K:PySem.W.Frag} {α:List Addr} {H:Hp} {lo:Int} {n:Nat}:Reads K g (Itr lo n) (Src.snap (bT lo n)).rdr α H:=by
 intro α2 H2 h2 x2 hr i
 show match some (bT lo n)[i]? with | none=>True | some none=>_ | some (some d)=>_
 unfold bT
 rw[List.getElem?_map]
 by_cases hi:i<n
 ·rw[List.getElem?_range hi]
  refine⟨hi,fun x H' y=>?_⟩
  obtain⟨e1,e2⟩:=y
  subst e1 e2
  exact⟨α2,Ext.refl,hr,.int _⟩
 ·rw[List.getElem?_eq_none (by simpa using hi)]
  exact Nat.le_of_not_lt hi
theorem mz {tg a:Expr} {ma:MA} {p pos:Pos} (hg:Gl X "range") (hm:X.mg "range" = none) (ha:PA X [a] (tMA X.K g ε ma)) (hs:starEach [a] X.env=[(false,eval a X.env)]:=by rfl):PI X tg (.Call (.Name "range" p) [a] [] pos) (tMI X.K g ε (kj m8 ma)):=
 PI.imp (z_ hg hm ha hs) fun σ H T ⟨α,env,h,s,w⟩=>tMA.use s w.bind fun d1 h1 v1 H1 α1 e1 s1 r1 w1=>by
  unfold m8 at w1
  cases r1 with
  | nil=>exact w1.elim
  | cons ra rr=>
   cases rr with
   | cons _ _=>cases ra<;>exact w1.elim
   | nil=>
    cases ra with
    | int j=>
     obtain⟨hj,w2⟩:=WQ.fc w1
     exact⟨j,rfl,by omega,by omega,w2 _ H1 α1 e1 s1.heap tE⟩
    | _=>exact w1.elim
theorem yQ {tg a b:Expr} {ma:MA} {p pos:Pos} (hg:Gl X "range") (hm:X.mg "range" = none) (ha:PA X [a,b] (tMA X.K g ε ma)) (hs:starEach [a,b] X.env=[(false,eval a X.env),(false,eval b X.env)]:=by rfl) (hs2:starEach [b] X.env=[(false,eval b X.env)]:=by rfl):PI X tg (.Call (.Name "range" p) [a,b] [] pos) (tMI X.K g ε (kj t_ ma)):=
 PI.imp (Ax hg hm ha hs hs2) fun σ H T ⟨α,env,h,s,w⟩=>tMA.use s w.bind fun d1 h1 v1 H1 α1 e1 s1 r1 w1=>by
  unfold t_ at w1
  split at w1
  ·cases r1 with
   | cons ra rr=>
    cases ra
    cases rr with
    | cons rb rr=>
     cases rb
     cases rr
     obtain⟨hj,w2⟩:=WQ.fc w1
     exact⟨_,_,rfl,⟨by omega,by omega,by omega,by omega⟩,w2 _ H1 α1 e1 s1.heap tE⟩
  ·exact w1.elim
end
noncomputable abbrev E00:EE:=fun _ _ _=>False
noncomputable abbrev MF:=List D->Hh->R D
noncomputable def cH (n:Nat) (m:MS):MF:=fun ds h=>(m (ds.map some++List.replicate (n - ds.length) none) h).bind fun fl h1=>match fl with
 | .rt d=>.ok d h1
 | .nx _=>.ok .non h1
 | _=>.bad
noncomputable def spG (K:PySem.W.Frag) (g:GG) (ε:XK->EE) (np:Nat) (m:MF):Sp:=fun vs H Q E=>vs.length=np/\∃α ds h,aw K g α H ds vs/\aZ K g α H h/\WQ K g (ε E) α H (m ds h) (aF K g α H Q)
noncomputable abbrev spM (K:PySem.W.Frag) (g:GG) (np:Nat) (m:MF):Sp:=spG K g (fun _=>E00) np m
theorem kc {K:PySem.W.Frag} {g:GG} {α:List Addr} {H:Hp} {N:List Str} {ds:List D} {vs:List V} (r:aw K g α H ds vs):mF K g α H (ds.map some++List.replicate (N.length - ds.length) none) (start N vs):=by
 have hl:=r.length
 refine⟨by simp[start,hl],fun i d h=>?_⟩
 by_cases hi:i<ds.length
 ·rw[List.getElem?_append_left (by simpa using hi),List.getElem?_map] at h
  cases e:ds[i]? with
  | none=>rw[e] at h;cases h
  | some d'=>
   rw[e] at h
   cases h
   obtain⟨v,ev,rv⟩:=r.get e
   refine⟨v,?_,rv⟩
   unfold start
   rw[List.getElem?_append_left (by simp;omega),List.getElem?_map,ev]
   rfl
 ·rw[List.getElem?_append_right (by simpa using hi),List.getElem?_replicate] at h
  split at h<;>cases h
section
variable {P:Program} {w:World} {K:PySem.W.Frag} {mg:Str->Option Value} {base:Heap} {g:GG}
theorem iJ {x qual:Str} {st:Stmt} {f:Addr} {fd:FuncData} {N ps:List Str} {k:Nat} {mb:MS} (F:Fun K x qual st f fd) (S:aE N ps (ak st))
  (hb:∀(cdv:Value) (A:Around) (outer:List Env) (s:Shared) (H:Hp) (E:XK),cP k (A.deeper (envOfC qual (ak st) s.heap.objs.size f cdv)) →
   PSs (gT CX0 P w K mg base N qual (ak st) f cdv A outer s H E).nox (bQ st) (tMS K g E00 mb)):ef P w K mg base CX0 (k+1) f fd ps (spM K g ps.length (cH N.length mb)):=by
 refine F.ok S (fun vs H Q E h=>h.1) fun cdv A outer s H vs Q E hr h=>⟨_,hb cdv A outer s H E hr,?_⟩
 obtain⟨hl,α,ds,h,rs,hh,w⟩:=h
 refine tMS.use ⟨hh,kc rs⟩ w.bind fun fl h' H' α' e r kk=>?_
 cases fl with
 | nx e'=>exact fun σ' s'=>(show aF K g α H Q .non h' from kk) _ H' α' e r .non
 | bk e'=>exact kk.elim
 | ct e'=>exact kk.elim
 | rt d=>exact fun v rv=>(show aF K g α H Q d h' from kk) _ H' α' e r rv
end
section
variable {X:Cx} {g:GG}
theorem aH {k:Nat} {f:Addr} {fd:FuncData} {ps:List Str} {m:MF} {np:Nat} {x:Str} {p pos:Pos} {e:Expr} {es:List Expr} {mr:MA} (F:ef X.prog X.w X.K X.mg X.base CX0 k f fd ps (spM X.K g np m)) (hr:cP k X.A) (hg:Gl X x) (hm:X.mg x=some (.ref f)) (hk:PySem.W.keepIn X.K (.ref f)=true) (hb:Binds X.K fd ps [])
  (ha:PA X (e::es) (tMA X.K g E00 mr)) (hlen:∀env h ds h',mr env h=.ok ds h'->ds.length=np) (hdb:(x == ("__debug__" : Str))=false:=by decide) (he:starEach (e::es) X.env=(false,eval e X.env)::starEach es X.env:=by rfl) (hpl:(backTo pos (starEach es X.env)).any (·.1)=false:=by rfl) :
  PE X (.Call (.Name x p) (e::es) [] pos) (tM X.K g E00 (ai m mr)):=
 PE.imp (zu F hr hg hm hk hb .nil Ji ha hdb he hpl) fun σ H Q ⟨α,env,h,s,w⟩=>⟨α,env,h,s,w.bind.mono fun d1 h1 eq w1 v1 H1 α1 e1 hr1 r1=>by
  show spM X.K g np m (v1++[]) H1 Q E0
  rw[List.append_nil]
  refine⟨?_,α1,d1,h1,r1,hr1,w1.post e1⟩
  rw[<- r1.length]
  exact hlen env h d1 h1 eq⟩
theorem ax:∀env h ds h',ao env h=.ok ds h'->ds.length=0:=fun env h ds h' e=>by cases e;rfl
theorem ah {a:ME} {r:MA} {n:Nat} (q:∀env h ds h',r env h=.ok ds h'->ds.length=n):∀env h ds h',ae a r env h=.ok ds h'->ds.length=n+1:=fun env h ds h' e=>by
 unfold ae at e
 cases e1:a env h with
 | ok d h1=>
  rw[e1] at e
  cases e2:r env h1 with
  | ok ds2 h2=>
   have e3:(R.ok (d::ds2) h2:R (List D))=.ok ds h':=by simpa [R.bind,e2] using e
   cases e3
   simp[q env h1 ds2 h' e2]
  | err x h2=>simp[R.bind,e2] at e
  | bad=>simp[R.bind,e2] at e
 | err x h2=>rw[e1] at e;cases e
 | bad=>rw[e1] at e;cases e
end
noncomputable def kS (ix:List Nat) (env:En) (d:D):En:=some d::ix.map fun i=>(env[i]?).join
noncomputable def tt1:MT:=fun _ h=>.ok true h
noncomputable def jl (rd:Rdr) (tt:MT) (te:ME) (ee:D->En):Nat->Nat->List D->Hh->R (List D)
 | k,i,acc,h=>match rd h i with
  | none=>.bad
  | some none=>.ok acc h
  | some (some d)=>match k with
   | 0=>.bad
   | k+1=>(tt (ee d) h).bind fun b h1=>if b=true then (te (ee d) h1).bind fun y h2=>jl rd tt te ee k (i+1) (acc++[y]) h2 else jl rd tt te ee k (i+1) acc h1
noncomputable def df (tt:MT) (te:ME) (ee:D->En):List D->Hh->R (List D)
 | [],h=>.ok [] h
 | d::ds,h=>(tt (ee d) h).bind fun b h1=>if b=true then (te (ee d) h1).bind fun y h2=>(df tt te ee ds h2).bind fun ys h3=>.ok (y::ys) h3 else df tt te ee ds h1
theorem dm {β γ δ:Type} (r:R β) (f:β->Hh->R γ) (k:γ->Hh->R δ):(r.bind f).bind k=r.bind fun b h=>(f b h).bind k:=by cases r<;>rfl
theorem CM (tt:MT) (te:ME) (ee:D->En) (all:List D):∀(ds:List D) (i:Nat) (acc:List D) (h:Hh),all.drop i=ds->jl (Src.snap all).rdr tt te ee ds.length i acc h=(df tt te ee ds h).bind fun ys h'=>.ok (acc++ys) h':=by
 intro ds
 induction ds with
 | nil=>
  intro i acc h e
  have:all[i]?=none:=by
   have:=congrArg List.length e
   simp at this
   exact List.getElem?_eq_none (by omega)
  unfold jl df Src.rdr
  simp[this,R.bind]
 | cons d ds ih=>
  intro i acc h e
  have h0:all[i]?=some d:=by
   have:=congrArg (fun l=>l[0]?) e
   simpa using this
  have h1:all.drop (i+1)=ds:=by
   have:=congrArg List.tail e
   simpa using this
  unfold jl df
  have:(Src.snap all).rdr h i=some (some d):=by unfold Src.rdr;simp[h0]
  rw[this]
  show((tt (ee d) h).bind _)=_
  rw[dm]
  congr 1
  funext b h2
  cases b with
  | false=>rw[if_neg Bool.false_ne_true,if_neg Bool.false_ne_true];exact ih (i+1) acc h2 h1
  | true=>
   rw[if_pos rfl,if_pos rfl,dm]
   congr 1
   funext y h3
   rw[dm]
   have:=ih (i+1) (acc++[y]) h3 h1
   rw[this]
   congr 1
   funext ys h4
   show R.ok (acc++[y]++ys) h4=R.ok (acc++(y::ys)) h4
   simp
noncomputable def fB (nl:NL) (mi:MI) (ix:List Nat) (tt:MT) (te:ME):ME:=fun env h=>(mi env h).bind fun sr h1=>if sr.fuel h1<=1000000 then
 (match sr with
  | .snap ds=>df tt te (kS ix env) ds h1
  | .live n=>jl (Src.live n).rdr tt te (kS ix env) ((aG h1 n).getD []).length 0 [] h1
  | .liveE n=>jl (Src.liveE n).rdr tt te (kS ix env) ((aG h1 n).getD []).length 0 [] h1).bind nl else .bad
theorem BH {nl:NL} {mi:MI} {ix:List Nat} {tt:MT} {te:ME} {env:En} {h:Hh}:fB nl mi ix tt te env h=(mi env h).bind fun sr h1=>if sr.fuel h1<=1000000 then (jl sr.rdr tt te (kS ix env) (sr.fuel h1) 0 [] h1).bind nl else .bad:=by
 unfold fB
 congr 1
 funext sr h1
 cases sr with
 | snap ds=>
  have:=CM tt te (kS ix env) ds ds 0 [] h1 rfl
  simp only[List.nil_append] at this
  have e:(Src.snap ds).fuel h1=ds.length:=rfl
  rw[e,this,dm]
  rfl
 | live n=>rfl
 | liveE n=>rfl
theorem EG {K:PySem.W.Frag} {g:GG} {α:List Addr} {H:Hp} {env:En} {σ:St} {ix:List Nat} {d:D} {v:V} (s:mF K g α H env σ) (r:aM K g α H d v):mF K g α H (kS ix env d) ((sM ix σ).set 0 (some v)):=by
 refine⟨by simp[kS,sM],fun i e h=>?_⟩
 cases i with
 | zero=>
  have:d=e:=by simpa [kS] using h
  subst this
  exact⟨v,by simp[sM],r⟩
 | succ i=>
  have h':(ix.map fun i=>(env[i]?).join)[i]?=some (some e):=by simpa [kS] using h
  rw[List.getElem?_map] at h'
  cases ei:ix[i]? with
  | none=>rw[ei] at h';cases h'
  | some j=>
   rw[ei] at h'
   have h2:(env[j]?).join=some e:=by simpa using h'
   cases ej:env[j]? with
   | none=>rw[ej] at h2;cases h2
   | some oe=>
    rw[ej] at h2
    have h3:oe=some e:=by simpa using h2
    subst h3
    obtain⟨u,eu,ru⟩:=s.vars j e ej
    refine⟨u,?_,ru⟩
    simp only[sM,List.set_cons_zero,List.getElem?_cons_succ,List.getElem?_map,ei,Option.map_some,eu]
    rfl
section
variable {X:Cx} {g:GG}
theorem lu:PTs X [] (tMT X.K g E00 tt1):=fun pins s σ H Q I ⟨α,env,h,s',w⟩=>E8 pins s σ H Q I (w H α Ext.refl s'.heap)
theorem yM {c:Expr} {mt:MT} (h:PT X c (tMT X.K g E00 mt)):PTs X [c] (tMT X.K g E00 mt):=Fg h
theorem Bl {K:PySem.W.Frag} {nl:NL} [lC nl] {mi:MI} {tt:MT} {te:ME} {ix:List Nat} {σ:St} {H:Hp} {Q R:VK} (hR:∀v H,ki Q v H->R v H) (t:tM K g E00 (fB nl mi ix tt te) σ H Q):FY (tMI K g E00 mi) ix (tMT K g E00 tt) (tM K g E00 te) σ H R:=by
 obtain⟨α,env,h,s,w⟩:=t
 rw[BH] at w
 refine⟨α,env,h,s,w.bind.mono fun sr h1 _ w1 J H1 α1 e1 hr1 rd=>fun acc hacc=>?_⟩
 obtain⟨hf,w1⟩:=WQ.fc w1
 have s1:=s.ext e1 hr1
 refine⟨fun i m ys H=>∃α h as,Ext K α1 H1 α H/\aZ K g α H h/\aw K g α H as ys/\H acc=some (.lst ys)/\acc∉α/\as.length+m<=1000000 ∧
  WQ K g E00 α1 H1 ((jl sr.rdr tt te (kS ix env) m i as h).bind nl) (aF K g α1 H1 Q),
  ⟨sr.fuel h1,α1,h1,[],Ext.fresh hacc,hr1.grow hacc,.nil,aP,hr1.free hacc,by simpa using hf,w1.post e1⟩,?_⟩
 rintro i m ys H2 ⟨α2,h2,as,x2,hr2,ra,ha,hna,hm,w2⟩
 have q:=rd α2 H2 h2 x2 hr2 i
 unfold jl at w2
 cases e:sr.rdr h2 i with
 | none=>rw[e] at w2;exact w2.elim
 | some od=>
  rw[e] at w2 q
  cases od with
  | none=>
   refine .inl ⟨q,?_⟩
   exact hR _ _ <| lC.at' (show WQ K g E00 α1 H1 (nl as h2) _ from w2) (fun _ _ z=>z) x2 hr2 ra ha hna hacc
  | some d=>
   cases m with
   | zero=>exact w2.elim
   | succ m=>
    rw[dm] at w2
    have w3:=WQ.bind (show WQ K g E00 α1 H1 ((tt (kS ix env d) h2).bind _) _ from w2)
    refine .inr ⟨q.1,fun x H3 y=>?_⟩
    obtain⟨α3,x3,hr3,rx⟩:=q.2 x H3 y
    have ha3:=x3.keep _ _ ha hna
    have hna3:acc∉α3:=fun z=>by have:=x3.new _ z hna;rw[ha] at this;cases this
    have s3:eP K g α3 H3 (kS ix env d) ((sM ix σ).set 0 (some x)) h2:=⟨hr3,EG (s1.vs.ext (x2.trans x3)) rx⟩
    refine tMT.use s3 ((w3.ext x2).ext x3) fun b h4 H4 α4 x4 s4 w4=>?_
    have ha4:=x4.keep _ _ ha3 hna3
    have hna4:acc∉α4:=fun z=>by have:=x4.new _ z hna3;rw[ha3] at this;cases this
    cases b with
    | false=>
     rw[if_neg Bool.false_ne_true] at w4 ⊢
     exact⟨m,Nat.lt_succ_self _,α4,h4,as,x2.trans (x3.trans x4),s4.heap,ra.ext (x3.trans x4),ha4,hna4,by omega,w4⟩
    | true=>
     rw[if_pos rfl] at w4 ⊢
     rw[dm] at w4
     refine tM.use s4 (((WQ.bind w4).ext x2).ext (x3.trans x4)) fun y h5 v5 H5 α5 x5 s5 r5 w5=>?_
     have ha5:=x5.keep _ _ ha4 hna4
     have hna5:acc∉α5:=fun z=>by have:=x5.new _ z hna4;rw[ha4] at this;cases this
     have soft:Fi H5 acc:=.inr ⟨_,ha5,fun _ z=>(nomatch z),fun _ _ z=>(nomatch z),fun _ z=>nomatch z⟩
     have x6:Ex0 K α5 H5 α5 (upd H5 acc (.lst (ys++[v5]))):=Ex0.upd soft
     have tr:=x2.trans (x3.trans (x4.trans x5))
     refine⟨ha5,?_,m,Nat.lt_succ_self _,α5,h5,as++[y],⟨tr.toEx0.trans x6,fun p o z n nt=>?_,tr.new⟩,s5.heap.off soft hna5,((ra.ext (x3.trans (x4.trans x5))).append (.cons r5 .nil)).ex0 x6,aP,hna5,by rw[List.length_append];simp;omega,w5⟩
     ·rw[<- ra.length,sizeLine_eq];omega
     ·rw[aC (aN z hacc)];exact tr.kept p o z n nt
end
noncomputable def sml (i:Int):Bool:=decide (i.natAbs<2 ^ 1900)
theorem rH {i:Int} (h:sml i=true):Builtin.Int.intBits i<=1900:=by
 have h':i.natAbs<2 ^ 1900:=of_decide_eq_true h
 unfold Builtin.Int.intBits
 split
 ·omega
 ·rename_i z
  have z':i.natAbs≠0:=by
   intro q
   apply z
   have:i=0:=Int.natAbs_eq_zero.mp q
   rw[this];rfl
  have:=(Nat.log2_lt z').mpr h'
  omega
theorem pM {i:Int} (h:sml i=true):i.natAbs.log2<1900:=by
 have h':i.natAbs<2 ^ 1900:=of_decide_eq_true h
 by_cases z:i.natAbs=0
 ·rw[z];decide
 ·exact(Nat.log2_lt z).mpr h'
theorem HR {i:Int} (h:i.natAbs<=10 ^ 560):sml i=true:=by
 refine decide_eq_true (Nat.lt_of_le_of_lt h (by decide +kernel))
section
variable {X:Cx} {K:PySem.W.Frag} {g:GG} {ε:EE}
theorem OpR.or {f:Value->Value->Sem Value} {r r':R2} (h:OpR X f r) (h':OpR X f r'):OpR X f (fun x y H Q=>r x y H Q\/r' x y H Q):=fun pins s σ H x y v u Q I rx ry q=>q.elim (h pins s σ H x y v u Q I rx ry) (h' pins s σ H x y v u Q I rx ry)
noncomputable def qQ (d:D) (h:Hh):Option (List D):=match d with
 | .frl ds=>some ds
 | .ref n=>aG h n
 | _=>none
theorem xZ {α:List Addr} {H:Hp} {h:Hh} {d:D} {x:V} {ds:List D} (r:aZ K g α H h) (rd:aM K g α H d x) (e:qQ d h=some ds):∃p vs,x=.ref p/\Rd H p (.lst vs)/\aw K g α H ds vs:=by
 unfold qQ at e
 cases rd with
 | frl hq rs=>cases e;exact⟨_,_,rfl,hq.rd,rs⟩
 | ref hp=>obtain⟨vs,hv,rs⟩:=r.lst e hp;exact⟨_,vs,rfl,.inl hv,rs⟩
 | _=>cases e
noncomputable def Ge:R2:=fun x y H Q=>∃l b xs zs,x=.ref l/\y=.ref b/\Rd H l (.lst xs)/\Rd H b (.lst zs)/\xs.length+zs.length<=sizeLine/\∀p,H p=none->Q (.ref p) (upd H p (.lst (xs++zs)))
theorem HP {X:Cx} {pins:List (Addr × Obj)} {σ:St} {H:Hp} {s:Shared} {l:Addr} {xs:List V} (I:Inv X pins σ H s) (h:Rd H l (.lst xs)):∃(its:List Value) (n:Nat),xs.length<=sizeLine/\Vals xs its/\xs.length=its.length/\s.heap.get? l=some { cls:=.type "list", data:=.seq its.toArray n }:=by
 obtain⟨z,its,n,r,e⟩:=h.ok I.hok
 exact⟨its,n,z,r,r.length,e⟩
theorem Fu:OpR X (binaryOp .Add) Ge:=by
 intro pins s σ H x y v u Q I rx ry h
 obtain⟨l,b,xs,zs,rfl,rfl,hH,hB,hz,q⟩:=h
 cases rx
 cases ry
 obtain⟨its,n,z,r,hl,e⟩:=HP I hH
 obtain⟨its2,n2,z2,r2,hl2,e2⟩:=HP I hB
 refine PySem.P.add_list e e2 ?_ (by rw[List.size_toArray,List.size_toArray];omega)
 have ea:its.toArray++its2.toArray=(its++its2).toArray:=by simp
 rw[ea]
 exact⟨.ref _,_,I.He (t':=s.toks) (r.append r2) (by rw[List.length_append];omega),rfl,q _ I.fresh⟩
noncomputable def bS (nl:NL):D->D->Hh->R D:=fun x y h=>match x,y with
 | .int i,.int j=>.ok (.int (i+j)) h
 | .tup a,.tup b=>if a.length+b.length<=1000000 then .ok (.tup (a++b)) h else .bad
 | .str a,.str b=>if a.length+b.length<=1000000 then .ok (.str (a++b)) h else .bad
 | x,y=>match qQ x h,qQ y h with
  | some a,some b=>if a.length+b.length<=1000000 then nl (a++b) h else .bad
  | _,_=>.bad
noncomputable abbrev Dn (K:PySem.W.Frag):R2:=fun x y H Q=>(rI0 fun i j=>.int (i+j)) x y H Q\/(Gd K x y H Q\/BR K x y H Q)\/Ge x y H Q\/∃i j,x=.str i/\y=.str j/\i.length+j.length<=sizeLine/\Q (.str (i++j)) H
theorem a8:OpR X (binaryOp .Add) (fun x y H Q=>Dn X.K x y H (ki Q)):=OpR.frz (OpR.or IB (OpR.or (OpR.or D7 B5) (OpR.or Fu xQ)))
theorem aF.A3 {α:List Addr} {H:Hp} {h:Hh} {Q:VK} {d:D} {v:V} (p:aF K g α H Q d h) (r:aZ K g α H h) (rd:aM K g α H d v):ki Q v H:=.inl (p.now r rd)
theorem a9 {nl:NL} [lC nl]:fY K g ε (bS nl) (fun x y H Q=>Dn K x y H (ki Q)):=by
 intro α H h a b x y Q r ra rb w
 have gen:∀{a b:D} {x y:V},aM K g α H a x->aM K g α H b y->WQ K g ε α H (match qQ a h,qQ b h with
  | some a,some b=>if a.length+b.length<=1000000 then nl (a++b) h else .bad
  | _,_=>.bad) (aF K g α H Q)->Dn K x y H (ki Q):=by
  intro a b x y ra rb w
  cases e1:qQ a h with
  | none=>simp only[e1] at w;exact w.elim
  | some da=>
   cases e2:qQ b h with
   | none=>simp only[e1,e2] at w;exact w.elim
   | some db=>
    simp only[e1,e2] at w
    obtain⟨p,va,rfl,hva,rsa⟩:=xZ r ra e1
    obtain⟨q,vb,rfl,hvb,rsb⟩:=xZ r rb e2
    obtain⟨hl,w⟩:=WQ.fc w
    refine .inr (.inr (.inl ⟨p,q,va,vb,rfl,rfl,hva,hvb,hW (by rw[<- rsa.length,<- rsb.length];exact hl),fun l hl'=>?_⟩))
    exact NL.post w r (rsa.append rsb) hl'
 unfold bS at w
 split at w
 ·cases ra
  cases rb
  exact .inl ⟨_,_,rfl,rfl,aF.A3 w r (.int _)⟩
 ·cases ra with
  | @tup da pa va ha rsa=>
   cases rb with
   | @tup db pb vb hb rsb=>
    obtain⟨hl,w⟩:=WQ.fc w
    refine .inr (.inl ?_)
    cases va with
    | nil=>
     cases rsa
     exact .inr ⟨_,_,_,rfl,rfl,SqT.of ha,SqT.of hb,aF.A3 w r (.tup hb rsb)⟩
    | cons z zs=>
     refine .inl ⟨_,_,_,_,rfl,rfl,SqT.of ha,SqT.of hb,by simp,hW (by rw[<- rsa.length,<- rsb.length];exact hl),fun e=>?_,fun _ p hp=>.inl (aF.tup w r (rsa.append rsb) hp)⟩
     subst e
     cases rsb
     refine aF.A3 w r (.tup ha ?_)
     rw[List.append_nil];exact rsa
 ·cases ra
  cases rb
  obtain⟨hl,w⟩:=WQ.fc w
  exact .inr (.inr (.inr ⟨_,_,rfl,rfl,hW hl,aF.A3 w r (.str _)⟩))
 ·exact gen ra rb w
noncomputable def je:D->D->Hh->R D
 | .int i,.int j,h=>.ok (.int (i - j)) h
 | _,_,_=>.bad
theorem gf:fY K g ε je (rI0 fun i j=>.int (i - j)):=by
 intro α H h a b x y Q r ra rb w
 unfold je at w
 cases ra with
 | int i=>
  cases rb with
  | int j=>exact⟨i,j,rfl,rfl,aF.now w r (.int _)⟩
  | _=>exact w.elim
 | _=>exact w.elim
noncomputable def FZ:R2:=fun x y H Q=>∃l k xs,x=.ref l/\y=.int k/\Rd H l (.lst xs)/\-(2 ^ 63)<=k/\k<2 ^ 63/\xs.length*k.toNat<=sizeLine ∧
 ∀p,H p=none->Q (.ref p) (upd H p (.lst (List.replicate k.toNat xs).flatten))
theorem E2:OpR X (binaryOp .Mult) FZ:=by
 intro pins s σ H x y v u Q I rx ry h
 obtain⟨l,k,xs,rfl,rfl,hH,h1,h2,hz,q⟩:=h
 cases rx
 obtain⟨t,rfl⟩:=ry
 obtain⟨its,n,z,r,hl,e⟩:=HP I hH
 have hlen:its.toArray.size*k.toNat<=sizeLine:=by rw[List.size_toArray,<- hl];exact hz
 have hcap:¬ its.toArray.size*k.toNat > (2 ^ 63 - 1) / 8:=by
  have:(sizeLine:Nat)<=(2 ^ 63 - 1) / 8:=by decide
  omega
 have hfit:¬ (!Builtin.List.listFitsIndex k)=true:=by
  rw[fitsIndex_both h1 h2]
  exact Bool.false_ne_true
 have hlong:¬ Builtin.List.listTooLong (its.toArray.size*k.toNat)=true:=by
  rw[DK hlen]
  exact Bool.false_ne_true
 have hnew:List.foldl (fun x1 x2=>x1++x2) #[] (List.replicate (if its.toArray.isEmpty=true then 0 else k.toNat) its.toArray)=(List.replicate k.toNat its).flatten.toArray:=by
  have f0:∀m:Nat,List.foldl (fun x1 x2=>x1++x2) #[] (List.replicate m its.toArray)=(List.replicate m its).flatten.toArray:=fun m=>by
   have:=foldl_rep its m []
   rw[List.nil_append] at this
   exact this
  rw[f0]
  cases its with
  | nil=>simp
  | cons a r'=>rw[if_neg (by simp)]
 refine wpAny_binaryOp_repeat_ref (T:="list") (U:="int") (by decide) ⟨_,e,rfl⟩ (fun s'=>typeIs_int s' k t) noFill_list_mul F.fills_int_mul F.slot_int_rmul repeat_list F.slot_int_index.lookup
  (call_meets F.slot_int_rmul (typeIs_int s k t) F.entry_int_rmul (F.args_int_rmul_2 _ _) (int___rmul___int_list k t l its.toArray n)
   ⟨e,rfl,⟨_,e,rfl⟩,call_meets F.slot_list_mul ⟨_,e,rfl⟩ F.entry_list_mul (F.args_list_mul_2 _ _) (AutoListH.list___mul___list_int_3 l its.toArray n k t hfit hcap hlong) ⟨e,?_⟩⟩)
 rw[hnew]
 exact⟨.ref _,_,I.He (t':=s.toks) (r.rep k.toNat) (by rw[len_rep,Nat.mul_comm];exact hz),rfl,q _ I.fresh⟩
noncomputable def lH (nl:NL):D->D->Hh->R D:=fun x y h=>match x,y with
 | .int i,.int j=>if sml i=true/\sml j=true then .ok (.int (i*j)) h else .bad
 | x,.int k=>match qQ x h with
  | some ds=>if k.natAbs<=1000000/\ds.length*k.toNat<=1000000 then nl (List.replicate k.toNat ds).flatten h else .bad
  | none=>.bad
 | _,_=>.bad
theorem EF:OpR X (binaryOp .Mult) (rI (fun i j=>sml i=true/\sml j=true) fun i j=>.int (i*j)):=opI fun _ _ _ _ _ _ _ hc q=>mul_int q (IntMulOk.of_bits (Nat.le_trans (rH hc.1) (by decide)) (Nat.le_trans (rH hc.2) (by decide)))
noncomputable abbrev BW:R2:=fun x y H Q=>(rI (fun i j=>sml i=true/\sml j=true) fun i j=>.int (i*j)) x y H Q\/FZ x y H Q
theorem lx:OpR X (binaryOp .Mult) (fun x y H Q=>BW x y H (ki Q)):=OpR.frz (OpR.or EF E2)
theorem kZ {nl:NL} [lC nl]:fY K g ε (lH nl) (fun x y H Q=>BW x y H (ki Q)):=by
 intro α H h a b x y Q r ra rb w
 have gen:∀{a:D} {k:Int} {x:V},aM K g α H a x->WQ K g ε α H (match qQ a h with
  | some ds=>if k.natAbs<=1000000/\ds.length*k.toNat<=1000000 then nl (List.replicate k.toNat ds).flatten h else .bad
  | none=>.bad) (aF K g α H Q)->BW x (.int k) H (ki Q):=by
  intro a k x ra w
  cases e1:qQ a h with
  | none=>simp only[e1] at w;exact w.elim
  | some ds=>
   simp only[e1] at w
   obtain⟨hl,w⟩:=WQ.fc w
   obtain⟨p,vs,rfl,hv,rs⟩:=xZ r ra e1
   refine .inr ⟨p,k,vs,rfl,rfl,hv,by omega,by omega,hW (by rw[<- rs.length];exact hl.2),fun l hl'=>?_⟩
   exact NL.post w r (rs.flat k.toNat) hl'
 unfold lH at w
 split at w
 ·cases ra
  cases rb
  obtain⟨hc,w⟩:=WQ.fc w
  exact .inl ⟨_,_,rfl,rfl,hc,aF.A3 w r (.int _)⟩
 ·cases rb
  exact gen ra w
 ·exact w.elim
noncomputable def Dp:D->D->Hh->R D
 | .int i,.int j,h=>if 0<j/\sml j=true then .ok (.int (i / j)) h else .bad
 | _,_,_=>.bad
theorem wQ:OpR X (binaryOp .FloorDiv) (rI (fun i j=>0<j/\sml j=true) fun i j=>.int (i / j)):=opI fun i j _ _ _ _ _ hc q=>by
 have e:i.fdiv j=i / j:=Int.fdiv_eq_ediv_of_nonneg _ (by omega)
 refine floordiv_int (by omega) ?_ (.inl (PyProof.noPylong_of_log2 (Nat.lt_trans (pM hc.2) (by decide))))
 rw[e];exact q
theorem B8:fY K g ε Dp (rI (fun i j=>0<j/\sml j=true) fun i j=>.int (i / j)):=by
 intro α H h a b x y Q r ra rb w
 unfold Dp at w
 cases ra with
 | int i=>
  cases rb with
  | int j=>
   obtain⟨hc,w⟩:=WQ.fc w
   exact⟨i,j,rfl,rfl,hc,aF.now w r (.int _)⟩
  | _=>exact w.elim
 | _=>exact w.elim
noncomputable def xv:D->D->Hh->R D
 | .int i,.int j,h=>if 0<j then .ok (.int (i % j)) h else .bad
 | _,_,_=>.bad
theorem qP:fY K g ε xv (rI (fun _ j=>0<j) fun i j=>.int (i % j)):=by
 intro α H h a b x y Q r ra rb w
 unfold xv at w
 cases ra with
 | int i=>
  cases rb with
  | int j=>
   obtain⟨hc,w⟩:=WQ.fc w
   exact⟨i,j,rfl,rfl,hc,aF.now w r (.int _)⟩
  | _=>exact w.elim
 | _=>exact w.elim
noncomputable def vj:D->D->Hh->R D
 | .int i,.int j,h=>if 0<=j/\j.natAbs<=1000/\sml i=true then .ok (.int (i ^ j.toNat)) h else .bad
 | _,_,_=>.bad
theorem mn:OpR X (binaryOp .Pow) (rI (fun i j=>0<=j/\j.natAbs<=1000/\sml i=true) fun i j=>.int (i ^ j.toNat)):=opI fun i j _ _ _ _ _ hc q=>pow_int hc.1 (by
 have:=rH hc.2.2
 have h1:((Builtin.Int.intBits i:Nat):Int)<=1900:=by exact_mod_cast this
 calc ((Builtin.Int.intBits i:Nat):Int)*j<=1900*j:=Int.mul_le_mul_of_nonneg_right h1 hc.1
  _<=1900*1000:=Int.mul_le_mul_of_nonneg_left (show j<=1000 by have:=hc.2.1;omega) (by decide)
  _<=2 ^ 27:=by decide) q
theorem qT:fY K g ε vj (rI (fun i j=>0<=j/\j.natAbs<=1000/\sml i=true) fun i j=>.int (i ^ j.toNat)):=by
 intro α H h a b x y Q r ra rb w
 unfold vj at w
 cases ra with
 | int i=>
  cases rb with
  | int j=>
   obtain⟨hc,w⟩:=WQ.fc w
   exact⟨i,j,rfl,rfl,hc,aF.now w r (.int _)⟩
  | _=>exact w.elim
 | _=>exact w.elim
noncomputable def oH:D->Hh->R D
 | .int i,h=>.ok (.int (-i)) h
 | _,_=>.bad
theorem nj:Kx K g ε oH (rU fun i=>.int (-i)):=by
 intro α H h a x Q r ra w
 unfold oH at w
 cases ra with
 | int i=>exact⟨i,rfl,aF.now w r (.int _)⟩
 | _=>exact w.elim
noncomputable def AG (p:Int->Int->Bool):D->D->Hh->R D
 | .int i,.int j,h=>.ok (.bl (p i j)) h
 | _,_,_=>.bad
noncomputable def ltI:Int->Int->Bool
 | .ofNat a,.ofNat b=>Nat.blt a b
 | .ofNat _,.negSucc _=>false
 | .negSucc _,.ofNat _=>true
 | .negSucc a,.negSucc b=>Nat.blt b a
theorem rq:ltI=fun i j=>decide (i<j):=by
 funext i j
 cases i with
 | ofNat a=>
  cases j with
  | ofNat b=>
   show Nat.blt a b=_
   rw[Bool.eq_iff_iff,Nat.blt_eq,decide_eq_true_iff]
   exact Int.ofNat_lt.symm
  | negSucc b=>exact(decide_eq_false (by have:Int.ofNat a=(a:Int):=rfl;omega)).symm
 | negSucc a=>
  cases j with
  | ofNat b=>exact(decide_eq_true (by have:Int.ofNat b=(b:Int):=rfl;omega)).symm
  | negSucc b=>
   show Nat.blt b a=_
   rw[Bool.eq_iff_iff,Nat.blt_eq,decide_eq_true_iff]
   omega
noncomputable def leI (i j:Int):Bool:=!ltI j i
theorem uJ:leI=fun i j=>decide (i<=j):=by
 funext i j
 unfold leI
 rw[rq,Bool.eq_iff_iff]
 simp
noncomputable def dLt:D->D->Hh->R D:=AG ltI
noncomputable def dLe:D->D->Hh->R D:=AG leI
noncomputable def dGt:D->D->Hh->R D:=AG fun i j=>ltI j i
noncomputable def dGe:D->D->Hh->R D:=AG fun i j=>leI j i
theorem vy {p:Int->Int->Bool}:fY K g ε (AG p) (rI0 fun i j=>.bl (p i j)):=by
 intro α H h a b x y Q r ra rb w
 unfold AG at w
 cases ra with
 | int i=>
  cases rb with
  | int j=>exact⟨i,j,rfl,rfl,aF.now w r (.bl _)⟩
  | _=>exact w.elim
 | _=>exact w.elim
theorem xC:fY K g ε dLt (rI0 fun i j=>.bl (decide (i<j))):=by
 unfold dLt;rw[rq];exact vy
theorem tV:fY K g ε dLe (rI0 fun i j=>.bl (decide (i<=j))):=by
 unfold dLe;rw[uJ];exact vy
theorem zb:fY K g ε dGt (rI0 fun i j=>.bl (decide (j<i))):=by
 unfold dGt;rw[rq];exact vy
theorem JK:fY K g ε dGe (rI0 fun i j=>.bl (decide (j<=i))):=by
 unfold dGe;rw[uJ];exact vy
noncomputable def jR (d:D) (h:Hh):Option (List D):=match d with
 | .tup ds=>some ds
 | .frl ds=>some ds
 | .scr ds=>some ds
 | .ref n=>aG h n
 | _=>none
theorem t4 {α:List Addr} {H:Hp} {h:Hh} {d:D} {x:V} {ds:List D} (r:aZ K g α H h) (rd:aM K g α H d x) (e:jR d h=some ds):∃p vs,x=.ref p/\(SqL K H p vs\/SqT K H p vs)/\aw K g α H ds vs:=by
 unfold jR at e
 cases rd with
 | tup hq rs=>cases e;exact⟨_,_,rfl,.inr (SqT.of hq),rs⟩
 | frl hq rs=>cases e;exact⟨_,_,rfl,.inl hq.sq,rs⟩
 | scr hq rs=>cases e;exact⟨_,_,rfl,.inl hq.sq,rs⟩
 | ref hp=>obtain⟨vs,hv,rs⟩:=r.lst e hp;exact⟨_,vs,rfl,.inl (SqL.of hv),rs⟩
 | _=>cases e
noncomputable def dIx:D->D->Hh->R D:=fun a b h=>match jR a h,b with
 | some ds,.int i=>match atI ds i with
  | some d=>.ok d h
  | none=>.bad
 | _,_=>.bad
theorem yZ {α:List Addr} {H:Hp} {ds:List D} {vs:List V} {i:Int} {d:D} (rs:aw K g α H ds vs) (e:atI ds i=some d):∃v,atI vs i=some v/\aM K g α H d v:=by
 unfold atI at e ⊢
 rw[<- rs.length]
 cases e1:ixN ds.length i with
 | none=>rw[e1] at e;cases e
 | some j=>
  rw[e1] at e
  exact rs.get e
theorem dC:fY K g ε dIx (rIx K):=by
 intro α H h a b x y Q r ra rb w
 unfold dIx at w
 cases e1:jR a h with
 | none=>simp only[e1] at w;exact w.elim
 | some ds=>
  simp only[e1] at w
  obtain⟨p,vs,rfl,hq,rs⟩:=t4 r ra e1
  cases rb with
  | int i=>
   cases e2:atI ds i with
   | none=>simp only[e2] at w;exact w.elim
   | some d=>
    simp only[e2] at w
    obtain⟨v,ev,rv⟩:=yZ rs e2
    rcases hq with hq | hq
    ·exact .inl ⟨p,vs,i,v,rfl,rfl,hq,ev,aF.now w r rv⟩
    ·exact .inr (.inl ⟨p,vs,i,v,rfl,rfl,hq,ev,aF.now w r rv⟩)
  | _=>exact w.elim
noncomputable def jg:D->D->D->Hh->R Unit:=fun o i v h=>match o,i with
 | .ref n,.int k=>match aG h n with
  | some ds=>match ixN ds.length k with
   | some j=>.ok () (h.set n (.lst (ds.set j v)))
   | none=>.bad
  | none=>.bad
 | _,_=>.bad
theorem qv:Km K g ε jg F_:=by
 intro α H h o i v x y z Q r ro ri rv w
 unfold jg at w
 cases ro with
 | @ref n p hp=>
  cases ri with
  | int k=>
   cases e1:aG h n with
   | none=>simp only[e1] at w;exact w.elim
   | some ds=>
    simp only[e1] at w
    cases e2:ixN ds.length k with
    | none=>simp only[e2] at w;exact w.elim
    | some j=>
     simp only[e2] at w
     obtain⟨vs,hv,rs⟩:=r.lst e1 hp
     refine⟨p,vs,k,j,rfl,rfl,hv,by rw[<- rs.length];exact e2,?_⟩
     have x:=Ext.write (o:=.lst (vs.set j z)) r hp
     exact w _ α x (r.write hp ⟨_,aP,(rs.set rv j).ext x⟩)
  | _=>exact w.elim
 | _=>exact w.elim
noncomputable def cutD (xs:List D) (lo hi:Option Int):List D:=(xs.drop (HT.sIx xs.length 0 lo)).take (HT.sIx xs.length xs.length hi - HT.sIx xs.length 0 lo)
theorem lY {α:List Addr} {H:Hp} {ds:List D} {vs:List V} (rs:aw K g α H ds vs) (lo hi:Option Int):aw K g α H (cutD ds lo hi) (rX vs lo hi):=by
 unfold cutD rX
 rw[<- rs.length]
 exact(rs.drop _).take _
noncomputable abbrev MO:=En->Hh->R (Option Int)
noncomputable def dF:MO:=fun _ h=>.ok none h
noncomputable def eg (a:ME):MO:=fun env h=>(a env h).bind fun d h1=>match d with
 | .int i=>.ok (some i) h1
 | _=>.bad
noncomputable def tMO (K:PySem.W.Frag) (g:GG) (ε:EE) (m:MO):TO:=fun σ H Q=>∃α env h,eP K g α H env σ h/\WQ K g ε α H (m env h) fun o h'=>∀H' α',Ext K α H α' H'->aZ K g α' H' h'->Q o H'
theorem PO.imp {e:Option Expr} {t t':TO} (h:PO X e t) (i:∀σ H Q,t' σ H Q->t σ H Q):PO X e t':=fun pins s σ H Q I w=>h pins s σ H Q I (i σ H Q w)
theorem eT:PO X none (tMO X.K g ε dF):=PO.imp D1 fun σ H Q ⟨α,env,h,s,w⟩=>w H α Ext.refl s.heap
theorem cD {e:Expr} {me:ME} (he:PE X e (tM X.K g ε me)):PO X (some e) (tMO X.K g ε (eg me)):=PO.imp (Fc he) fun σ H Q ⟨α,env,h,s,w⟩=>tM.use s w.bind fun d1 h1 v1 H1 α1 e1 s1 r1 w1=>by
 cases r1 with
 | int i=>exact⟨i,rfl,w1 H1 α1 e1 s1.heap⟩
 | _=>exact w1.elim
noncomputable def Bs (nl:NL):D->Option Int->Option Int->Hh->R D:=fun d lo hi h=>match d with
 | .tup ds=>.ok (.tup (cutD ds lo hi)) h
 | .frl ds=>nl (cutD ds lo hi) h
 | .scr ds=>nl (cutD ds lo hi) h
 | .ref n=>match aG h n with
  | some ds=>nl (cutD ds lo hi) h
  | none=>.bad
 | _=>.bad
noncomputable def dy (nl:NL) (a:ME) (l u:MO):ME:=fun env h=>(a env h).bind fun x h1=>(l env h1).bind fun lo h2=>(u env h2).bind fun hi h3=>Bs nl x lo hi h3
theorem tMO.use {α:List Addr} {H:Hp} {env:En} {σ:St} {h:Hh} {m:MO} {Q:Option Int->Hp->Prop} {k:Option Int->Hh->Prop} (s:eP K g α H env σ h) (w:WQ K g ε α H (m env h) k)
  (q:∀d h' H' α',Ext K α H α' H'->eP K g α' H' env σ h'->k d h'->Q d H'):tMO K g ε m σ H Q:=
 ⟨α,env,h,s,w.mono fun d h' _ kk H' α' e r=>q d h' H' α' e (s.ext e r) kk⟩
theorem cA {nl:NL} [lC nl] {e:Expr} {me:ME} {lo hi:Option Expr} {ml mh:MO} {p2 pos:Pos} (he:PE X e (tM X.K g ε me)) (hl:PO X lo (tMO X.K g ε ml)) (hu:PO X hi (tMO X.K g ε mh)):PE X (.Subscript e (.Slice lo hi none p2) pos) (tM X.K g ε (dy nl me ml mh)):=
 PE.imp (PE.frz (BE (SlR.or E_ (SlR.or IG Es)) he hl hu)) fun σ H Q ⟨α,env,h,s,w⟩=>tM.use s w.bind fun d1 h1 v1 H1 α1 e1 s1 r1 w1=>tMO.use s1 (w1.ext e1).bind fun o2 h2 H2 α2 e2 s2 w2=>tMO.use s2 (w2.ext e2).bind fun o3 h3 H3 α3 e3 s3 w3=>by
  have tr:=e1.trans (e2.trans e3)
  have r3:=r1.ext (e2.trans e3)
  have w4:=(w3.ext e3).mono fun _ _ _ p=>aF.ext tr p
  unfold Bs at w4
  cases r3 with
  | @frl ds p vs hq rs=>exact .inl ⟨_,_,rfl,hq.sq,fun l hl=>NL.post w4 s3.heap (lY rs _ _) hl⟩
  | @scr ds p vs hq rs=>exact .inl ⟨_,_,rfl,hq.sq,fun l hl=>NL.post w4 s3.heap (lY rs _ _) hl⟩
  | @ref n p hp=>
   cases e1:aG h3 n with
   | none=>simp only[e1] at w4;exact w4.elim
   | some ds=>
    simp only[e1] at w4
    obtain⟨vs,hv,rs⟩:=s3.heap.lst e1 hp
    exact .inl ⟨_,_,rfl,SqL.of hv,fun l hl=>NL.post w4 s3.heap (lY rs _ _) hl⟩
  | @tup ds p vs hq rs=>
   refine .inr ?_
   by_cases hw:HT.sIx vs.length 0 o2=0/\HT.sIx vs.length vs.length o3=vs.length
   ·refine .inr ⟨_,_,rfl,SqT.of hq,hw.1,hw.2,?_⟩
    refine aF.A3 w4 s3.heap (.tup hq ?_)
    have:rX vs o2 o3=vs:=by unfold rX;rw[hw.1,hw.2];simp
    have q:=lY rs o2 o3
    rw[this] at q
    exact q
   ·exact .inl ⟨_,_,rfl,SqT.of hq,hw,fun l hl=>.inl (aF.tup w4 s3.heap (lY rs _ _) hl)⟩
  | _=>exact w4.elim
end
noncomputable def xj:D->Bool
 | .non=>true | .bl _=>true | .int _=>true | .str _=>true
 | _=>false
noncomputable def eqF:D->D->Bool
 | .non,.non=>true
 | .bl a,.bl b=>a == b
 | .bl a,.int b=>(if a then 1 else 0) == b
 | .int a,.bl b=>a == (if b then 1 else 0)
 | .int a,.int b=>a == b
 | .str a,.str b=>a == b
 | _,_=>false
noncomputable def eqL (f:D->D->Option Bool):List D->List D->Option Bool
 | x::xs,y::ys=>match f x y,eqL f xs ys with
  | some b,some c=>some (b&&c)
  | _,_=>none
 | [],[]=>some true
 | _,_=>some false
inductive Vw where
 | fl | tp (ds:List D) | ls (ds:List D) | no
noncomputable def vw (d:D) (h:Hh):Vw:=match d with
 | .non=>.fl | .bl _=>.fl | .int _=>.fl | .str _=>.fl
 | .tup ds=>.tp ds
 | .frl ds=>.ls ds
 | .scr ds=>.ls ds
 | .ref n=>match aG h n with
  | some ds=>.ls ds
  | none=>.no
 | _=>.no
noncomputable def eqD:Nat->Hh->D->D->Option Bool
 | 0,_,_,_=>none
 | k+1,h,a,b=>match vw a h,vw b h with
  | .fl,.fl=>some (eqF a b)
  | .tp xs,.tp ys=>eqL (eqD k h) xs ys
  | .ls xs,.ls ys=>if xs.length=ys.length then eqL (eqD k h) xs ys else some false
  | .fl,.tp _=>some false
  | .fl,.ls _=>some false
  | .tp _,.fl=>some false
  | .tp _,.ls _=>some false
  | .ls _,.fl=>some false
  | .ls _,.tp _=>some false
  | _,_=>none
section
variable {K:PySem.W.Frag} {g:GG} {α:List Addr} {H:Hp} {h:Hh}
theorem qO {f:D->D->Option Bool} (hf:∀a b x c,aM K g α H a x->aM K g α H b x->f a b=some c->c=true):∀{xs ys:List D} {vs:List V} {c:Bool},aw K g α H xs vs->aw K g α H ys vs->eqL f xs ys=some c->c=true
 | _,_,_,_,.nil,.nil,e=>by simp[eqL] at e;exact e
 | _,_,_,c,.cons r t,.cons r' t',e=>by
  unfold eqL at e
  split at e
  ·rename_i b c' h1 h2
   have e1:=hf _ _ _ _ r r' h1
   have e2:=qO hf t t' h2
   subst e1 e2
   exact(Option.some.inj e).symm
  ·cases e
theorem oA {d:D} {x:V} (rd:aM K g α H d x) (e:vw d h=.fl):xj d=true:=by
 cases rd with
 | ref hp=>unfold vw at e;simp only at e;split at e<;>cases e
 | _=>first | rfl | cases e
theorem om {d:D} {x:V} {ds:List D} (rd:aM K g α H d x) (e:vw d h=.tp ds):∃p vs,x=.ref p/\SqT K H p vs/\aw K g α H ds vs:=by
 cases rd with
 | tup hp rs=>cases e;exact⟨_,_,rfl,SqT.of hp,rs⟩
 | ref hp=>unfold vw at e;simp only at e;split at e<;>cases e
 | _=>cases e
theorem oj {d:D} {x:V} {ds:List D} (r:aZ K g α H h) (rd:aM K g α H d x) (e:vw d h=.ls ds):∃p vs,x=.ref p/\SqL K H p vs/\aw K g α H ds vs:=by
 cases rd with
 | frl hp rs=>cases e;exact⟨_,_,rfl,hp.sq,rs⟩
 | scr hp rs=>cases e;exact⟨_,_,rfl,hp.sq,rs⟩
 | @ref n p hp=>
  unfold vw at e
  simp only at e
  cases el:aG h n with
  | none=>rw[el] at e;cases e
  | some ds'=>
   rw[el] at e;cases e
   obtain⟨vs,hv,rs⟩:=r.lst el hp
   exact⟨_,_,rfl,SqL.of hv,rs⟩
 | _=>cases e
theorem yO {f:D->D->Option Bool}:∀{xs ys:List D} {c:Bool},eqL f xs ys=some c →
  (∀(j:Nat) (x y:D),xs[j]?=some x->ys[j]?=some y->∃b,f x y=some b)/\c=((List.range (min xs.length ys.length)).all (fun j=>((f (xs.getD j .non) (ys.getD j .non)).getD false))&&xs.length == ys.length)
 | [],[],c,e=>by
  simp[eqL] at e
  refine⟨fun j x y h=>by simp at h,?_⟩
  simp[<- e]
 | [],_::_,c,e=>by
  simp[eqL] at e
  exact⟨fun j x y h=>by simp at h,by simp[<- e]⟩
 | _::_,[],c,e=>by
  simp[eqL] at e
  exact⟨fun j x y _ h=>by simp at h,by simp[<- e]⟩
 | x::xs,y::ys,c,e=>by
  unfold eqL at e
  split at e
  ·rename_i b c' h1 h2
   obtain⟨q1,q2⟩:=yO h2
   refine⟨fun j x' y' hx hy=>?_,?_⟩
   ·cases j with
    | zero=>simp at hx hy;subst hx hy;exact⟨b,h1⟩
    | succ j=>exact q1 j x' y' (by simpa using hx) (by simpa using hy)
   ·have e':=(Option.some.inj e).symm
    rw[e',q2]
    have hm:min (x::xs).length (y::ys).length=min xs.length ys.length+1:=by simp[Nat.succ_min_succ]
    rw[hm,List.range_succ_eq_map,List.all_cons,List.all_map]
    have h0:(f ((x::xs).getD 0 .non) ((y::ys).getD 0 .non)).getD false=b:=by
     show(f x y).getD false=b
     rw[h1];rfl
    rw[h0]
    have hlen:((x::xs).length == (y::ys).length)=(xs.length == ys.length):=by simp
    rw[hlen,Bool.and_assoc]
    rfl
  ·cases e
end
section
variable {X:Cx} {g:GG} {pins:List (Addr × Obj)} {σ:St} {H:Hp} {s:Shared} {α:List Addr} {h:Hh}
open PySem.SeqAt
theorem EN {A:Around} {a b:D} {x y:V} {u v:Value} {K:PySem.W.Frag} (ra:aM K g α H a x) (rb:aM K g α H b y) (ru:RelV x u) (rv:RelV y v) (fa:xj a=true) (fb:xj b=true) :
  EqAt A s u v (eqF a b)/\RcAt A s u v (eqF a b)/\RcNeAt A s u v (!eqF a b):=by
 cases ra with
 | non=>
  cases ru
  cases rb with
  | non=>cases rv;exact⟨.same _,.none_none,.none_none⟩
  | bl z=>cases rv;exact⟨.none_bool z,.none_bool z,.none_bool z⟩
  | int z=>obtain⟨t,rfl⟩:=rv;exact⟨.none_int z t,.none_int z t,.none_int z t⟩
  | str z=>obtain⟨t,rfl⟩:=rv;exact⟨.none_str z t,.none_str z t,.none_str z t⟩
  | _=>cases fb
 | bl q=>
  cases ru
  cases rb with
  | non=>cases rv;exact⟨.bool_none q,.bool_none q,.bool_none q⟩
  | bl z=>cases rv;exact⟨.bool_bool q z,.bool_bool q z,.bool_bool q z⟩
  | int z=>obtain⟨t,rfl⟩:=rv;exact⟨.bool_int q z t,.bool_int q z t,.bool_int q z t⟩
  | str z=>obtain⟨t,rfl⟩:=rv;exact⟨.bool_str q z t,.bool_str q z t,.bool_str q z t⟩
  | _=>cases fb
 | int q=>
  obtain⟨t',rfl⟩:=ru
  cases rb with
  | non=>cases rv;exact⟨.int_none q t',.int_none q t',.int_none q t'⟩
  | bl z=>cases rv;exact⟨.int_bool q t' z,.int_bool q t' z,.int_bool q t' z⟩
  | int z=>obtain⟨t,rfl⟩:=rv;exact⟨.int_int q t' z t,.int_int q t' z t,.int_int q t' z t⟩
  | str z=>obtain⟨t,rfl⟩:=rv;exact⟨.int_str q t' z t,.int_str q t' z t,.int_str q t' z t⟩
  | _=>cases fb
 | str q=>
  obtain⟨t',rfl⟩:=ru
  cases rb with
  | non=>cases rv;exact⟨.str_none q t',.str_none q t',.str_none q t'⟩
  | bl z=>cases rv;exact⟨.str_bool q t' z,.str_bool q t' z,.str_bool q t' z⟩
  | int z=>obtain⟨t,rfl⟩:=rv;exact⟨.str_int q t' z t,.str_int q t' z t,.str_int q t' z t⟩
  | str z=>obtain⟨t,rfl⟩:=rv;exact⟨.str_str q t' z t,.str_str q t' z t,.str_str q t' z t⟩
  | _=>cases fb
 | _=>cases fa
theorem wo {A:Around} {b:D} {y:V} {v:Value} {p:Addr} {its:Array Value} {K:PySem.W.Frag} (ht:s.heap.IsTuple p its) (hu:A.units<cLine) (rb:aM K g α H b y) (rv:RelV y v) (fb:xj b=true) :
  (EqAt A s (.ref p) v false/\RcAt A s (.ref p) v false/\RcNeAt A s (.ref p) v true)/\(EqAt A s v (.ref p) false/\RcAt A s v (.ref p) false/\RcNeAt A s v (.ref p) true):=by
 cases rb with
 | non=>cases rv;exact⟨⟨.tuple_none ht hu,.tuple_none ht hu,.tuple_none ht hu⟩,.none_tuple ht hu,.none_tuple ht hu,.none_tuple ht hu⟩
 | bl z=>cases rv;exact⟨⟨.tuple_bool z ht hu,.tuple_bool z ht hu,.tuple_bool z ht hu⟩,.bool_tuple z ht hu,.bool_tuple z ht hu,.bool_tuple z ht hu⟩
 | int z=>obtain⟨t,rfl⟩:=rv;exact⟨⟨.tuple_int z t ht hu,.tuple_int z t ht hu,.tuple_int z t ht hu⟩,.int_tuple z t ht hu,.int_tuple z t ht hu,.int_tuple z t ht hu⟩
 | str z=>obtain⟨t,rfl⟩:=rv;exact⟨⟨.tuple_str z t ht hu,.tuple_str z t ht hu,.tuple_str z t ht hu⟩,.str_tuple z t ht hu,.str_tuple z t ht hu,.str_tuple z t ht hu⟩
 | _=>cases fb
theorem vV {A:Around} {b:D} {y:V} {v:Value} {p:Addr} {its:Array Value} {K:PySem.W.Frag} (ht:s.heap.IsList p its) (hu:A.units<cLine) (rb:aM K g α H b y) (rv:RelV y v) (fb:xj b=true) :
  (EqAt A s (.ref p) v false/\RcAt A s (.ref p) v false/\RcNeAt A s (.ref p) v true)/\(EqAt A s v (.ref p) false/\RcAt A s v (.ref p) false/\RcNeAt A s v (.ref p) true):=by
 cases rb with
 | non=>cases rv;exact⟨⟨.list_none ht hu,.list_none ht hu,.list_none ht hu⟩,.none_list ht hu,.none_list ht hu,.none_list ht hu⟩
 | bl z=>cases rv;exact⟨⟨.list_bool z ht hu,.list_bool z ht hu,.list_bool z ht hu⟩,.bool_list z ht hu,.bool_list z ht hu,.bool_list z ht hu⟩
 | int z=>obtain⟨t,rfl⟩:=rv;exact⟨⟨.list_int z t ht hu,.list_int z t ht hu,.list_int z t ht hu⟩,.int_list z t ht hu,.int_list z t ht hu,.int_list z t ht hu⟩
 | str z=>obtain⟨t,rfl⟩:=rv;exact⟨⟨.list_str z t ht hu,.list_str z t ht hu,.list_str z t ht hu⟩,.str_list z t ht hu,.str_list z t ht hu,.str_list z t ht hu⟩
 | _=>cases fb
theorem wK {A:Around} {k:Nat} {ds es:List D} {vs us:List V} {its jts:List Value} {c:Bool} (r:aZ X.K g α H h)
  (ih:∀(a b:D) (x y:V) (u v:Value) (c:Bool),aM X.K g α H a x->aM X.K g α H b y->RelV x u->RelV y v->eqD k h a b=some c->EqAt A.in1 s u v c)
  (rs:aw X.K g α H ds vs) (rt:aw X.K g α H es us) (rv:Vals vs its) (ru:Vals us jts) (e:eqL (eqD k h) ds es=some c) :
  (∀j (h1:j<its.toArray.size) (h2:j<jts.toArray.size),EqAt A.in1 s its.toArray[j] jts.toArray[j] ((fun(j:Nat)=>(eqD k h (ds.getD j .non) (es.getD j .non)).getD false) j)) ∧
  c=((List.range (min its.toArray.size jts.toArray.size)).all (fun(j:Nat)=>(eqD k h (ds.getD j .non) (es.getD j .non)).getD false)&&its.toArray.size == jts.toArray.size):=by
 obtain⟨q1,q2⟩:=yO e
 have l1:its.toArray.size=ds.length:=by rw[List.size_toArray,<- rv.length,rs.length]
 have l2:jts.toArray.size=es.length:=by rw[List.size_toArray,<- ru.length,rt.length]
 refine⟨fun j h1 h2=>?_,by rw[l1,l2];exact q2⟩
 have hd:ds[j]?=some (ds.getD j .non):=by rw[List.getD_eq_getElem?_getD,List.getElem?_eq_getElem (by omega)];rfl
 have he:es[j]?=some (es.getD j .non):=by rw[List.getD_eq_getElem?_getD,List.getElem?_eq_getElem (by omega)];rfl
 obtain⟨b,hb⟩:=q1 j _ _ hd he
 obtain⟨x,hx,rx⟩:=rs.get hd
 obtain⟨y,hy,ry⟩:=rt.get he
 obtain⟨u,hu,rxu⟩:=rv.get hx
 obtain⟨v,hv,ryv⟩:=ru.get hy
 have eu:its.toArray[j]=u:=by
  have:=List.getElem?_eq_getElem (l:=its) (i:=j) (by simpa using h1)
  rw[hu] at this
  simpa using(Option.some.inj this).symm
 have ev:jts.toArray[j]=v:=by
  have:=List.getElem?_eq_getElem (l:=jts) (i:=j) (by simpa using h2)
  rw[hv] at this
  simpa using(Option.some.inj this).symm
 rw[eu,ev]
 show EqAt A.in1 s u v ((eqD k h (ds.getD j .non) (es.getD j .non)).getD false)
 rw[hb]
 exact ih _ _ _ _ _ _ _ rx ry rxu ryv hb
theorem zi (I:Inv X pins σ H s) {p:Addr} {vs us:List V} (a:SqT X.K H p vs) (b:SqL X.K H p us):False:=by
 obtain⟨its,r1,⟨o,e,c,_⟩,_⟩:=I.tuple a
 obtain⟨jts,r2,⟨o',n',e',c',_⟩,_⟩:=I.list b
 rw[e] at e';cases e';rw[c] at c';injection c' with z;exact absurd z (by decide)
theorem qd (I:Inv X pins σ H s) (r:aZ X.K g α H h):∀(k:Nat) (a b:D) (x:V) (c:Bool),aM X.K g α H a x->aM X.K g α H b x->eqD k h a b=some c->c=true
 | 0,_,_,_,_,_,_,e=>by cases e
 | k+1,a,b,x,c,ra,rb,e=>by
  unfold eqD at e
  cases ea:vw a h with
  | no=>simp[ea] at e
  | fl=>
   have fa:=oA ra ea
   cases eb:vw b h with
   | no=>simp[ea,eb] at e
   | fl=>
    simp only[ea,eb] at e
    cases e
    have fb:=oA rb eb
    cases ra with
    | non=>cases rb with
     | non=>rfl
    | bl z=>cases rb with
     | bl _=>simp[eqF]
    | int z=>cases rb with
     | int _=>simp[eqF]
    | str z=>cases rb with
     | str _=>simp[eqF]
    | _=>cases fa
   | tp ds=>obtain⟨p,vs,rfl,_⟩:=om rb eb;cases ra<;>cases fa
   | ls ds=>obtain⟨p,vs,rfl,_⟩:=oj r rb eb;cases ra<;>cases fa
  | tp da=>
   obtain⟨p,va,rfl,hp,rs⟩:=om ra ea
   cases eb:vw b h with
   | no=>simp[ea,eb] at e
   | fl=>have fb:=oA rb eb;cases rb<;>cases fb
   | tp db=>
    simp only[ea,eb] at e
    obtain⟨q,vb,hpq,hq,rt⟩:=om rb eb
    cases hpq
    have:=I.nD hp hq
    subst this
    exact qO (fun a b x c=>qd I r k a b x c) rs rt e
   | ls db=>
    obtain⟨q,vb,hpq,hq,rt⟩:=oj r rb eb
    cases hpq
    exact(zi I hp hq).elim
  | ls da=>
   obtain⟨p,va,rfl,hp,rs⟩:=oj r ra ea
   cases eb:vw b h with
   | no=>simp[ea,eb] at e
   | fl=>have fb:=oA rb eb;cases rb<;>cases fb
   | tp db=>
    obtain⟨q,vb,hpq,hq,rt⟩:=om rb eb
    cases hpq
    exact(zi I hq hp).elim
   | ls db=>
    simp only[ea,eb] at e
    obtain⟨q,vb,hpq,hq,rt⟩:=oj r rb eb
    cases hpq
    have:=I.qb hp hq
    subst this
    rw[if_pos (by rw[rs.length,rt.length])] at e
    exact qO (fun a b x c=>qd I r k a b x c) rs rt e
theorem xS (I:Inv X pins σ H s) (r:aZ X.K g α H h):∀(k:Nat) (A:Around) (a b:D) (x y:V) (u v:Value) (c:Bool),A.units+k<cLine->aM X.K g α H a x->aM X.K g α H b y->RelV x u->RelV y v->eqD k h a b=some c →
  EqAt A s u v c/\RcAt A s u v c/\RcNeAt A s u v (!c)
 | 0,_,_,_,_,_,_,_,_,_,_,_,_,_,e=>by cases e
 | k+1,A,a,b,x,y,u,v,c,hu,ra,rb,ru,rv,e=>by
  have hu0:A.units<cLine:=by omega
  have ih:∀(a b:D) (x y:V) (u v:Value) (c:Bool),aM X.K g α H a x->aM X.K g α H b y->RelV x u->RelV y v->eqD k h a b=some c->EqAt A.in1 s u v c:=
   fun a b x y u v c h1 h2 h3 h4 h5=>(xS I r k A.in1 a b x y u v c (by show A.units+1+k<_;omega) h1 h2 h3 h4 h5).1
  have whole:=fun x ra rb=>qd I r (k+1) a b x c ra rb e
  unfold eqD at e
  cases ea:vw a h with
  | no=>simp[ea] at e
  | fl=>
   have fa:=oA ra ea
   cases eb:vw b h with
   | no=>simp[ea,eb] at e
   | fl=>simp only[ea,eb] at e;cases e;exact EN ra rb ru rv fa (oA rb eb)
   | tp db=>
    simp only[ea,eb] at e;cases e
    obtain⟨q,vb,rfl,hq,rt⟩:=om rb eb
    cases rv
    obtain⟨its,r1,ht,_⟩:=I.tuple hq
    exact(wo ht hu0 ra ru fa).2
   | ls db=>
    simp only[ea,eb] at e;cases e
    obtain⟨q,vb,rfl,hq,rt⟩:=oj r rb eb
    cases rv
    obtain⟨its,r1,ht,_⟩:=I.list hq
    exact(vV ht.isList hu0 ra ru fa).2
  | tp da=>
   obtain⟨p,va,rfl,hp,rs⟩:=om ra ea
   cases ru
   obtain⟨its,r1,ht,_⟩:=I.tuple hp
   cases eb:vw b h with
   | no=>simp[ea,eb] at e
   | fl=>simp only[ea,eb] at e;cases e;exact(wo ht hu0 rb rv (oA rb eb)).1
   | tp db=>
    simp only[ea,eb] at e
    obtain⟨q,vb,rfl,hq,rt⟩:=om rb eb
    cases rv
    obtain⟨jts,r2,ht2,_⟩:=I.tuple hq
    obtain⟨h1,h2⟩:=wK r ih rs rt r1 r2 e
    have rc:RcAt A s (.ref p) (.ref q) c:=by rw[h2];exact RcAt.tuples ht ht2 hu0 h1
    refine⟨?_,rc,by rw[h2];exact RcNeAt.tuples ht ht2 hu0 h1⟩
    by_cases hpq:p=q
    ·subst hpq
     rw[whole _ ra rb]
     exact .same _
    ·exact .of_refs hpq rc
   | ls db=>
    simp only[ea,eb] at e;cases e
    obtain⟨q,vb,rfl,hq,rt⟩:=oj r rb eb
    cases rv
    obtain⟨jts,r2,ht2,_⟩:=I.list hq
    exact⟨.tuple_list ht ht2.isList hu0,.tuple_list ht ht2.isList hu0,.tuple_list ht ht2.isList hu0⟩
  | ls da=>
   obtain⟨p,va,rfl,hp,rs⟩:=oj r ra ea
   cases ru
   obtain⟨its,r1,ht',_⟩:=I.list hp
   have ht:=ht'.isList
   cases eb:vw b h with
   | no=>simp[ea,eb] at e
   | fl=>simp only[ea,eb] at e;cases e;exact(vV ht hu0 rb rv (oA rb eb)).1
   | tp db=>
    simp only[ea,eb] at e;cases e
    obtain⟨q,vb,rfl,hq,rt⟩:=om rb eb
    cases rv
    obtain⟨jts,r2,ht2,_⟩:=I.tuple hq
    exact⟨.list_tuple ht ht2 hu0,.list_tuple ht ht2 hu0,.list_tuple ht ht2 hu0⟩
   | ls db=>
    simp only[ea,eb] at e
    obtain⟨q,vb,rfl,hq,rt⟩:=oj r rb eb
    cases rv
    obtain⟨jts,r2,ht2',_⟩:=I.list hq
    have ht2:=ht2'.isList
    have l1:its.toArray.size=da.length:=by rw[List.size_toArray,<- r1.length,rs.length]
    have l2:jts.toArray.size=db.length:=by rw[List.size_toArray,<- r2.length,rt.length]
    have fin:RcAt A s (.ref p) (.ref q) c/\RcNeAt A s (.ref p) (.ref q) (!c):=by
     by_cases hl:da.length=db.length
     ·rw[if_pos hl] at e
      obtain⟨h1,h2⟩:=wK r ih rs rt r1 r2 e
      have hsz:its.toArray.size=jts.toArray.size:=by omega
      have h2':c=(List.range its.toArray.size).all (fun(j:Nat)=>(eqD k h (da.getD j .non) (db.getD j .non)).getD false):=by
       rw[h2,<- hsz,Nat.min_self];simp
      exact⟨by rw[h2'];exact RcAt.lists ht ht2 hsz hu0 h1,by rw[h2'];exact RcNeAt.lists ht ht2 hsz hu0 h1⟩
     ·rw[if_neg hl] at e
      have e2:c=false:=(Option.some.inj e).symm
      have hsz:(its.toArray.size != jts.toArray.size)=true:=by
       rw[l1,l2];simpa using hl
      rw[e2]
      exact⟨RcAt.lists_lengths ht ht2 hsz hu0,RcNeAt.lists_lengths ht ht2 hsz hu0⟩
    refine⟨?_,fin⟩
    by_cases hpq:p=q
    ·subst hpq
     rw[whole _ ra rb]
     exact .same _
    ·exact .of_refs hpq fin.1
noncomputable abbrev eqN:Nat:=12
noncomputable def dEq:D->D->Hh->R D:=fun a b h=>match eqD eqN h a b with
 | some c=>.ok (.bl c) h
 | none=>.bad
noncomputable def dNe:D->D->Hh->R D:=fun a b h=>match eqD eqN h a b with
 | some c=>.ok (.bl (!c)) h
 | none=>.bad
noncomputable def EW (K:PySem.W.Frag) (g:GG) (neg:Bool):R2:=fun x y H Q=>∃α h a b c,aZ K g α H h/\aM K g α H a x/\aM K g α H b y/\eqD eqN h a b=some c/\Q (.bl (if neg then !c else c)) H
theorem iu (hu:X.A.units+64<cLine):OpR X (compareOp .Eq) (EW X.K g false):=by
 intro pins s σ H x y v u Q I rx ry ⟨α,h,a,b,c,r,ra,rb,e,q⟩
 exact(xS I r eqN X.A a b x y v u c (by show X.A.units+12<_;omega) ra rb rx ry e).2.1 _ _ _ _ ⟨.bl c,H,I,rfl,q⟩
theorem n6 (hu:X.A.units+64<cLine):OpR X (compareOp .NotEq) (EW X.K g true):=by
 intro pins s σ H x y v u Q I rx ry ⟨α,h,a,b,c,r,ra,rb,e,q⟩
 exact(xS I r eqN X.A a b x y v u c (by show X.A.units+12<_;omega) ra rb rx ry e).2.2 _ _ _ _ ⟨.bl (!c),H,I,rfl,q⟩
theorem ko {ε:EE} {K:PySem.W.Frag}:fY K g ε dEq (EW K g false):=by
 intro α H h a b x y Q r ra rb w
 unfold dEq at w
 cases e:eqD eqN h a b with
 | none=>simp only[e] at w;exact w.elim
 | some c=>simp only[e] at w;exact⟨α,h,a,b,c,r,ra,rb,e,aF.now w r (.bl _)⟩
theorem tB {ε:EE} {K:PySem.W.Frag}:fY K g ε dNe (EW K g true):=by
 intro α H h a b x y Q r ra rb w
 unfold dNe at w
 cases e:eqD eqN h a b with
 | none=>simp only[e] at w;exact w.elim
 | some c=>simp only[e] at w;exact⟨α,h,a,b,c,r,ra,rb,e,aF.now w r (.bl _)⟩
end
noncomputable def fE (f:D->Option PyData):List D->Option (List PyData)
 | []=>some []
 | d::ds=>match f d,fE f ds with
  | some p,some ps=>some (p::ps)
  | _,_=>none
noncomputable def toPy:Nat->Hh->D->Option PyData
 | 0,_,_=>none
 | k+1,h,d=>match d with
  | .non=>some .none
  | .bl b=>some (.bool b)
  | .int i=>if sml i=true then some (.int i) else none
  | .str x=>if x.cps.toList.all (fun c=>decide (c<16 ^ 8))=true then some (.str x) else none
  | .tup ds=>(fE (toPy k h) ds).map .tuple
  | .frl ds=>(fE (toPy k h) ds).map .list
  | .ref n=>match aG h n with
   | some ds=>(fE (toPy k h) ds).map .list
   | none=>none
  | _=>none
structure JN (k:Nat) (d:PyData):Prop where
 sh:d.showable=true
 nd:d.hasDict=false
 dp:d.depth<=k
 lv:d.leavesShort 1921=true
structure Jx (k:Nat) (ds:List PyData):Prop where
 sh:PyData.showableAll ds=true
 nd:PyData.hasDictAll ds=false
 dp:PyData.depthAll ds<=k
 lv:PyData.leavesShortAll 1921 ds=true
section
variable {K:PySem.W.Frag} {g:GG} {α:List Addr} {H:Hp} {h:Hh}
theorem lZ {f:D->Option PyData} {k:Nat} (hf:∀d x p,aM K g α H d x->f d=some p->RdD K H x p/\JN k p):∀{ds:List D} {vs:List V} {ps:List PyData},aw K g α H ds vs->fE f ds=some ps →
  Jx k ps/\vs.length=ps.length/\∀(i:Nat) x d,vs[i]?=some x->ps[i]?=some d->RdD K H x d
 | _,_,_,.nil,e=>by
  cases e
  exact⟨⟨by simp[PyData.showableAll],by simp[PyData.hasDictAll],by simp[PyData.depthAll],by simp[PyData.leavesShortAll]⟩,rfl,fun i x d h=>by simp at h⟩
 | _,_,_,.cons r t,e=>by
  unfold fE at e
  split at e
  ·rename_i p ps h1 h2
   cases e
   obtain⟨a1,a2⟩:=hf _ _ _ r h1
   obtain⟨b1,b2,b3⟩:=lZ hf t h2
   refine⟨⟨by rw[PyData.showableAll,a2.sh,b1.sh];rfl,by rw[PyData.hasDictAll,a2.nd,b1.nd];rfl,by rw[PyData.depthAll];exact Nat.max_le.mpr ⟨a2.dp,b1.dp⟩,by rw[PyData.leavesShortAll,a2.lv,b1.lv];rfl⟩,by simp[b2],fun i x d hx hd=>?_⟩
   cases i with
   | zero=>simp at hx hd;subst hx hd;exact a1
   | succ i=>exact b3 i x d (by simpa using hx) (by simpa using hd)
  ·cases e
theorem pL (r:aZ K g α H h):∀(k:Nat) (d:D) (x:V) (p:PyData),aM K g α H d x->toPy k h d=some p->RdD K H x p/\JN k p
 | 0,_,_,_,_,e=>by cases e
 | k+1,d,x,p,rd,e=>by
  unfold toPy at e
  cases rd with
  | non=>cases e;exact⟨.non,by simp[PyData.showable],by simp[PyData.hasDict],by simp[PyData.depth],by simp[PyData.leavesShort]⟩
  | bl b=>cases e;exact⟨.bl b,by simp[PyData.showable],by simp[PyData.hasDict],by simp[PyData.depth],by simp[PyData.leavesShort]⟩
  | int i=>
   simp only at e
   split at e
   ·rename_i hs
    cases e
    have hl:i.natAbs.log2<1920:=Nat.lt_trans (pM hs) (by decide)
    exact⟨.int i,by simp[PyData.showable,hl],by simp[PyData.hasDict],by simp[PyData.depth],by simp only[PyData.leavesShort,decide_eq_true_eq];exact int_text_len_1921 hl⟩
   ·cases e
  | str z=>
   simp only at e
   split at e
   ·rename_i hs
    cases e
    exact⟨.str z,by simp[PyData.showable],by simp[PyData.hasDict],by simp[PyData.depth],by simpa only[PyData.leavesShort] using hs⟩
   ·cases e
  | tup hp rs=>
   simp only at e
   cases e1:fE (toPy k h) _ with
   | none=>rw[e1] at e;cases e
   | some ps=>
    rw[e1] at e
    cases e
    obtain⟨b1,b2,b3⟩:=lZ (fun d x p=>pL r k d x p) rs e1
    exact⟨.tup (SqT.of hp) b2 b3,by rw[PyData.showable];exact b1.sh,by rw[PyData.hasDict];exact b1.nd,by rw[PyData.depth];exact Nat.succ_le_succ b1.dp,by rw[PyData.leavesShort];exact b1.lv⟩
  | @ref n p hp=>
   simp only at e
   cases el:aG h n with
   | none=>rw[el] at e;cases e
   | some ds=>
    rw[el] at e
    simp only at e
    obtain⟨vs,hv,rs⟩:=r.lst el hp
    cases e1:fE (toPy k h) ds with
    | none=>rw[e1] at e;cases e
    | some ps=>
     rw[e1] at e
     cases e
     obtain⟨b1,b2,b3⟩:=lZ (fun d x p=>pL r k d x p) rs e1
     exact⟨.lst (SqL.of hv) b2 b3,by rw[PyData.showable];exact b1.sh,by rw[PyData.hasDict];exact b1.nd,by rw[PyData.depth];exact Nat.succ_le_succ b1.dp,by rw[PyData.leavesShort];exact b1.lv⟩
  | frl hp rs=>
   simp only at e
   cases e1:fE (toPy k h) _ with
   | none=>rw[e1] at e;cases e
   | some ps=>
    rw[e1] at e
    cases e
    obtain⟨b1,b2,b3⟩:=lZ (fun d x p=>pL r k d x p) rs e1
    exact⟨.lst hp.sq b2 b3,by rw[PyData.showable];exact b1.sh,by rw[PyData.hasDict];exact b1.nd,by rw[PyData.depth];exact Nat.succ_le_succ b1.dp,by rw[PyData.leavesShort];exact b1.lv⟩
  | fn _=>cases e
  | edic _=>cases e
  | exc _ _ _ _ _=>cases e
  | clo=>cases e
  | scr _ _=>cases e
end
noncomputable def oP (d:D) (h:Hh):R D:=match toPy 12 h d with
 | some p=>if p.bulk<=8000 then .ok (.str p.shown) h else .bad
 | none=>.bad
noncomputable def sV:List D->Hh->R D:=fun ds h=>match ds with
 | [.int i]=>if sml i=true then .ok (.str (toString i)) h else .bad
 | [.tup ds]=>oP (.tup ds) h
 | [.ref n]=>oP (.ref n) h
 | [.frl ds]=>oP (.frl ds) h
 | _=>.bad
section
variable {X:Cx} {K:PySem.W.Frag} {g:GG} {ε:EE}
noncomputable abbrev vd (K:PySem.W.Frag):List V->Hp->VK->Prop:=fun vs H Q=>(∃p d,vs=[.ref p]/\RdD K H (.ref p) d/\d.showable=true/\d.hasDict=false/\d.depth<=60/\d.shown.length<=sizeLine/\Q (.str d.shown) H)\/∃i,vs=[.int i]/\i.natAbs.log2<1920/\Q (.str (toString i)) H
theorem Ex (hg:X.A.guards=some []) (hu:X.A.units+64<cLine):bg X (.builtin "repr") (vd X.K):=bg.or (zW hg hu) yu
theorem Fb:m9 K g ε sV (vd K):=by
 intro α H h a x Q r ra w
 unfold sV at w
 cases ra with
 | nil=>exact w.elim
 | cons rd rr=>
  cases rr with
  | cons _ _=>cases rd<;>exact w.elim
  | nil=>
   have gen:∀{d:D} {v:V},aM K g α H d v->(∃p,v=.ref p)->WQ K g ε α H (oP d h) (aF K g α H Q)->vd K [v] H Q:=by
    intro d v rd ⟨p,hp⟩ w
    subst hp
    unfold oP at w
    cases e:toPy 12 h d with
    | none=>simp only[e] at w;exact w.elim
    | some pd=>
     simp only[e] at w
     obtain⟨hb,w⟩:=WQ.fc w
     obtain⟨q1,q2⟩:=pL r 12 d _ pd rd e
     have:=PyData.shown_le_bulk 1921 (by decide) pd q2.lv
     exact .inl ⟨p,pd,rfl,q1,q2.sh,q2.nd,Nat.le_trans q2.dp (by decide),by rw[sizeLine_eq];omega,aF.now w r (.str _)⟩
   cases rd with
   | int i=>
    obtain⟨hs,w⟩:=WQ.fc w
    exact .inr ⟨i,rfl,Nat.lt_trans (pM hs) (by decide),aF.now w r (.str _)⟩
   | tup hp rs=>exact gen (.tup hp rs) ⟨_,rfl⟩ w
   | ref hp=>exact gen (.ref hp) ⟨_,rfl⟩ w
   | frl hp rs=>exact gen (.frl hp rs) ⟨_,rfl⟩ w
   | _=>exact w.elim
noncomputable def cp:List D->Hh->R D:=fun ds h=>match ds with
 | [.tup ds]=>.ok (.int ds.length) h
 | [.frl ds]=>.ok (.int ds.length) h
 | [.scr ds]=>.ok (.int ds.length) h
 | [.str x]=>if x.length<=1000000 then .ok (.int x.length) h else .bad
 | [.ref n]=>match h[n]? with
  | some (.lst ds)=>.ok (.int ds.length) h
  | some (.set k)=>.ok (.int k.length) h
  | _=>.bad
 | _=>.bad
noncomputable abbrev Gk (K:PySem.W.Frag):List V->Hp->VK->Prop:=fun xs H Q=>(∃p ys,xs=[.ref p]/\(SqL K H p ys\/SqT K H p ys)/\Q (.int ys.length) H)\/(∃p S n,xs=[.ref p]/\H p=some (.set S n)/\Q (.int n) H)\/∃z,xs=[.str z]/\z.length<=sizeLine/\Q (.int z.length) H
theorem cz:bg X (.builtin "len") (Gk X.K):=bg.or vG (bg.or rW vi)
theorem kW {α:List Addr} {H:Hp} {h:Hh} {ds:List D} {vs:List V} {f:List D->Hh->R D} {Q:VK} (hf:∀d e r h,f (d::e::r) h=.bad) (hf0:∀h,f [] h=.bad) (rs:aw K g α H ds vs) (w:WQ K g ε α H (f ds h) (aF K g α H Q)):∃d v,ds=[d]/\vs=[v]/\aM K g α H d v:=by
 cases rs with
 | nil=>rw[hf0] at w;exact w.elim
 | cons r t=>
  cases t with
  | nil=>exact⟨_,_,rfl,rfl,r⟩
  | cons _ _=>rw[hf] at w;exact w.elim
theorem cu:m9 K g ε cp (Gk K):=by
 intro α H h a x Q r ra w
 obtain⟨d,v,rfl,rfl,rd⟩:=kW (f:=cp) (fun d _ _ _=>by cases d<;>rfl) (fun _=>rfl) ra w
 unfold cp at w
 cases rd with
 | tup hp rs=>exact .inl ⟨_,_,rfl,.inr (SqT.of hp),aF.now w r (by rw[<- rs.length];exact .int _)⟩
 | frl hp rs=>exact .inl ⟨_,_,rfl,.inl hp.sq,aF.now w r (by rw[<- rs.length];exact .int _)⟩
 | scr hp rs=>exact .inl ⟨_,_,rfl,.inl hp.sq,aF.now w r (by rw[<- rs.length];exact .int _)⟩
 | str z=>
  obtain⟨hl,w⟩:=WQ.fc w
  exact .inr (.inr ⟨z,rfl,hW hl,aF.now w r (.int _)⟩)
 | @ref n p hp=>
  simp only at w
  cases e:h[n]? with
  | none=>rw[e] at w;exact w.elim
  | some o=>
   rw[e] at w
   have q:=r.here n p o hp e
   cases o with
   | lst ds=>obtain⟨vs,hv,rs⟩:=q;exact .inl ⟨p,vs,rfl,.inl (SqL.of hv),aF.now w r (by rw[<- rs.length];exact .int _)⟩
   | set k=>exact .inr (.inl ⟨p,_,_,rfl,q,aF.now w r (.int _)⟩)
   | dic k=>exact w.elim
   | dit k=>exact w.elim
 | _=>exact w.elim
noncomputable def dList (nl:NL):List D->Hh->R D:=fun ds h=>match ds with
 | [d]=>match jR d h with
  | some xs=>nl xs h
  | none=>.bad
 | _=>.bad
theorem zQ {nl:NL} [lC nl]:m9 K g ε (dList nl) (fun xs H Q=>∃p ys,xs=[.ref p]/\(SqL K H p ys\/SqT K H p ys)/\∀l,H l=none->ki Q (.ref l) (upd H l (.lst ys))):=by
 intro α H h a x Q r ra w
 obtain⟨d,v,rfl,rfl,rd⟩:=kW (f:=dList nl) (fun _ _ _ _=>rfl) (fun _=>rfl) ra w
 unfold dList at w
 simp only at w
 cases e:jR d h with
 | none=>rw[e] at w;exact w.elim
 | some ds=>
  rw[e] at w
  obtain⟨p,vs,rfl,hq,rs⟩:=t4 r rd e
  exact⟨p,vs,rfl,hq,fun l hl=>NL.post w r rs hl⟩
noncomputable def mW:List D->Hh->R D:=fun ds h=>match ds with
 | [.tup ds]=>.ok (.tup ds) h
 | [.frl ds]=>.ok (.tup ds) h
 | [.ref n]=>match aG h n with
  | some ds=>.ok (.tup ds) h
  | none=>.bad
 | _=>.bad
theorem xi:m9 K g ε mW (fun xs H Q=>∃p ys,xs=[.ref p]/\((SqL K H p ys/\∀l,H l=none->Q (.ref l) (upd H l (.tup ys)))\/(SqT K H p ys/\Q (.ref p) H))):=by
 intro α H h a x Q r ra w
 obtain⟨d,v,rfl,rfl,rd⟩:=kW (f:=mW) (fun d _ _ _=>by cases d<;>rfl) (fun _=>rfl) ra w
 unfold mW at w
 cases rd with
 | tup hp rs=>exact⟨_,_,rfl,.inr ⟨SqT.of hp,aF.now w r (.tup hp rs)⟩⟩
 | frl hp rs=>exact⟨_,_,rfl,.inl ⟨hp.sq,fun l hl=>aF.tup w r rs hl⟩⟩
 | @ref n p hp=>
  simp only at w
  cases e:aG h n with
  | none=>rw[e] at w;exact w.elim
  | some ds=>
   rw[e] at w
   obtain⟨vs,hv,rs⟩:=r.lst e hp
   exact⟨p,vs,rfl,.inl ⟨SqL.of hv,fun l hl=>aF.tup w r rs hl⟩⟩
 | _=>exact w.elim
noncomputable def intsOf:List D->Option (List Int)
 | []=>some []
 | .int i::ds=>(intsOf ds).map (i::·)
 | _::_=>none
theorem hJ:∀{ds:List D} {ns:List Int},intsOf ds=some ns->ds=ns.map D.int
 | [],ns,e=>by cases e;rfl
 | .int i::ds,ns,e=>by
  unfold intsOf at e
  cases e1:intsOf ds with
  | none=>rw[e1] at e;cases e
  | some ms=>rw[e1] at e;cases e;rw[hJ e1];rfl
 | .non::_,_,e=>by cases e
 | .bl _::_,_,e=>by cases e
 | .str _::_,_,e=>by cases e
 | .tup _::_,_,e=>by cases e
 | .frl _::_,_,e=>by cases e
 | .ref _::_,_,e=>by cases e
 | .fn _::_,_,e=>by cases e
 | .edic::_,_,e=>by cases e
 | .exc _ _::_,_,e=>by cases e
 | .clo _ _::_,_,e=>by cases e
 | .scr _::_,_,e=>by cases e
theorem lB:∀(ns:List Int),intsOf (ns.map D.int)=some ns
 | []=>rfl
 | n::r=>by rw[List.map_cons,intsOf,lB r];rfl
noncomputable def rN:List D->Hh->R D:=fun ds h=>match ds with
 | [.tup ds]=>match intsOf ds with
  | some ns=>if ns.length<=4000 then .ok (.ref h.length) (h++[.set (unl ns)]) else .bad
  | none=>.bad
 | _=>.bad
theorem BZ:m9 K g ε rN (fun vs H Q=>∃p ns,vs=[.ref p]/\SqT K H p (ns.map V.int)/\ns.length+1<scanBound/\∀l,H l=none->Q (.ref l) (upd H l (.set (fun k=>(unl ns).any (· == k)) (unl ns).length))):=by
 intro α H h a x Q r ra w
 obtain⟨d,v,rfl,rfl,rd⟩:=kW (f:=rN) (fun d _ _ _=>by cases d<;>rfl) (fun _=>rfl) ra w
 unfold rN at w
 cases rd with
 | tup hp rs=>
  simp only at w
  cases e:intsOf _ with
  | none=>rw[e] at w;exact w.elim
  | some ns=>
   rw[e] at w
   obtain⟨hl,w⟩:=WQ.fc w
   have e2:=hJ e
   subst e2
   have e3:=rs.zm
   subst e3
   refine⟨_,ns,rfl,SqT.of hp,by show ns.length+1<4096;omega,fun l hn=>?_⟩
   refine(show aF K g α H Q _ _ from w) _ _ (α++[l]) (Ext.push hn) (r.push hn aP) (.ref ?_)
   rw[<- r.len,List.getElem?_append_right (Nat.le_refl _)];simp
 | _=>exact w.elim
noncomputable def Dx:List D->Hh->R D:=fun ds h=>match ds with
 | [.int i,.int j]=>.ok (.int (if j > i then j else i)) h
 | _=>.bad
theorem Ce {α:List Addr} {H:Hp} {h:Hh} {ds:List D} {vs:List V} {t:Int->Int->Int} {Q:VK} (r:aZ K g α H h) (rs:aw K g α H ds vs) (w:WQ K g ε α H (match ds with | [.int i,.int j]=>.ok (.int (t i j)) h | _=>.bad) (aF K g α H Q)):∃i j,vs=[.int i,.int j]/\Q (.int (t i j)) H:=by
 split at w
 ·cases rs with
  | cons r1 t1=>
   cases r1
   cases t1 with
   | cons r2 t2=>
    cases r2
    cases t2
    exact⟨_,_,rfl,aF.now w r (.int _)⟩
 ·exact w.elim
theorem Fp:m9 K g ε Dx (fun xs H Q=>∃i j,xs=[.int i,.int j]/\Q (.int (if j > i then j else i)) H):=fun α H h a x Q r ra w=>Ce (t:=fun i j=>if j > i then j else i) r ra w
noncomputable def yt:List D->Hh->R D:=fun ds h=>match ds with
 | [.int i]=>.ok (.int i) h
 | [.bl b]=>.ok (.int (if b then 1 else 0)) h
 | _=>.bad
theorem Cf:m9 K g ε yt (fun xs H Q=>(∃i,xs=[.int i]/\Q (.int i) H)\/∃k,xs=[.bl k]/\Q (.int (if k then 1 else 0)) H):=by
 intro α H h a x Q r ra w
 obtain⟨d,v,rfl,rfl,rd⟩:=kW (f:=yt) (fun d _ _ _=>by cases d<;>rfl) (fun _=>rfl) ra w
 unfold yt at w
 cases rd with
 | int i=>exact .inl ⟨i,rfl,aF.now w r (.int _)⟩
 | bl b=>exact .inr ⟨b,rfl,aF.now w r (.int _)⟩
 | _=>exact w.elim
noncomputable def tyD (d:D) (h:Hh):Option String:=match d with
 | .non=>some "NoneType"
 | .bl _=>some "bool"
 | .int _=>some "int"
 | .str _=>some "str"
 | .tup _=>some "tuple"
 | .frl _=>some "list"
 | .edic=>some "dict"
 | .ref n=>match h[n]? with
  | some (.lst _)=>some "list"
  | some (.dic _)=>some "dict"
  | some (.dit _)=>some "dict"
  | _=>none
 | _=>none
noncomputable def zh (t n:String):Option Bool:=
 if n="int" then (if t="int" then some true else if t="bool" then some true else if t="NoneType" \/ t="str" \/ t="tuple" \/ t="list" \/ t="dict" then some false else none)
 else if n="bool" \/ n="tuple" \/ n="list" \/ n="str" then (if t=n then some true else if t="int" \/ t="bool" \/ t="NoneType" \/ t="str" \/ t="tuple" \/ t="list" \/ t="dict" then some false else none)
 else none
noncomputable def oR (n:String):D->Hh->R D:=fun d h=>match tyD d h with
 | some t=>match zh t n with
  | some b=>.ok (.bl b) h
  | none=>.bad
 | none=>.bad
theorem Jw {α:List Addr} {H:Hp} {h:Hh} {d:D} {v:V} {t:String} (r:aZ K g α H h) (rd:aM K g α H d v) (e:tyD d h=some t):lb K H v (.type t):=by
 unfold tyD at e
 cases rd with
 | non=>cases e;exact .non
 | bl b=>cases e;exact .bl b
 | int i=>cases e;exact .int i
 | str i=>cases e;exact .str i
 | tup hp rs=>cases e;exact .tup hp
 | frl hp rs=>cases e;obtain⟨o,hp⟩:=hp;exact .frz hp
 | edic hp=>cases e;exact .iq hp
 | @ref n p hp=>
  simp only at e
  cases eo:h[n]? with
  | none=>rw[eo] at e;cases e
  | some o=>
   rw[eo] at e
   have q:=r.here n p o hp eo
   cases o with
   | lst ds=>cases e;obtain⟨vs,hv,_⟩:=q;exact .lst hv
   | set k=>cases e
   | dic k=>cases e;obtain⟨vs,hv,_⟩:=q;exact .dK hv
   | dit k=>cases e;obtain⟨vs,hv,_⟩:=q;exact .dT hv
 | _=>cases e
theorem Eb (K:PySem.W.Frag):PySem.W.kitOne K (.type "int") (.type "int")=some true/\PySem.W.kitOne K (.type "bool") (.type "int")=some true/\PySem.W.kitOne K (.type "NoneType") (.type "int")=some false/\PySem.W.kitOne K (.type "str") (.type "int")=some false
  /\ PySem.W.kitOne K (.type "tuple") (.type "int")=some false/\PySem.W.kitOne K (.type "list") (.type "int")=some false/\PySem.W.kitOne K (.type "dict") (.type "int")=some false:=⟨rfl,rfl,rfl,rfl,rfl,rfl,rfl⟩
theorem BD (K:PySem.W.Frag):PySem.W.kitOne K (.type "int") (.type "bool")=some false/\PySem.W.kitOne K (.type "bool") (.type "bool")=some true/\PySem.W.kitOne K (.type "NoneType") (.type "bool")=some false/\PySem.W.kitOne K (.type "str") (.type "bool")=some false
  /\ PySem.W.kitOne K (.type "tuple") (.type "bool")=some false/\PySem.W.kitOne K (.type "list") (.type "bool")=some false/\PySem.W.kitOne K (.type "dict") (.type "bool")=some false:=⟨rfl,rfl,rfl,rfl,rfl,rfl,rfl⟩
theorem kit_tuple (K:PySem.W.Frag):PySem.W.kitOne K (.type "int") (.type "tuple")=some false/\PySem.W.kitOne K (.type "bool") (.type "tuple")=some false/\PySem.W.kitOne K (.type "NoneType") (.type "tuple")=some false/\PySem.W.kitOne K (.type "str") (.type "tuple")=some false
  /\ PySem.W.kitOne K (.type "tuple") (.type "tuple")=some true/\PySem.W.kitOne K (.type "list") (.type "tuple")=some false/\PySem.W.kitOne K (.type "dict") (.type "tuple")=some false:=⟨rfl,rfl,rfl,rfl,rfl,rfl,rfl⟩
theorem CQ (K:PySem.W.Frag):PySem.W.kitOne K (.type "int") (.type "list")=some false/\PySem.W.kitOne K (.type "bool") (.type "list")=some false/\PySem.W.kitOne K (.type "NoneType") (.type "list")=some false/\PySem.W.kitOne K (.type "str") (.type "list")=some false
  /\ PySem.W.kitOne K (.type "tuple") (.type "list")=some false/\PySem.W.kitOne K (.type "list") (.type "list")=some true/\PySem.W.kitOne K (.type "dict") (.type "list")=some false:=⟨rfl,rfl,rfl,rfl,rfl,rfl,rfl⟩
theorem Fj (K:PySem.W.Frag):PySem.W.kitOne K (.type "int") (.type "str")=some false/\PySem.W.kitOne K (.type "bool") (.type "str")=some false/\PySem.W.kitOne K (.type "NoneType") (.type "str")=some false/\PySem.W.kitOne K (.type "str") (.type "str")=some true
  /\ PySem.W.kitOne K (.type "tuple") (.type "str")=some false/\PySem.W.kitOne K (.type "list") (.type "str")=some false/\PySem.W.kitOne K (.type "dict") (.type "str")=some false:=⟨rfl,rfl,rfl,rfl,rfl,rfl,rfl⟩
theorem Ig {t n:String} {b:Bool} (e:zh t n=some b):PySem.W.kitOne K (.type t) (.type n)=some b:=by
 unfold zh at e
 obtain⟨a1,a2,a3,a4,a5,a6,a7⟩:=Eb K
 obtain⟨b1,b2,b3,b4,b5,b6,b7⟩:=BD K
 obtain⟨c1,c2,c3,c4,c5,c6,c7⟩:=kit_tuple K
 obtain⟨d1,d2,d3,d4,d5,d6,d7⟩:=CQ K
 obtain⟨e1,e2,e3,e4,e5,e6,e7⟩:=Fj K
 split at e
 ·rename_i hn;subst hn
  split at e
  ·rename_i h;subst h;cases e;exact a1
  ·split at e
   ·rename_i h;subst h;cases e;exact a2
   ·split at e
    ·rename_i h;cases e;rcases h with rfl | rfl | rfl | rfl | rfl<;>assumption
    ·cases e
 ·split at e
  ·rename_i hn
   split at e
   ·rename_i h;subst h;cases e;rcases hn with rfl | rfl | rfl | rfl<;>assumption
   ·rename_i hne
    split at e
    ·rename_i h;cases e;rcases hn with rfl | rfl | rfl | rfl<;>rcases h with rfl | rfl | rfl | rfl | rfl | rfl | rfl<;>first | assumption | exact absurd rfl hne
    ·cases e
  ·cases e
theorem uO {e:Expr} {me:ME} {n:String} {x:Str} {p1 p2 pos:Pos} (he:PE X e (tM X.K g ε me)) (hg:Gl X "isinstance") (hm:X.mg "isinstance" = none) (hg2:Gl X x) (hm2:X.mg x=none) (hb:bootBuiltins x=some (.type n)) (hn:x≠"__name__" := by decide) (hd:(x == ("__debug__" : Str))=false:=by decide)
  (hs1:starEach [e,.Name x p2] X.env=(false,eval e X.env)::starEach [.Name x p2] X.env:=by rfl) (hs2:starEach [.Name x p2] X.env=[(false,eval (.Name x p2) X.env)]:=by rfl) (hpl:(backTo pos (starEach [.Name x p2] X.env)).any (·.1)=false:=by rfl) :
  PE X (.Call (.Name "isinstance" p1) [e,.Name x p2] [] pos) (tM X.K g ε (cUn (oR n) me)):=
 PE.imp (mD wO hg hm PyProof.Rows.boot_isinstance (fq he (fq (zw (v:=.ty n) hg2 hm2 hb rfl hn hd) jI hs2) hs1) (by decide) (by decide) hs1 hpl) fun σ H Q ⟨α,env,h,s,w⟩=>tM.use s w.bind fun d1 h1 v1 H1 α1 e1 s1 r1 w1=>by
  unfold oR at w1
  cases et:tyD d1 h1 with
  | none=>simp only[et] at w1;exact w1.elim
  | some t=>
   simp only[et] at w1
   cases es:zh t n with
   | none=>simp only[es] at w1;exact w1.elim
   | some b=>
    simp only[es] at w1
    exact⟨v1,.type t,n,b,rfl,Jw s1.heap r1 et,Ig es,aF.now (aF.ext e1 w1) s1.heap (.bl b)⟩
end
section
variable {X:Cx} {K:PySem.W.Frag} {g:GG} {ε:EE}
noncomputable def ju:D->Hh->R Bool:=fun d h=>match d with
 | .non=>.ok false h
 | .bl b=>.ok b h
 | .int i=>.ok (i != 0) h
 | .tup ds=>.ok (!ds.isEmpty) h
 | .frl ds=>.ok (!ds.isEmpty) h
 | .ref n=>match aG h n with
  | some ds=>.ok (!ds.isEmpty) h
  | none=>.bad
 | _=>.bad
theorem aw.isEmpty {α:List Addr} {H:Hp} {ds:List D} {vs:List V} (r:aw K g α H ds vs):ds.isEmpty=vs.isEmpty:=by cases r<;>rfl
theorem iU:Kj K g ε ju (fun x H Q=>∃k,El K x H k/\Q k H):=by
 intro α H h a x Q r ra w
 unfold ju at w
 have now:∀{b:Bool},n_ K g α H Q b h->Q b H:=fun p=>p H α Ext.refl r
 cases ra with
 | non=>exact⟨false,rfl,now w⟩
 | bl b=>exact⟨b,rfl,now w⟩
 | int i=>exact⟨_,rfl,now w⟩
 | tup hp rs=>exact⟨_,.inr (.inl ⟨_,SqT.of hp,rfl⟩),now (by rw[<- rs.isEmpty];exact w)⟩
 | frl hp rs=>exact⟨_,.inl ⟨_,hp.sq,rfl⟩,now (by rw[<- rs.isEmpty];exact w)⟩
 | @ref n p hp=>
  simp only at w
  cases e:aG h n with
  | none=>rw[e] at w;exact w.elim
  | some ds=>
   rw[e] at w
   obtain⟨vs,hv,rs⟩:=r.lst e hp
   exact⟨_,.inl ⟨vs,SqL.of hv,rfl⟩,now (by rw[<- rs.isEmpty];exact w)⟩
 | _=>exact w.elim
noncomputable def rQ:List D->Option (List D)
 | [.int j]=>if j.natAbs<=1000000 then some (bT 0 j.toNat) else none
 | [.int i,.int j]=>if (i.natAbs<=1000000/\j.natAbs<=1000000)/\(j - i).toNat<=1000000 then some (bT i (j - i).toNat) else none
 | _=>none
noncomputable def m_ (nl:NL):List D->Hh->R D:=fun ds h=>match rQ ds with
 | some xs=>nl xs h
 | none=>.bad
noncomputable def qI:List D->Hh->R D:=fun ds h=>match rQ ds with
 | some xs=>.ok (.tup xs) h
 | none=>.bad
theorem uQ (lo:Int) (n:Nat) {α:List Addr} {H:Hp}:aw K g α H (bT lo n) ((uA lo 1 n).map V.int):=by
 have e:bT lo n=(uA lo 1 n).map D.int:=by
  unfold bT uA
  rw[List.map_map]
  apply List.map_congr_left
  intro i _
  simp
 rw[e]
 exact aw.ints _
theorem zN {α:List Addr} {H:Hp} {ds:List D} {vs:List V} {xs:List D} (r:aw K g α H ds vs) (e:rQ ds=some xs) :
  (∃j,vs=[.int j]/\qB 0 j 1 j.toNat/\xs=bT 0 j.toNat)\/∃i j,vs=[.int i,.int j]/\qB i j 1 (j - i).toNat/\xs=bT i (j - i).toNat:=by
 unfold rQ at e
 split at e
 ·rename_i j
  split at e
  ·rename_i hj
   cases e
   cases r with
   | cons r1 t=>
    cases r1
    cases t
    refine .inl ⟨j,rfl,?_,rfl⟩
    have:=B3 (a:=0) (b:=j) (by omega) (by omega) (by omega) (by omega) (by omega)
    rw[Int.sub_zero] at this
    exact this
  ·cases e
 ·rename_i i j
  split at e
  ·rename_i hj
   cases e
   cases r with
   | cons r1 t=>
    cases r1
    cases t with
    | cons r2 t=>
     cases r2
     cases t
     exact .inr ⟨i,j,rfl,B3 (by omega) (by omega) (by omega) (by omega) (by omega),rfl⟩
  ·cases e
 ·cases e
theorem Dj:bg X (.type "range") (fun vs H Q=>(∃j,vs=[.int j]/\∀p,H p=none->Q (.ref p) (upd H p (pk p 0 j 1)))\/∃i j,vs=[.int i,.int j]/\∀p,H p=none->Q (.ref p) (upd H p (pk p i j 1))):=bg.or AA Ap
section
variable {e:Expr} {es:List Expr} {mr:MA} {p1 p2 q1 q2:Pos}
theorem CS {nl:NL} [lC nl] (hc:X.calm=true) (hg:Gl X "list") (hm:X.mg "list" = none) (hg2:Gl X "range") (hm2:X.mg "range" = none) (ha:PA X (e::es) (tMA X.K g ε mr))
  (he:starEach (e::es) X.env=(false,eval e X.env)::starEach es X.env:=by rfl) (hpl:(backTo q2 (starEach es X.env)).any (·.1)=false:=by rfl)
  (he1:starEach [.Call (.Name "range" p2) (e::es) [] q2] X.env=[(false,eval (.Call (.Name "range" p2) (e::es) [] q2) X.env)]:=by rfl) (hpl1:(backTo q1 (starEach [] X.env)).any (·.1)=false:=by rfl) :
  PE X (.Call (.Name "list" p1) [.Call (.Name "range" p2) (e::es) [] q2] [] q1) (tM X.K g ε (ai (m_ nl) mr)):=
 PE.imp (PE.frz (iE (sk hc) hg hm PyProof.Rows.boot_list (fq (iE Dj hg2 hm2 PyProof.Rows.boot_range ha (by decide) (by decide) he hpl) jI he1) (by decide) (by decide) he1 hpl1)) fun σ H Q ⟨α,env,h,s,w⟩=>tMA.use s w.bind fun d1 h1 v1 H1 α1 e1 s1 r1 w1=>by
  unfold m_ at w1
  cases er:rQ d1 with
  | none=>rw[er] at w1;exact w1.elim
  | some xs=>
   rw[er] at w1
   rcases zN r1 er with⟨j,rfl,ok,rfl⟩ | ⟨i,j,rfl,ok,rfl⟩
   ·refine .inl ⟨j,rfl,fun p hp=>⟨p,0,j,1,j.toNat,rfl,aP,ok,fun l hl=>?_⟩⟩
    have x:=Ext.fresh (K:=X.K) (α:=α1) (o:=pk p 0 j 1) hp
    exact NL.post ((w1.post e1).post x) (s1.heap.grow hp) (uQ 0 j.toNat) hl
   ·refine .inr ⟨i,j,rfl,fun p hp=>⟨p,i,j,1,(j - i).toNat,rfl,aP,ok,fun l hl=>?_⟩⟩
    have x:=Ext.fresh (K:=X.K) (α:=α1) (o:=pk p i j 1) hp
    exact NL.post ((w1.post e1).post x) (s1.heap.grow hp) (uQ i (j - i).toNat) hl
theorem zf (hc:X.calm=true) (hg:Gl X "tuple") (hm:X.mg "tuple" = none) (hg2:Gl X "range") (hm2:X.mg "range" = none) (ha:PA X (e::es) (tMA X.K g ε mr))
  (he:starEach (e::es) X.env=(false,eval e X.env)::starEach es X.env:=by rfl) (hpl:(backTo q2 (starEach es X.env)).any (·.1)=false:=by rfl)
  (he1:starEach [.Call (.Name "range" p2) (e::es) [] q2] X.env=[(false,eval (.Call (.Name "range" p2) (e::es) [] q2) X.env)]:=by rfl) (hpl1:(backTo q1 (starEach [] X.env)).any (·.1)=false:=by rfl) :
  PE X (.Call (.Name "tuple" p1) [.Call (.Name "range" p2) (e::es) [] q2] [] q1) (tM X.K g ε (ai qI mr)):=
 PE.imp (iE (rA hc) hg hm PyProof.Rows.boot_tuple (fq (iE Dj hg2 hm2 PyProof.Rows.boot_range ha (by decide) (by decide) he hpl) jI he1) (by decide) (by decide) he1 hpl1) fun σ H Q ⟨α,env,h,s,w⟩=>tMA.use s w.bind fun d1 h1 v1 H1 α1 e1 s1 r1 w1=>by
  unfold qI at w1
  cases er:rQ d1 with
  | none=>rw[er] at w1;exact w1.elim
  | some xs=>
   rw[er] at w1
   rcases zN r1 er with⟨j,rfl,ok,rfl⟩ | ⟨i,j,rfl,ok,rfl⟩
   ·refine .inl ⟨j,rfl,fun p hp=>⟨p,0,j,1,j.toNat,rfl,aP,ok,fun l hl=>?_⟩⟩
    have x:=Ext.fresh (K:=X.K) (α:=α1) (o:=pk p 0 j 1) hp
    exact aF.tup (aF.ext (e1.trans x) w1) (s1.heap.grow hp) (uQ 0 j.toNat) hl
   ·refine .inr ⟨i,j,rfl,fun p hp=>⟨p,i,j,1,(j - i).toNat,rfl,aP,ok,fun l hl=>?_⟩⟩
    have x:=Ext.fresh (K:=X.K) (α:=α1) (o:=pk p i j 1) hp
    exact aF.tup (aF.ext (e1.trans x) w1) (s1.heap.grow hp) (uQ i (j - i).toNat) hl
end
noncomputable def isL (d:D) (h:Hh):Bool:=match d with
 | .ref n=>(aG h n).isSome
 | .frl _=>true
 | _=>false
noncomputable def iy (f:D->List D->Hh->R D) (o:ME) (a:MA):ME:=fun env h=>(o env h).bind fun x h1=>if isL x h1=true then (a env h1).bind fun xs h2=>f x xs h2 else .bad
theorem FO {α:List Addr} {H:Hp} {h:Hh} {d:D} {x:V} (r:aZ K g α H h) (rd:aM K g α H d x) (e:isL d h=true):tyV K "list" x H:=by
 unfold isL at e
 cases rd with
 | @ref n p hp=>
  simp only at e
  obtain⟨ds,e⟩:=Option.isSome_iff_exists.mp e
  obtain⟨vs,hv,_⟩:=r.lst e hp
  exact .inl ⟨rfl,vs,SqL.of hv⟩
 | frl hq rs=>exact .inl ⟨rfl,_,hq.sq⟩
 | _=>cases e
theorem uz {o e:Expr} {es:List Expr} {mo:ME} {mr:MA} {name:Str} {apos cpos:Pos} {id:String} {r:V->List V->Hp->VK->Prop} {f:D->List D->Hh->R D} (slot:Slot "list" name id) (hty:typeOf (.builtin id)=pure (.type "method_descriptor")) (hm:MtM X id r) (im:B4 X.K g ε f r) (ho:PE X o (tM X.K g ε mo)) (ha:PA X (e::es) (tMA X.K g ε mr))
  (hbase:attributeBase o name X.env (eval o X.env)=eval o X.env:=by rfl)
  (hfew:((backTo cpos (starEach (e::es) X.env)).all (fun x=>!x.1)&&(backToKw cpos (keywordEach [] X.env)).all (fun x=>x.1.isSome)
   && decide ((e::es).length+([]:List Keyword).length+(if ([]:List Keyword).isEmpty then 0 else 1)<30))=true:=by rfl)
  (hline:(apos.endLine == cpos.line)=true:=by rfl) (hs:starEach (e::es) X.env=(false,eval e X.env)::starEach es X.env:=by rfl) (hplain:(backTo cpos (starEach es X.env)).any (·.1)=false:=by rfl) :
  PE X (.Call (.Attribute o name apos) (e::es) [] cpos) (tM X.K g ε (iy f mo mr)):=
 PE.imp (IT PySem.F.plainAttrs_list slot hty hm ho ha hbase hfew hline hs hplain) fun σ H Q ⟨α,env,h,s,w⟩=>tM.use s w.bind fun d1 h1 v1 H1 α1 e1 s1 r1 w1=>by
  obtain⟨hl,w1⟩:=WQ.fc w1
  refine⟨FO s1.heap r1 hl,tMA.use s1 (w1.ext e1).bind fun d2 h2 v2 H2 α2 e2 s2 r2 w2=>?_⟩
  exact im α2 H2 h2 d1 d2 v1 v2 Q s2.heap (r1.ext e2) r2 ((w2.ext e2).mono fun _ _ _ p=>aF.ext (e1.trans e2) p)
noncomputable def iV:D->List D->Hh->R D:=fun o ds h=>match o,ds with
 | .ref n,[d]=>match aG h n with
  | some xs=>if xs.length<1000000 then .ok .non (h.set n (.lst (xs++[d]))) else .bad
  | none=>.bad
 | _,_=>.bad
theorem AH:B4 K g ε iV yT:=by
 intro α H h o a y x Q r ro ra w
 unfold iV at w
 cases ro with
 | @ref n p hp=>
  cases ra with
  | nil=>exact w.elim
  | @cons d v _ _ rd rr=>
   cases rr with
   | cons _ _=>exact w.elim
   | nil=>
    simp only at w
    cases e:aG h n with
    | none=>rw[e] at w;exact w.elim
    | some xs=>
     rw[e] at w
     obtain⟨hl,w⟩:=WQ.fc w
     obtain⟨vs,hv,rs⟩:=r.lst e hp
     refine⟨p,vs,_,rfl,rfl,hv,by rw[<- rs.length,sizeLine_eq];omega,?_⟩
     have x:=Ext.write (o:=.lst (vs++[v])) r hp
     exact(show aF K g α H Q _ _ from w) _ _ α x (r.write hp ⟨_,aP,(rs.append (.cons rd .nil)).ext x⟩) .non
 | _=>exact w.elim
noncomputable def xB:D->List D->Hh->R D:=fun o ds h=>match o,ds with
 | .ref n,[.int i]=>match aG h n with
  | some xs=>match ixN xs.length i with
   | some k=>match xs[k]? with
    | some d=>if xs.length<=1000000 then .ok d (h.set n (.lst (xs.eraseIdx k))) else .bad
    | none=>.bad
   | none=>.bad
  | none=>.bad
 | _,_=>.bad
theorem GC:B4 K g ε xB C7:=by
 intro α H h o a y x Q r ro ra w
 unfold xB at w
 cases ro with
 | @ref n p hp=>
  cases ra with
  | nil=>exact w.elim
  | cons rd rr=>
   cases rr with
   | cons _ _=>cases rd<;>exact w.elim
   | nil=>
    cases rd with
    | int i=>
     simp only at w
     cases e:aG h n with
     | none=>rw[e] at w;exact w.elim
     | some xs=>
      rw[e] at w
      simp only at w
      cases e2:ixN xs.length i with
      | none=>rw[e2] at w;exact w.elim
      | some k=>
       rw[e2] at w
       simp only at w
       cases e3:xs[k]? with
       | none=>rw[e3] at w;exact w.elim
       | some d=>
        rw[e3] at w
        obtain⟨hl,w⟩:=WQ.fc w
        obtain⟨vs,hv,rs⟩:=r.lst e hp
        obtain⟨v,ev,rv⟩:=rs.get e3
        obtain⟨h1,h2,h3,h4⟩:=vE e2
        refine⟨p,vs,i,k,v,rfl,rfl,hv,?_,?_,by rw[<- rs.length];exact h1,ev,?_⟩
        ·omega
        ·omega
        ·have x:=Ext.write (o:=.lst (vs.eraseIdx k)) r hp
         exact(show aF K g α H Q _ _ from w) _ _ α x (r.write hp ⟨_,aP,(rs.erase k).ext x⟩) (rv.ext x)
    | _=>exact w.elim
 | _=>exact w.elim
theorem oF (ns:List Int):∀k,k<=ns.length->preSum (fun i=>ns.getD i 0) k=(ns.take k).sum
 | 0,_=>by simp[preSum]
 | k+1,h=>by
  rw[preSum,oF ns k (by omega),List.take_succ,List.sum_append]
  rw[List.getD_eq_getElem?_getD,List.getElem?_eq_getElem (by omega)]
  simp
theorem zU (hc:X.calm=true):bg X (.builtin "sum") (fun vs H Q=>∃(p:Addr) (ns:List Int),vs=[.ref p]/\(SqL X.K H p (ns.map V.int)\/SqT X.K H p (ns.map V.int))/\Q (.int ns.sum) H):=by
 intro pins s σ H xs us Q I r h
 obtain⟨p,ns,rfl,hq,q⟩:=h
 obtain⟨u,rfl,rx⟩:=vals1 r
 cases rx
 have hh:X.A.in1.handled=none:=I.ok.hd hc
 have fin:∀{its:List Value} {o:Obj},Vals (ns.map V.int) its->∀s',Moved [s.heap.objs.size] (fun a b=>b=a) { s with heap:=s.heap.push o } s'->∀t',EP X pins σ Q (.int (preSum (fun i=>ns.getD i 0) its.toArray.size) t') s':=fun{its o} rv s' mv t'=>by
  have hl:its.toArray.size=ns.length:=by rw[List.size_toArray,<- rv.length,List.length_map]
  have keep:∀b u,s.heap.get? b=some u->s'.heap.get? b=some u:=fun b u e=>mv.heap b u (by simp;exact Nat.ne_of_lt (Heap.lt_size e)) (Heap.get?_push_of_some _ e)
  have I':Inv X pins σ H s':=by
   obtain⟨hp,gs,dr,tk,os⟩:=s'
   have e1:gs=s.gens:=mv.gens
   have e2:dr=s.drawn:=mv.drawn
   have e3:os=s.os:=mv.os
   subst e1 e2 e3
   exact I.kept (h':=hp) (t':=tk) keep
  refine⟨.int ns.sum,H,I',⟨t',?_⟩,q⟩
  rw[hl,oF ns _ (Nat.le_refl _),List.take_length]
 have val:∀{its:List Value},Vals (ns.map V.int) its->∀i v,its.toArray[i]?=some v->∃t:Tok,v=Value.int (ns.getD i 0) t:=fun{its} rv i v e=>by
  obtain⟨x,hx,rxv⟩:=rv.get' (show its[i]?=some v by simpa using e)
  rw[List.getElem?_map] at hx
  cases en:ns[i]? with
  | none=>rw[en] at hx;cases hx
  | some z=>
   rw[en] at hx
   cases hx
   obtain⟨t,e⟩:=rxv
   exact⟨t,by rw[List.getD_eq_getElem?_getD,en];exact e⟩
 rcases hq with hq | hq
 ·obtain⟨its,rv,pl,hz⟩:=I.list hq
  have plt:p<s.heap.objs.size:=by obtain⟨o,e,_⟩:=pl.isList;exact Heap.lt_size e
  have hne:p≠s.heap.objs.size:=Nat.ne_of_lt plt
  refine call_sum_walkAnyS (wpAny_pyIter_list pl.isList ?_)
  refine⟨s.heap.objs.size,_,_,_,its.toArray.size,_,_,fun i=>ns.getD i 0,rfl,(Walks.list (prog:=X.prog) (w:=X.w) hh s.heap.objs.size p hne its.toArray).toS,⟨⟨_,Heap.get?_push_size _ rfl,rfl,rfl⟩,?_⟩,fun b hb=>?_,val rv,fun s' t' mv=>fin rv s' mv t'⟩
  ·exact pl.isList.at fun o e=>Heap.get?_push_of_some _ e
  ·simp at hb
   rcases hb with rfl | rfl
   ·exact Heap.lt_size (Heap.get?_push_size _ rfl)
   ·exact Nat.lt_trans plt (Heap.lt_size (Heap.get?_push_size _ rfl))
 ·obtain⟨its,rv,pl,hz⟩:=I.tuple hq
  have pt:s.heap.IsTuple p its.toArray:=pl
  have hne:p≠s.heap.objs.size:=Nat.ne_of_lt pl.lt
  refine call_sum_walkAnyS (wpAny_pyIter_tuple pt ?_)
  refine⟨s.heap.objs.size,_,_,_,its.toArray.size,_,_,fun i=>ns.getD i 0,rfl,(Walks.tuple (prog:=X.prog) (w:=X.w) hh s.heap.objs.size p hne its.toArray).toS,⟨⟨_,Heap.get?_push_size _ rfl,rfl,rfl⟩,?_⟩,fun b hb=>?_,val rv,fun s' t' mv=>fin rv s' mv t'⟩
  ·exact pt.at fun o e=>Heap.get?_push_of_some _ e
  ·simp at hb
   rcases hb with rfl | rfl
   ·exact Heap.lt_size (Heap.get?_push_size _ rfl)
   ·exact Nat.lt_trans pl.lt (Heap.lt_size (Heap.get?_push_size _ rfl))
noncomputable def xW:List D->Hh->R D:=fun ds h=>match ds with
 | [d]=>match jR d h with
  | some xs=>match intsOf xs with
   | some ns=>.ok (.int ns.sum) h
   | none=>.bad
  | none=>.bad
 | _=>.bad
theorem GQ:m9 K g ε xW (fun vs H Q=>∃(p:Addr) (ns:List Int),vs=[.ref p]/\(SqL K H p (ns.map V.int)\/SqT K H p (ns.map V.int))/\Q (.int ns.sum) H):=by
 intro α H h a x Q r ra w
 obtain⟨d,v,rfl,rfl,rd⟩:=kW (f:=xW) (fun _ _ _ _=>rfl) (fun _=>rfl) ra w
 unfold xW at w
 simp only at w
 cases e:jR d h with
 | none=>rw[e] at w;exact w.elim
 | some ds=>
  rw[e] at w
  simp only at w
  cases e2:intsOf ds with
  | none=>rw[e2] at w;exact w.elim
  | some ns=>
   rw[e2] at w
   obtain⟨p,vs,rfl,hq,rs⟩:=t4 r rd e
   have e3:=hJ e2
   subst e3
   have e4:=rs.zm
   subst e4
   exact⟨p,ns,rfl,hq,aF.now w r (.int _)⟩
noncomputable def wZ:D->D->Hh->R D
 | .int i,.int j,h=>.ok (.int (i+j)) h
 | _,_,_=>.bad
theorem HB:fY K g ε wZ (ipI fun i j=>i+j):=by
 intro α H h a b x y Q r ra rb w
 unfold wZ at w
 cases ra with
 | int i=>
  cases rb with
  | int j=>exact⟨i,j,rfl,rfl,aF.now w r (.int _)⟩
  | _=>exact w.elim
 | _=>exact w.elim
end
section
variable {P:Program} {w:World} {K:PySem.W.Frag} {mg:Str->Option Value} {base:Heap} {g:GG}
noncomputable def aJ (K:PySem.W.Frag) (mg:Str->Option Value) (x:Str) (st:Stmt):Prop:=∃f fd,mg x=some (.ref f)/\Fun K x x st f fd
noncomputable def bU (K:PySem.W.Frag) (x:Str) (st:Stmt):Prop:=∃f fd,PySem.W.nsIn K mainGlobals x=some (some (.ref f))/\Fun K x x st f fd
theorem bp {x:Str} {st:Stmt} {f:Addr} {oc:Value} {od an:Option Addr} {osl:Array (Option Value)} {kV doc pm cdv ct:Value} (a:PySem.W.nsIn K mainGlobals x=some (some (.ref f)))
  (l:K.lookup f=some ⟨oc,od,.func (PySem.W.fnOf x x (fU st) (bQ st) (ak st) .none kV doc pm an cdv ct),osl⟩) (c:PySem.W.codeIn K cdv x=true) (k:PySem.W.keepIn K (.ref f)=true):bU K x st:=⟨f,_,a,yk l c k⟩
theorem aJ.of {h:Heap} {x:Str} {st:Stmt} (X:K.In h) (G:h.Ns mainGlobals mg) (d:bU K x st):aJ K mg x st:=
 let ⟨f,fd,a,F⟩:=d;⟨f,fd,PySem.W.mg_of X G a,F⟩
noncomputable def Has (P:Program) (w:World) (K:PySem.W.Frag) (mg:Str->Option Value) (base:Heap) (g:GG) (x:Str) (k:Nat) (ps:List Str) (m:MF):Prop:=
 ∃f fd,ef P w K mg base CX0 k f fd ps (spM K g ps.length m)/\PySem.W.keepIn K (.ref f)=true/\Binds K fd ps []/\mg x=some (.ref f)/\∃(oc:Value) (od:Option Addr) (osl:Array (Option Value)),K.lookup f=some ⟨oc,od,.func fd,osl⟩
noncomputable def gOf (mg:Str->Option Value):GG:=fun x=>match mg x with
 | some (.ref f)=>some f
 | _=>none
theorem bJ {x:Str} {st:Stmt} {f:Addr} {fd:FuncData} (F:Fun K x x st f fd):∃(oc:Value) (od:Option Addr) (osl:Array (Option Value)),K.lookup f=some ⟨oc,od,.func fd,osl⟩:=by
 obtain⟨oc,od,kV,doc,pm,an,cdv,ct,osl,rfl,lk,hcd⟩:=F.ex
 exact⟨oc,od,osl,lk⟩
theorem G6 {x:Str} {st:Stmt} {f:Addr} {fd:FuncData} {k:Nat} {ps:List Str} {m:MF} (F:Fun K x x st f fd) (hm:mg x=some (.ref f)) (h:Has P w K mg base g x k ps m):ef P w K mg base CX0 k f fd ps (spM K g ps.length m):=by
 obtain⟨f2,fd2,G,_,_,hm2,oc,od,osl,l2⟩:=h
 obtain⟨oc',od',osl',l1⟩:=bJ F
 rw[hm] at hm2
 cases hm2
 rw[l1] at l2
 cases l2
 exact G
end
section
variable {X:Cx} {g:GG} {ε:EE}
noncomputable def EI (i j:Nat) (m:ME):MS:=fun env h=>(m env h).bind fun d h1=>(gT2 i j d env h1).bind fun e h2=>.ok (.nx e) h2
theorem JW {i j:Nat} {x y:Str} {e:Expr} {me:ME} {px py pt pos:Pos} {kt} (hc:X.calm=true) (hN:X.N.Nodup) (hi:X.N[i]?=some x) (hj:X.N[j]?=some y) (he:PE X e (tM X.K g ε me))
  (hx:Loc X.env.scope x:=by first | exact Or.inl rfl | exact Or.inr rfl) (hy:Loc X.env.scope y:=by first | exact Or.inl rfl | exact Or.inr rfl)
  (fx:X.fn x=true\/X.env.scope.names.lookup x=some .local:=by first | exact .inl rfl | exact .inr rfl) (fy:X.fn y=true\/X.env.scope.names.lookup y=some .local:=by first | exact .inl rfl | exact .inr rfl)
  (hs:swapsWithSole [.Tuple [.Name x px,.Name y py] kt pt] e pos.line X.env=pure false:=by rfl) (hw:swappedStores [.Tuple [.Name x px,.Name y py] kt pt] e X.env=pure none:=by rfl) :
  PS X (.Assign [.Tuple [.Name x px,.Name y py] kt pt] e pos) (tMS X.K g ε (EI i j me)):=
 PS.imp (Dl he (rL hc (eR (cE hN hi hx fx) (eR (cE hN hj hy fy) mC))) hs hw rfl) fun E σ H ⟨α,env,h,s,w⟩=>tM.use s w.bind fun d1 h1 v1 H1 α1 e1 s1 r1 w1=>by
  refine q_ (ε:=ε) α1 H1 h1 env σ d1 v1 _ s1 r1 ((w1.ext e1).bind.mono fun e' h2 _ w2 σ2 H2 α2 e2 s2=>?_)
  exact(show eA X.K g α H E (.nx e') h2 from w2) H2 α2 (e1.trans e2) s2.heap σ2 s2.vs
theorem Hu {i j:Nat} {x y:Str} {a b:Expr} {ma:MA} {px py pt pos:Pos} {kt k2 pt2} (hc:X.calm=true) (hN:X.N.Nodup) (hi:X.N[i]?=some x) (hj:X.N[j]?=some y) (hij:i≠j) (ha:PA X [a,b] (tMA X.K g ε ma))
  (hx:X.env.scope.names.lookup x=some .local:=by rfl) (hy:X.env.scope.names.lookup y=some .local:=by rfl)
  (hw:swappedStores [.Tuple [.Name x px,.Name y py] kt pt] (.Tuple [a,b] k2 pt2) X.env=pure (some [x,y]):=by rfl)
  (hs:swapsWithSole [.Tuple [.Name x px,.Name y py] kt pt] (.Tuple [a,b] k2 pt2) pos.line X.env=pure false:=by rfl) :
  PS X (.Assign [.Tuple [.Name x px,.Name y py] kt pt] (.Tuple [a,b] k2 pt2) pos) (tMS X.K g ε (BU i j ma)):=Jj hc hN hi hj hij hx hy ha hw hs
end
section
variable {X:Cx} {K:PySem.W.Frag} {g:GG} {ε:EE}
noncomputable def C1:D->D->Hh->R D:=fun a b h=>match a with
 | .ref n=>dIx (.ref n) b h
 | _=>.bad
noncomputable def uk (o i v:ME):MS:=fun env h=>(o env h).bind fun x h1=>(i env h1).bind fun y h2=>(C1 x y h2).bind fun z h3=>(v env h3).bind fun u h4=>(wZ z u h4).bind fun t h5=>(jg x y t h5).bind fun _ h6=>.ok (.nx env) h6
theorem EL:Ke X (fun x y H Q=>Iw X.K x y H Q):=by
 intro pins s σ H o i ov iv Q I ro ri h
 obtain⟨p,xs,k,z,rfl,rfl,hq,he,q⟩:=h
 cases ro
 obtain⟨t,rfl⟩:=ri
 obtain⟨its,r,pl,hz⟩:=I.list hq
 obtain⟨j,h1,h2,h3,h4,h5⟩:=pF he
 obtain⟨w,ew,rw'⟩:=r.get h2
 have hl:=r.length
 have hn:=jZ
 have fin:EP X pins σ Q w s:=⟨z,H,I,rw',q⟩
 by_cases h0:0<=k
 ·have hj:k.toNat=j:=by
   rw[seqIndex_of h0 h5] at h1
   exact Option.some.inj h1
  exact wpAny_getItem_list pl.isList h0 (by omega) (by rw[hj];simpa using ew) fin
 ·have hj:(k+(its.toArray.size:Int)).toNat=j:=by
   rw[seqIndex_neg (by omega) h4] at h1
   rw[List.size_toArray,<- hl]
   exact Option.some.inj h1
  exact wpAny_getItem_list_neg pl.isList (by omega) (by rw[List.size_toArray]<;>omega) (by omega) (by rw[hj];simpa using ew) fin
theorem Fm {o i e:Expr} {mo mi me:ME} {tpos pos:Pos} (ho:PE X o (tM X.K g ε mo)) (hi:PE X i (tM X.K g ε mi)) (he:PE X e (tM X.K g ε me))
  (ha:∀ov iv new,augStore i ov iv new=(do holding [new,ov,iv] (setItem ov iv new);release [new,ov,iv] [];pure .next):=by intros;rfl):PS X (.AugAssign (.Subscript o i tpos) .Add e pos) (tMS X.K g ε (uk mo mi me)):=
 PS.imp (Fs ho hi EL he Hz set_list ha) fun E σ H ⟨α,env,h,s,w⟩=>tM.use s w.bind fun d1 h1 v1 H1 α1 e1 s1 r1 w1=>tM.use s1 (w1.ext e1).bind fun d2 h2 v2 H2 α2 e2 s2 r2 w2=>by
  have w3:=(w2.ext e2).bind
  have r1':=r1.ext e2
  unfold C1 at w3
  cases r1' with
  | @ref n p hp=>
   simp only[dIx] at w3
   cases eq:jR (.ref n) h2 with
   | none=>simp only[eq] at w3;exact w3.elim
   | some ds=>
    simp only[eq] at w3
    cases r2 with
    | int k=>
     cases ea:atI ds k with
     | none=>simp only[ea] at w3;exact w3.elim
     | some z=>
      simp only[ea] at w3
      have w4:WQ X.K g ε α2 H2 ((me env h2).bind _) _:=w3
      have eq':aG h2 n=some ds:=eq
      obtain⟨vs',hv',rs'⟩:=s2.heap.lst eq' hp
      obtain⟨v',ev',rv'⟩:=yZ rs' ea
      refine⟨p,vs',k,v',rfl,rfl,SqL.of hv',ev',tM.use s2 w4.bind fun d3 h3 v3 H3 α3 e3 s3 r3 w5=>?_⟩
      refine HB (K:=X.K) (g:=g) (ε:=ε) α3 H3 h3 z d3 v' v3 _ s3.heap (rv'.ext e3) r3 ((w5.ext e3).bind.mono fun t h4 _ w6 v4 H4 α4 e4 hr4 r4=>?_)
      refine qv (K:=X.K) (g:=g) (ε:=ε) α4 H4 h4 (.ref n) (.int k) t (.ref p) (.int k) v4 _ hr4 (.ref ((e3.trans e4).get hp)) (.int k) r4 (((w6.ext e4)).bind.mono fun _ h5 _ w7 H5 α5 e5 hr5=>?_)
      exact(show eA X.K g α H E (.nx env) h5 from w7) H5 α5 (e1.trans (e2.trans (e3.trans (e4.trans e5)))) hr5 _ (s3.vs.ext (e4.trans e5))
    | _=>exact w3.elim
  | _=>exact w3.elim
noncomputable def k9 (tab:Str->Option MF) (f:ME) (a:MA):ME:=fun env h=>(f env h).bind fun d h1=>match d with
 | .fn x=>match tab x with
  | some m=>(a env h1).bind m
  | none=>.bad
 | _=>.bad
end
mutual
noncomputable def js (k:Nat):D->Bool
 | .ref n=>decide (n<k)
 | .tup ds=>b_ k ds
 | .frl ds=>b_ k ds
 | .scr ds=>b_ k ds
 | .clo _ ds=>b_ k ds
 | _=>true
noncomputable def b_ (k:Nat):List D->Bool
 | []=>true
 | d::ds=>js k d&&b_ k ds
end
noncomputable def rD (k:Nat):O->Bool
 | .lst ds=>b_ k ds
 | .set _=>true
 | .dic kvs=>b_ k (kvs.map (·.2))
 | .dit kvs=>b_ k (kvs.map (·.2))
noncomputable def mV (f:D->Option D):List D->Option (List D)
 | []=>some []
 | d::ds=>match f d,mV f ds with
  | some e,some es=>some (e::es)
  | _,_=>none
noncomputable def iq (k:Nat) (h:Hh):Nat->D->Option D
 | 0,_=>none
 | f+1,d=>match d with
  | .ref n=>if n<k then some (.ref n) else match aG h n with
   | some ds=>(mV (iq k h f) ds).map .frl
   | none=>none
  | .tup ds=>(mV (iq k h f) ds).map .tup
  | .frl ds=>(mV (iq k h f) ds).map .frl
  | .scr _=>none
  | .clo f ds=>if b_ 0 ds=true then some (.clo f ds) else none
  | d=>some d
noncomputable def cJ (h:Hh):D->Hh->R D:=fun d h'=>if (h'.take h.length).all (rD h.length)=true then match iq h.length h' 8 d with
 | some e=>.ok e (h'.take h.length)
 | none=>.bad else .bad
open Classical in
noncomputable def kY (S:Addr->Prop) (o:Addr->Obj) (H:Hp):Hp:=fun p=>if S p then (H p).map (.frz (o p)) else H p
theorem Ha {P:Program} {w:World} {H:Hp} {h:Heap} {p:Addr} {u:HO} (q:bM P w H h p u) (mu:Mut (some u)):∃o,h.get? p=some o:=by
 cases u with
 | lst xs=>obtain⟨_,_,_,_,e'⟩:=q;exact⟨_,e'⟩
 | dK kvs=>obtain⟨_,_,_,_,o,_,_,e',_⟩:=q;exact⟨_,e'⟩
 | dT kvs=>obtain⟨_,_,_,_,o,_,_,e',_⟩:=q;exact⟨_,e'⟩
 | set S n=>obtain⟨o,_,_,_,e',_⟩:=q;exact⟨_,e'⟩
 | ins C dx fs=>obtain⟨_,_,_,e',_⟩:=q;exact⟨_,e'⟩
 | ext φ=>obtain⟨_,⟨_,e'⟩,_⟩:=q;exact⟨_,e'⟩
 | _=>exact absurd mu (fun z=>z)
theorem GS {outer:List Env} {P:Program} {w:World} {H:Hp} {s:Shared} {Q Q':VK} {u:Value} {s':Shared} (h:CE outer P w H s Q' u s')
  (hQ:∀v H',Q' v H'->∃S:Addr->Prop,(∀p,S p->∃u,H' p=some u/\Mut (some u))/\∀o:Addr->Obj,Q v (kY S o H')):CE outer P w H s Q u s':=by
 obtain⟨v,H',os,bare,un,hok,r,q⟩:=h
 obtain⟨S,hS,q⟩:=hQ v H' q
 have hS1:∀p,S p->∀u,H' p=some u->Mut (some u):=fun p z u e=>by obtain⟨u',e',m⟩:=hS p z;rw[e] at e';cases e';exact m
 have off:∀(o:Addr->Obj) b u,H' b=some u->¬ Mut (some u)->kY S o H' b=some u:=fun o b u e m=>by
  unfold kY
  rw[if_neg fun z=>m (hS1 b z u e)];exact e
 have offn:∀(o:Addr->Obj) b,H' b=none->kY S o H' b=none:=fun o b e=>by
  unfold kY
  split
  ·rw[e];rfl
  ·exact e
 let o:Addr->Obj:=fun b=>(s'.heap.get? b).getD { cls:=.none,data:=.fields #[] }
 refine⟨v,kY S o H',os,bare,⟨un.keep,un.slot,fun b ob e n hx=>offn o b (un.free b ob e n hx),un.there,fun b xs e=>off o b _ (un.nJ b xs e) fun z=>z,fun b ob xs e=>off o b _ (un.l7 b ob xs e) fun z=>z,fun b ps e=>?_⟩,?_,r,q o⟩
 ·obtain⟨more,e1⟩:=un.mT b ps e
  exact⟨more,off o b _ e1 fun z=>z⟩
 ·intro b u e
  have st:∀u,bM P w H' s'.heap b u->bM P w (kY S o H') s'.heap b u:=fun u x=>x.ke (fun _ _ _ z=>z) (fun c z=>off o c _ z fun z=>z) fun c xs z=>off o c _ z fun z=>z
  unfold kY at e
  split at e
  ·rename_i hb
   obtain⟨u',e',m⟩:=hS b hb
   rw[e'] at e
   cases e
   have x:=hok b u' e'
   obtain⟨ob,eo⟩:=Ha x m
   refine⟨?_,st _ x⟩
   show s'.heap.get? b=some ((s'.heap.get? b).getD _)
   rw[eo];rfl
  ·exact st u (hok b u e)
section
variable {K:PySem.W.Frag} {g:GG} {α α':List Addr} {H H' H2:Hp} {k:Nat}
structure sU (K:PySem.W.Frag) (α α':List Addr) (H' H2:Hp) (k:Nat):Prop where
 pre:∀n,n<k->α[n]?=α'[n]?
 tup:∀p xs,H' p=some (.tup xs)->H2 p=some (.tup xs)
 frz:∀p (o:Obj) (u:HO),H' p=some (.frz o u)->H2 p=some (.frz o u)
mutual
theorem pR (L:sU K α α' H' H2 k):∀{d:D} {v:V},js k d=true->aM K g α' H' d v->aM K g α H2 d v
 | _,_,_,.non=>.non
 | _,_,_,.bl b=>.bl b
 | _,_,_,.int i=>.int i
 | _,_,_,.str x=>.str x
 | _,_,hl,.ref h=>.ref (by rw[L.pre _ (by simpa [js] using hl)];exact h)
 | _,_,hl,.tup h r=>.tup (L.tup _ _ h) (fZ L (by simpa [js] using hl) r)
 | _,_,hl,.frl h r=>.frl (let ⟨o,h⟩:=h;⟨o,L.frz _ _ _ h⟩) (fZ L (by simpa [js] using hl) r)
 | _,_,hl,.scr h r=>.scr (h.elim (fun⟨o,h⟩=>.inl ⟨o,L.frz _ _ _ h⟩) .inr) (fZ L (by simpa [js] using hl) r)
 | _,_,_,.fn h=>.fn h
 | _,_,_,.edic h=>.edic (L.frz _ _ _ h)
 | _,_,_,.exc hg h hc hd hf=>.exc hg (L.frz _ _ _ h) hc hd (hf.elim .inl fun⟨dx,od,a,b⟩=>.inr ⟨dx,od,a,L.frz _ _ _ b⟩)
 | _,_,hl,.clo h l hc hd hv cs r=>.clo (L.frz _ _ _ h) l (L.frz _ _ _ hc) hd hv (L2.Paired.rP cs fun _ _ ⟨c,o,u,l,a,b⟩=>⟨c,o,u,l,L.frz _ _ _ a,b⟩) (fZ L (by simpa [js] using hl) r)
theorem fZ (L:sU K α α' H' H2 k):∀{ds:List D} {vs:List V},b_ k ds=true->aw K g α' H' ds vs->aw K g α H2 ds vs
 | _,_,_,.nil=>.nil
 | _,_,hl,.cons r t=>by
  simp only[b_,Bool.and_eq_true] at hl
  exact .cons (pR L hl.1 r) (fZ L hl.2 t)
end
theorem lN {f:D->Option D} (hf:∀d e v,f d=some e->aM K g α' H' d v->aM K g α H2 e v):∀{ds es:List D} {vs:List V},mV f ds=some es->aw K g α' H' ds vs->aw K g α H2 es vs
 | [],es,_,e,.nil=>by cases e;exact .nil
 | d::ds,es,_,e,.cons r t=>by
  unfold mV at e
  split at e
  ·rename_i e1 es1 h1 h2
   cases e
   exact .cons (hf _ _ _ h1 r) (lN hf h2 t)
  ·cases e
theorem pS {h' hx:Hh} (L:sU K α α' H' H2 k) (r:aZ K g α' H' h') (hx':∀n ds,aG hx n=some ds->aG h' n=some ds) (fz:∀n p ds vs,k<=n->aG hx n=some ds->α'[n]?=some p->H' p=some (.lst vs)->Fr1 H2 p vs) :
  ∀(f:Nat) (d e:D) (v:V),iq k hx f d=some e->aM K g α' H' d v->aM K g α H2 e v
 | 0,_,_,_,e,_=>by cases e
 | f+1,d,e,v,he,rd=>by
  unfold iq at he
  cases rd with
  | non=>cases he;exact .non
  | bl b=>cases he;exact .bl b
  | int i=>cases he;exact .int i
  | str x=>cases he;exact .str x
  | fn h=>cases he;exact .fn h
  | edic h=>cases he;exact .edic (L.frz _ _ _ h)
  | exc hg h hc hd hf=>cases he;exact .exc hg (L.frz _ _ _ h) hc hd (hf.elim .inl fun⟨dx,od,a,b⟩=>.inr ⟨dx,od,a,L.frz _ _ _ b⟩)
  | scr _ _=>cases he
  | clo h l hc hd hv cs rs=>
   simp only at he
   split at he
   ·rename_i lo
    cases he
    exact .clo (L.frz _ _ _ h) l (L.frz _ _ _ hc) hd hv (L2.Paired.rP cs fun _ _ ⟨c,o,u,l,a,b⟩=>⟨c,o,u,l,L.frz _ _ _ a,b⟩) (fZ (k:=0) ⟨fun n hn=>absurd hn (Nat.not_lt_zero _),L.tup,L.frz⟩ lo rs)
   ·cases he
  | tup h rs=>
   simp only at he
   cases e1:mV (iq k hx f) _ with
   | none=>rw[e1] at he;cases he
   | some es=>rw[e1] at he;cases he;exact .tup (L.tup _ _ h) (lN (fun d e v=>pS L r hx' fz f d e v) e1 rs)
  | frl h rs=>
   simp only at he
   cases e1:mV (iq k hx f) _ with
   | none=>rw[e1] at he;cases he
   | some es=>rw[e1] at he;cases he;exact .frl (let ⟨o,h⟩:=h;⟨o,L.frz _ _ _ h⟩) (lN (fun d e v=>pS L r hx' fz f d e v) e1 rs)
  | @ref n p hp=>
   simp only at he
   split at he
   ·rename_i hn
    cases he
    exact .ref (by rw[L.pre n hn];exact hp)
   ·rename_i hn
    cases el:aG hx n with
    | none=>rw[el] at he;cases he
    | some ds=>
     rw[el] at he
     simp only at he
     cases e1:mV (iq k hx f) ds with
     | none=>rw[e1] at he;cases he
     | some es=>
      rw[e1] at he;cases he
      obtain⟨vs,hv,rs⟩:=r.lst (hx' n ds el) hp
      exact .frl (fz n p ds vs (by omega) el hp hv) (lN (fun d e v=>pS L r hx' fz f d e v) e1 rs)
end
theorem qS {β:Type} {l:List β} {k n:Nat} {x:β} (e:(l.take k)[n]?=some x):n<k/\l[n]?=some x:=by
 rw[List.getElem?_take] at e
 split at e
 ·exact⟨by assumption,e⟩
 ·cases e
theorem pI {α α':List Addr} (h:α <+: α') {n:Nat} (hn:n<α.length):α[n]?=α'[n]?:=by
 obtain⟨t,rfl⟩:=h
 rw[List.getElem?_append_left hn]
theorem FU {β:Type} {l:List β} {f:β->Bool} (h:l.all f=true) {n:Nat} {x:β} (e:l[n]?=some x):f x=true:=List.all_eq_true.mp h x (List.mem_of_getElem? e)
theorem xc {K:PySem.W.Frag} {g:GG} {α α' α2:List Addr} {H H' H2:Hp} {h h':Hh} (r0:α.length=h.length) (e:Ext K α H α' H') (r:aZ K g α' H' h') (hl:(h'.take h.length).all (rD h.length)=true)
  (L:sU K α2 α' H' H2 h.length) (kp:∀n p u,n<h.length->α'[n]?=some p->H' p=some u->H2 p=some u):∀(n:Nat) (p:Addr) (o:O),n<h.length->α'[n]?=some p->(h'.take h.length)[n]?=some o->OAt K g α2 H2 p o:=by
 intro n p o hn hp ho
 have lo:=FU hl ho
 obtain⟨_,ho'⟩:=qS ho
 have q:=r.here n p o hp ho'
 cases o with
 | lst ds=>obtain⟨vs,a,b⟩:=q;exact⟨vs,kp n p _ hn hp a,fZ L lo b⟩
 | set m=>exact kp n p _ hn hp q
 | dic kvs=>
  obtain⟨kws,a,b⟩:=q
  refine⟨kws,kp n p _ hn hp a,?_⟩
  replace lo:b_ h.length (kvs.map (·.2))=true:=lo
  clear a ho ho'
  induction b with
  | nil=>exact .nil
  | cons x t ih=>
   simp only[List.map_cons,b_,Bool.and_eq_true] at lo
   exact .cons ⟨x.1,pR L lo.1 x.2⟩ (ih lo.2)
 | dit kvs=>
  obtain⟨kws,a,b⟩:=q
  refine⟨kws,kp n p _ hn hp a,?_⟩
  replace lo:b_ h.length (kvs.map (·.2))=true:=lo
  clear a ho ho'
  induction b with
  | nil=>exact .nil
  | cons x t ih=>
   simp only[List.map_cons,b_,Bool.and_eq_true] at lo
   exact .cons ⟨x.1,pR L lo.1 x.2⟩ (ih lo.2)
section
variable {P:Program} {w:World} {K:PySem.W.Frag} {mg:Str->Option Value} {base:Heap} {g:GG} {k np:Nat} {f:Addr} {fd:FuncData} {ps:List Str} {m:MF}
theorem iQ {CX:CXT} {ε:XK->EE} (F:ef P w K mg base CX k f fd ps (spG K g ε np m)):ef P w K mg base CX k f fd ps (spG K g ε np fun ds h=>(m ds h).bind (cJ h)):=by
 refine⟨fun vs H Q E h=>?_,fun A outer s H args us vs Q E hr e0 hb hv hsp=>?_⟩
 ·obtain⟨hl,α,ds,h,rs,hh,w⟩:=h
  exact F.len vs H (fun _ _=>True) E ⟨hl,α,ds,h,rs,hh,w.bind.mono fun _ _ _ _ _ _ _ _ _ _=>trivial⟩
 ·obtain⟨hl,α,ds,h,rs,hh,w⟩:=hsp
  refine codeAny_mono (F.run A outer s H args us vs (fun v H'=>∃α' d h',Ext K α H α' H'/\aZ K g α' H' h'/\aM K g α' H' d v/\WQ K g (ε E) α H (cJ h d h') (aF K g α H Q)) E hr e0 hb hv ⟨hl,α,ds,h,rs,hh,w.bind.mono fun d h' _ w1 v H' α' e r rd=>⟨α',d,h',e,r,rd,w1⟩⟩) fun res s' q=>?_
  cases res with
  | error e=>exact q
  | ok fl=>
   cases fl with
   | ret u=>
    refine GS (show CE outer P _ H s _ u s' from q) fun v H' ⟨α',d,h',e,r,rd,w⟩=>?_
    refine⟨fun p=>∃n ds,h.length<=n/\α'[n]?=some p/\aG h' n=some ds,fun p ⟨n,ds,_,hp,hn⟩=>?_,fun o=>?_⟩
    ·obtain⟨vs,hv,_⟩:=r.lst hn hp
     exact⟨_,hv,trivial⟩
    ·unfold cJ at w
     obtain⟨hl,w⟩:=WQ.fc w
     cases ez:iq h.length h' 8 d with
     | none=>rw[ez] at w;exact w.elim
     | some e'=>
      rw[ez] at w
      generalize hS:(fun p=>∃n ds,h.length<=n/\α'[n]?=some p/\aG h' n=some ds)=S
      have inS:∀p,S p↔∃n ds,h.length<=n/\α'[n]?=some p/\aG h' n=some ds:=fun p=>by rw[<- hS]
      have k0:α.length=h.length:=hh.len
      have notS:∀p u,H' p=some u->(∀vs,u≠.lst vs)->¬ S p:=fun p u e1 e2 z=>by
       obtain⟨n,ds,_,hp,hn⟩:=(inS p).mp z
       obtain⟨vs,hv,_⟩:=r.lst hn hp
       rw[e1] at hv;cases hv;exact e2 vs rfl
      have off:∀p,¬ S p->kY S o H' p=H' p:=fun p z=>by unfold kY;rw[if_neg z]
      have offT:∀(p:Addr) (ps:Array Value),H' p=some (.tbl ps)->kY S o H' p=some (.tbl ps):=fun p ps z=>by rw[off p (notS p _ z fun vs z=>nomatch z)];exact z
      have L:sU K α α' H' (kY S o H') h.length:=⟨fun n hn=>pI e.pre (by omega),fun p xs z=>by rw[off p (notS p _ z fun vs z=>nomatch z)];exact z,fun p o u z=>by rw[off p (notS p _ z fun vs z=>nomatch z)];exact z⟩
      have kp:∀n p u,n<h.length->α'[n]?=some p->H' p=some u->kY S o H' p=some u:=fun n p u hn hp e1=>by
       rw[off p fun z=>?_];exact e1
       obtain⟨m,ds,hm,hp',_⟩:=(inS p).mp z
       have:=r.inj n m p hp hp'
       omega
      have rd2:aM K g α (kY S o H') e' v:=pS L r (fun _ _ z=>z) (fun n p ds vs hn hl hp hv=>⟨o p,by unfold kY;rw[if_pos ((inS p).mpr ⟨n,ds,hn,hp,hl⟩),hv];rfl⟩) 8 d e' v ez rd
      refine(show aF K g α H Q e' (h'.take h.length) from w) v _ α ⟨⟨List.prefix_refl _,fun p xs z=>L.tup p xs (e.tup p xs z),fun p o u z=>L.frz p o u (e.frz p o u z),fun p ps z=>(e.tbl p ps z).imp fun _ q=>offT p _ q⟩,fun p u z n nt=>?_,fun _ z n=>absurd z n⟩ ⟨?_,fun n m p h1 h2=>hh.inj n m p h1 h2,fun n p ob h1 h2=>?_,r.tab.mono offT L.frz⟩ rd2
      ·rw[off p fun z'=>?_];exact e.kept p u z n nt
       obtain⟨m,ds,_,hp',_⟩:=(inS p).mp z'
       have:=e.new p (List.mem_of_getElem? hp') n
       rw[z] at this;cases this
      ·rw[List.length_take,<- r.len,k0]
       have:=e.pre.length_le
       omega
      ·have hn:n<h.length:=(qS h2).1
       rw[pI e.pre (by omega)] at h1
       exact xc k0 e r hl L kp n p ob hn h1 h2
   | next=>exact q
   | brk=>exact q
   | cont=>exact q
end
section
variable {X:Cx} {g:GG} {ε:EE} {K:PySem.W.Frag}
noncomputable def oG:List D->Option (List Bool)
 | []=>some []
 | .bl b::r=>(oG r).map (b::·)
 | _=>none
theorem lj:∀{ds:List D} {bs:List Bool},oG ds=some bs->ds=bs.map D.bl
 | [],_,e=>by cases e;rfl
 | d::ds,bs,e=>by
  cases d with
  | bl b=>
   simp only[oG] at e
   cases e2:oG ds with
   | none=>rw[e2] at e;cases e
   | some cs=>
    rw[e2] at e
    cases e
    rw[lj e2];rfl
  | _=>cases e
theorem aw.HI {α:List Addr} {H:Hp}:∀{bs:List Bool} {vs:List V},aw K g α H (bs.map D.bl) vs->vs=bs.map V.bl
 | [],_,.nil=>rfl
 | b::bs,_,.cons r t=>by
  cases r
  rw[aw.HI t];rfl
noncomputable def zV (m:MF):MF:=fun ds h=>if b_ 0 ds=true then match m ds [] with
  | .ok d _=>if js 0 d=true then .ok d h else .bad
  | _=>.bad
 else m ds h
theorem zI {α α':List Addr} {H H':Hp} (e:Ext K [] H α' H'):Ext K α H α H':=
 ⟨⟨List.prefix_refl _,e.tup,e.frz,e.tbl⟩,fun p o h _ t=>e.kept p o h (by simp) t,fun p a b=>absurd a b⟩
theorem CI {α α':List Addr} {H H':Hp} {h:Hh} (e:Ext K [] H α' H') (r:aZ K g α H h) (t:jQ K H'):aZ K g α H' h:=
 ⟨r.len,r.inj,fun n p o a b=>(r.here n p o a b).ex0 (zI (α:=α) e).toEx0 fun u hu=>e.kept p u hu (by simp) (by obtain⟨u',e1,_,_,e4⟩:=(r.here n p o a b).isS;rw[hu] at e1;cases e1;exact e4),t⟩
theorem Ca {np:Nat} {m:MF} {vs:List V} {H:Hp} {Q:VK} {E} (h:spM K g np (zV m) vs H Q E):spM K g np m vs H Q E:=by
 obtain⟨hl,α,ds,h,rs,hh,w⟩:=h
 unfold zV at w
 by_cases lo:b_ 0 ds=true
 ·rw[if_pos lo] at w
  cases e:m ds [] with
  | bad=>rw[e] at w;exact w.elim
  | err x h1=>rw[e] at w;exact w.elim
  | ok d h1=>
   rw[e] at w
   simp only at w
   obtain⟨ld,w⟩:=WQ.fc w
   refine⟨hl,[],ds,[],fZ ⟨fun n hn=>absurd hn (Nat.not_lt_zero _),fun _ _ z=>z,fun _ _ _ z=>z⟩ lo rs,⟨rfl,fun n m p a=>by simp at a,fun n p o a=>by simp at a,hh.tab⟩,?_⟩
   rw[e]
   exact fun v H' α' ex hr' rd=>(show aF K g α H Q d h from w) v H' α (zI ex) (CI ex hh hr'.tab) (pR ⟨fun n hn=>absurd hn (Nat.not_lt_zero _),fun _ _ z=>z,fun _ _ _ z=>z⟩ ld rd)
 ·rw[if_neg lo] at w
  exact⟨hl,α,ds,h,rs,hh,w⟩
theorem G3 {P:Program} {w:World} {mg:Str->Option Value} {base:Heap} {k np:Nat} {f:Addr} {fd:FuncData} {ps:List Str} {m:MF} (F:ef P w K mg base CX0 k f fd ps (spM K g np m)):ef P w K mg base CX0 k f fd ps (spM K g np (zV m)):=
 ⟨fun vs H Q E h=>F.len vs H Q E (Ca h),fun A outer s H args us vs Q E hr e0 hb hv hsp=>F.run A outer s H args us vs Q E hr e0 hb hv (Ca hsp)⟩
end
section
variable {X:Cx} {g:GG} {ε:EE} {K:PySem.W.Frag}
theorem fL {mg:Str->Option Value} {x:Str} {f:Addr} (e:g=gOf mg) (h:mg x=some (.ref f)):g x=some f:=by rw[e];simp[gOf,h]
end
theorem kN {P:Program} {w:World} {H:Hp} {h:Heap} {p:Addr} {o:Obj} (ok:HOk P w H h) (e:H p=some (AtO p o)):h.get? p=some o:=(show bM P w H h p (AtO p o) from ok p _ e).1
theorem gx {a:Str} {b:Pos} {rest:List Expr} {env:Env}:starEach (.Name a b::rest) env=(false,eval (.Name a b) env)::starEach rest env:=by rfl
theorem j8 {pos:Pos} {t:Sem Value} {r:List (Bool × Sem Value)}:backTo pos ((false,t)::r)=(false,t)::backTo pos r:=rfl
theorem oy {env:Env} {pos:Pos} {x:Str} {p2:Pos}:∀qs:List (Str × Pos),(backTo pos (starEach (qs.map (fun y=>Expr.Name y.1 y.2)++[.Name x p2]) env)).any (·.1)=false
 | []=>by rw[List.map_nil,List.nil_append,gx,j8];rfl
 | q::qs=>by
  rw[List.map_cons,List.cons_append,gx,j8,List.any_cons,oy qs];rfl
section
variable {P:Program} {w:World} {K:PySem.W.Frag} {mg:Str->Option Value} {base:Heap} {H:Hp} {clos:List (Str × Addr)} {scope:Scope} {env:Env} {A:Around} {E:Value->Shared->Prop} {s:Shared} {m:Str->Option Value}
theorem sX {x:Str} {p2 pos:Pos} {u:Value} (hs:env.scope.kind=.function) (hcl:env.cells=clos) (hok:HOk P w H s.heap) (hx:env.kindOf x=some .local) (hxd:(x == ("__debug__" : Str))=false) (hn:s.heap.Ns env.locals m) (hm:m x=some u) :
  ∀(qs:List (Str × Pos)) (vs:List V) (Q:List Value->Shared->Prop),lS H clos (qs.map (·.1)) vs->(∀y∈qs.map (·.1),env.kindOf y=some .free/\(y == ("__debug__" : Str))=false/\(y == ("__classdict__" : Str))=false) →
   (∀us,Vals vs us->Q (us++[u]) s)->wpAny (model P w) A (spliced (backTo pos (starEach (qs.map (fun y=>Expr.Name y.1 y.2)++[.Name x p2]) env))) Q E s
 | [],_,Q,.nil,_,h=>by
  rw[List.map_nil,List.nil_append,gx,j8]
  exact Calls.spliced_cons (wpAny_Name (wpAny_loadName_local hs hx hn hm (Calls.spliced_nil (h [] .nil))) hxd)
 | q::qs,_,Q,.cons ⟨c,o,z,hl,hc,hd,r⟩ t,hf,h=>by
  rw[List.map_cons,List.cons_append,gx,j8]
  obtain⟨f1,f2,f3⟩:=hf q.1 (by simp)
  refine Calls.spliced_cons (wpAny_Name (wpAny_loadName_free (v:=z) hs f1 (by rw[hcl];exact hl) ⟨o,kN hok hc,hd⟩ ?_ f3) f2)
  exact sX hs hcl hok hx hxd hn hm qs _ _ t (fun y hy=>hf y (by simp only[List.map_cons,List.mem_cons];exact .inr hy)) fun us r2=>h (z::us) (.cons r r2)
end
theorem Fz {P:Program} {w:World} {K:PySem.W.Frag} {mg:Str->Option Value} {base:Heap} {k:Nat} {f:Addr} {fd:FuncData} {ps:List Str} {sp:Sp} {fn x qual:Str} {ys:List Str} {params:Arguments} {body:Expr} {scope:Scope}
  (F:ef P w K mg base CX0 k f fd ps sp) (hkp:PySem.W.keepIn K (.ref f)=true) (hb:Binds K fd ps []) (hm:mg fn=some (.ref f)) (T:xg fn x qual ys params body scope)
  {A:Around} {outer:List Env} {s:Shared} {H:Hp} {u:Value} {v:V} {Q:VK} {E E1:XK} {p c':Addr} {clos:List (Str × Addr)} {pm ctv:Value} {oc:Obj} {vc:Array Value} {t:Tok} {cv:List V} (hr:cP (k+1) A) (e0:x_ P w K mg base A outer s H)
  (hp:H p=some (AtO p (PySem.W.kla_obj "<lambda>" qual params body scope clos pm c' ctv))) (hc:H c'=some (AtO c' oc)) (hd:oc.data=.fields vc) (hv:vc[1]?=some (.str qual t)) (cs:lS H clos ys cv) (rv:RelV v u)
  (h:sp (cv++[v]) H Q E1):codeAny (model P w) A (.call (.ref p) ⟨[u],[]⟩) (CR CX0 outer P w H s Q E) s:=by
 refine PySem.W.kla_callFunE hr.depth (kN e0.hok hp) rfl T.co T.gen rfl ⟨c',oc,vc,t,rfl,kN e0.hok hc,hd,hv⟩ ?_
 rw[T.bind]
 refine wpAny_pure (wpAny_newFunctionEnv T.HJ (by intro y hy;simp at hy;subst hy;exact T.loc) (fun h₁ hns hsb=>?_) T.kind)
 have keep1:∀b o,s.heap.get? b=some o->h₁.get? b=some o:=fun b o e=>hsb.extBut b o (Nat.ne_of_lt (Heap.lt_size e)) (Heap.get?_push_of_some _ e)
 refine⟨(e0.mod.nolimit.keeps fun b o e=>(e0.bs b o e).1).keeps keep1,?_⟩
 show codeAny _ _ (.expr body (PySem.W.envX qual scope s.heap.objs.size p (.ref c') clos)) _ _
 refine PySem.W.kla_codeExpr ?_
 obtain⟨p0,p2,p3,qs,rfl,rfl⟩:=T.tx
 have KX:K.In h₁:=(e0.mod.kin.keeps fun b o e=>(e0.bs b o e).1).keeps keep1
 have hok1:HOk P w H h₁:=e0.hok.kept keep1
 refine wpAny_Call_Name_kw (Calls.Name_function_global T.kind T.glob (Calls.loadGlobal_global ((e0.mod.glob.keeps fun b o e=>(e0.bs b o e).1).keeps keep1) hm ?_) T.nd.1)
 have hL:frs (PySem.W.envX qual scope s.heap.objs.size p (.ref c') clos::outer)=s.heap.objs.size::frs outer:=rfl
 have sz:s.heap.objs.size<=h₁.objs.size:=by
  by_cases z:s.heap.objs.size=0
  ·rw[z];exact Nat.zero_le _
  ·exact Nat.le_of_lt hns.lt
 have e1:x_ P w K mg base (A.deeper (PySem.W.envX qual scope s.heap.objs.size p (.ref c') clos)) (PySem.W.envX qual scope s.heap.objs.size p (.ref c') clos::outer) { s with heap:=h₁,toks:=s.toks+1 } H:=
  ⟨Around.frames_deeper e0.frames,e0.mod,fun b o e=>⟨keep1 b o (e0.bs b o e).1,(e0.bs b o e).2⟩,Nat.le_trans e0.bsz sz,
   Heap.FunFrames.cons (by show scope.kind≠_;rw[T.kind];decide) rfl hns (Heap.get?_none_of_le e0.bsz) (Heap.FunFrames.of_keeps (fun b o e _=>⟨o,keep1 b o e,rfl⟩) e0.j5),
   fun b hb'=>by
    rw[hL] at hb'
    rcases List.mem_cons.mp hb' with z | z
    ·rw[z];exact e0.hok.fresh (Nat.le_refl _)
    ·exact e0.frf b z,hok1,e0.bare⟩
 have fin:∀us:List Value,Vals cv us->wpAny (model P w) (A.deeper (PySem.W.envX qual scope s.heap.objs.size p (.ref c') clos)) (call (.ref f) ([]++(us++[u]))) (fun z s'=>CR CX0 outer P w H s Q E (.ok (.ret z)) s')
   (fun e' s'=>wpAny (model P w) (A.deeper (PySem.W.envX qual scope s.heap.objs.size p (.ref c') clos)) (leaving (PySem.W.envX qual scope s.heap.objs.size p (.ref c') clos) e') (fun _ s''=>CR CX0 outer P w H s Q E (.error e') s'') (fun e'' s''=>CR CX0 outer P w H s Q E (.error e'') s'') s') { s with heap:=h₁,toks:=s.toks+1 }:=fun us r2=>by
  have rr:Vals (cv++[v]) (us++[u]):=r2.append (.cons rv .nil)
  have hl:(us++[u]).length=ps.length:=by rw[<- rr.length];exact F.len _ _ _ _ h
  have hb2:=hb { s with heap:=h₁,toks:=s.toks+1 } (us++[u]) KX (by rw[List.append_nil];exact hl)
  rw[List.append_nil] at hb2
  refine wpAny_call (codeAny_mono (F.run _ _ _ H ⟨us++[u],[]⟩ (us++[u]) (cv++[v]) Q E1 (hr.deeper _) e1 hb2 rr h) fun r s' hq=>?_)
  cases r with
  | error e=>exact False.elim hq
  | ok fl=>
   cases fl with
   | ret z=>
    obtain⟨y,H',os,bare,un,hok,r,q⟩:=(show CE _ P w H _ Q z s' from hq)
    have old:∀{b:Addr} {o:Obj},s.heap.get? b=some o->b∉frs outer->b∉frs (PySem.W.envX qual scope s.heap.objs.size p (.ref c') clos::outer):=fun{b o} e n z=>by
     rw[hL] at z
     rcases List.mem_cons.mp z with z | z
     ·exact absurd (Heap.lt_size e) (by rw[z];exact Nat.lt_irrefl _)
     ·exact n z
    exact⟨y,H',os,bare,⟨fun b o e n hb' hx=>un.keep b o (keep1 b o e) n (old e hb') hx,fun b o e n hb' hx=>un.slot b o (keep1 b o e) n (by rw[hL];exact List.mem_cons_of_mem _ hb') hx,fun b o e n hx=>un.free b o (keep1 b o e) n hx,fun b o e hx=>un.there b o (keep1 b o e) hx,un.nJ,un.l7,un.mT⟩,hok,r,q⟩
   | next=>exact False.elim hq
   | brk=>exact False.elim hq
   | cont=>exact False.elim hq
 have main:=sX (P:=P) (w:=w) (H:=H) (clos:=clos) (env:=PySem.W.envX qual scope s.heap.objs.size p (.ref c') clos) (A:=A.deeper (PySem.W.envX qual scope s.heap.objs.size p (.ref c') clos)) (s:={ s with heap:=h₁,toks:=s.toks+1 }) (x:=x) (p2:=p2) (pos:=p3) (u:=u)
  (E:=fun e' s'=>wpAny (model P w) (A.deeper (PySem.W.envX qual scope s.heap.objs.size p (.ref c') clos)) (leaving (PySem.W.envX qual scope s.heap.objs.size p (.ref c') clos) e') (fun _ s''=>CR CX0 outer P w H s Q E (.error e') s'') (fun e'' s''=>CR CX0 outer P w H s Q E (.error e'') s'') s')
  T.kind rfl hok1 T.loc T.nd.2 hns (by simp) qs cv (fun us s2=>K.In s2.heap/\wpAny (model P w) (A.deeper (PySem.W.envX qual scope s.heap.objs.size p (.ref c') clos)) (call (.ref f) ([]++us)) (fun z s'=>CR CX0 outer P w H s Q E (.ok (.ret z)) s')
   (fun e' s'=>wpAny (model P w) (A.deeper (PySem.W.envX qual scope s.heap.objs.size p (.ref c') clos)) (leaving (PySem.W.envX qual scope s.heap.objs.size p (.ref c') clos) e') (fun _ s''=>CR CX0 outer P w H s Q E (.error e') s'') (fun e'' s''=>CR CX0 outer P w H s Q E (.error e'') s'') s') s2) cs T.free fun us r2=>⟨KX,fin us r2⟩
 cases qs with
 | nil=>exact PySem.W.callWith_K (h₀:=h₁) KX hkp main gx rfl
 | cons q qs=>exact PySem.W.callWith_K (h₀:=h₁) KX hkp main gx (oy qs)
noncomputable def qM (tab:Str->Option (Nat × MF)) (f:ME) (a:MA):ME:=fun env h=>(f env h).bind fun d h1=>match d with
 | .clo x ds=>match tab x with
  | some (np,m)=>if ds.length+1=np then (a env h1).bind fun es h2=>m (ds++es) h2 else .bad
  | none=>.bad
 | _=>.bad
theorem we {X:Cx} {g:GG} {k:Nat} {tab:Str->Option (Nat × MF)} {fe e:Expr} {pos:Pos} {mf:ME} {mr:MA}
  (T:∀x np m,tab x=some (np,m)->∃f fd ps,X.mg x=some (.ref f)/\ef X.prog X.w X.K X.mg X.base CX0 k f fd ps (spM X.K g np m)/\PySem.W.keepIn X.K (.ref f)=true/\Binds X.K fd ps [])
  (hr:cP (k+1) X.A) (hf:PE X fe (tM X.K g E00 mf)) (ha:PA X [e] (tMA X.K g E00 mr)) (hlen:∀env h ds h',mr env h=.ok ds h'->ds.length=1)
  (hc:eval (.Call fe [e] [] pos) X.env=(do callWith pos (← eval fe X.env) [] (backTo pos (starEach [e] X.env)) (backToKw pos (keywordEach [] X.env))):=by rfl)
  (he:starEach [e] X.env=(false,eval e X.env)::starEach [] X.env:=by rfl) :
  PE X (.Call fe [e] [] pos) (tM X.K g E00 (qM tab mf mr)):=by
 intro pins s σ H Q I ⟨α,env,h,s0,w⟩
 refine Call_ (thn (hf pins s σ H (fun v H1=>∃α1 h1 p o clos ys cv c' oc qual t vc x ds np m,v=.ref p/\H1 p=some (AtO p o)/\Gi x clos ys o c' qual/\H1 c'=some (AtO c' oc)/\oc.data=.fields vc/\vc[1]?=some (.str qual t)/\lS H1 clos ys cv/\aw X.K g α1 H1 ds cv ∧
   tab x=some (np,m)/\ds.length+1=np/\eP X.K g α1 H1 env σ h1/\WQ X.K g E00 α1 H1 ((mr env h1).bind fun es h2=>m (ds++es) h2) (aF X.K g α1 H1 Q)) I ?_) fun v s1 ⟨x,H1,I1,r1,q1⟩=>?_) hc
 ·refine tM.use s0 w.bind fun d1 h1 v1 H1 α1 e1 s1 r1 w1=>?_
  cases r1 with
  | @clo x ds p o clos ys vs c' oc qual t vc hp hl hc' hd hv cs rs=>
   simp only at w1
   cases et:tab x with
   | none=>rw[et] at w1;exact w1.elim
   | some q=>
    obtain⟨np,m⟩:=q
    rw[et] at w1
    obtain⟨hn,w1⟩:=WQ.fc w1
    exact⟨α1,h1,p,o,clos,ys,vs,c',oc,qual,t,vc,x,ds,np,m,rfl,hp,hl,hc',hd,hv,cs,rs,et,hn,s1,WQ.post e1 w1⟩
  | _=>exact w1.elim
 ·obtain⟨α1,h1,p,o,clos,ys,cv,c',oc,qual,t,vc,x,ds,np,m,rfl,hp,⟨params,body,scope,pm,ctv,xa,rfl,tx⟩,hc',hd,hv,cs,rs,et,hn,s2,w2⟩:=q1
  cases r1
  obtain⟨f,fd,ps,hm,F,hk,hb⟩:=T x np m et
  have fn:∀{h:Heap},h.get? p=some (PySem.W.kla_obj "<lambda>" qual params body scope clos pm c' ctv)->PySem.W.FnAt p h:=fun e=>⟨_,_,_,_,e⟩
  refine PySem.W.callWith_F (fn (kN I1.hok hp)) (thn (ha pos pins s1 σ H1 (fun vs H2=>∃v,vs=[v]/\H2 p=some (AtO p (PySem.W.kla_obj "<lambda>" qual params body scope clos pm c' ctv))/\H2 c'=some (AtO c' oc)/\lS H2 clos ys cv/\spM X.K g np m (cv++[v]) H2 Q E0) I1 ?_) fun us s3 ⟨vs,H2,I2,r,v,ev,hp2,hc2,cs2,q⟩=>⟨fn (kN I2.hok hp2),?_⟩) he rfl
  ·refine⟨α1,env,h1,s2,w2.bind.mono fun es h3 eq w3 v3 H3 α3 e3 hr3 r3=>?_⟩
   have l1:=hlen env h1 es h3 eq
   obtain⟨d,rfl⟩:∃d,es=[d]:=List.length_eq_one_iff.mp l1
   cases r3 with
   | @cons _ v _ _ rd rn=>
    cases rn
    refine⟨v,rfl,e3.frz _ _ _ hp,e3.frz _ _ _ hc',L2.Paired.rP cs fun _ _ ⟨c,o,u,l,a,b⟩=>⟨c,o,u,l,e3.frz _ _ _ a,b⟩,?_,α3,ds++[d],h3,(rs.ext e3).append (.cons rd .nil),hr3,w3.post e3⟩
    rw[List.length_append,<- rs.length];exact hn
  ·subst ev
   cases r with
   | @cons _ u _ _ ru rn=>
    cases rn
    refine wpAny_call (codeAny_mono (Fz F hk hb hm tx (E:=E0) hr I2.Ir hp2 hc2 hd hv cs2 ru q) fun r s' hq=>?_)
    cases r with
    | error e=>exact False.elim hq
    | ok fl=>
     cases fl with
     | ret u=>exact I2.after hq
     | next=>exact False.elim hq
     | brk=>exact False.elim hq
     | cont=>exact False.elim hq
open Classical in
noncomputable def mkH (S:Addr->Prop) (h2:Heap) (PT:Addr) (T:Array Value) (H1:Hp):Hp:=fun b=>if S b then (h2.get? b).map (AtO b) else if b=PT then some (.tbl T) else H1 b
structure MkS (P:Program) (w:World) (S:Addr->Prop) (h1 h2:Heap) (PT:Addr) (ps more:Array Value) (H1:Hp):Prop where
 hok:HOk P w H1 h1
 hPT:H1 PT=some (.tbl ps)
 k:∀b o,b≠PT->h1.get? b=some o->h2.get? b=some o
 hT:h2.get? PT=some (PySem.W.tabObj (ps++more))
 hS:∀b,S b->b≠PT/\(∃o,h2.get? b=some o)/\(H1 b=none\/∃o,H1 b=some (AtO b o))
section
variable {P:Program} {w:World} {S:Addr->Prop} {h0 h1 h2:Heap} {PT:Addr} {ps more:Array Value} {H H1:Hp} {K:PySem.W.Frag} {g:GG} {α:List Addr} {h:Hh} {fs:List Addr}
theorem MkS.at_ (M:MkS P w S h1 h2 PT ps more H1) {b:Addr} (hb:S b) {o:Obj} (e:h2.get? b=some o):mkH S h2 PT (ps++more) H1 b=some (AtO b o):=by
 unfold mkH;rw[if_pos hb,e];rfl
theorem MkS.pt (M:MkS P w S h1 h2 PT ps more H1):mkH S h2 PT (ps++more) H1 PT=some (.tbl (ps++more)):=by
 unfold mkH;rw[if_neg fun z=>(M.hS PT z).1 rfl,if_pos rfl]
theorem MkS.off (M:MkS P w S h1 h2 PT ps more H1) {b:Addr} {o:HO} (e:H1 b=some o) (n:b≠PT):mkH S h2 PT (ps++more) H1 b=some o:=by
 by_cases hb:S b
 ·obtain⟨_,⟨o2,e2⟩,z | ⟨o1,z⟩⟩:=M.hS b hb
  ·rw[e] at z;cases z
  ·rw[e] at z;cases z
   have e1:=M.k b o1 n (kN M.hok e)
   exact M.at_ hb e1
 ·unfold mkH;rw[if_neg hb,if_neg n];exact e
theorem MkS.non (M:MkS P w S h1 h2 PT ps more H1) {b:Addr} (e:H1 b=none) (n:¬ S b):mkH S h2 PT (ps++more) H1 b=none:=by
 unfold mkH;rw[if_neg n,if_neg (aN M.hPT e).symm];exact e
theorem MkS.KR (M:MkS P w S h1 h2 PT ps more H1):HOk P w (mkH S h2 PT (ps++more) H1) h2:=by
 intro b u e
 by_cases hb:S b
 ·obtain⟨_,⟨o2,e2⟩,_⟩:=M.hS b hb
  rw[M.at_ hb e2] at e
  cases e
  exact⟨e2,e2,⟨o2,e2⟩,fun a c x y=>y _ x⟩
 ·by_cases hp:b=PT
  ·subst hp
   rw[M.pt] at e
   cases e
   exact M.hT
  ·have e1:H1 b=some u:=by unfold mkH at e;rw[if_neg hb,if_neg hp] at e;exact e
   refine(M.hok b u e1).ke (fun c x hc hx=>M.k c x ?_ hx) (fun c z=>M.off z fun q=>?_) fun c xs z=>M.off z fun q=>?_
   ·rcases hc with rfl | hc
    ·exact hp
    ·rintro rfl;rw[M.hPT] at hc;cases hc
   ·subst q;rw[M.hPT] at z;cases z
   ·subst q;rw[M.hPT] at z;cases z
theorem MkS.un (M:MkS P w S h1 h2 PT ps more H1) (u:Un fs [] H H1 h0 h1) (hn:∀b,S b->h0.objs.size<=b\/H1 b≠none):Un fs [] H (mkH S h2 PT (ps++more) H1) h0 h2:=by
 have nt:∀b o,h0.get? b=some o->H b=none->b≠PT:=fun b o e n=>(aN M.hPT (u.free b o e n (by simp))).symm
 refine⟨fun b o e n hf hx=>M.k b o (nt b o e n) (u.keep b o e n hf hx),fun b o e n hf hx=>?_,fun b o e n hx=>?_,fun b o e hx=>?_,fun b xs e=>M.off (u.nJ b xs e) fun z=>?_,fun b o x e=>M.off (u.l7 b o x e) fun z=>?_,fun b qs e=>?_⟩
 ·obtain⟨sl,e1⟩:=u.slot b o e n hf hx
  exact⟨sl,M.k b _ (nt b o e n) e1⟩
 ·have z:=u.free b o e n hx
  refine M.non z fun hb=>?_
  rcases hn b hb with q | q
  ·exact absurd (Heap.lt_size e) (Nat.not_lt.mpr q)
  ·exact q z
 ·obtain⟨o1,e1⟩:=u.there b o e hx
  by_cases z:b=PT
  ·exact⟨_,z ▸ M.hT⟩
  ·exact⟨o1,M.k b o1 z e1⟩
 ·have:=u.nJ b xs e;rw[z,M.hPT] at this;cases this
 ·have:=u.l7 b o x e;rw[z,M.hPT] at this;cases this
 ·obtain⟨m1,e1⟩:=u.mT b qs e
  by_cases z:b=PT
  ·subst z
   rw[M.hPT] at e1
   cases e1
   exact⟨m1++more,by rw[M.pt,Array.append_assoc]⟩
  ·exact⟨m1,M.off e1 z⟩
theorem MkS.ext (M:MkS P w S h1 h2 PT ps more H1):Ext K α H1 α (mkH S h2 PT (ps++more) H1):=
 ⟨⟨List.prefix_refl _,fun p xs e=>M.off e (fun z=>by rw[z,M.hPT] at e;cases e),fun p o x e=>M.off e (fun z=>by rw[z,M.hPT] at e;cases e),fun p qs e=>by
  by_cases z:p=PT
  ·subst z
   rw[M.hPT] at e;cases e
   exact⟨more,M.pt⟩
  ·exact⟨#[],by rw[M.off e z];simp⟩⟩,fun p o e _ t=>M.off e (fun z=>by rw[z,M.hPT] at e;cases e;exact t _ rfl),fun _ z n=>absurd z n⟩
theorem MkS.Lk (M:MkS P w S h1 h2 PT ps more H1) (r:aZ K g α H1 h) {ns:Pos × Str} (uq:∀f q,lT K f=some q->q.1=PT->q.2=ns) (t:v9 (mkH S h2 PT (ps++more) H1) (PT,ns)):aZ K g α (mkH S h2 PT (ps++more) H1) h:=by
 refine⟨r.len,r.inj,fun n p o a b=>(r.here n p o a b).ex0 M.ext.toEx0 fun x e=>M.off e fun z=>?_,fun f q e=>?_⟩
 ·obtain⟨u,e1,_,_,nt⟩:=r.mem (List.mem_of_getElem? a)
  rw[z,M.hPT] at e1;cases e1;exact nt _ rfl
 ·by_cases z:q.1=PT
  ·have:=uq f q e z
   obtain⟨a,b⟩:=q
   cases z;cases this
   exact t
  ·rcases r.tab f q e with x | ⟨c',oc,vc,tk,x,hc,hd⟩
   ·exact .inl (M.off x z)
   ·exact .inr ⟨c',oc,vc,tk,M.off x z,M.off hc (fun y=>by rw[y,M.hPT] at hc;cases hc),hd⟩
end
theorem AJ {h h':Heap} {mg:Str->Option Value} {PT:Addr} (k:∀b o,h.get? b=some o->h'.get? b=some o) (x:h.BuiltinsAt mg PT):h'.BuiltinsAt mg PT:=
 let ⟨bm,o,a,b,c,d,e,r⟩:=x;⟨bm,o,a,b,c,d,k _ _ e,r⟩
noncomputable def Made (X:Cx) (g:GG) (α:List Addr) (h:Hh) (H1:Hp) (s1:Shared) (d:D) (u:Value) (s2:Shared):Prop:=∃p H2,u=.ref p/\s2.os=s1.os/\s2.gens=s1.gens/\HOk X.prog X.w H2 s2.heap/\Un X.fs [] X.bO H2 X.bh.heap s2.heap/\Ext X.K α H1 α H2/\aZ X.K g α H2 h/\aM X.K g α H2 d (.ref p) ∧
 (∀b o,H1 b=none->s1.heap.get? b=some o->s2.heap.get? b=some o)/\(∀b o,s1.heap.get? b=some o->H1 b=none->(∀x c,X.env.cells.lookup x=some c->c≠b)->H2 b=none)
theorem BP {X:Cx} {g:GG} {pins:List (Addr × Obj)} {σ:St} {H1:Hp} {s1:Shared} {α:List Addr} {h:Hh} {params:Arguments} {body:Expr} {scope:Scope} {pos:Pos} {clos:List (Str × Addr)} {c PT f:Addr} {lf x ql:Str} {ys:List Str} {vs:List V} {ds:List D} {E:Value->Shared->Prop}
  (J:Inv X pins σ H1 s1) (hex:X.ex=[]) (hdef:defaultsOf params X.env=([],[])) (hq:X.env.qual++"<lambda>" = ql) (hcode:X.env.code=.ref c) (C:PySem.W.codeHdIn X.K c PT=true) (hB:X.base.BuiltinsAt X.mg PT) (hgP:mainGlobals≠PT)
  (hmk:lT X.K f=some (PT,pos,ql)) (uq:∀f q,lT X.K f=some q->q.1=PT->q.2=(pos,ql)) (hcl:closureFor scope X.env=pure clos) (hcs:∀y c,clos.lookup y=some c->X.env.cells.lookup y=some c) (hfn:∀y,X.fn y=true)
  (T:xg lf x ql ys params body scope) (hr:aZ X.K g α H1 h) (hvs:Paired (fun y v=>(∃c,clos.lookup y=some c)/\X.env.kindOf y=some .cell/\∃i:Nat,X.N[i]?=some y/\σ[i]?=some (some v)) ys vs) (rds:aw X.K g α H1 ds vs) :
  wpAny (model X.prog X.w) X.A (eval (.Lambda params body scope pos) X.env) (Made X g α h H1 s1 (.clo lf ds)) E s1:=by
 subst hq
 refine PySem.W.kla_eval hdef ?_
 have Ch:PySem.W.CodeHd s1.heap c PT:=PySem.W.codeHd_of_K J.kIn C
 have hg:s1.heap.Ns mainGlobals X.mg:=J.mod.glob.keeps J.bk
 have hb:=AJ J.bk hB
 obtain⟨m,hns,hloc⟩:=J.loc
 have fin:∀(h':Heap) (tk:Tok) (c':Addr) (ctv:Value) (oc:Obj) (vc:Array Value) (t:Tok) (ps more:Array Value),H1 PT=some (.tbl ps)->(∀b o,b≠PT->s1.heap.get? b=some o->h'.get? b=some o)->s1.heap.objs.size<=h'.objs.size->h'.get? PT=some (PySem.W.tabObj (ps++more)) →
   ps++more = #[rawInt pos.line,rawInt pos.col,.ref c']->h'.get? c'=some oc->oc.data=.fields vc->vc[1]?=some (.str (X.env.qual++"<lambda>") t)->c'≠PT->((H1 c'=none/\s1.heap.objs.size<=c')\/H1 c'=some (AtO c' oc)) →
   Made X g α h H1 s1 (.clo lf ds) (.ref h'.objs.size) { s1 with heap:=h'.push (PySem.W.kla_obj "<lambda>" (X.env.qual++"<lambda>") params body scope clos ((X.mg "__name__").getD .none) c' ctv),toks:=tk }:=by
  intro h' tk c' ctv oc vc t ps more hPT hk hsz hT hT2 hc hd hv hcP hc1
  have kp:∀b o,h'.get? b=some o->(h'.push (PySem.W.kla_obj "<lambda>" (X.env.qual++"<lambda>") params body scope clos ((X.mg "__name__").getD .none) c' ctv)).get? b=some o:=fun b o e=>Heap.get?_push_of_some _ e
  have pp:(h'.push (PySem.W.kla_obj "<lambda>" (X.env.qual++"<lambda>") params body scope clos ((X.mg "__name__").getD .none) c' ctv)).get? h'.objs.size=some (PySem.W.kla_obj "<lambda>" (X.env.qual++"<lambda>") params body scope clos ((X.mg "__name__").getD .none) c' ctv):=Heap.get?_push_size _ rfl
  have M:MkS X.prog X.w (fun b=>b=h'.objs.size\/b=c'\/∃y,clos.lookup y=some b) s1.heap (h'.push (PySem.W.kla_obj "<lambda>" (X.env.qual++"<lambda>") params body scope clos ((X.mg "__name__").getD .none) c' ctv)) PT ps more H1:=by
   refine⟨J.hok,hPT,fun b o n e=>kp b o (hk b o n e),kp _ _ hT,fun b hb=>?_⟩
   rcases hb with rfl | rfl | ⟨y,hy⟩
   ·exact⟨fun z=>absurd (Heap.lt_size hT) (by rw[<- z];exact Nat.lt_irrefl _),⟨_,pp⟩,.inl (J.hok.fresh hsz)⟩
   ·refine⟨hcP,⟨_,kp _ _ hc⟩,?_⟩
    rcases hc1 with⟨z,_⟩ | z
    ·exact .inl z
    ·exact .inr ⟨_,z⟩
   ·have z:=J.eI y b (hcs y b hy)
    obtain⟨v,o,e,_⟩:=J.cell y b (hcs y b hy)
    have n:=(aN hPT z).symm
    exact⟨n,⟨o,kp _ _ (hk b o n e)⟩,.inl z⟩
  have atp:=M.at_ (.inl rfl) pp
  have atc:=M.at_ (.inr (.inl rfl)) (kp _ _ hc)
  refine⟨h'.objs.size,_,rfl,rfl,rfl,M.KR,M.un (hex ▸ J.base) fun b hb=>?_,M.ext,M.Lk hr uq (.inr ⟨c',oc,vc,t,?_,atc,hd,hv⟩),?_,fun b o n e=>kp b o (hk b o (aN hPT n).symm e),fun b o e n hcc=>M.non n fun hb=>?_⟩
  ·rcases hb with rfl | rfl | ⟨y,hy⟩
   ·exact .inl (Nat.le_trans J.sz hsz)
   ·rcases hc1 with⟨_,z⟩ | z
    ·exact .inl (Nat.le_trans J.sz z)
    ·exact .inr (by rw[z];exact fun q=>nomatch q)
   ·exact .inl (J.ok.cab y b (hfn y) (hcs y b hy))
  ·rw[M.pt,hT2]
  ·refine .clo atp ⟨params,body,scope,_,ctv,x,rfl,T⟩ atc hd hv (L2.Paired.rP hvs fun y v ⟨⟨cc,hcc⟩,kd,i,hN,hσ⟩=>?_) (rds.ext M.ext)
   obtain⟨u,ru,lk⟩:=hloc i y v hN hσ (.inr (.inl kd))
   rcases lk with⟨z,_⟩ | ⟨_,c2,hc2,o,e,hdo⟩
   ·rw[kd] at z;cases z
   ·rw[hcs y cc hcc] at hc2
    cases hc2
    have z:=J.eI y cc (hcs y cc hcc)
    exact⟨cc,o,u,hcc,M.at_ (.inr (.inr ⟨y,hcc⟩)) (kp _ _ (hk cc o (aN hPT z).symm e)),hdo,ru⟩
  ·rcases hb with rfl | rfl | ⟨y,hy⟩
   ·exact absurd (Heap.lt_size e) (Nat.not_lt.mpr hsz)
   ·rcases hc1 with⟨_,z⟩ | z
    ·exact absurd (Heap.lt_size e) (Nat.not_lt.mpr z)
    ·rw[n] at z;cases z
   ·exact hcc y b (hcs y b hy) rfl
 rcases hr.tab f _ hmk with hPT | ⟨c',oc,vc,t,hPT,hc,hd,hv⟩
 ·have hP:s1.heap.get? PT=some (PySem.W.tabObj #[]):=J.hok PT _ hPT
  refine PySem.W.kla_makeFunction hcl J.ok.glob hg hcode Ch hP trivial rfl hgP hb fun c' ctv h' tk hx hge hlt hrec htb=>?_
  obtain⟨c2,oc,vc,t,z,hc,hd,hv⟩:=hrec
  cases z
  refine fin h' tk c' ctv oc vc t _ _ hPT (fun b o n e=>hx b o n e) (by omega) htb (by simp) hc hd hv (fun z=>?_) (.inl ⟨J.hok.fresh hge,hge⟩)
  exact absurd (Heap.lt_size hP) (by rw[<- z];exact Nat.not_lt.mpr hge)
 ·have hP:s1.heap.get? PT=some (PySem.W.tabObj #[rawInt pos.line,rawInt pos.col,.ref c']):=J.hok PT _ hPT
  refine PySem.W.kla_makeFunctionHit (cv:=.ref c') hcl J.ok.glob hg hcode Ch hP trivial (by simp[codeAmong,rawInt]) hb fun ctv h' tk hk hsz=>?_
  refine fin h' tk c' ctv oc vc t _ #[] hPT (fun b o n e=>hk b o e) hsz (by rw[Array.append_empty];exact hk _ _ hP) (by simp) (hk _ _ (kN J.hok hc)) hd hv (fun z=>?_) (.inr hc)
  rw[z,hPT] at hc;cases hc
theorem w8 {last:Stmt} {env:Env}:∀rows:List Stmt,execs (rows++[last]) env=(execs rows env >>= fun f=>match f with
  | .next=>exec last env
  | f=>pure f)
 | []=>by
  show(exec last env >>= fun f=>match f with | .next=>pure .next | f=>pure f)=_
  rw[show(execs [] env:Sem Flow)=pure .next from rfl,pure_bind]
  refine Eq.trans ?_ (bind_pure _)
  congr 1
  funext f
  cases f<;>rfl
 | r::rows=>by
  show(exec r env >>= fun f=>match f with | .next=>execs (rows++[last]) env | f=>pure f)=((exec r env >>= fun f=>match f with | .next=>execs rows env | f=>pure f) >>= _)
  rw[bind_assoc]
  congr 1
  funext f
  cases f with
  | next=>exact w8 rows
  | ret v=>exact(pure_bind _ _).symm
  | brk=>exact(pure_bind _ _).symm
  | cont=>exact(pure_bind _ _).symm
theorem Eg {CX:CXT} {P:Program} {w:World} {K:PySem.W.Frag} {mg:Str->Option Value} {base:Heap} {k:Nat} {f:Addr} {name qual:Str} {params:Arguments} {body rows:List Stmt} {last:Stmt} {scope:Scope} {dV kV doc pm cdv ct oc:Value} {an od:Option Addr}
  {osl:Array (Option Value)} {N ps:List Str} {sp:Sp} (lk:K.lookup f=some ⟨oc,od,.func (PySem.W.fnOf name qual params body scope dV kV doc pm an cdv ct),osl⟩) (hcd:PySem.W.codeIn K cdv qual=true) (S:aE N ps scope)
  (len:∀vs H Q E,sp vs H Q E->vs.length=ps.length) (hbd:body=rows++[last])
  (hbody:∀(A:Around) (outer:List Env) (s:Shared) (H:Hp) (vs:List V) (Q:VK) (E:XK),cP k (A.deeper (envOfC qual scope s.heap.objs.size f cdv))->sp vs H Q E →
   ∃t R,PSs (gT CX P w K mg base N qual scope f cdv A outer s H E) rows t/\t { nx:=R,rt:=fun _ _=>False } (start N vs) H/\∀σ H1 s1,Inv (gT CX P w K mg base N qual scope f cdv A outer s H E) [] σ H1 s1->R σ H1 →
    wpAny (model P w) (gT CX P w K mg base N qual scope f cdv A outer s H E).A (exec last (envOfC qual scope s.heap.objs.size f cdv)) (fun fl s2=>∃u,fl=.ret u/\CE outer P w H s Q u s2) (gT CX P w K mg base N qual scope f cdv A outer s H E).xe s1) :
  ef P w K mg base CX (k+1) f (PySem.W.fnOf name qual params body scope dV kV doc pm an cdv ct) ps sp:=by
 subst hbd
 refine⟨len,fun A outer s H args us vs Q E hr e0 hb r hsp=>?_⟩
 have hl:=len _ _ _ _ hsp
 have KX:K.In s.heap:=e0.mod.kin.keeps fun b o e=>(e0.bs b o e).1
 have lim:s.heap.NoLimit:=e0.mod.nolimit.keeps fun b o e=>(e0.bs b o e).1
 have hkind:∀y∈ps.zip us,scope.names.lookup y.1=some .local\/(scope.names.lookup y.1=some .cell/\((cellsFrom (s.heap.objs.size+1) scope.names []).lookup y.1).isSome=true):=fun⟨n,v⟩ hy=>by
  rcases S.par n (List.of_mem_zip hy).1 with q | q
  ·exact .inl q
  ·exact .inr ⟨q,PySem.W.cellsFrom_some _ _ _ (.inl q)⟩
 refine codeAny_call_function hr.depth (KX _ _ lk) rfl S.co S.gen rfl (PySem.W.codeRec_of KX hcd) (hb _ _ _ _ ?_)
 refine wpAny_newFunctionEnv_cells S.kind hkind fun env he s1 x=>?_
 subst he
 refine⟨lim.keeps x.toInCall.keep,codeAny_func ?_⟩
 obtain⟨t,R,ht,hq,hlast⟩:=hbody A outer s H vs Q E (hr.deeper _) hsp
 have I:Inv (gT CX P w K mg base N qual scope f cdv A outer s H E) [] (start N vs) H s1:=nr S hr.hd e0 hl r x
 rw[w8]
 refine wpAny_mono (wpAny_bind (thn (ht [] s1 (start N vs) H _ I hq) fun fl s' hs=>?_)) (Q:=fun fl s2=>∃u,fl=Flow.ret u/\CE outer P w H s Q u s2) (fun fl s' hs=>?_) fun e s' hs=>hs
 ·cases fl with
  | next=>
   obtain⟨σ',H',J,q⟩:=hs
   exact hlast σ' H' s' J q
  | ret u=>obtain⟨_,_,_,_,_,q⟩:=hs;exact False.elim q
  | brk=>obtain⟨_,_,_,q⟩:=hs;exact False.elim q
  | cont=>obtain⟨_,_,_,q⟩:=hs;exact False.elim q
 ·obtain⟨u,rfl,q⟩:=hs
  exact q
noncomputable def yy:List Nat->En->Option (List D)
 | [],_=>some []
 | i::r,e=>match (e[i]?:Option (Option D)),yy r e with
  | some (some d),some ds=>some (d::ds)
  | _,_=>none
noncomputable def EJ (n:Nat) (m:MS) (lf:Str) (ix:List Nat):MF:=fun ds h=>(m (ds.map some++List.replicate (n - ds.length) none) h).bind fun fl h1=>match fl with
 | .nx e=>(match yy ix e with
  | some cs=>.ok (.clo lf cs) h1
  | none=>.bad)
 | _=>.bad
theorem vI {K:PySem.W.Frag} {g:GG} {α:List Addr} {H:Hp} {N:List Str} {σ:St} {e:En} (v:mF K g α H e σ):∀{ix:List Nat} {ys:List Str} {cs:List D},ix.map (fun i=>N[i]?)=ys.map some->yy ix e=some cs →
  ∃vs,Paired (fun y v=>∃i:Nat,N[i]?=some y/\σ[i]?=some (some v)) ys vs/\aw K g α H cs vs
 | [],[],_,_,h=>by cases h;exact⟨[],.nil,.nil⟩
 | [],_::_,_,e,_=>by cases e
 | _::_,[],_,e,_=>by cases e
 | i::ix,y::ys,cs,hi,h=>by
  simp only[List.map_cons,List.cons.injEq] at hi
  unfold yy at h
  split at h
  ·rename_i d ds e1 e2
   cases h
   obtain⟨u,hu,ru⟩:=v.vars i d e1
   obtain⟨vs,p,r⟩:=vI v hi.2 e2
   exact⟨u::vs,.cons ⟨i,hi.1,hu⟩ p,.cons ru r⟩
  ·cases h
noncomputable def mkU (K:PySem.W.Frag):Bool:=(K.filterMap fun p=>lT K p.1).all fun a=>(K.filterMap fun p=>lT K p.1).all fun b=>!(Nat.beq a.1 b.1) || decide (a.2=b.2)
theorem DH {K:PySem.W.Frag} {f:Addr} {o:Obj} (h:K.lookup f=some o):∃p∈K,p.1=f:=by
 induction K with
 | nil=>cases h
 | cons q r ih=>
  rw[List.lookup_cons] at h
  split at h
  ·rename_i e;exact⟨q,List.mem_cons_self ..,(beq_iff_eq.mp e).symm⟩
  ·obtain⟨p,a,b⟩:=ih h;exact⟨p,List.mem_cons_of_mem _ a,b⟩
theorem vn {K:PySem.W.Frag} {f:Addr} {q:Addr × Pos × Str} (h:lT K f=some q):q∈K.filterMap fun p=>lT K p.1:=by
 cases e:K.lookup f with
 | none=>unfold lT at h;rw[e] at h;cases h
 | some o=>
  obtain⟨p,hp,e1⟩:=DH e
  exact List.mem_filterMap.mpr ⟨p,hp,by rw[e1];exact h⟩
theorem IF {K:PySem.W.Frag} (u:mkU K=true) {f f':Addr} {q q':Addr × Pos × Str} (h:lT K f=some q) (h':lT K f'=some q') (e:q'.1=q.1):q'.2=q.2:=by
 have:=List.all_eq_true.mp (List.all_eq_true.mp u q' (vn h')) q (vn h)
 rw[e,show Nat.beq q.1 q.1=true from Nat.beq_refl _] at this
 simpa using this
structure Mkr (K:PySem.W.Frag) (mg:Str->Option Value) (base:Heap) (fd:FuncData) (c PT:Addr):Prop where
 code:fd.code=.ref c
 hd:PySem.W.codeHdIn K c PT=true
 bat:base.BuiltinsAt mg PT
 ne:mainGlobals≠PT
 uq:mkU K=true
theorem FI {K:PySem.W.Frag} {c PT:Addr} (e:PySem.W.codeHdIn K c PT=true):∃k d vs s,K.lookup c=some ⟨k,d,.fields vs,s⟩/\vs[11]?=some (.ref PT):=by
 unfold PySem.W.codeHdIn at e
 split at e
 ·rename_i vs _ hk
  simp only[Bool.and_eq_true] at e
  obtain⟨⟨⟨⟨⟨e1,_⟩,_⟩,_⟩,_⟩,_⟩:=e
  split at e1
  ·rename_i P' h11
   have hP:P'=PT:=beq_iff_eq.mp e1
   subst hP
   exact⟨_,_,vs,_,hk,h11⟩
  ·cases e1
 ·cases e
theorem Em {K:PySem.W.Frag} {f c PT:Addr} {fd:FuncData} {pos:Pos} {oc:Value} {od:Option Addr} {osl:Array (Option Value)} (lk:K.lookup f=some ⟨oc,od,.func fd,osl⟩) (hc:fd.code=.ref c) (C:PySem.W.codeHdIn K c PT=true) (hm:D_ fd=some pos) :
  lT K f=some (PT,pos,fd.qualname++".<locals>." ++ "<lambda>"):=by
 obtain⟨k,d,vs,s,e,e11⟩:=FI C
 unfold lT
 rw[lk]
 simp only[hm,hc,e,e11]
section
variable {P:Program} {w:World} {K:PySem.W.Frag} {mg:Str->Option Value} {base:Heap} {g:GG}
theorem Jf {x:Str} {st:Stmt} {f:Addr} {fd:FuncData} {N ps:List Str} {k:Nat} {mb:MS} {rows:List Stmt} {params:Arguments} {body:Expr} {scope:Scope} {pos rpos:Pos} {lf y:Str} {ys:List Str} {ix:List Nat} {c PT:Addr} (F:Fun K x x st f fd) (S:aE N ps (ak st)) (M:Mkr K mg base fd c PT)
  (hbd:bQ st=rows++[.Return (some (.Lambda params body scope pos)) rpos]) (hdef:∀env,defaultsOf params env=([],[]))
  (hcl:∀(L:Addr) (cdv:Value),∃clos,closureFor scope (envOfC x (ak st) L f cdv)=pure clos/\(∀z c,clos.lookup z=some c->(envOfC x (ak st) L f cdv).cells.lookup z=some c)/\∀z∈ys,∃c,clos.lookup z=some c)
  (hys:∀z∈ys,(ak st).names.lookup z=some .cell) (hix:ix.map (fun i=>N[i]?)=ys.map some) (T:xg lf y (x++".<locals>." ++ "<lambda>") ys params body scope)
  (hb:∀(cdv:Value) (A:Around) (outer:List Env) (s:Shared) (H:Hp) (E:XK),cP k (A.deeper (envOfC x (ak st) s.heap.objs.size f cdv)) →
   PSs (gT CX0 P w K mg base N x (ak st) f cdv A outer s H E).nox rows (tMS K g E00 mb)):ef P w K mg base CX0 (k+1) f fd ps (spM K g ps.length (EJ N.length mb lf ix)):=by
 obtain⟨oc,od,kV,doc,pm,an,cdv,ct,osl,rfl,lk,hcd⟩:=F.ex
 have hmk:D_ (PySem.W.fnOf x x (fU st) (bQ st) (ak st) .none kV doc pm an cdv ct)=some pos:=by
  unfold D_ PySem.W.fnOf
  dsimp only
  rw[hbd,List.getLast?_concat]
 have hT:=Em lk M.code M.hd hmk
 obtain rfl:cdv=.ref c:=M.code
 refine Eg lk hcd S (fun vs H Q E h=>h.1) hbd fun A outer s H vs Q E hr hsp=>?_
 obtain⟨hl,α,ds,h,rs,hh,w1⟩:=hsp
 refine⟨_,fun σ H1=>∃α1 e h1 cs,Ext K α H α1 H1/\eP K g α1 H1 e σ h1/\yy ix e=some cs/\aF K g α H Q (.clo lf cs) h1,(hb (.ref c) A outer s H E hr).nox,?_,fun σ H1 s1 J hR=>?_⟩
 ·refine tMS.use ⟨hh,kc rs⟩ w1.bind fun fl h' H' α' e r kk=>?_
  cases fl with
  | nx e'=>
   intro σ' s'
   dsimp only at kk
   cases ec:yy ix e' with
   | none=>rw[ec] at kk;exact kk.elim
   | some cs=>rw[ec] at kk;exact⟨α',e',h',cs,e,s',ec,kk⟩
  | bk e'=>exact kk.elim
  | ct e'=>exact kk.elim
  | rt d=>exact kk.elim
 ·obtain⟨α1,e,h1,cs,ex,sr,ec,po⟩:=hR
  obtain⟨clos,hc1,hc2,hc3⟩:=hcl s.heap.objs.size (.ref c)
  obtain⟨vs',pv,rds⟩:=vI sr.vs hix ec
  have pv2:Paired (fun z v=>(∃c,clos.lookup z=some c)/\(ak st).names.lookup z=some .cell/\∃i:Nat,N[i]?=some z/\σ[i]?=some (some v)) ys vs':=by
   clear ec rds hix T hcl
   induction pv with
   | nil=>exact .nil
   | cons q t ih=>exact .cons ⟨hc3 _ (List.mem_cons_self ..),hys _ (List.mem_cons_self ..),q⟩ (ih (fun z hz=>hys z (List.mem_cons_of_mem _ hz)) (fun z hz=>hc3 z (List.mem_cons_of_mem _ hz)))
  refine wpAny_Return_some (thn (BP (X:=gT CX0 P w K mg base N x (ak st) f (.ref c) A outer s H E) (g:=g) (α:=α1) (h:=h1) J rfl (hdef _) rfl rfl M.hd M.bat M.ne hT (fun f' q e1 e2=>IF M.uq hT e1 e2) hc1 hc2 (fun _=>rfl) T sr.heap pv2 rds) fun u s2 md=>?_)
  obtain⟨p,H2,rfl,os,gn,hok,un,ex2,hr2,rd,_,_⟩:=md
  exact⟨_,rfl,.ref p,H2,os.trans J.os,by rw[gn];exact J.bare,un,hok,rfl,po _ H2 α1 (ex.trans ex2) hr2 rd⟩
end
noncomputable def jr (ts:List Addr) (Hs:Hp):Hp:=fun b=>if b∈ts then some (.tbl #[]) else Hs b
theorem Ac {P:Program} {w:World} {K:PySem.W.Frag} {mg mb:Str->Option Value} {k:Nat} {fa a:Addr} {fd:FuncData} {x:Str} {sp:Sp} {s₁:Shared} {vs:List Value} {ns:List Int} {ts:List Addr}
  (KX:K.In s₁.heap) (hns:s₁.heap.Ns mainGlobals mg) (hb:s₁.heap.Ns builtinsNs mb) (hbb:∀x:Str,x≠"__name__" -> mb x=bootBuiltins x) (hlim:s₁.heap.NoLimit) (hg:s₁.gens = #[])
  (hbm:∃bm ob,mg "__builtins__" = some (.ref bm)/\bm≠builtinsNs/\s₁.heap.get? bm=some ob/\ob.cls=.type "module" /\ ob.dict=some builtinsNs/\ob.data=.plain)
  (hts:∀P∈ts,s₁.heap.get? P=some (PySem.W.tabObj #[])) (hct:∀P∈ts,∃c,PySem.W.CodeHd s₁.heap c P) (hKt:∀P∈ts,K.lookup P=none)
  (ha:s₁.heap.get? a=some { cls:=.type "list", data:=.seq vs.toArray }) (hi:IntsAre vs ns) (hl:ns.length<=sizeLine) (hr:cP k callerA)
  (F:∀base:Heap,K.In base->base.Ns mainGlobals mg->(∀P∈ts,base.BuiltinsAt mg P)->ef P w K mg base CX0 k fa fd [x] sp) (hbind:∀(s:Shared) (u:Value),BindsTo s fd ⟨[u],[]⟩ [(x,u)])
  (hsp:∀H:Hp,(∀P∈ts,H P=some (.tbl #[]))->Fro K H a (ns.map V.int)->sp [.ref a] H (fun v _=>v=.bl true) fun _ _ _=>False) :
  codeAny (model P w) callerA (.call (.ref fa) ⟨[.ref a],[]⟩) (fun r s'=>r=.ok (.ret (.bool true))/\OldK s₁.heap s'.heap/\s'.os=s₁.os/\AllBare s'.gens) s₁:=by
 have rv:=sN hi
 have lenV:=hi.length
 have aT:a∉ts:=fun z=>by rw[hts a z] at ha;cases ha
 have core:∀Hs:Hp,KZ Hs->Fro K (jr ts Hs) a (ns.map V.int)->HOk P w Hs s₁.heap->(∀b,Hs b≠none->b=a)->(Hs a≠none->K.lookup a=none) →
   codeAny (model P w) callerA (.call (.ref fa) ⟨[.ref a],[]⟩) (fun r s'=>r=.ok (.ret (.bool true))/\OldK s₁.heap s'.heap/\s'.os=s₁.os/\AllBare s'.gens) s₁:=by
  intro Hs hO hS hok0 hA hK
  have inT:∀{b:Addr},b∈ts->jr ts Hs b=some (.tbl #[]):=fun h=>by unfold jr;rw[if_pos h]
  have offT:∀{b:Addr},b∉ts->jr ts Hs b=Hs b:=fun h=>by unfold jr;rw[if_neg h]
  have hok:HOk P w (jr ts Hs) s₁.heap:=fun b u e=>by
   by_cases hb:b∈ts
   ·rw[inT hb] at e;cases e;exact hts b hb
   ·rw[offT hb] at e
    refine(hok0 b u e).ke (fun _ _ _ z=>z) (fun c z=>?_) fun c xs z=>?_
    ·rcases hO c with q | ⟨_,_,q⟩
     ·rw[z] at q;cases q
     ·rw[z] at q;cases q
    ·rcases hO c with q | ⟨_,_,q⟩
     ·rw[z] at q;cases q
     ·rw[z] at q;cases q
  have non:∀{b:Addr} {o:Obj},s₁.heap.get? b=some o->(∀a n,o.data≠.seq a n)->(∀a,o.data≠.fields a)->jr ts Hs b=none:=fun{b o} e d1 d2=>by
   by_cases hb:b∈ts
   ·rw[hts b hb] at e;cases e;exact absurd rfl (d2 _)
   ·rw[offT hb]
    cases q:Hs b with
    | none=>rfl
    | some u=>
     have e':b=a:=hA b (by rw[q];simp)
     subst e'
     rw[ha] at e;cases e;exact absurd rfl (d1 _ _)
  have base_of:∀{b:Addr} {o:Obj},s₁.heap.get? b=some o->jr ts Hs b=none->(rO s₁.heap (jr ts Hs)).get? b=some o:=fun e n=>Dd e n
  have nsK:∀{b:Addr} {m:Str->Option Value},s₁.heap.Ns b m->(rO s₁.heap (jr ts Hs)).Ns b m:=fun{b m} ⟨o,es,ep,e,d,r⟩=>⟨o,es,ep,base_of e (non e (fun _ _ z=>by rw[d] at z;cases z) fun _ z=>by rw[d] at z;cases z),d,r⟩
  have hKb:K.In (rO s₁.heap (jr ts Hs)):=fun b o e=>base_of (KX b o e) (by
   have hb:b∉ts:=fun z=>by rw[hKt b z] at e;cases e
   rw[offT hb]
   cases q:Hs b with
   | none=>rfl
   | some u=>
    have e':b=a:=hA b (by rw[q];simp)
    subst e'
    rw[hK (by rw[q];simp)] at e;cases e)
  have hM:Mod K mg (rO s₁.heap (jr ts Hs)):=⟨hKb,nsK hns,⟨mb,nsK hb,hbb⟩,let ⟨mc,h1,h2⟩:=hlim;⟨mc,nsK h1,h2⟩⟩
  have hBA:∀P∈ts,(rO s₁.heap (jr ts Hs)).BuiltinsAt mg P:=fun PT hP=>by
   obtain⟨bm,ob,b1,b2,b3,b4,b5,b6⟩:=hbm
   refine⟨bm,ob,b1,b2,fun z=>?_,fun z=>?_,base_of b3 (non b3 (fun _ _ z=>by rw[b6] at z;cases z) fun _ z=>by rw[b6] at z;cases z),b4,b5,b6⟩
   ·obtain⟨o,es,ep,e,d,_⟩:=hns
    rw[<- z,b3] at e;cases e;rw[b6] at d;cases d
   ·rw[z,hts PT hP] at b3;cases b3;cases b6
  have e0:x_ P w K mg (rO s₁.heap (jr ts Hs)) callerA [] s₁ (jr ts Hs):=⟨rfl,hM,fun b o e=>Ft e,Nat.le_of_eq (A7 _ _),trivial,fun b hb=>absurd (show b∈([]:List Addr) from hb) (by simp),hok,.of_eq hg⟩
  refine codeAny_mono ((F _ hKb (nsK hns) hBA).run callerA [] s₁ (jr ts Hs) ⟨[.ref a],[]⟩ [.ref a] [.ref a] _ _ hr e0 (hbind s₁ (.ref a)) (.cons rfl .nil) (hsp _ (fun P hP=>inT hP) hS)) fun r s' h=>?_
  cases r with
  | error e=>exact h.elim
  | ok fl=>
   cases fl with
   | next=>exact False.elim h
   | brk=>exact False.elim h
   | cont=>exact False.elim h
   | ret u=>
    obtain⟨v,H',os,bare,un,hok',r',q⟩:=h
    have q':v=.bl true:=q
    subst q'
    obtain rfl:u=Value.bool true:=r'
    have old:∀b o,s₁.heap.get? b=some o->b∉ts->s'.heap.get? b=some o:=fun b o e hb=>by
     cases q:jr ts Hs b with
     | none=>exact un.keep b o e q (by intro z;exact absurd (show b∈([]:List Addr) from z) (by simp)) (by simp)
     | some u=>
      rw[offT hb] at q
      rcases hO b with z | ⟨ob,xs,z⟩
      ·rw[q] at z;cases z
      ·have z2:=un.l7 b ob _ ((offT hb).trans z)
       obtain⟨e1,_⟩:=hok0 b _ z
       obtain⟨e2,_⟩:=hok' b _ z2
       rw[e] at e1;cases e1
       exact e2
    have grown:∀b∈ts,∃ps,s'.heap.get? b=some (PySem.W.tabObj ps):=fun b hb=>by
     obtain⟨more,e1⟩:=un.mT b _ (inT hb)
     exact⟨_,hok' b _ e1⟩
    refine⟨rfl,⟨fun b o e=>?_,fun b o e=>?_⟩,os,bare⟩
    ·by_cases hb:b∈ts
     ·obtain⟨ps,e1⟩:=grown b hb
      obtain⟨c,C⟩:=hct b hb
      have e2:=hts b hb
      rw[e] at e2;cases e2
      exact .inr (.inl ⟨(C.tab (hts b hb)).isCodeTable,rfl,#[],ps,rfl,by rw[e1];simp⟩)
     ·exact .inl (old b o e hb)
    ·by_cases hb:b∈ts
     ·obtain⟨ps,e1⟩:=grown b hb;exact⟨_,e1⟩
     ·exact⟨o,old b o e hb⟩
 cases hk:K.lookup a with
 | some o=>
  have e:=KX a o hk
  rw[ha] at e
  cases e
  refine core (fun _=>none) (fun _=>.inl rfl) (.inr ⟨_,vs.toArray,_,hk,rfl,rfl,rfl,by rw[List.size_toArray,lenV];exact hl,by simpa using rv⟩) (fun b u z=>by have z':(none:Option HO)=some u:=z;cases z') (fun b z=>absurd rfl z) fun z=>absurd rfl z
 | none=>
  refine core (fun b=>if b=a then some (.frz { cls:=.type "list", data:=.seq vs.toArray } (.lst (ns.map V.int))) else none) (fun b=>?_) (.inl ⟨{ cls:=.type "list", data:=.seq vs.toArray },?_⟩) (fun b u z=>?_) (fun b z=>?_) fun _=>hk
  ·by_cases hb:b=a
   ·exact .inr ⟨_,_,if_pos hb⟩
   ·exact .inl (if_neg hb)
  ·unfold jr;rw[if_neg aT];exact if_pos rfl
  ·by_cases hb:b=a
   ·have z':=(if_pos hb).symm.trans z
    cases z'
    subst hb
    exact⟨ha,by rw[List.length_map];exact hl,vs,_,rv,ha⟩
   ·have z':=(if_neg hb).symm.trans z
    cases z'
  ·by_cases hb:b=a
   ·exact hb
   ·exact absurd (if_neg hb) z
noncomputable def tabOf (K:PySem.W.Frag) (c:Addr):Addr:=match K.lookup c with
 | some ⟨_,_,.fields vs,_⟩=>(match (vs[11]?:Option Value) with | some (.ref P)=>P | _=>0)
 | _=>0
noncomputable def HZ (K:PySem.W.Frag) (ts:List Addr):Bool:=(K.filterMap fun p=>lT K p.1).all (fun q=>ts.any (Nat.beq q.1))&&ts.all fun P=>(K.lookup P).isNone&&K.any fun p=>match p.2.data with
 | .func fd=>(match fd.code with
  | .ref c=>PySem.W.codeHdIn K c P
  | _=>false)
 | _=>false
noncomputable def GF (K:PySem.W.Frag) (ts:List Addr) (x:Str) (st:Stmt):Prop:=∃f fd c,PySem.W.nsIn K mainGlobals x=some (some (.ref f))/\Fun K x x st f fd/\fd.code=.ref c/\PySem.W.codeHdIn K c (tabOf K c)=true/\ts.any (Nat.beq (tabOf K c))=true/\Nat.beq mainGlobals (tabOf K c)=false
noncomputable def Eh (K:PySem.W.Frag) (mg:Str->Option Value) (base:Heap) (x:Str) (st:Stmt):Prop:=∀f fd,mg x=some (.ref f)->Fun K x x st f fd->∃c PT,Mkr K mg base fd c PT
theorem Ja {K:PySem.W.Frag} {ts:List Addr} {x:Str} {st:Stmt} {f c:Addr} {oc:Value} {od an:Option Addr} {osl:Array (Option Value)} {kV doc pm ct:Value} (a:PySem.W.nsIn K mainGlobals x=some (some (.ref f)))
  (l:K.lookup f=some ⟨oc,od,.func (PySem.W.fnOf x x (fU st) (bQ st) (ak st) .none kV doc pm an (.ref c) ct),osl⟩) (cc:PySem.W.codeIn K (.ref c) x=true) (k:PySem.W.keepIn K (.ref f)=true)
  (h1:PySem.W.codeHdIn K c (tabOf K c)=true) (h2:ts.any (Nat.beq (tabOf K c))=true) (h3:Nat.beq mainGlobals (tabOf K c)=false):GF K ts x st:=⟨f,_,c,a,yk l cc k,rfl,h1,h2,h3⟩
theorem Eh.of {K:PySem.W.Frag} {mg:Str->Option Value} {base h:Heap} {ts:List Addr} {x:Str} {st:Stmt} (X:K.In h) (G:h.Ns mainGlobals mg) (hB:∀P∈ts,base.BuiltinsAt mg P) (hU:mkU K=true) (m:GF K ts x st):Eh K mg base x st:=by
 intro f fd hm F
 obtain⟨f2,fd2,c,a,F2,hc,h1,h2,h3⟩:=m
 have hm2:=PySem.W.mg_of X G a
 rw[hm] at hm2
 cases hm2
 obtain⟨oc,od,osl,l1⟩:=bJ F
 obtain⟨oc',od',osl',l2⟩:=bJ F2
 rw[l1] at l2
 cases l2
 obtain⟨P,hP,e⟩:=List.any_eq_true.mp h2
 have e:=Nat.eq_of_beq_eq_true e
 refine⟨c,tabOf K c,hc,h1,hB _ (by rw[e];exact hP),fun z=>?_,hU⟩
 rw[<- z,Nat.beq_refl] at h3;cases h3
theorem FF {k:Nat} {m:MF} {l:PySem.W.OpenLaw} {q:Program} {loose:List Str} {XP:(Str->Option Value)->Heap->Prop} {YP:World->Heap->Prop} {d:DefRec} {K:Params->PySem.W.Frag} {ts:List Addr} (hn:l.most=some 63) (hdf:d.params.defaults=[]) (hr:cP k callerA)
  (hY:∀(w:World) (h:Heap),YP w h->(K w.params).In h) (hT:∀(w:World) (h:Heap),YP w h->∀P∈ts,h.get? P=some (PySem.W.tabObj #[])) (hI:∀P,HZ (K P) ts=true)
  (ok:∀ns:List Int,ns.length<=63->∃h,m [.scr (ns.map D.int)] []=.ok (.bl true) h)
  (F:∀(w:World) (mg:Str->Option Value) (fa:Addr) (h:Heap),(K w.params).In h->h.Ns mainGlobals mg->mg d.name=some (.ref fa) →
   ∃fd:FuncData,(∀(s:Shared) (u:Value),BindsTo s fd ⟨[u],[]⟩ [("_law_script", u)])/\∀base:Heap,(K w.params).In base->base.Ns mainGlobals mg->(∀P∈ts,base.BuiltinsAt mg P)->ef l.prog w (K w.params) mg base CX0 k fa fd ["_law_script"] (spM (K w.params) (gOf mg) 1 m)) :
  PySem.W.WalkO q loose XP YP l.row.toRowW d [] (fun f vs=>PySem.call f vs):=by
 refine Att.wc hn hdf fun w bh s₁ mg mb fa o pm cd doc a vs ns G Y ho hd hcd hmg hobj hints hlen hg=>?_
 have KX:=hY w _ Y
 obtain⟨fd,hb,hF⟩:=F w mg fa _ KX G.T.g hmg
 have i:=hI w.params
 unfold HZ at i
 obtain⟨i1,i2⟩:=Bool.and_eq_true_iff.mp i
 have tq:∀P∈ts,∃c,(K w.params).lookup P=none/\PySem.W.codeHdIn (K w.params) c P=true:=fun P hP=>by
  have z:=Bool.and_eq_true_iff.mp (List.all_eq_true.mp i2 P hP)
  obtain⟨p,_,y⟩:=List.any_eq_true.mp z.2
  split at y
  ·split at y
   ·rename_i c _;exact⟨c,by simpa using z.1,y⟩
   ·cases y
  ·cases y
 refine Ac (sp:=fun vs H Q _=>∃a ns,vs=[V.ref a]/\ns.length<=63/\(∀P∈ts,H P=some (.tbl #[]))/\Fro (K w.params) H a (ns.map V.int)/\∀v H',v=V.bl true->Q v H') KX G.T.g G.T.b G.T.builtins G.T.nolimit hg G.T.bmain (hT w _ Y) (fun P hP=>let ⟨c,_,e⟩:=tq P hP;⟨c,PySem.W.codeHd_of_K KX e⟩) (fun P hP=>let ⟨_,e,_⟩:=tq P hP;e) hobj hints (Nat.le_trans hlen (by decide)) hr
  (fun base kb nb bb=>(hF base kb nb bb).imp fun vs H Q E z=>?_) hb (fun H h1 h2=>⟨a,ns,rfl,hlen,h1,h2,fun _ _ z=>z⟩)
 obtain⟨a,ns,rfl,hl,hO,hS,hQ⟩:=z
 obtain⟨hh,e⟩:=ok ns hl
 refine⟨rfl,[],[.scr (ns.map D.int)],[],.cons (.scr hS (aw.ints ns)) .nil,⟨rfl,fun n m p z=>by simp at z,fun n p o z=>by simp at z,fun f q e=>.inl (hO _ ?_)⟩,?_⟩
 ·obtain⟨p,hp,z⟩:=List.any_eq_true.mp (List.all_eq_true.mp i1 q (vn e))
  rw[Nat.eq_of_beq_eq_true z]
  exact hp
 ·rw[e]
  intro v H' α' _ _ rd
  cases rd
  exact hQ _ _ rfl
noncomputable def jB (cells:List (Str × Addr)):List (Str × NameKind)->List (Str × Addr)->List (Str × Addr)
 | [],cs=>cs
 | (n,k)::r,cs=>jB cells r (if k == .free then (n,(cells.lookup n).getD 0)::cs else cs)
theorem zk {env:Env}:∀(ns:List (Str × NameKind)) (cs:List (Str × Addr)),(∀q∈ns,q.2=.free->(env.cells.lookup q.1).isSome=true) →
  (forIn ns cs fun(x:Str × NameKind) (r:List (Str × Addr))=>match x with
   | (name,kind)=>if (kind == .free)=true then do let c ← cellOf env name;pure (ForInStep.yield ((name,c)::r)) else pure (ForInStep.yield r):Sem (List (Str × Addr)))=pure (jB env.cells ns cs)
 | [],cs,_=>by rfl
 | (n,k)::r,cs,h=>by
  rw[List.forIn_cons]
  have ih:=fun cs=>zk (env:=env) r cs fun q hq=>h q (List.mem_cons_of_mem _ hq)
  by_cases hk:(k == .free)=true
  ·obtain⟨c,hc⟩:=Option.isSome_iff_exists.mp (h (n,k) (List.mem_cons_self ..) (beq_iff_eq.mp hk))
   have hc:env.cells.lookup n=some c:=hc
   simp only[hk,if_true,jB,hc,Option.getD_some,cellOf,pure_bind]
   exact ih _
  ·simp only[Bool.not_eq_true] at hk
   simp only[hk,Bool.false_eq_true,if_false,jB,pure_bind]
   exact ih _
theorem E4 {scope:Scope} {env:Env} (h:∀q∈scope.names,q.2=.free->(env.cells.lookup q.1).isSome=true):closureFor scope env=pure (jB env.cells scope.names []):=by
 exact(congrArg (fun m:Sem (List (Str × Addr))=>m >>= fun s=>pure s) (zk scope.names [] h)).trans (pure_bind _ _)
theorem xb {cells:List (Str × Addr)} {z:Str} {c:Addr}:∀(ns:List (Str × NameKind)) (cs:List (Str × Addr)),(∀q∈ns,q.2=.free->(cells.lookup q.1).isSome=true)->(∀z c,cs.lookup z=some c->cells.lookup z=some c)->(jB cells ns cs).lookup z=some c->cells.lookup z=some c
 | [],cs,_,h,e=>h z c e
 | (n,k)::r,cs,hf,h,e=>by
  refine xb r _ (fun q hq=>hf q (List.mem_cons_of_mem _ hq)) (fun z c=>?_) e
  split
  ·rename_i hk
   rw[List.lookup_cons]
   split
   ·rename_i hz
    intro q
    cases q
    obtain⟨c,hc⟩:=Option.isSome_iff_exists.mp (hf (n,k) (List.mem_cons_self ..) (beq_iff_eq.mp hk))
    rw[beq_iff_eq.mp hz,hc];rfl
   ·exact h z c
  ·exact h z c
theorem tP {cells:List (Str × Addr)} {z:Str}:∀(ns:List (Str × NameKind)) (cs:List (Str × Addr)),(∃c,cs.lookup z=some c)->∃c,(jB cells ns cs).lookup z=some c
 | [],cs,h=>h
 | (n,k)::r,cs,h=>by
  refine tP r _ ?_
  split
  ·rw[List.lookup_cons]
   split
   ·exact⟨_,rfl⟩
   ·exact h
  ·exact h
theorem wA {cells:List (Str × Addr)} {z:Str}:∀(ns:List (Str × NameKind)) (cs:List (Str × Addr)),(z,NameKind.free)∈ns->∃c,(jB cells ns cs).lookup z=some c
 | (n,k)::r,cs,h=>by
  rcases List.mem_cons.mp h with e | e
  ·cases e
   refine tP r _ ?_
   rw[if_pos (by rfl),List.lookup_cons]
   simp
  ·exact wA r _ e
section
variable {P:Program} {w:World} {K:PySem.W.Frag} {mg:Str->Option Value} {base:Heap} {g:GG}
theorem HN {x:Str} {st:Stmt} {f:Addr} {fd:FuncData} {N ps:List Str} {k:Nat} {mb:MS} (rows:List Stmt) {params:Arguments} {body:Expr} {scope:Scope} {pos rpos:Pos} (lf y:Str) (ys:List Str) (ix:List Nat) {c PT:Addr} (F:Fun K x x st f fd) (S:aE N ps (ak st)) (M:Mkr K mg base fd c PT)
  (hbd:bQ st=rows++[.Return (some (.Lambda params body scope pos)) rpos]) (hdef:∀env,defaultsOf params env=([],[]))
  (hfr:∀q∈scope.names,q.2=.free->(ak st).names.lookup q.1=some .cell) (hyf:∀z∈ys,(z,NameKind.free)∈scope.names)
  (hix:ix.map (fun i=>N[i]?)=ys.map some) (T:xg lf y (x++".<locals>." ++ "<lambda>") ys params body scope)
  (hb:∀(cdv:Value) (A:Around) (outer:List Env) (s:Shared) (H:Hp) (E:XK),cP k (A.deeper (envOfC x (ak st) s.heap.objs.size f cdv)) →
   PSs (gT CX0 P w K mg base N x (ak st) f cdv A outer s H E).nox rows (tMS K g E00 mb)):ef P w K mg base CX0 (k+1) f fd ps (spM K g ps.length (EJ N.length mb lf ix)):=by
 refine Jf (rows:=rows) (lf:=lf) (y:=y) (ys:=ys) (ix:=ix) F S M hbd hdef (fun L cdv=>?_) (fun z hz=>hfr (z,.free) (hyf z hz) rfl) hix T hb
 have hs:∀q∈scope.names,q.2=.free->((envOfC x (ak st) L f cdv).cells.lookup q.1).isSome=true:=fun q hq e=>PySem.W.cellsFrom_some _ _ _ (.inl (hfr q hq e))
 exact⟨_,E4 hs,fun z c e=>xb scope.names [] hs (fun _ _ z=>nomatch z) e,fun z hz=>wA scope.names [] (hyf z hz)⟩
end
end L2.FE
namespace L2.FE
open PySem
section
variable {β γ:Type} {h h1:Hh} {env:En}
@[simp] theorem bV {b:β} {f:β->Hh->R γ}:(R.ok b h).bind f=f b h:=Eq.trans rfl rfl
@[simp] theorem Bi {x:Xc} {f:β->Hh->R γ}:(R.err x h).bind f=.err x h:=Eq.trans rfl rfl
@[simp] theorem e_C {d:D}:cC d env h=.ok d h:=Eq.trans rfl rfl
@[simp] theorem CD {d:D} {r:En}:ag 0 (some d::r) h=.ok d h:=Eq.trans rfl rfl
@[simp] theorem ID {i:Nat} {x:Option D} {r:En}:ag (i+1) (x::r) h=ag i r h:=Eq.trans rfl rfl
@[simp] theorem Ml {f:D->D->Hh->R D} {a b:ME}:av f a b env h=(a env h).bind fun x h1=>(b env h1).bind fun y h2=>f x y h2:=Eq.trans rfl rfl
@[simp] theorem LJ {f:D->Hh->R D} {a:ME}:cUn f a env h=(a env h).bind fun x h1=>f x h1:=Eq.trans rfl rfl
@[simp] theorem Ku:ao env h=.ok [] h:=Eq.trans rfl rfl
@[simp] theorem Ii {a:ME} {r:MA}:ae a r env h=(a env h).bind fun x h1=>(r env h1).bind fun xs h2=>.ok (x::xs) h2:=Eq.trans rfl rfl
@[simp] theorem Ie {f:List D->Hh->R D} {a:MA}:ai f a env h=(a env h).bind f:=Eq.trans rfl rfl
@[simp] theorem FJ {f:D->List D->Hh->R D} {o:ME} {a:MA}:iy f o a env h=(o env h).bind fun x h1=>if isL x h1=true then (a env h1).bind fun xs h2=>f x xs h2 else .bad:=Eq.trans rfl rfl
@[simp] theorem GO {f:D->Hh->R Bool} {a:ME}:a_ f a env h=(a env h).bind f:=Eq.trans rfl rfl
@[simp] theorem Gp {a:MT}:ft a env h=(a env h).bind fun b h1=>.ok (!b) h1:=Eq.trans rfl rfl
@[simp] theorem K4 {a b:MT}:BB a b env h=(a env h).bind fun x h1=>if x=true then b env h1 else .ok false h1:=Eq.trans rfl rfl
@[simp] theorem I_ {a b:MT}:vt a b env h=(a env h).bind fun x h1=>if x=true then .ok true h1 else b env h1:=Eq.trans rfl rfl
@[simp] theorem MN {c:MT} {a b:ME}:cIf c a b env h=(c env h).bind fun x h1=>if x=true then a env h1 else b env h1:=Eq.trans rfl rfl
@[simp] theorem Mx {b:Bool}:asB (.bl b) h=.ok b h:=Eq.trans rfl rfl
@[simp] theorem K_ {a b:ME}:wg a b env h=(a env h).bind fun x h1=>(asB x h1).bind fun k h2=>if k=true then b env h2 else .ok (.bl false) h2:=Eq.trans rfl rfl
@[simp] theorem Lr {a:ME}:CO a env h=(a env h).bind fun x h1=>(asB x h1).bind fun k h2=>.ok (.bl (!k)) h2:=Eq.trans rfl rfl
@[simp] theorem FK {f f':D->D->Hh->R D} {a b c:ME}:jD f f' a b c env h=(a env h).bind fun x h1=>(b env h1).bind fun y h2=>(f x y h2).bind fun z h3=>(asB z h3).bind fun k h4=>if k=true then (c env h4).bind fun w h5=>f' y w h5 else .ok (.bl false) h4:=Eq.trans rfl rfl
@[simp] theorem Jh:dF env h=.ok none h:=Eq.trans rfl rfl
noncomputable def Gm:D->Hh->R (Option Int):=fun d h1=>match d with
 | .int i=>.ok (some i) h1
 | _=>.bad
@[simp] theorem KL {i:Int}:Gm (.int i) h=.ok (some i) h:=Eq.trans rfl rfl
@[simp] theorem Lx {a:ME}:eg a env h=(a env h).bind Gm:=Eq.trans rfl rfl
@[simp] theorem KG {nl:NL} {a:ME} {l u:MO}:dy nl a l u env h=(a env h).bind fun x h1=>(l env h1).bind fun lo h2=>(u env h2).bind fun hi h3=>Bs nl x lo hi h3:=Eq.trans rfl rfl
@[simp] theorem K9:cw env h=.ok (.nx env) h:=Eq.trans rfl rfl
noncomputable def GV (b:MS):Fl->Hh->R Fl:=fun fl h1=>match fl with
 | .nx e=>b e h1
 | fl=>.ok fl h1
@[simp] theorem MP {b:MS} {e:En}:GV b (.nx e) h=b e h:=Eq.trans rfl rfl
@[simp] theorem ML {b:MS} {d:D}:GV b (.rt d) h=.ok (.rt d) h:=Eq.trans rfl rfl
@[simp] theorem Kl {a b:MS}:aO a b env h=(a env h).bind (GV b):=by
 unfold aO
 first | rfl | (congr 1;funext fl h1;cases fl<;>rfl)
@[simp] theorem Lu {a:ME}:f6 a env h=(a env h).bind fun _ h1=>.ok (.nx env) h1:=Eq.trans rfl rfl
@[simp] theorem MB {a:ME}:bG a env h=(a env h).bind fun d h1=>.ok (.rt d) h1:=Eq.trans rfl rfl
@[simp] theorem IY {c:MT} {a b:MS}:eX c a b env h=(c env h).bind fun x h1=>if x=true then a env h1 else b env h1:=Eq.trans rfl rfl
@[simp] theorem Mm {i:Nat} {a:ME}:cb i a env h=(a env h).bind fun d h1=>.ok (.nx (env.set i (some d))) h1:=Eq.trans rfl rfl
noncomputable def Je (i j:Nat) (env:En):List D->Hh->R Fl:=fun ds h1=>match ds with
 | [x,y]=>.ok (.nx ((env.set i (some x)).set j (some y))) h1
 | _=>.bad
@[simp] theorem K7 {i j:Nat} {x y:D}:Je i j env [x,y] h=.ok (.nx ((env.set i (some x)).set j (some y))) h:=Eq.trans rfl rfl
@[simp] theorem Mk {i j:Nat} {a:MA}:BU i j a env h=(a env h).bind (Je i j env):=by
 rfl
@[simp] theorem vW {i:Nat} {d:D}:gN i d env h=.ok (env.set i (some d)) h:=Eq.trans rfl rfl
@[simp] theorem Kt {i j:Nat} {x y:D}:gT2 i j (.tup [x,y]) env h=.ok ((env.set i (some x)).set j (some y)) h:=Eq.trans rfl rfl
@[simp] theorem Mr {i j:Nat} {a:ME}:EI i j a env h=(a env h).bind fun d h1=>(gT2 i j d env h1).bind fun e h2=>.ok (.nx e) h2:=Eq.trans rfl rfl
@[simp] theorem KJ {f:D->D->D->Hh->R Unit} {o i v:ME}:kL f o i v env h=(v env h).bind fun x h1=>(o env h1).bind fun y h2=>(i env h2).bind fun z h3=>(f y z x h3).bind fun _ h4=>.ok (.nx env) h4:=Eq.trans rfl rfl
@[simp] theorem KC {o i v:ME}:uk o i v env h=(o env h).bind fun x h1=>(i env h1).bind fun y h2=>(C1 x y h2).bind fun z h3=>(v env h3).bind fun u h4=>(wZ z u h4).bind fun t h5=>(jg x y t h5).bind fun _ h6=>.ok (.nx env) h6:=Eq.trans rfl rfl
noncomputable def GN:Fl->Hh->R D:=fun fl h1=>match fl with
 | .rt d=>.ok d h1
 | .nx _=>.ok .non h1
 | _=>.bad
@[simp] theorem MQ {d:D}:GN (.rt d) h=.ok d h:=Eq.trans rfl rfl
@[simp] theorem MJ {e:En}:GN (.nx e) h=.ok .non h:=Eq.trans rfl rfl
theorem bc {n:Nat} {m:MS} {ds:List D}:cH n m ds h=(m (ds.map some++List.replicate (n - ds.length) none) h).bind GN:=by
 unfold cH
 first | rfl | (congr 1;funext fl h1;cases fl<;>rfl)
section
variable {nl:NL}
@[simp] theorem LM {i j:Int}:bS nl (.int i) (.int j) h=.ok (.int (i+j)) h:=Eq.trans rfl rfl
@[simp] theorem KA {i j:Int}:wZ (.int i) (.int j) h=.ok (.int (i+j)) h:=Eq.trans rfl rfl
@[simp] theorem Ma {i j:Int}:je (.int i) (.int j) h=.ok (.int (i - j)) h:=Eq.trans rfl rfl
@[simp] theorem LV {i:Int}:oH (.int i) h=.ok (.int (-i)) h:=Eq.trans rfl rfl
@[simp] theorem Mu {i j:Int}:dLt (.int i) (.int j) h=.ok (.bl (decide (i<j))) h:=by unfold dLt;rw[rq];rfl
@[simp] theorem MG {i j:Int}:dLe (.int i) (.int j) h=.ok (.bl (decide (i<=j))) h:=by unfold dLe;rw[uJ];rfl
@[simp] theorem Md {i j:Int}:dGt (.int i) (.int j) h=.ok (.bl (decide (j<i))) h:=by unfold dGt;rw[rq];rfl
@[simp] theorem Mw {i j:Int}:dGe (.int i) (.int j) h=.ok (.bl (decide (j<=i))) h:=by unfold dGe;rw[uJ];rfl
@[simp] theorem KU {i j:Int}:lH nl (.int i) (.int j) h=if sml i=true/\sml j=true then .ok (.int (i*j)) h else .bad:=Eq.trans rfl rfl
@[simp] theorem Lf {i j:Int}:Dp (.int i) (.int j) h=if 0<j/\sml j=true then .ok (.int (i / j)) h else .bad:=Eq.trans rfl rfl
@[simp] theorem La {i j:Int}:xv (.int i) (.int j) h=if 0<j then .ok (.int (i % j)) h else .bad:=Eq.trans rfl rfl
@[simp] theorem LB {i j:Int}:vj (.int i) (.int j) h=if 0<=j/\j.natAbs<=1000/\sml i=true then .ok (.int (i ^ j.toNat)) h else .bad:=Eq.trans rfl rfl
@[simp] theorem LL {i j:Int}:Dx [.int i,.int j] h=.ok (.int (max i j)) h:=by
 have:(if j > i then j else i)=max i j:=by split<;>omega
 rw[<- this];rfl
@[simp] theorem L7 {b:Bool}:yt [.bl b] h=.ok (.int (if b then 1 else 0)) h:=Eq.trans rfl rfl
@[simp] theorem Me {ds:List D}:cG ds h=if ds.length<=1000000 then .ok (.tup ds) h else .bad:=Eq.trans rfl rfl
@[simp] theorem Mv {ds:List D}:cO nl ds h=if ds.length<=1000000 then nl ds h else .bad:=Eq.trans rfl rfl
@[simp] theorem Lm {ds:List D}:v7 ds h=.ok (.ref h.length) (h++[.lst ds]):=Eq.trans rfl rfl
@[simp] theorem Ld {ds:List D}:az ds h=.ok (.frl ds) h:=Eq.trans rfl rfl
@[simp] theorem Lp {ds:List D}:cp [.tup ds] h=.ok (.int ds.length) h:=Eq.trans rfl rfl
@[simp] theorem Ly {ds:List D}:cp [.frl ds] h=.ok (.int ds.length) h:=Eq.trans rfl rfl
@[simp] theorem LH {ds:List D}:cp [.scr ds] h=.ok (.int ds.length) h:=Eq.trans rfl rfl
noncomputable def ixK (ds:List D) (i:Int) (h:Hh):R D:=match atI ds i with
 | some d=>.ok d h
 | none=>.bad
@[simp] theorem Mp {ds:List D} {i:Int}:dIx (.tup ds) (.int i) h=ixK ds i h:=Eq.trans rfl rfl
@[simp] theorem Mo {ds:List D} {i:Int}:dIx (.frl ds) (.int i) h=ixK ds i h:=Eq.trans rfl rfl
@[simp] theorem Mf {ds:List D} {i:Int}:dIx (.scr ds) (.int i) h=ixK ds i h:=Eq.trans rfl rfl
theorem qF {n:Nat} {ds:List D} {i:Int} (e:aG h n=some ds):dIx (.ref n) (.int i) h=ixK ds i h:=by
 have z:jR (.ref n) h=some ds:=e
 delta dIx;rw[z];rfl
theorem Iu {ds:List D} {i:Int} {d:D} (e:atI ds i=some d):ixK ds i h=.ok d h:=by simp only[ixK,e]
theorem B6 {β:Type} {xs:List β} {j:Nat} {v:β} {i:Int} (h:xs[j]?=some v) (e:i=(j:Int)):atI xs i=some v:=by rw[e];exact EY h
theorem fV {ds:List D} {i:Int} {j:Nat} {d:D} (e:i=(j:Int)) (e2:ds[j]?=some d):ixK ds i h=.ok d h:=Iu (B6 e2 e)
noncomputable def gI (ns:List Int) (i:Nat):Int:=ns.getD i 0
theorem iF {ns:List Int} {j:Nat} (hj:j<ns.length):gI ns j=ns[j]:=by
 unfold gI;rw[List.getD_eq_getElem?_getD,List.getElem?_eq_getElem hj];rfl
theorem xT {ns:List Int} {j:Nat} (hj:j<ns.length):gI ns j∈ns:=by rw[iF hj];exact List.getElem_mem hj
theorem vB {ns:List Int} {i:Int} {j:Nat} (e:i=(j:Int)) (hj:j<ns.length):ixK (ns.map D.int) i h=.ok (.int (gI ns j)) h:=by
 refine fV e ?_
 rw[List.getElem?_map,List.getElem?_eq_getElem hj,iF hj];rfl
@[simp] theorem Mz {d:D} {ds:List D}:ixK (d::ds) 0 h=.ok d h:=fV (j:=0) rfl rfl
@[simp] theorem Mg {d d1:D} {ds:List D}:ixK (d::d1::ds) 1 h=.ok d1 h:=fV (j:=1) rfl rfl
@[simp] theorem LR {ds:List D} {lo hi:Option Int}:Bs nl (.tup ds) lo hi h=.ok (.tup (cutD ds lo hi)) h:=Eq.trans rfl rfl
@[simp] theorem KY {ds:List D} {lo hi:Option Int}:Bs nl (.scr ds) lo hi h=nl (cutD ds lo hi) h:=Eq.trans rfl rfl
@[simp] theorem Lc {a b:List D}:bS nl (.tup a) (.tup b) h=if a.length+b.length<=1000000 then .ok (.tup (a++b)) h else .bad:=Eq.trans rfl rfl
@[simp] theorem Ln {a b:List D}:bS nl (.frl a) (.frl b) h=if a.length+b.length<=1000000 then nl (a++b) h else .bad:=Eq.trans rfl rfl
@[simp] theorem LZ {a:List D} {k:Int}:lH nl (.frl a) (.int k) h=if k.natAbs<=1000000/\a.length*k.toNat<=1000000 then nl (List.replicate k.toNat a).flatten h else .bad:=Eq.trans rfl rfl
@[simp] theorem KQ {ds:List D}:dList nl [.tup ds] h=nl ds h:=Eq.trans rfl rfl
@[simp] theorem Lb {ds:List D}:mW [.frl ds] h=.ok (.tup ds) h:=Eq.trans rfl rfl
@[simp] theorem Lq {ns:List Int}:xW [.frl (ns.map D.int)] h=.ok (.int ns.sum) h:=by simp only[xW,jR,lB]
@[simp] theorem Ho {b:Bool}:ju (.bl b) h=.ok b h:=Eq.trans rfl rfl
@[simp] theorem Ms {i j:Int}:dEq (.int i) (.int j) h=.ok (.bl (i == j)) h:=Eq.trans rfl rfl
@[simp] theorem Mn {i j:Str}:dEq (.str i) (.str j) h=.ok (.bl (i == j)) h:=Eq.trans rfl rfl
@[simp] theorem Mj {i j:Str}:dNe (.str i) (.str j) h=.ok (.bl (!(i == j))) h:=Eq.trans rfl rfl
@[simp] theorem L4 {i:Int}:oR "int" (.int i) h=.ok (.bl true) h:=Eq.trans rfl rfl
@[simp] theorem Lv {i:Int}:oR "bool" (.int i) h=.ok (.bl false) h:=Eq.trans rfl rfl
@[simp] theorem Hk {ds:List D}:oR "tuple" (.tup ds) h=.ok (.bl true) h:=Eq.trans rfl rfl
@[simp] theorem Jn {j:Int}:m_ nl [.int j] h=if j.natAbs<=1000000 then nl (bT 0 j.toNat) h else .bad:=by
 by_cases z:j.natAbs<=1000000
 ·rw[if_pos z];simp only[m_,rQ,if_pos z]
 ·rw[if_neg z];simp only[m_,rQ,if_neg z]
@[simp] theorem KO {j:Int}:qI [.int j] h=if j.natAbs<=1000000 then .ok (.tup (bT 0 j.toNat)) h else .bad:=by
 by_cases z:j.natAbs<=1000000
 ·rw[if_pos z];simp only[qI,rQ,if_pos z]
 ·rw[if_neg z];simp only[qI,rQ,if_neg z]
@[simp] theorem fX {ds:List D} {t:Hh}:aG (h++.lst ds::t) h.length=some ds:=by
 unfold aG;rw[List.getElem?_append_right (Nat.le_refl _)];simp
@[simp] theorem lM {o o':O} {t:Hh}:(h++o::t).set h.length o'=h++o'::t:=by
 rw[List.set_append_right _ _ (Nat.le_refl _)];simp
theorem BM {n:Nat} {ds:List D} (e:aG h n=some ds):isL (.ref n) h=true:=by simp[isL,e]
theorem Bo {n:Nat} {ds:List D} {d:D} (e:aG h n=some ds):iV (.ref n) [d] h=if ds.length<1000000 then .ok .non (h.set n (.lst (ds++[d]))) else .bad:=by delta iV;dsimp only;rw[e]
theorem GB {n:Nat} {ds:List D} (e:aG h n=some ds):cp [.ref n] h=.ok (.int ds.length) h:=by
 unfold aG at e
 split at e
 ·rename_i ds' q;cases e;delta cp;dsimp only;rw[q]
 ·cases e
theorem pJ {n:Nat} {ds:List D} {i:Int} {j:Nat} {v:D} (e:aG h n=some ds) (e2:ixN ds.length i=some j):jg (.ref n) (.int i) v h=.ok () (h.set n (.lst (ds.set j v))):=by delta jg;dsimp only;rw[e];dsimp only;rw[e2]
@[simp] theorem KN {k:List Int} {t:Hh}:cp [.ref h.length] (h++.set k::t)=.ok (.int k.length) (h++.set k::t):=by
 have:(h++O.set k::t)[h.length]?=some (.set k):=by rw[List.getElem?_append_right (Nat.le_refl _)];simp
 delta cp;dsimp only;rw[this]
@[simp] theorem BC {ns:List Int}:rN [.tup (ns.map D.int)] h=if ns.length<=4000 then .ok (.ref h.length) (h++[.set (unl ns)]) else .bad:=by delta rN;dsimp only;rw[lB]
@[simp] theorem K6 {ds:List D} {t:Hh}:isL (.ref h.length) (h++.lst ds::t)=true:=BM fX
@[simp] theorem II {ds:List D} {d:D} {t:Hh}:iV (.ref h.length) [d] (h++.lst ds::t)=if ds.length<1000000 then .ok .non (h++.lst (ds++[d])::t) else .bad:=by rw[Bo fX,lM]
@[simp] theorem Mh {ds:List D} {i:Int} {t:Hh}:dIx (.ref h.length) (.int i) (h++.lst ds::t)=ixK ds i (h++.lst ds::t):=qF fX
theorem za {n j:Nat} {i:Int} (e:i=(j:Int)) (hj:j<n):ixN n i=some j:=by
 subst e
 unfold ixN
 rw[if_pos (by omega),if_pos (by omega)];simp
end
@[simp] theorem LK {a:MA}:kj m8 a env h=(a env h).bind m8:=Eq.trans rfl rfl
@[simp] theorem LD {a:MA}:kj t_ a env h=(a env h).bind t_:=Eq.trans rfl rfl
@[simp] theorem Li {j:Int}:m8 [.int j] h=if j.natAbs<=1000000 then .ok (.snap (bT 0 j.toNat)) h else .bad:=Eq.trans rfl rfl
@[simp] theorem LG {i j:Int}:t_ [.int i,.int j] h=if i.natAbs<=1000000/\j.natAbs<=1000000 then .ok (.snap (bT i (j - i).toNat)) h else .bad:=Eq.trans rfl rfl
@[simp] theorem MH {a:ME}:eB a env h=(a env h).bind Bz:=Eq.trans rfl rfl
@[simp] theorem K2 {a:ME}:nN a env h=(a env h).bind wL:=Eq.trans rfl rfl
@[simp] theorem Mt {ds:List D}:Bz (.tup ds) h=.ok (.snap ds) h:=Eq.trans rfl rfl
@[simp] theorem Mc {ds:List D}:Bz (.frl ds) h=.ok (.snap ds) h:=Eq.trans rfl rfl
theorem lG {tab:Str->Option MF} {f:ME} {a:MA} {x:Str} {m:MF} {h1:Hh} (e:f env h=.ok (.fn x) h1) (t:tab x=some m):k9 tab f a env h=(a env h1).bind m:=by simp only[k9,e,R.bind,t]
noncomputable def IL (tg:D->En->Hh->R En) (body:MS) (env:En):Src->Hh->R Fl:=fun sr h1=>match sr with
 | .snap ds=>dw tg body ds env h1
 | .live n=>nA (Src.live n).rdr tg body ((aG h1 n).getD []).length 0 env h1
 | .liveE n=>nA (Src.liveE n).rdr tg body ((aG h1 n).getD []).length 0 env h1
@[simp] theorem Le {tg:D->En->Hh->R En} {body:MS} {ds:List D}:IL tg body env (.snap ds) h=dw tg body ds env h:=Eq.trans rfl rfl
@[simp] theorem Mi {mi:MI} {tg:D->En->Hh->R En} {body:MS}:fO mi tg body env h=(mi env h).bind (IL tg body env):=by
 unfold fO
 congr 1
noncomputable def Kh (nl:NL) (tt:MT) (te:ME) (ee:D->En):Src->Hh->R D:=fun sr h1=>if sr.fuel h1<=1000000 then
 (match sr with
  | .snap ds=>df tt te ee ds h1
  | .live n=>jl (Src.live n).rdr tt te ee ((aG h1 n).getD []).length 0 [] h1
  | .liveE n=>jl (Src.liveE n).rdr tt te ee ((aG h1 n).getD []).length 0 [] h1).bind nl else .bad
@[simp] theorem Lo {nl:NL} {mi:MI} {ix:List Nat} {tt:MT} {te:ME}:fB nl mi ix tt te env h=(mi env h).bind (Kh nl tt te (kS ix env)):=Eq.trans rfl rfl
@[simp] theorem KD {nl:NL} {tt:MT} {te:ME} {ee:D->En} {ds:List D}:Kh nl tt te ee (.snap ds) h=if ds.length<=1000000 then (df tt te ee ds h).bind nl else .bad:=Eq.trans rfl rfl
@[simp] theorem IH {lo:Int} {n:Nat}:(bT lo n).length=n:=by simp[bT]
@[simp] theorem Mq {ix:List Nat}:kS ix env=fun d=>some d::ix.map fun i=>(env[i]?).join:=Eq.trans rfl rfl
@[simp] theorem Jt:tt1 env h=.ok true h:=Eq.trans rfl rfl
noncomputable def G_ (tg:D->En->Hh->R En) (body:MS) (ds:List D):Fl->Hh->R Fl:=fun fl h2=>match fl with
 | .nx e=>dw tg body ds e h2
 | .ct e=>dw tg body ds e h2
 | .bk e=>.ok (.nx e) h2
 | .rt d=>.ok (.rt d) h2
theorem FV {tg:D->En->Hh->R En} {body:MS}:dw tg body [] env h=.ok (.nx env) h:=rfl
theorem fu {tg:D->En->Hh->R En} {body:MS} {d:D} {ds:List D}:dw tg body (d::ds) env h=(tg d env h).bind fun e1 h1=>(body e1 h1).bind (G_ tg body ds):=rfl
@[simp] theorem pZ {tg:D->En->Hh->R En} {body:MS} {ds:List D} {e:En}:G_ tg body ds (.nx e) h=dw tg body ds e h:=Eq.trans rfl rfl
@[simp] theorem Mb {tg:D->En->Hh->R En} {body:MS} {ds:List D} {d:D}:G_ tg body ds (.rt d) h=.ok (.rt d) h:=Eq.trans rfl rfl
theorem AX (ns:List Int):gL (ns.map D.int)=(List.range ns.length).map fun(i:Nat)=>D.tup [.int i,.int (gI ns i)]:=by
 unfold gL
 rw[List.length_map]
 apply List.map_congr_left
 intro i hi
 have hi:i<ns.length:=List.mem_range.mp hi
 rw[List.getD_eq_getElem?_getD,List.getElem?_map,List.getElem?_eq_getElem hi,iF hi];rfl
theorem v_ {σ X:Type} {tg:D->En->Hh->R En} {body:MS} (E:σ->En) (G:σ->Hh) (enc:X->D) (f:σ->X->σ) (I:List X->σ->Prop) (st:∀s x r,I (x::r) s->I r (f s x)/\((tg (enc x) (E s) (G s)).bind body=.ok (.nx (E (f s x))) (G (f s x))\/(tg (enc x) (E s) (G s)).bind body=.ok (.ct (E (f s x))) (G (f s x)))) :
  ∀(xs:List X) (s:σ),I xs s->dw tg body (xs.map enc) (E s) (G s)=.ok (.nx (E (xs.foldl f s))) (G (xs.foldl f s))/\I [] (xs.foldl f s)
 | [],s,i=>⟨rfl,i⟩
 | x::xs,s,i=>by
  obtain⟨i1,e⟩:=st s x xs i
  obtain⟨e2,i2⟩:=v_ E G enc f I st xs (f s x) i1
  refine⟨?_,i2⟩
  rw[List.map_cons,dw]
  rw[<- dm]
  rcases e with e | e<;>rw[e]<;>exact e2
theorem comp_map {X:Type} {tt:MT} {te:ME} {ee:D->En} (enc:X->D) (p:X->Bool) (g:X->D):∀(xs:List X),(∀x∈xs,tt (ee (enc x)) h=.ok (p x) h/\(p x=true->te (ee (enc x)) h=.ok (g x) h)) →
  df tt te ee (xs.map enc) h=.ok ((xs.filter p).map g) h
 | [],_=>rfl
 | x::xs,st=>by
  obtain⟨e1,e2⟩:=st x List.mem_cons_self
  have ih:=comp_map enc p g xs fun y hy=>st y (List.mem_cons_of_mem _ hy)
  rw[List.map_cons,df,e1,bV]
  cases hp:p x with
  | false=>rw[if_neg Bool.false_ne_true,ih,List.filter_cons_of_neg (by simp[hp])]
  | true=>rw[if_pos rfl,e2 hp,bV,ih,bV,List.filter_cons_of_pos hp,List.map_cons]
theorem BO {X:Type} {te:ME} {ee:D->En} (enc:X->D) (g:X->D) (xs:List X) (st:∀x∈xs,te (ee (enc x)) h=.ok (g x) h):df tt1 te ee (xs.map enc) h=.ok (xs.map g) h:=by
 have:=comp_map (tt:=tt1) (ee:=ee) (h:=h) enc (fun _=>true) g xs fun x hx=>⟨rfl,fun _=>st x hx⟩
 rw[List.filter_eq_self.mpr fun _ _=>rfl] at this
 exact this
theorem tO (n:Nat):bT 0 n=(List.range n).map fun(i:Nat)=>D.int i:=by
 unfold bT
 apply List.map_congr_left
 intro i _
 rw[Int.zero_add]
theorem Am {n:Nat} {te:ME} {ee:D->En} (g:Nat->D) (st:∀i,i<n->te (ee (.int (i:Nat))) h=.ok (g i) h) :
  df tt1 te ee (bT 0 n) h=.ok ((List.range n).map g) h:=by
 rw[tO,BO (fun(i:Nat)=>D.int i) g (List.range n) fun i hi=>st i (List.mem_range.mp hi)]
theorem zv {σ:Type} {tg:D->En->Hh->R En} {body:MS} (enc:Nat->D) (n:Nat) (E:σ->En) (G:σ->Hh) (f:σ->Nat->σ) (I:Nat->σ->Prop) (s:σ) (i0:I 0 s)
  (st:∀i s,i<n->I i s->I (i+1) (f s i)/\((tg (enc i) (E s) (G s)).bind body=.ok (.nx (E (f s i))) (G (f s i))\/(tg (enc i) (E s) (G s)).bind body=.ok (.ct (E (f s i))) (G (f s i)))) :
  dw tg body ((List.range n).map enc) (E s) (G s)=.ok (.nx (E ((List.range n).foldl f s))) (G ((List.range n).foldl f s))/\I n ((List.range n).foldl f s):=by
 have key:∀(k:Nat) (xs:List Nat) (s:σ),(∀j x,xs[j]?=some x->x=k+j/\x<n)->I k s->dw tg body (xs.map enc) (E s) (G s)=.ok (.nx (E (xs.foldl f s))) (G (xs.foldl f s))/\I (k+xs.length) (xs.foldl f s):=by
  intro k xs
  induction xs generalizing k with
  | nil=>intro s _ i;exact⟨rfl,i⟩
  | cons x xs ih=>
   intro s hx i
   obtain⟨h1,h2⟩:=hx 0 x rfl
   have h1:x=k:=by omega
   subst h1
   obtain⟨i1,e⟩:=st x s h2 i
   obtain⟨e2,i2⟩:=ih (x+1) (f s x) (fun j y hj=>by have:=hx (j+1) y hj;omega) i1
   refine⟨?_,by rw[List.length_cons,List.foldl_cons];rw[show x+(xs.length+1)=x+1+xs.length by omega];exact i2⟩
   rw[List.map_cons,dw,<- dm]
   rcases e with e | e<;>rw[e]<;>exact e2
 have hr:∀j x,(List.range n)[j]?=some x->x=0+j/\x<n:=fun j x hj=>by
  have hl:j<n:=by
   by_cases hl:j<n
   ·exact hl
   ·rw[List.getElem?_eq_none (by simpa using hl)] at hj;cases hj
  rw[List.getElem?_range hl] at hj
  cases hj
  omega
 have:=key 0 (List.range n) s hr i0
 rw[List.length_range,Nat.zero_add] at this
 exact this
theorem Bx {σ:Type} {tg:D->En->Hh->R En} {body:MS} (lo:Int) (n:Nat) (E:σ->En) (G:σ->Hh) (f:σ->Nat->σ) (I:Nat->σ->Prop) (s:σ) (i0:I 0 s)
  (st:∀i s,i<n->I i s->I (i+1) (f s i)/\((tg (.int (lo+(i:Nat))) (E s) (G s)).bind body=.ok (.nx (E (f s i))) (G (f s i))\/(tg (.int (lo+(i:Nat))) (E s) (G s)).bind body=.ok (.ct (E (f s i))) (G (f s i)))) :
  dw tg body (bT lo n) (E s) (G s)=.ok (.nx (E ((List.range n).foldl f s))) (G ((List.range n).foldl f s))/\I n ((List.range n).foldl f s):=
 zv (fun(i:Nat)=>D.int (lo+i)) n E G f I s i0 st
theorem sZ {σ X:Type} {te:ME} {ee:D->En} (G:σ->Hh) (enc:X->D) (f:σ->X->σ) (g:σ->X->D) (I:List X->σ->Prop) (st:∀s x r,I (x::r) s->I r (f s x)/\te (ee (enc x)) (G s)=.ok (g s x) (G (f s x))) :
  ∀(xs:List X) (s:σ),I xs s->∃ys,df tt1 te ee (xs.map enc) (G s)=.ok ys (G (xs.foldl f s))/\I [] (xs.foldl f s)/\ys=(xs.foldl (fun(a:σ × List D) x=>(f a.1 x,a.2++[g a.1 x])) (s,[])).2
 | [],s,i=>⟨[],rfl,i,rfl⟩
 | x::xs,s,i=>by
  obtain⟨i1,e⟩:=st s x xs i
  obtain⟨ys,e2,i2,e3⟩:=sZ G enc f g I st xs (f s x) i1
  refine⟨g s x::ys,?_,i2,?_⟩
  ·rw[List.map_cons,df,Jt,bV,if_pos rfl,e,bV,e2];rfl
  ·rw[List.foldl_cons,e3]
   have key:∀(xs:List X) (s:σ) (a b:List D),(xs.foldl (fun(a:σ × List D) x=>(f a.1 x,a.2++[g a.1 x])) (s,a++b)).2=a++(xs.foldl (fun(a:σ × List D) x=>(f a.1 x,a.2++[g a.1 x])) (s,b)).2:=by
    intro xs
    induction xs with
    | nil=>intro s a b;rfl
    | cons x xs ih=>intro s a b;rw[List.foldl_cons,List.foldl_cons,List.append_assoc];exact ih _ _ _
   have:=key xs (f s x) [g s x] []
   simpa using this.symm
noncomputable def Wf (h:Hh):Prop:=h.all (rD h.length)=true
mutual
theorem AD {j k:Nat} (h:j<=k):∀(d:D),js j d=true->js k d=true
 | .non,_=>rfl | .bl _,_=>rfl | .int _,_=>rfl | .str _,_=>rfl | .fn _,_=>rfl | .edic,_=>rfl | .exc _ _,_=>rfl
 | .clo _ ds,e=>by simp only[js] at e ⊢;exact dH h ds e
 | .ref n,e=>by simp only[js,decide_eq_true_eq] at e ⊢;omega
 | .tup ds,e=>by simp only[js] at e ⊢;exact dH h ds e
 | .frl ds,e=>by simp only[js] at e ⊢;exact dH h ds e
 | .scr ds,e=>by simp only[js] at e ⊢;exact dH h ds e
theorem dH {j k:Nat} (h:j<=k):∀(ds:List D),b_ j ds=true->b_ k ds=true
 | [],_=>rfl
 | d::ds,e=>by
  simp only[b_,Bool.and_eq_true] at e ⊢
  exact⟨AD h d e.1,dH h ds e.2⟩
end
theorem AE {j k:Nat} (h:j<=k) (o:O) (e:rD j o=true):rD k o=true:=by
 cases o with
 | lst ds=>exact dH h ds e
 | set n=>rfl
 | dic kvs=>exact dH h _ e
 | dit kvs=>exact dH h _ e
theorem n4 {k:Nat}:∀{ds:List D},(∀d∈ds,js k d=true)->b_ k ds=true
 | [],_=>rfl
 | d::ds,h=>by simp only[b_,Bool.and_eq_true];exact⟨h d List.mem_cons_self,n4 fun e he=>h e (List.mem_cons_of_mem _ he)⟩
@[simp] theorem tH {X:Type} {k:Nat} {f:X->D} {xs:List X} (h:∀x,js k (f x)=true):b_ k (xs.map f)=true:=n4 fun d hd=>by
 obtain⟨x,_,rfl⟩:=List.mem_map.mp hd;exact h x
@[simp] theorem yi {k:Nat} {ns:List Int}:b_ k (ns.map D.int)=true:=tH fun _=>rfl
theorem Wf.nil:Wf []:=rfl
theorem Wf.app {h:Hh} {o:O} (w:Wf h) (l:rD (h.length+1) o=true):Wf (h++[o]):=by
 unfold Wf at w ⊢
 rw[List.all_append,List.length_append,List.length_singleton]
 simp only[List.all_cons,List.all_nil,Bool.and_true,Bool.and_eq_true]
 refine⟨?_,l⟩
 rw[List.all_eq_true] at w ⊢
 exact fun x hx=>AE (Nat.le_succ _) x (w x hx)
noncomputable def deep:Nat->D->Bool
 | 0,_=>false
 | f+1,d=>match d with
  | .ref _=>false
  | .scr _=>false
  | .tup ds=>ds.all (deep f)
  | .frl ds=>ds.all (deep f)
  | .clo _ ds=>b_ 0 ds
  | _=>true
theorem pE {f:D->Option D}:∀{ds:List D},(∀d∈ds,f d=some d)->mV f ds=some ds
 | [],_=>rfl
 | d::ds,h=>by simp only[mV,h d List.mem_cons_self,pE fun e he=>h e (List.mem_cons_of_mem _ he)]
theorem j9 {k:Nat} {h:Hh}:∀(f:Nat) (d:D),deep f d=true->iq k h f d=some d
 | 0,_,e=>by cases e
 | f+1,d,e=>by
  unfold deep at e
  unfold iq
  cases d with
  | ref n=>cases e
  | scr n=>cases e
  | tup ds=>simp only[List.all_eq_true] at e;show Option.map D.tup (mV (iq k h f) ds)=_;rw[pE (f:=iq k h f) fun d hd=>j9 f d (e d hd)];rfl
  | frl ds=>simp only[List.all_eq_true] at e;show Option.map D.frl (mV (iq k h f) ds)=_;rw[pE (f:=iq k h f) fun d hd=>j9 f d (e d hd)];rfl
  | clo g ds=>show(if b_ 0 ds=true then some (D.clo g ds) else none)=_;rw[if_pos (show b_ 0 ds=true from e)]
  | _=>rfl
theorem eV {d:D} {t:Hh} (w:Wf h) (e:deep 8 d=true):cJ h d (h++t)=.ok d h:=by
 unfold cJ
 rw[List.take_left' rfl,if_pos (show h.all (rD h.length)=true from w),j9 8 d e]
theorem oh {d:D} (w:Wf h) (e:deep 8 d=true):cJ h d h=.ok d h:=by
 have:=eV (t:=[]) w e
 simpa using this
theorem tD {ds:List D} {t:Hh} (w:Wf h) (e:ds.all (deep 7)=true):cJ h (.ref h.length) (h++.lst ds::t)=.ok (.frl ds) h:=by
 unfold cJ
 rw[List.take_left' rfl,if_pos (show h.all (rD h.length)=true from w)]
 have:iq h.length (h++.lst ds::t) 8 (.ref h.length)=some (.frl ds):=by
  unfold iq
  simp only[Nat.lt_irrefl,if_false,fX]
  rw[List.all_eq_true] at e
  rw[pE fun d hd=>j9 7 d (e d hd)];rfl
 rw[this]
@[simp] theorem JB {f:Nat} {i:Int}:deep (f+1) (.int i)=true:=rfl
@[simp] theorem KI {f:Nat} {i:Bool}:deep (f+1) (.bl i)=true:=rfl
@[simp] theorem JV {f:Nat} {i:Str}:deep (f+1) (.str i)=true:=rfl
@[simp] theorem IW {f:Nat}:deep (f+1) .non=true:=rfl
@[simp] theorem IJ {f:Nat}:deep (f+1) .edic=true:=rfl
@[simp] theorem Kv {f:Nat} {ds:List D}:deep (f+1) (.tup ds)=ds.all (deep f):=rfl
@[simp] theorem JI {f:Nat} {ds:List D}:deep (f+1) (.frl ds)=ds.all (deep f):=rfl
end
noncomputable def Ok {β:Type} (r:R β) (Q:β->Hh->Prop):Prop:=∃b h,r=.ok b h/\Q b h
section
variable {β γ:Type} {Q:β->Hh->Prop} {h h1 h2:Hh}
theorem Ok.mono {r:R β} {Q':β->Hh->Prop} (o:Ok r Q) (q:∀b h,Q b h->Q' b h):Ok r Q':=let ⟨b,h,e,z⟩:=o;⟨b,h,e,q b h z⟩
end
theorem u_ {X:Type} {tg:D->En->Hh->R En} {body:MS} {QS:Fl->Hh->Prop} (enc:X->D) (I:En->Hh->Prop) :
  ∀(xs:List X) (env:En) (h:Hh),I env h->(∀x e h,x∈xs->I e h->Ok ((tg (enc x) e h).bind body) fun fl h2=>match fl with
   | .nx e=>I e h2
   | .ct e=>I e h2
   | .bk e=>QS (.nx e) h2
   | .rt d=>QS (.rt d) h2)->(∀e h,I e h->QS (.nx e) h)->Ok (dw tg body (xs.map enc) env h) QS
 | [],env,h,i,_,q=>⟨_,_,rfl,q _ _ i⟩
 | x::xs,env,h,i,st,q=>by
  obtain⟨fl,h2,e,z⟩:=st x env h List.mem_cons_self i
  rw[List.map_cons,dw,<- dm,e,bV]
  cases fl with
  | nx e'=>exact u_ enc I xs e' h2 z (fun y e h hy=>st y e h (List.mem_cons_of_mem _ hy)) q
  | ct e'=>exact u_ enc I xs e' h2 z (fun y e h hy=>st y e h (List.mem_cons_of_mem _ hy)) q
  | bk e=>exact⟨_,_,rfl,z⟩
  | rt d=>exact⟨_,_,rfl,z⟩
end L2.FE
namespace L2.FE
open PySem PySem.Spec PyProof.Rows
noncomputable def Gb (h:Hh) (n:Nat):Option (List (Key × D)):=match h[n]? with
 | some (.dic kvs)=>some kvs
 | _=>none
noncomputable abbrev PD (K:PySem.W.Frag) (g:GG) (α:List Addr) (H:Hp):List (Key × D)->List (Key × V)->Prop:=Paired (fun(a:Key × D) (b:Key × V)=>a.1=b.1/\aM K g α H a.2 b.2)
section
variable {K:PySem.W.Frag} {g:GG} {α:List Addr} {H:Hp} {h:Hh}
theorem aZ.dic {n:Nat} {p:Addr} {kvs:List (Key × D)} (r:aZ K g α H h) (e:Gb h n=some kvs) (hp:α[n]?=some p):∃kws,H p=some (.dK kws)/\PD K g α H kvs kws:=by
 unfold Gb at e
 cases eo:h[n]? with
 | none=>rw[eo] at e;cases e
 | some o=>
  rw[eo] at e
  cases o with
  | dic k=>cases e;exact r.here n p _ hp eo
  | _=>cases e
theorem PD.ext {α':List Addr} {H':Hp} {kvs:List (Key × D)} {kws:List (Key × V)} (e:Ext K α H α' H') (r:PD K g α H kvs kws):PD K g α' H' kvs kws:=Paired.Kz e.toEx0 r
theorem aF.dic {Q:VK} {kvs:List (Key × D)} {kws:List (Key × V)} {p:Addr} (w:aF K g α H Q (.ref h.length) (h++[.dic kvs])) (r:aZ K g α H h) (rs:PD K g α H kvs kws) (hp:H p=none):Q (.ref p) (upd H p (.dK kws)):=by
 have x:=Ext.push (K:=K) (α:=α) (o:=.dK kws) hp
 exact w _ _ _ x (r.push hp ⟨_,aP,rs.ext x⟩) (.ref (by rw[<- r.len];simp))
end
noncomputable def Iy:D->Option Key
 | .int i=>some (.inl i)
 | .str x=>some (.inr x)
 | _=>none
theorem GJ {K:PySem.W.Frag} {g:GG} {α:List Addr} {H:Hp} {d:D} {v:V} {k:Key} (r:aM K g α H d v) (e:Iy d=some k):v=kV k:=by
 cases r<;>cases e<;>rfl
section
variable {X:Cx} {g:GG} {ε:EE} {o i e f:Expr} {mo mi me mf:ME} {pos:Pos}
theorem un1 {A:Around} (h:A.units+64<cLine):A.units+1<cLine:=by omega
theorem yU:PE X (.Dict [] [] pos) (tM X.K g ε (cC .edic)):=
 PE.imp (PE.frz C4) fun σ H Q ⟨α,env,h,s,w⟩ p hp=>by
  refine .inr ⟨p,_,rfl,aP,trivial,fun o=>?_⟩
  rw[D4]
  exact(show aF X.K g α H Q .edic h from w) _ _ α (Ext.fresh hp) (s.heap.grow hp) (.edic aP)
theorem xt:∀(ks:List V) (us:List Value),us.length=ks.length->(∀(j:Nat) (u:Value),us[j]?=some u->∃v,ks[j]?=some v/\RelV v u)->Vals ks us
 | [],[],_,_=>.nil
 | [],_::_,e,_=>by simp at e
 | _::_,[],e,_=>by simp at e
 | k::ks,u::us,e,h=>by
  obtain⟨v,e1,r⟩:=h 0 u rfl
  cases e1
  exact .cons r (xt ks us (by simpa using e) fun j w hj=>h (j+1) w hj)
end
end L2.FE
namespace L2
open PySem PySem.Spec PyProof.Rows
theorem Cg (o:Obj) (f:Array Value->Array Value):(Obj.mapFields f o).cls=o.cls:=Obj.cls_mapFields _ _
theorem AM (o:Obj) (f:Array Value->Array Value):(Obj.mapFields f o).dict=o.dict:=by
 unfold Obj.mapFields
 split<;>rfl
structure Gn (h h':Heap):Prop where
 up:h.UpToSlots h'
 there:∀b o,h.get? b=some o->∃o',h'.get? b=some o'
theorem Gn.trans {h h1 h2:Heap} (a:Gn h h1) (b:Gn h1 h2):Gn h h2:=⟨a.up.trans b.up,fun c o q=>let ⟨_,q'⟩:=a.there c o q;b.there c _ q'⟩
structure Fly (B:Heap) (l:List Env) (e:Addr) (C:Value) (dc:Option Addr) (fl:Value) (h:Heap):Prop where
 stays:B.StaysIn h
 new:B.get? e=none
 fr:h.FunFrames B l
 obj:∃oe ws T oT ts,h.get? e=some oe/\oe.cls=C/\oe.dict=dc/\oe.data=.fields ws/\ws[1]?=some (.ref T)/\B.get? T=none/\T≠e/\h.get? T=some oT/\oT.data=.fields ts/\ts[3]?=some fl
theorem Fly.pop {B:Heap} {env:Env} {l:List Env} {e:Addr} {C:Value} {dc:Option Addr} {fl:Value} {h:Heap} (x:Fly B (env::l) e C dc fl h):Fly B l e C dc fl h:=
 ⟨x.stays,x.new,x.fr.2.2,x.obj⟩
theorem Fly.there {B:Heap} {l:List Env} {e:Addr} {C:Value} {dc:Option Addr} {fl:Value} {h:Heap} (x:Fly B l e C dc fl h):∃oe ws,h.get? e=some oe/\oe.cls=C/\oe.dict=dc/\oe.data=.fields ws:=by
 obtain⟨oe,ws,T,oT,ts,a,b,c,d,_⟩:=x.obj
 exact⟨oe,ws,a,b,c,d⟩
section
variable {M:Model} {A:Around} {E:Value->Shared->Prop} {s:Shared} {B:Heap} {env:Env} {l outer:List Env} {e L:Addr} {C:Value} {dc:Option Addr} {fl:Value} {Q:Unit->Shared->Prop}
theorem uf (x:Fly B l e C dc fl s.heap) (k:∀h',Fly B l e C dc .none h'->Gn s.heap h'->Q () { s with heap:=h' }):wpAny M A (setFlight (.ref e) none) Q E s:=by
 obtain⟨st,nw,fr,oe,ws,T,oT,ts,q1,q2,q3,q4,q5,q6,q7,q8,q9,q10⟩:=x
 have hlt:3<ts.size:=(Array.getElem?_eq_some_iff.mp q10).1
 have off:∀b,b≠T->(s.heap.update T (Obj.mapFields (·.setIfInBounds 3 ((none:Option Addr).elim Value.none fun f=>rawInt f)))).get? b=s.heap.get? b:=fun b z=>Heap.get?_update_other _ _ (Ne.symm z)
 have noF:∀b o,s.heap.get? b=some o->(∀vs,o.data≠.fields vs)->b≠T:=by
  rintro b o q n rfl
  rw[q8] at q;cases q;exact n ts q9
 unfold setFlight
 refine wpAny_bind (wpAny_field q1 q4 q5 ?_)
 rw[if_pos (by simp:(Value.ref T != Value.none)=true)]
 refine wpAny_setField q8 q9 hlt (k _ ⟨fun b o q=>(off b ?_).trans (st b o q),nw,fr.of_keeps fun b o q n=>⟨o,(off b (noF b o q n)).trans q,rfl⟩,oe,ws,T,_,_,(off e (Ne.symm q7)).trans q1,q2,q3,q4,q5,q6,q7,Heap.get?_update_self _ q8 (Obj.isFreed_of_fields (Obj.data_mapFields q9 _)),Obj.data_mapFields q9 _,by simp[hlt]⟩
  ⟨fun b o q n=>⟨o.slots,(off b (noF b o q n)).trans q⟩,fun b o q=>?_⟩)
 ·rintro rfl;rw[q6] at q;cases q
 ·by_cases z:b=T
  ·subst z;exact⟨_,Heap.get?_update_self _ q8 (Obj.isFreed_of_fields (Obj.data_mapFields q9 _))⟩
  ·exact⟨o,(off b z).trans q⟩
theorem tf {head:Value} {had:Bool} {oe:Obj} {ws:Array Value} (hA:A.frames=some (env::outer)) (fr:s.heap.FunFrames B (env::outer)) (hL:env.frame=some L) (q1:s.heap.get? e=some oe) (st:B.StaysIn s.heap) (nw:B.get? e=none) (q4:oe.data=.fields ws) (hlt:1<ws.size)
  (k:∀h',Fly B (env::outer) e oe.cls oe.dict (rawInt L) h'->Gn s.heap h'->Q () { s with heap:=h' }) :
  wpAny M A (do let fo ← frameOf env;let pl ← entryPlaceOf L had;let t ← EntryCells.newEntry head fo .none (rawInt L) .none pl;setField (.ref e) 1 t) Q E s:=by
 have hnf:e∉(env::outer).filterMap (·.frame):=fun z=>by
  obtain⟨_,o,ho,n⟩:=fr.mem z
  rw[q1] at ho;cases ho;exact n ws q4
 refine wpAny_bind (wpAny_frameOf_fun hA fr hL fun h1 so=>wpAny_bind (wpAny_entryPlaceOf fun pl hpl=>?_))
 obtain⟨z1,z2,z3⟩:=so
 unfold EntryCells.newEntry newFields
 refine wpAny_bind (wpAny_newObj_type ?_ (hpl.sizeOk5 _ _ _ _ _))
 have e1:h1.get? e=some oe:=by rw[z2 e hnf];exact q1
 have st1:B.StaysIn h1:=fun b o q=>by
  rw[z2 b fun z=>by rw[(fr.mem z).1] at q;cases q]
  exact st b o q
 generalize hT:({ cls:=.type "traceback", dict:=none,data:=.fields ([head,.ref L,.none,rawInt L,.none]++(if pl.isEmpty then List.replicate 6 Value.none else pl)).toArray }:Obj)=oT
 have e2:(h1.push oT).get? e=some oe:=Heap.get?_push_of_some _ e1
 have dT:oT.data=.fields ([head,.ref L,.none,rawInt L,.none]++(if pl.isEmpty then List.replicate 6 Value.none else pl)).toArray:=by rw[<- hT]
 have ne:h1.objs.size≠e:=Nat.ne_of_gt (Heap.lt_size e1)
 refine wpAny_setField e2 q4 hlt (k _ ?_ ?_)
 ·have off:∀b o,b≠e->h1.get? b=some o->((h1.push oT).update e (Obj.mapFields (·.setIfInBounds 1 (Value.ref h1.objs.size)))).get? b=some o:=fun b o n q=>by
   rw[Heap.get?_update_other _ _ (Ne.symm n)]
   exact Heap.get?_push_of_some _ q
  have noF:∀b o,h1.get? b=some o->(∀vs,o.data≠.fields vs)->b≠e:=by
   rintro b o q n rfl
   rw[e1] at q;cases q;exact n ws q4
  refine⟨fun b o q=>off b o ?_ (st1 b o q),nw,?_,_,_,h1.objs.size,oT,_,Heap.get?_update_self _ e2 (Obj.isFreed_of_fields (Obj.data_mapFields q4 _)),Cg _ _,AM _ _,Obj.data_mapFields q4 _,by simp[hlt],?_,ne,?_,dT,?_⟩
  ·rintro rfl;rw[nw] at q;cases q
  ·exact fr.of_keeps fun b o q n=>by
    obtain⟨sl,q'⟩:=z3 b o q
    exact⟨_,off b _ (noF b _ q' n) q',rfl⟩
  ·cases q:B.get? h1.objs.size with
   | none=>rfl
   | some o=>exact absurd (Heap.lt_size (st1 _ _ q)) (Nat.lt_irrefl _)
  ·rw[Heap.get?_update_other _ _ (Ne.symm ne)]
   rw[<- hT]
   exact Heap.get?_push_size h1 rfl
  ·first | (simp;done) | (rcases hpl with rfl | ⟨_,_,_,_,_,_,_,rfl⟩<;>simp)
 ·refine⟨fun b o q n=>?_,fun b o q=>?_⟩
  ·obtain⟨sl,q'⟩:=z3 b o q
   refine⟨sl,?_⟩
   rw[Heap.get?_update_other _ _ ?_]
   ·exact Heap.get?_push_of_some _ q'
   ·rintro rfl
    rw[q1] at q;cases q;exact n ws q4
  ·obtain⟨sl,q'⟩:=z3 b o q
   by_cases z:b=e
   ·subst z;exact⟨_,Heap.get?_update_self _ e2 (Obj.isFreed_of_fields (Obj.data_mapFields q4 _))⟩
   ·exact⟨_,by rw[Heap.get?_update_other _ _ (Ne.symm z)];exact Heap.get?_push_of_some _ q'⟩
theorem Aq {oe:Obj} {ws:Array Value} (hA:A.frames=some (env::outer)) (fr:s.heap.FunFrames B (env::outer)) (hL:env.frame=some L) (q1:s.heap.get? e=some oe) (st:B.StaysIn s.heap) (nw:B.get? e=none) (q4:oe.data=.fields ws) (q5:ws[1]?=some .none)
  (k:∀h',Fly B (env::outer) e oe.cls oe.dict (rawInt L) h'->Gn s.heap h'->Q () { s with heap:=h' }):wpAny M A (noteFrame (.ref e) env) Q E s:=by
 unfold noteFrame
 simp only[hL]
 refine wpAny_bind (wpAny_field q1 q4 q5 ?_)
 rw[if_neg (by decide)]
 exact tf hA fr hL q1 st nw q4 (Array.getElem?_eq_some_iff.mp q5).1 k
theorem Bu (hA:A.frames=some (env::outer)) (hL:env.frame=some L) (x:Fly B (env::outer) e C dc .none s.heap)
  (k:∀h',Fly B (env::outer) e C dc (rawInt L) h'->Gn s.heap h'->Q () { s with heap:=h' }):wpAny M A (noteFrame (.ref e) env) Q E s:=by
 obtain⟨st,nw,fr,oe,ws,T,oT,ts,q1,q2,q3,q4,q5,q6,q7,q8,q9,q10⟩:=x
 have off:∀b,b≠T->(s.heap.update T (Obj.mapFields (·.setIfInBounds 3 Value.none))).get? b=s.heap.get? b:=fun b z=>Heap.get?_update_other _ _ (Ne.symm z)
 have noF:∀b o,s.heap.get? b=some o->(∀vs,o.data≠.fields vs)->b≠T:=by
  rintro b o q n rfl
  rw[q8] at q;cases q;exact n ts q9
 unfold noteFrame
 simp only[hL]
 refine wpAny_bind (wpAny_field q1 q4 q5 ?_)
 rw[if_pos (by simp:(Value.ref T != Value.none)=true)]
 refine wpAny_bind (wpAny_field q8 q9 q10 ?_)
 rw[if_neg (by simp[rawInt]:¬ ((Value.none == rawInt L)=true))]
 refine wpAny_bind (wpAny_setField q8 q9 (Array.getElem?_eq_some_iff.mp q10).1 ?_)
 refine tf (B:=B) (oe:=oe) hA (fr.of_keeps fun b o q n=>⟨o,(off b (noF b o q n)).trans q,rfl⟩) hL ((off e (Ne.symm q7)).trans q1) (fun b o q=>(off b ?_).trans (st b o q)) nw q4 (Array.getElem?_eq_some_iff.mp q5).1 fun h' y u=>?_
 ·rintro rfl;rw[q6] at q;cases q
 ·subst q2 q3
  refine k h' y ⟨fun b o q n=>u.up b o ((off b (noF b o q n)).trans q) n,fun b o q=>?_⟩
  by_cases z:b=T
  ·subst z;exact u.there _ _ (Heap.get?_update_self _ q8 (Obj.isFreed_of_fields (Obj.data_mapFields q9 _)))
  ·exact u.there b o ((off b z).trans q)
end
theorem Cj {P:Program} {w:World} {H:Hp} {h:Heap} {a:Addr} {o:HO} (x:bM P w H h a o):∃u,h.get? a=some u:=by
 cases o with
 | lst xs=>obtain⟨_,_,_,_,e⟩:=x;exact⟨_,e⟩
 | tup xs=>obtain⟨_,_,_,ob,e,_⟩:=x;exact⟨_,e⟩
 | dK kvs=>obtain⟨_,_,_,_,o,_,_,e,_⟩:=x;exact⟨_,e⟩
 | dT kvs=>obtain⟨_,_,_,_,o,_,_,e,_⟩:=x;exact⟨_,e⟩
 | set S n=>obtain⟨o,_,_,_,e,_⟩:=x;exact⟨_,e⟩
 | ins C dx fs=>obtain⟨_,_,_,e,_⟩:=x;exact⟨_,e⟩
 | own y=>exact x
 | xd fs=>obtain⟨_,⟨_,_,_,e,_⟩,_⟩:=x;exact⟨_,e⟩
 | rng lo hi=>obtain⟨_,_,_,e⟩:=x;exact⟨_,e⟩
 | frz ob u=>obtain⟨e,_⟩:=x;exact⟨_,e⟩
 | tbl ps=>exact⟨_,(show h.get? a=some _ from x)⟩
 | met f y=>exact⟨_,(show h.get? a=some _ from x)⟩
 | ext φ=>obtain⟨_,e,_⟩:=x;exact e
noncomputable def Arr (B:Heap) (l:List Env) (e:Addr) (C:Value) (dc:Option Addr) (h:Heap):Prop:=
 (B.StaysIn h/\B.get? e=none/\h.FunFrames B l/\∃oe ws,h.get? e=some oe/\oe.cls=C/\oe.dict=dc/\oe.data=.fields ws/\ws[1]?=some .none)\/Fly B l e C dc .none h
theorem Arr.stays {B:Heap} {l:List Env} {e:Addr} {C:Value} {dc:Option Addr} {h:Heap} (x:Arr B l e C dc h):B.StaysIn h:=x.elim (·.1) (·.stays)
theorem Arr.new {B:Heap} {l:List Env} {e:Addr} {C:Value} {dc:Option Addr} {h:Heap} (x:Arr B l e C dc h):B.get? e=none:=x.elim (·.2.1) (·.new)
theorem Arr.fr {B:Heap} {l:List Env} {e:Addr} {C:Value} {dc:Option Addr} {h:Heap} (x:Arr B l e C dc h):h.FunFrames B l:=x.elim (·.2.2.1) (·.fr)
section
variable {M:Model} {A:Around} {E:Value->Shared->Prop} {s:Shared} {B:Heap} {env:Env} {outer:List Env} {e L:Addr} {C:Value} {dc:Option Addr} {Q:Unit->Shared->Prop}
theorem wW (hA:A.frames=some (env::outer)) (hL:env.frame=some L) (x:Arr B (env::outer) e C dc s.heap)
  (k:∀h',Fly B (env::outer) e C dc (rawInt L) h'->Gn s.heap h'->Q () { s with heap:=h' }):wpAny M A (noteFrame (.ref e) env) Q E s:=by
 rcases x with⟨st,nw,fr,oe,ws,q1,rfl,rfl,q4,q5⟩ | x
 ·exact Aq hA fr hL q1 st nw q4 q5 k
 ·exact Bu hA hL x k
theorem AY (hA:A.frames=some (env::outer)) (hL:env.frame=some L) (x:Arr B (env::outer) e C dc s.heap)
  (k:∀h',Fly B outer e C dc .none h'->Gn s.heap h'->Q () { s with heap:=h' }):wpAny M A (leaving env (.ref e)) Q E s:=by
 unfold leaving
 exact wpAny_bind (wW hA hL x fun h1 x1 u1=>uf x1 fun h2 x2 u2=>k h2 x2.pop (u1.trans u2))
end
structure Cov (B:Heap) (fs:List Addr) (bO:Hp) (h₀:Heap) (H':Hp):Prop where
 trk:∀b o,H' b=some o->∃u,B.get? b=some u
 old:∀b o,h₀.get? b=some o->bO b=none->b∉fs->B.get? b=some o
noncomputable def CXE (P:Program) (w:World):CXT:=fun outer H s E e s'=>∃(H':Hp) (B:Heap) (a:Addr) (C:Value) (dc:Option Addr),e=.ref a/\s'.os=s.os/\AllBare s'.gens/\Un (frs outer) [] H H' s.heap s'.heap/\HOk P w H' s'.heap/\Fly B outer a C dc .none s'.heap/\Cov B (frs outer) H s.heap H'/\E C dc H'
noncomputable def XeB (X:Cx) (E:XK) (e:Value) (s':Shared):Prop:=∃(σ:St) (H':Hp) (B:Heap) (a:Addr) (C:Value) (dc:Option Addr),e=.ref a/\Inv X [] σ H' s'/\Arr B X.stack a C dc s'.heap/\Cov B X.fs X.bO X.bh.heap H'/\(∀p∈X.pn,B.get? p.1=some p.2)/\E C dc H'
noncomputable def iC (X:Cx) (E:XK):Prop:=∀e s',XeB X E e s'->X.xe e s'
structure Plain (X:Cx):Prop where
 ex:X.ex=[]
 stk:X.stack=X.env::X.outer/\X.env.frame=some X.env.locals
theorem HOk.flew {P:Program} {w:World} {H':Hp} {B h h':Heap} (x:HOk P w H' h) (tr:∀b o,H' b=some o->∃u,B.get? b=some u) (st:B.StaysIn h) (st':B.StaysIn h'):HOk P w H' h':=fun a o e=>
 (x a o e).ke (fun b u hb q=>by
  obtain⟨u',q'⟩:∃u,B.get? b=some u:=by
   rcases hb with rfl | hb
   ·exact tr _ _ e
   ·exact tr _ _ hb
  have:=st _ _ q'
  rw[q] at this;cases this
  exact st' _ _ q') (fun _ q=>q) fun _ _ q=>q
theorem Inv.drop {X:Cx} {pins:List (Addr × Obj)} {σ:St} {H:Hp} {s:Shared} (I:Inv X pins σ H s):Inv X [] σ H s:=
 ⟨I.ok,I.os,I.bare,I.base,I.loc,I.cell,I.free,I.eI,fun p hp=>I.pin p (by simp only[List.append_nil] at hp;exact List.mem_append_left _ hp),I.hok,I.len⟩
theorem zy {fs:List Addr} {bO H':Hp} {B h₀ h h':Heap} (u:Un fs [] bO H' h₀ h) (c:Cov B fs bO h₀ H') (st':B.StaysIn h') (g:Gn h h') (nf:∀b∈fs,∀o,h.get? b=some o->∀vs,o.data≠.fields vs):Un fs [] bO H' h₀ h':=
 ⟨fun b o e n hb _=>st' b o (c.old b o e n hb),fun b o e n hb hx=>by
  obtain⟨sl,q⟩:=u.slot b o e n hb hx
  obtain⟨sl',q'⟩:=g.up b _ q (nf b hb _ q)
  exact⟨sl',q'⟩,u.free,fun b o e hx=>by
  obtain⟨o',q⟩:=u.there b o e hx
  exact g.there b o' q,u.nJ,u.l7,u.mT⟩
theorem Inv.flew {X:Cx} {σ:St} {H':Hp} {s':Shared} {B h':Heap} {t':Nat} (I:Inv X [] σ H' s') (p:Plain X) (c:Cov B X.fs X.bO X.bh.heap H') (pn:∀p∈X.pn,B.get? p.1=some p.2) (st:B.StaysIn s'.heap) (fr:s'.heap.FunFrames B X.stack) (st':B.StaysIn h') (g:Gn s'.heap h'):Inv X [] σ H' { s' with heap:=h',toks:=t' }:=by
 have cellK:∀{c':Addr} {v:Option Value},s'.heap.IsCell c' v->h'.IsCell c' v:=fun{c' v} ⟨o,ho,hd⟩=>by
  obtain⟨sl,q⟩:=g.up c' o ho fun vs z=>by rw[hd] at z;cases z
  exact⟨_,q,hd⟩
 refine⟨I.ok,I.os,I.bare,?_,?_,fun x c' e=>let ⟨v,q⟩:=I.cell x c' e;⟨v,cellK q⟩,I.free,I.eI,fun q hq=>?_,I.hok.flew c.trk st st',I.len⟩
 ·have u:=I.base
  rw[p.ex] at u ⊢
  refine zy u c st' g fun b hb o q vs z=>?_
  have:b∈X.stack.filterMap (·.frame):=by
   rw[p.stk.1,List.filterMap_cons,p.stk.2]
   exact List.mem_cons_of_mem _ hb
  obtain⟨_,o',q',n⟩:=fr.mem this
  rw[q] at q';cases q';exact n vs z
 ·obtain⟨m,hn,k⟩:=I.loc
  refine⟨m,g.up.ns hn,fun i x v a b c=>?_⟩
  obtain⟨u,r,l⟩:=k i x v a b c
  refine⟨u,r,l.imp (fun z=>z) fun⟨z,c',e,q⟩=>⟨z,c',e,cellK q⟩⟩
 ·have:=I.pin q hq
  rw[List.append_nil] at hq
  exact⟨st' _ _ (pn q hq),this.2⟩
section
variable {P:Program} {w:World} {K:PySem.W.Frag} {mg:Str->Option Value} {base:Heap}
theorem Az {N:List Str} {qual:Str} {scope:Scope} {f:Addr} {cd:Value} {A:Around} {outer:List Env} {s:Shared} {H:Hp} {E:XK}:iC (gT (CXE P w) P w K mg base N qual scope f cd A outer s H E) E:=by
 rintro e s' ⟨σ,H',B,a,C,dc,rfl,I,ar,c,_,q⟩
 have fr:=ar.fr
 have hA:(gT (CXE P w) P w K mg base N qual scope f cd A outer s H E).A.frames=some (envOfC qual scope s.heap.objs.size f cd::outer):=I.ok.frames
 refine AY hA rfl ar fun h' x g=>?_
 refine⟨H',B,a,C,dc,rfl,I.os,I.bare,zy (show Un (frs outer) [] H H' s.heap s'.heap from I.base) c x.stays g fun b hb o q vs z=>?_,I.hok.flew c.trk ar.stays x.stays,x,c,q⟩
 have:b∈(envOfC qual scope s.heap.objs.size f cd::outer).filterMap (·.frame):=List.mem_cons_of_mem _ hb
 obtain⟨_,o',q',n⟩:=(show s'.heap.FunFrames B (envOfC qual scope s.heap.objs.size f cd::outer) from fr).mem this
 rw[q] at q';cases q';exact n vs z
end
theorem pX {X:Cx} {E:XK} (p:Plain X) (fl:iC X E):Passes (CXE X.prog X.w) X E:=by
 rintro pins σ H s e s' I ⟨H',B,a,C,dc,rfl,os,bare,un,hok,x,c,q⟩
 refine fl _ _ ⟨σ,H',B,a,C,dc,rfl,(I.xA os un hok bare fun b z=>absurd z (by simp)).drop,.inr x,⟨c.trk,fun b o e n hb=>?_⟩,fun p' hp=>?_,q⟩
 rotate_left
 ·obtain⟨q1,q2,q3,q4,q5⟩:=I.pin p' (List.mem_append_left _ hp)
  refine c.old _ _ q1 q2 fun z=>?_
  rcases List.mem_cons.mp (I.ic _ z) with z | z
  ·exact q3 z
  ·exact q4 z
 have hx:b∉X.ex:=by rw[p.ex];simp
 refine c.old b o (I.base.keep b o e n hb hx) (I.base.free b o e n hx) fun z=>?_
 rcases List.mem_cons.mp (I.ic b z) with rfl | z
 ·exact absurd (Heap.lt_size e) (Nat.not_lt_of_le I.ok.above)
 ·exact hb z
theorem AV {X:Cx} {E:XK} {pins:List (Addr × Obj)} {σ:St} {H:Hp} {s:Shared} {a:Addr} {h':Heap} {C:Value} {dc:Option Addr} {oe:Obj} {ws:Array Value} {t':Nat} (p:Plain X) (fl:iC X E) (I:Inv X pins σ H s) (k:∀b o,s.heap.get? b=some o->h'.get? b=some o)
  (nw:s.heap.get? a=none) (q1:h'.get? a=some oe) (q2:oe.cls=C) (q3:oe.dict=dc) (q4:oe.data=.fields ws) (q5:ws[1]?=some .none) (q:E C dc H):X.xe (.ref a) { s with heap:=h',toks:=t' }:=by
 have fr:=I.stack
 have nfr:∀b,b∈frs X.stack->H b=none:=I.pO
 refine fl _ _ ⟨σ,H,PySem.W.hideAll s.heap (frs X.stack),a,C,dc,rfl,(I.kept k).drop,.inl ⟨fun b o z=>k b o (PySem.W.of_hideAll _ z),?_,?_,oe,ws,q1,q2,q3,q4,q5⟩,⟨fun b o z=>?_,fun b o e n hb=>?_⟩,fun p' hp=>?_,q⟩
 rotate_right
 ·obtain⟨q1,q2,q3,q4,q5⟩:=I.pin p' (List.mem_append_left _ hp)
  refine PySem.W.hideAll_get _ q1 fun z=>?_
  rcases List.mem_cons.mp (I.ic _ z) with z | z
  ·exact q3 z
  ·exact q4 z
 ·cases z:(PySem.W.hideAll s.heap (frs X.stack)).get? a with
  | none=>rfl
  | some o=>have:=PySem.W.of_hideAll _ z;rw[nw] at this;cases this
 ·exact(PySem.W.funFrames_hide fr fun env he b hb=>List.mem_filterMap.mpr ⟨env,he,hb⟩).of_keeps fun b o z _=>⟨o,k b o z,rfl⟩
 ·obtain⟨u,hu⟩:=Cj (I.hok b o z)
  exact⟨u,PySem.W.hideAll_get _ hu fun hm=>by rw[nfr b hm] at z;cases z⟩
 ·have hx:b∉X.ex:=by rw[p.ex];simp
  refine PySem.W.hideAll_get _ (I.base.keep b o e n hb hx) fun z=>?_
  rcases List.mem_cons.mp (I.ic b z) with rfl | z
  ·exact absurd (Heap.lt_size e) (Nat.not_lt_of_le I.ok.above)
  ·exact hb z
noncomputable abbrev bmV:List Value:=[.type "ValueError", .type "Exception", .type "BaseException", .type "object"]
theorem E6 {K:PySem.W.Frag} {h:Heap} {C:Addr} {bmB:List Value} {newId:String} (X:K.In h) (q:PySem.W.excIn K C bmB newId=true) :
  ∃bm N nm q' bs hdct sn sub ab col dd k0 k1 k2 k3 k5 mN,h.get? C=some (excClassObj nm q' C N bs bm hdct sn sub ab col dd k0 k1 k2 k3 k5 newId)/\h.Ns N mN/\mN "__init__" = none/\OwnTail h bmB bm:=by
 unfold PySem.W.excIn at q
 split at q
 ·rename_i dd cd sl ho
  split at q
  ·rename_i C' bm k0 k1 k2 k3 n k5 hm hs
   simp only[Bool.and_eq_true,beq_iff_eq,Bool.not_eq_true'] at q
   obtain⟨⟨⟨⟨⟨rfl,rfl⟩,hdel⟩,ht⟩,hok⟩,hni⟩:=q
   obtain⟨nm,bs,mro,ns,qn,hd,sn,sub,ab,col,del⟩:=cd
   dsimp only at hm hdel hok hni
   subst hm hdel
   obtain rfl:sl = #[k0,k1,k2,k3,some (.builtin n),k5]:=by
    obtain⟨l⟩:=sl
    simp only at hs
    rw[hs]
   exact⟨bm,ns,nm,qn,bs,hd,sn,sub,ab,col,dd,k0,k1,k2,k3,k5,_,X _ _ ho,.of_isNs (PySem.W.isNs_of_in X hok),PySem.W.nsMap_none_of_in X hok hni,PySem.W.tail_of_in X ht⟩
  ·cases q
 ·cases q
theorem Iz {X:Cx} {E:XK} {pins:List (Addr × Obj)} {σ:St} {H:Hp} {s:Shared} {x:Str} {C:Addr} {np cpos pos:Pos} {Q:Flow->Shared->Prop} (p:Plain X) (fl:iC X E) (hc:X.calm=true) (I:Inv X pins σ H s) (hg:Gl X x) (hm:X.mg x=some (.ref C)) (hC:PySem.W.excIn X.K C bmV "ValueError.__new__" = true)
  (q:E (.ref C) none H) (hdb:(x == ("__debug__" : Str))=false:=by decide):wpAny (model X.prog X.w) X.A (exec (.Raise (some (.Call (.Name x np) [] [] cpos)) none pos) X.env) Q X.xe s:=by
 obtain⟨tl,N,nm,q',bs,hdct,sn,sub,ab,col,dd,k0,k1,k2,k3,k5,mN,hC',hN,hni,T⟩:=E6 I.kIn hC
 refine wpAny_Raise_call_subT (C:=C) (nm:=nm) (q:=q') (N:=N) (bs:=bs) (bm:=tl) (hdct:=hdct) (sn:=sn) (sub:=sub) (ab:=ab) (col:=col) (dd:=dd) (k0:=k0) (k1:=k1) (k2:=k2) (k3:=k3) (k5:=k5) PySem.F.excBase_ValueError (mN:=mN) (T.hasType PySem.F.excBase_ValueError.hasBase) (I.ok.hd hc) rfl hni (i4 I hg hm ⟨rfl,?_⟩ hdb)
 refine evalArgs_empty ⟨rfl,Nat.zero_le _,hC',hN,T,fun h' e me=>?_⟩
 obtain⟨t,he,_,_⟩:=me.there
 exact AV p fl I me.keeps me.new he rfl rfl rfl rfl q
end L2
namespace L2.FE
open PySem PySem.Spec PyProof.Rows
noncomputable def εX (g:GG) (E:XK):EE:=fun _ H' x=>∀(C:Addr) (dc:Option Addr),g x.cls=some C->XFs H' dc x.fs->E (.ref C) dc H'
noncomputable abbrev spE (K:PySem.W.Frag) (g:GG) (np:Nat) (m:MF):Sp:=spG K g (εX g) np m
noncomputable def fC (P:Program) (w:World) (K:PySem.W.Frag) (mg:Str->Option Value) (base:Heap) (g:GG) (x:Str) (k:Nat) (ps:List Str) (m:MF):Prop:=
 ∃f fd,ef P w K mg base (CXE P w) k f fd ps (spE K g ps.length m)/\PySem.W.keepIn K (.ref f)=true/\Binds K fd ps []/\mg x=some (.ref f)
noncomputable def qZ (x:Str):MS:=fun _ h=>.err ⟨x,[]⟩ h
noncomputable def noR {β:Type}:R β->R β
 | .ok b h=>.ok b h
 | _=>.bad
@[simp] theorem LW {β:Type} (b:β) (h:Hh):noR (.ok b h)=.ok b h:=rfl
noncomputable def up {β:Type} (m:En->Hh->R β):En->Hh->R β:=fun env h=>noR (m env h)
theorem ui {K:PySem.W.Frag} {g:GG} {ε:EE} {α:List Addr} {H:Hp} {β:Type} {r:R β} {k:β->Hh->Prop} (w:WQ K g ε α H (noR r) k):WQ K g E00 α H r k:=by
 cases r with
 | ok b h=>exact w
 | err x h=>exact w.elim
 | bad=>exact w.elim
section
variable {P:Program} {w:World} {K:PySem.W.Frag} {mg:Str->Option Value} {base:Heap} {g:GG}
theorem jN {x qual:Str} {st:Stmt} {f:Addr} {fd:FuncData} {N ps:List Str} {k:Nat} {mb:MS} (F:Fun K x qual st f fd) (S:aE N ps (ak st))
  (hb:∀(cdv:Value) (A:Around) (outer:List Env) (s:Shared) (H:Hp) (E:XK),cP k (A.deeper (envOfC qual (ak st) s.heap.objs.size f cdv)) →
   iC (gT (CXE P w) P w K mg base N qual (ak st) f cdv A outer s H E) E->Plain (gT (CXE P w) P w K mg base N qual (ak st) f cdv A outer s H E) →
   PassesOwn (model P w) (A.deeper (envOfC qual (ak st) s.heap.objs.size f cdv)) (envOfC qual (ak st) s.heap.objs.size f cdv) (gT (CXE P w) P w K mg base N qual (ak st) f cdv A outer s H E).xe →
   PSs (gT (CXE P w) P w K mg base N qual (ak st) f cdv A outer s H E) (bQ st) (tMS K g (εX g E) mb)):ef P w K mg base (CXE P w) (k+1) f fd ps (spE K g ps.length (cH N.length mb)):=by
 obtain⟨oc,od,kV,doc,pm,an,cdv,ct,osl,rfl,lk,hcd⟩:=F.ex
 refine F0 lk hcd S (fun vs H Q E h=>h.1) fun A outer s H vs Q E hr hsp=>⟨_,hb cdv A outer s H E hr Az ⟨rfl,rfl,rfl⟩ PassesOwn.leaving,?_⟩
 obtain⟨hl,α,ds,h,rs,hh,w⟩:=hsp
 refine tMS.use ⟨hh,kc rs⟩ w.bind fun fl h' H' α' e r kk=>?_
 cases fl with
 | nx e'=>exact fun σ' s'=>(show aF K g α H Q .non h' from kk) _ H' α' e r .non
 | bk e'=>exact kk.elim
 | ct e'=>exact kk.elim
 | rt d=>exact fun v rv=>(show aF K g α H Q d h' from kk) _ H' α' e r rv
end
section
variable {X:Cx} {g:GG} {E:XK} {ε:EE}
theorem t5 {x:Str} {C:Addr} {np cpos pos:Pos} (fl:iC X E) (pl:Plain X) (hc:X.calm=true) (hg:Gl X x) (hm:X.mg x=some (.ref C)) (hgx:g x=some C) (hC:PySem.W.excIn X.K C bmV "ValueError.__new__" = true) (hdb:(x == ("__debug__" : Str))=false:=by decide) :
  PS X (.Raise (some (.Call (.Name x np) [] [] cpos)) none pos) (tMS X.K g (εX g E) (qZ x)):=fun pins s σ H D I ⟨α,env,h,sr,w⟩=>
 Iz pl fl hc I hg hm hC (w α H Ext.refl sr.heap C none hgx (.inl ⟨rfl,rfl⟩)) hdb
theorem cT {k:Nat} {f:Addr} {fd:FuncData} {ps:List Str} {m:MF} {np:Nat} {x:Str} {p pos:Pos} {e:Expr} {es:List Expr} {mr:MA} (fl:iC X E) (pl:Plain X) (F:ef X.prog X.w X.K X.mg X.base (CXE X.prog X.w) k f fd ps (spE X.K g np m)) (hr:cP k X.A) (hg:Gl X x) (hm:X.mg x=some (.ref f)) (hk:PySem.W.keepIn X.K (.ref f)=true) (hb:Binds X.K fd ps [])
  (ha:PA X (e::es) (tMA X.K g (εX g E) mr)) (hlen:∀env h ds h',mr env h=.ok ds h'->ds.length=np) (hdb:(x == ("__debug__" : Str))=false:=by decide) (he:starEach (e::es) X.env=(false,eval e X.env)::starEach es X.env:=by rfl) (hpl:(backTo pos (starEach es X.env)).any (·.1)=false:=by rfl) :
  PE X (.Call (.Name x p) (e::es) [] pos) (tM X.K g (εX g E) (ai m mr)):=
 PE.imp (zu F hr hg hm hk hb .nil (pX pl fl) ha hdb he hpl) fun σ H Q ⟨α,env,h,s,w⟩=>⟨α,env,h,s,w.bind.mono fun d1 h1 eq w1 v1 H1 α1 e1 hr1 r1=>by
  show spE X.K g np m (v1++[]) H1 Q E
  rw[List.append_nil]
  refine⟨?_,α1,d1,h1,r1,hr1,w1.post e1⟩
  rw[<- r1.length]
  exact hlen env h d1 h1 eq⟩
theorem _root_.L2.PS.nox {e:Stmt} {t:TS} (h:PS X.nox e t):PS X e t:=fun pins s σ H D I hw=>
 wpAny_mono (h pins s σ H D (I.nO _) hw) (fun _ _ q=>q.gM) fun _ _ z=>False.elim z
theorem b8 {e:Expr} {m:ME} (h:PE X.nox e (tM X.K g E00 m)):PE X e (tM X.K g ε (up m)):=PE.imp h.nox fun σ H Q ⟨α,env,h,s,w⟩=>⟨α,env,h,s,ui w⟩
theorem tJ {e:Expr} {m:MT} (h:PT X.nox e (tMT X.K g E00 m)):PT X e (tMT X.K g ε (up m)):=PT.imp h.nox fun σ H Q ⟨α,env,h,s,w⟩=>⟨α,env,h,s,ui w⟩
theorem pV {e:Stmt} {m:MS} (h:PS X.nox e (tMS X.K g E00 m)):PS X e (tMS X.K g ε (up m)):=PS.imp h.nox fun σ H Q ⟨α,env,h,s,w⟩=>⟨α,env,h,s,ui w⟩
theorem gR {e:Expr}:PE X e (tM X.K g ε fun _ _=>.bad):=fun pins s σ H Q I ⟨α,env,h,sr,w⟩=>w.elim
end
end L2.FE
namespace L2
open PySem PySem.Spec PyProof.Rows
noncomputable abbrev unm (A:Around):Around:={ A with handled:=none }
section
variable {X:Cx} {pins:List (Addr × Obj)} {σ:St} {H:Hp} {s:Shared}
noncomputable abbrev Cx.hand (X:Cx) (A:Around) (pn:List (Addr × Obj)) (E:Value->Shared->Prop):Cx:={ X with A:=A,calm:=false,pn:=pn,xe:=E }
theorem Inv.hand (I:Inv X pins σ H s) {A:Around} (hA:A.frames=X.A.frames) {pn pins':List (Addr × Obj)} (hp:∀p∈pn++pins',p∈X.pn++pins) (E:Value->Shared->Prop):Inv (X.hand A pn E) pins' σ H s:=
 ⟨⟨I.ok.mod,I.ok.kind,I.ok.glob,I.ok.blt,I.ok.above,I.ok.inj,I.ok.has,I.ok.cab,fun z=>(nomatch z),hA.trans I.ok.frames,I.ok.stk,I.ok.exf,I.ok.bs,I.ok.bsz,I.ok.uN,I.ok.wk,I.ok.j5,I.ok.frf⟩,I.os,I.bare,I.base,I.loc,I.cell,I.free,I.eI,fun p h=>I.pin p (hp p h),I.hok,I.len⟩
noncomputable abbrev Cx.wpn (X:Cx) (pn:List (Addr × Obj)) (E:Value->Shared->Prop):Cx:={ X with pn:=pn,xe:=E }
theorem Inv.wpn (I:Inv X pins σ H s) {pn pins':List (Addr × Obj)} (hp:∀p∈pn++pins',p∈X.pn++pins) (E:Value->Shared->Prop):Inv (X.wpn pn E) pins' σ H s:=
 ⟨⟨I.ok.mod,I.ok.kind,I.ok.glob,I.ok.blt,I.ok.above,I.ok.inj,I.ok.has,I.ok.cab,I.ok.hd,I.ok.frames,I.ok.stk,I.ok.exf,I.ok.bs,I.ok.bsz,I.ok.uN,I.ok.wk,I.ok.j5,I.ok.frf⟩,I.os,I.bare,I.base,I.loc,I.cell,I.free,I.eI,fun p h=>I.pin p (hp p h),I.hok,I.len⟩
theorem Inv.back {A:Around} {pn pins':List (Addr × Obj)} {E:Value->Shared->Prop} (J:Inv (X.hand A pn E) pins' σ H s) (ok:X.Ok) (hp:∀p∈X.pn++pins,p∈pn++pins'):Inv X pins σ H s:=
 ⟨ok,J.os,J.bare,J.base,J.loc,J.cell,J.free,J.eI,fun p h=>J.pin p (hp p h),J.hok,J.len⟩
theorem Inv.adopt {B:Heap} {a:Addr} {oe:Obj} {ws:Array Value} (I:Inv X [] σ H s) (p:Plain X) (c:Cov B X.fs X.bO X.bh.heap H) (pn:∀p∈X.pn,B.get? p.1=some p.2) (fr:s.heap.FunFrames B X.stack) (nw:B.get? a=none) (q1:s.heap.get? a=some oe) (q4:oe.data=.fields ws) :
  H a=none/\Inv X [] σ (upd H a (FE.AtO a oe)) s:=by
 have hn:H a=none:=by
  cases z:H a with
  | none=>rfl
  | some o=>obtain⟨u,hu⟩:=c.trk a o z;rw[nw] at hu;cases hu
 have nfr:∀b∈X.env.locals::X.fs,b≠a:=by
  rintro b hb rfl
  have:b∈X.stack.filterMap (·.frame):=by
   rw[p.stk.1,List.filterMap_cons,p.stk.2]
   exact hb
  obtain⟨_,o',q',n⟩:=fr.mem this
  rw[q1] at q';cases q';exact n ws q4
 refine⟨hn,I.ok,I.os,I.bare,?_,I.loc,I.cell,?_,fun x c' e=>?_,fun q hq=>?_,fun b o e=>?_,I.len⟩
 ·obtain⟨u1,u2,u3,u4,u5,u6,u7⟩:=I.base
  refine⟨u1,u2,fun b o e n hx=>?_,u4,fun b xs q=>?_,fun b o u q=>?_,fun b ps q=>?_⟩
  ·rw[aC ?_];exact u3 b o e n hx
   rintro rfl
   by_cases hb:b∈X.fs
   ·exact nfr b (List.mem_cons_of_mem _ hb) rfl
   ·have:=c.old b o e n hb
    rw[nw] at this;cases this
  ·have:=u5 b xs q
   rw[aC (aN this hn)];exact this
  ·have:=u6 b o u q
   rw[aC (aN this hn)];exact this
  ·obtain⟨more,this⟩:=u7 b ps q
   exact⟨more,by rw[aC (aN this hn)];exact this⟩
 ·rw[aC (nfr _ List.mem_cons_self)];exact I.free
 ·rw[aC ?_];exact I.eI x c' e
  rintro rfl
  obtain⟨v,o,ho,hd⟩:=I.cell x c' e
  rw[q1] at ho;cases ho;rw[q4] at hd;cases hd
 ·have z:=I.pin q hq
  refine⟨z.1,?_,z.2.2⟩
  rw[aC ?_];exact z.2.1
  rintro e
  rw[List.append_nil] at hq
  have:=pn q hq
  rw[e,nw] at this;cases this
 ·by_cases hb:b=a
  ·subst hb
   rw[aP] at e;cases e
   exact⟨q1,q1,⟨_,q1⟩,fun h1 h2 z k=>k _ z⟩
  ·rw[aC hb] at e
   exact(I.hok b o e).ke (fun _ _ _ z=>z) (fun c' z=>by rw[aC (aN z hn)];exact z) fun c' xs z=>by rw[aC (aN z hn)];exact z
theorem Inv.forget {i:Nat} {x:Str} {m m':Str->Option Value} {h':Heap} {t':Nat} (I:Inv X pins σ H s) (hN:X.N.Nodup) (hi:X.N[i]?=some x) (hn:s.heap.Ns X.env.locals m) (hn':h'.Ns X.env.locals m') (hm:∀y,y≠x->m' y=m y) (sb:Heap.SameBut X.env.locals s.heap h'):Inv X pins (σ.set i none) H { s with heap:=h',toks:=t' }:=by
 have kp:∀b,b≠X.env.locals->h'.get? b=s.heap.get? b:=fun b n=>sb.2 b n
 have cellK:∀y c v,X.env.cells.lookup y=some c->s.heap.IsCell c v->h'.IsCell c v:=fun y c v e ⟨o,ho,hd⟩=>⟨o,by rw[kp c (I.cne y c e)];exact ho,hd⟩
 refine⟨I.ok,I.os,I.bare,?_,⟨m',hn',fun j y v a b c=>?_⟩,fun y c e=>let ⟨v,q⟩:=I.cell y c e;⟨v,cellK y c v e q⟩,I.free,I.eI,fun q hq=>?_,fun b o e=>?_,by rw[List.length_set];exact I.len⟩
 ·obtain⟨u1,u2,u3,u4,u5,u6,u7⟩:=I.base
  have ne:∀b o,X.bh.heap.get? b=some o->b≠X.env.locals:=fun b o e=>Nat.ne_of_lt (Nat.lt_of_lt_of_le (Heap.lt_size e) I.ok.above)
  exact⟨fun b o e n h1 h2=>by rw[kp b (ne b o e)];exact u1 b o e n h1 h2,fun b o e n h1 h2=>by rw[kp b (ne b o e)];exact u2 b o e n h1 h2,u3,fun b o e h2=>by rw[kp b (ne b o e)];exact u4 b o e h2,u5,u6,u7⟩
 ·rw[List.getElem?_set] at b
  by_cases hj:i=j
  ·rw[if_pos hj] at b
   split at b<;>cases b
  ·rw[if_neg hj] at b
   obtain⟨m0,hn0,k⟩:=I.loc
   obtain⟨u,r,l⟩:=k j y v a b c
   have hy:y≠x:=by
    rintro rfl
    exact hj ((List.getElem?_inj (List.getElem?_eq_some_iff.mp hi).1 hN).mp (hi.trans a.symm))
   have e0:m0=m:=by
    obtain⟨o1,es1,ep1,a1,a2,a3,a4⟩:=hn0
    obtain⟨o2,es2,ep2,b1,b2,b3,b4⟩:=hn
    rw[a1] at b1;cases b1
    rw[a2] at b2;cases b2
    funext y;rw[<- a4,<- b4]
   subst e0
   refine⟨u,r,l.imp (fun z=>⟨z.1,by rw[hm y hy];exact z.2⟩) fun⟨z,c',e,q⟩=>⟨z,c',e,cellK y c' _ e q⟩⟩
 ·have z:=I.pin q hq
  exact⟨by rw[kp _ z.2.2.1];exact z.1,z.2⟩
 ·exact(I.hok b o e).ke (fun c' u hc q=>by
   rw[kp c' ?_];exact q
   rintro rfl
   rcases hc with rfl | hc
   ·rw[I.free] at e;cases e
   ·rw[I.free] at hc;cases hc) (fun _ q=>q) fun _ _ q=>q
end
structure FnH (P:Program) (w:World) (K:PySem.W.Frag) (mg:Str->Option Value) (base:Heap) (k:Nat) (f:Addr) (fd:FuncData) (ps:List Str) (sp:Sp):Prop where
 len:∀vs H Q E,sp vs H Q E->vs.length=ps.length
 run:∀(A:Around) (outer:List Env) (s:Shared) (H:Hp) (args:Args) (us:List Value) (vs:List V) (Q:VK) (E:XK),cP k (unm A)->x_ P w K mg base A outer s H->BindsTo s fd args (ps.zip us)->Vals vs us->sp vs H Q E →
  codeAny (model P w) A (.call (.ref f) args) (CR CX0 outer P w H s Q E) s
theorem FnH.mono {P:Program} {w:World} {K:PySem.W.Frag} {mg:Str->Option Value} {base:Heap} {j k:Nat} {f:Addr} {fd:FuncData} {ps:List Str} {sp:Sp} (F:FnH P w K mg base j f fd ps sp) (h:j<=k):FnH P w K mg base k f fd ps sp:=
 ⟨F.len,fun A outer s H args us vs Q E hr=>F.run A outer s H args us vs Q E (hr.mono h)⟩
section
variable {P:Program} {w:World} {K:PySem.W.Frag} {mg:Str->Option Value} {base:Heap}
noncomputable abbrev cxH (P:Program) (w:World) (K:PySem.W.Frag) (mg:Str->Option Value) (base:Heap) (N:List Str) (qual:Str) (scope:Scope) (f:Addr) (cd:Value) (A:Around) (outer:List Env) (s:Shared) (H:Hp) (E:XK):Cx:=
 (gT CX0 P w K mg base N qual scope f cd A outer s H E).hand (A.deeper (envOfC qual scope s.heap.objs.size f cd)) [] fun _ _=>False
theorem Im {x qual:Str} {st:Stmt} {f:Addr} {fd:FuncData} {N ps:List Str} {k:Nat} {sp:Sp} (F:Fun K x qual st f fd) (S:aE N ps (ak st)) (len:∀vs H Q E,sp vs H Q E->vs.length=ps.length)
  (hbody:∀(cdv:Value) (A:Around) (outer:List Env) (s:Shared) (H:Hp) (vs:List V) (Q:VK) (E:XK),cP k (unm (A.deeper (envOfC qual (ak st) s.heap.objs.size f cdv)))->sp vs H Q E →
   ∃t,PSs (cxH P w K mg base N qual (ak st) f cdv A outer s H E) (bQ st) t/\t { nx:=fun _ H'=>Q .non H',rt:=Q } (start N vs) H):FnH P w K mg base (k+1) f fd ps sp:=by
 obtain⟨oc,od,kV,doc,pm,an,cdv,ct,osl,rfl,lk,hcd⟩:=F.ex
 refine⟨len,fun A outer s H args us vs Q E hr e0 hb r hsp=>?_⟩
 have hl:=len _ _ _ _ hsp
 have KX:K.In s.heap:=e0.mod.kin.keeps fun b o e=>(e0.bs b o e).1
 have lim:s.heap.NoLimit:=e0.mod.nolimit.keeps fun b o e=>(e0.bs b o e).1
 have hkind:∀y∈ps.zip us,(ak st).names.lookup y.1=some .local\/((ak st).names.lookup y.1=some .cell/\((cellsFrom (s.heap.objs.size+1) (ak st).names []).lookup y.1).isSome=true):=fun⟨n,v⟩ hy=>by
  rcases S.par n (List.of_mem_zip hy).1 with q | q
  ·exact .inl q
  ·exact .inr ⟨q,PySem.W.cellsFrom_some _ _ _ (.inl q)⟩
 have hdp:A.depth<recursionLimit:=cP.depth (A:=unm A) hr
 refine codeAny_call_function hdp (KX _ _ lk) rfl S.co S.gen rfl (PySem.W.codeRec_of KX hcd) (hb _ _ _ _ ?_)
 refine wpAny_newFunctionEnv_cells S.kind hkind fun env he s1 x=>?_
 subst he
 refine⟨lim.keeps x.toInCall.keep,codeAny_func ?_⟩
 obtain⟨t,ht,hq⟩:=hbody cdv A outer s H vs Q E (hr.deeper _) hsp
 have I0:Inv (gT CX0 P w K mg base N qual (ak st) f cdv (unm A) outer s H E) [] (start N vs) H s1:=nr S rfl ⟨e0.frames,e0.mod,e0.bs,e0.bsz,e0.j5,e0.frf,e0.hok,e0.bare⟩ hl r x
 have I:Inv (cxH P w K mg base N qual (ak st) f cdv A outer s H E) [] (start N vs) H s1:=
  ⟨⟨I0.ok.mod,I0.ok.kind,I0.ok.glob,I0.ok.blt,I0.ok.above,I0.ok.inj,I0.ok.has,I0.ok.cab,fun z=>(nomatch z),Around.frames_deeper e0.frames,I0.ok.stk,I0.ok.exf,I0.ok.bs,I0.ok.bsz,I0.ok.uN,I0.ok.wk,I0.ok.j5,I0.ok.frf⟩,I0.os,I0.bare,I0.base,I0.loc,I0.cell,I0.free,I0.eI,I0.pin,I0.hok,I0.len⟩
 refine wpAny_mono (ht [] s1 (start N vs) H _ I hq) (fun fl s' hs=>?_) fun e s' hs=>hs.elim
 have fin:∀{σ':St} {H':Hp} {v:V} {u:Value},Inv (cxH P w K mg base N qual (ak st) f cdv A outer s H E) [] σ' H' s'->RelV v u->Q v H'->CE outer P w H s Q u s':=
  fun{σ' H' v u} J rv q=>⟨v,H',J.os,J.bare,J.base,J.hok,rv,q⟩
 cases fl with
 | ret u=>
  obtain⟨v,σ',H',J,rv,q⟩:=hs
  exact fin J rv q
 | next=>
  obtain⟨σ',H',J,q⟩:=hs
  exact fin (v:=V.non) (u:=Value.none) J rfl q
 | brk=>
  obtain⟨_,_,_,q⟩:=hs
  exact q.elim
 | cont=>
  obtain⟨_,_,_,q⟩:=hs
  exact q.elim
end
section
variable {X:Cx} {k:Nat} {f:Addr} {fd:FuncData} {ps:List Str} {sp:Sp} {x:Str} {p pos:Pos} {e:Expr} {es:List Expr} {t:TA}
theorem wz (F:FnH X.prog X.w X.K X.mg X.base k f fd ps sp) (hr:cP k (unm X.A)) (hg:Gl X x) (hm:X.mg x=some (.ref f)) (hk:PySem.W.keepIn X.K (.ref f)=true) (hb:Binds X.K fd ps [])
  (ha:PA X (e::es) t) (hdb:(x == ("__debug__" : Str))=false:=by decide) (he:starEach (e::es) X.env=(false,eval e X.env)::starEach es X.env:=by rfl) (hpl:(backTo pos (starEach es X.env)).any (·.1)=false:=by rfl) :
  PE X (.Call (.Name x p) (e::es) [] pos) (F6 sp [] E0 t):=by
 intro pins s σ H Q I h
 refine wpAny_Call_Name_kw (i4 I hg hm ?_ hdb)
 refine PySem.W.callWith_K (h₀:=X.base) I.ok.mod.kin hk (thn (ha pos pins s σ H _ I h) fun us s1 ⟨vs,H1,I1,r,q⟩=>⟨I1.kIn,?_⟩) he hpl
 replace q:sp vs H1 Q E0:=by simpa using q
 have hl:us.length=ps.length:=by rw[<- r.length];exact F.len _ _ _ _ q
 have hbb:=hb s1 us I1.kIn (by rw[List.append_nil];exact hl)
 rw[List.append_nil] at hbb
 refine wpAny_call (codeAny_mono (F.run X.A X.stack s1 H1 ⟨us,[]⟩ us vs Q E0 hr I1.Ir hbb r q) fun r s' hq=>?_)
 cases r with
 | error e=>exact hq.elim
 | ok fl=>
  cases fl with
  | ret u=>exact I1.after hq
  | next=>exact hq.elim
  | brk=>exact hq.elim
  | cont=>exact hq.elim
end
end L2
namespace L2
open PySem PySem.Spec PyProof.Rows PySem.W
theorem A4:plainId "BaseException.__getattribute__" = true:=by decide +kernel
theorem CZ:builtinKind "BaseException.__getattribute__" = some .slot:=by decide +kernel
theorem AR:splitId "BaseException.__getattribute__" = some ("BaseException", "__getattribute__"):=by decide +kernel
theorem Dh (v:Value):bindSpecial (.builtin "BaseException.__getattribute__") v=pure (.builtin "BaseException.__getattribute__", [v]):=F.excAttr_ValueError.ga.bind v
section
variable {prog:Program} {w:World} {A:Around} {E:Value->Shared->Prop} {s:Shared} {K:Frag} {x D:Addr} {ox:Obj} {odo:Option Obj} {name:Str}
theorem Fy {g0 a0:Value} {tk:Tok} {Q:Fin->Shared->Prop} (X:K.In s.heap) (I:InstAt s.heap x ox D odo) (hf:findObj K D odo name=some (.bind g0 a0)) (h:wpAny (model prog w) A (call g0 [a0,.ref x,.ref D]) (fun v s'=>Q (.done (.ret v)) s') E s) :
  wpAny (model prog w) A (Builtin.«object.__getattribute__» ⟨[.ref x,.str name tk],[]⟩) Q E s:=by
 obtain⟨hh,gg,d,t,os⟩:=s
 have L0:=I.type (M:=model prog w)
 have L1:=looks_find (M:=model prog w) X I hf
 unfold Builtin.«object.__getattribute__»
 refine wpAny_bind (wpAny_pure (wpAny_bind (wpAny_pure (wpAny_bind (L0.at (wpAny_bind (L1.at ?_)))))))
 exact wpAny_bind (wpAny_holding (wpAny_mono h (fun v s' z=>wpAny_pure z) fun _ _ z=>z))
theorem Cq {g0 a0:Value} {tk:Tok} {R:Result->Shared->Prop} (X:K.In s.heap) (I:InstAt s.heap x ox D odo) (hsub:mroIn K D (.type "BaseException")=some true) (hf:findObj K D odo name=some (.bind g0 a0))
  (h:wpAny (model prog w) A.in1 (call g0 [a0,.ref x,.ref D]) (fun v s'=>R (.ok (.ret v)) s') (fun e s'=>R (.error e) s') s) :
  codeAny (model prog w) A (.call (.builtin "BaseException.__getattribute__") ⟨[.ref x,.str name tk],[]⟩) R s:=by
 have L0:=I.type (M:=model prog w)
 have L3:Looks (model prog w) s.heap (isInstance (.ref x) (.type "BaseException")) true:=L0.andThen (looks_mroIn X hsub)
 refine codeAny_call_builtin A4 F.entry_bexc_ga ?_
 refine check_slot (i:="BaseException.__getattribute__") CZ AR L3 (F.args_bexc_ga (.ref x) (.str name tk)) ?_
 exact Fy X I hf h
theorem DN {g0 a0 v0:Value} {Q:Option Value->Shared->Prop} (X:K.In s.heap) (I:InstAt s.heap x ox D odo) (hga:findIn K (.ref D) "__getattribute__" = some (some (.builtin "BaseException.__getattribute__"))) (hhk:findIn K (.ref D) "__getattr__" = some none) (hsub:mroIn K D (.type "BaseException")=some true)
  (hf:findObj K D odo name=some (.bind g0 a0)) (hv:handedIn v0=true)
  (h:∀(A:Around) (E:Value->Shared->Prop) (Q':Value->Shared->Prop),Q' v0 { s with toks:=s.toks+1 }->wpAny (model prog w) A (call g0 [a0,.ref x,.ref D]) Q' E { s with toks:=s.toks+1 })
  (q:Q (some v0) { s with toks:=s.toks+1 }):wpAny (model prog w) A (getAttr? (.ref x) name) Q E s:=by
 obtain⟨hh,gg,d,t,os⟩:=s
 have L0:=I.type (M:=model prog w)
 have L1:=looks_findIn (M:=model prog w) X hga
 have L2:=looks_findIn (M:=model prog w) X hhk
 have L3:Looks (model prog w) hh (isInstance (.ref x) (.type "BaseException")) true:=L0.andThen (looks_mroIn X hsub)
 unfold getAttr? getAttrBy? getAttrBy
 refine wpAny_bind (wpAny_mkText (wpAny_bind (wpAny_attempt (wpAny_holding (wpAny_bind (L0.at (wpAny_bind (L1.at ?_))))))))
 dsimp only
 rw[if_neg (show ¬ ((onTheHeap (Value.ref D)&&(Value.builtin "BaseException.__getattribute__" == Value.builtin "object.__getattribute__"))=true) from by rw[show(Value.builtin "BaseException.__getattribute__" == Value.builtin "object.__getattribute__")=false from by decide +kernel,Bool.and_false];decide)]
 unfold getAttrByItsOwn hookBefore
 rw[if_pos (show onTheHeap (.ref D)=true from rfl)]
 refine wpAny_bind (L2.at (wpAny_bind (wpAny_attempt (wpAny_holding ?_))))
 unfold callGetattribute
 rw[if_neg (show ¬ ((false&&_)=true) from by simp)]
 unfold boundAndCalled
 rw[Dh]
 refine wpAny_bind (wpAny_pure ?_)
 show wpAny (model prog w) A (call (.builtin "BaseException.__getattribute__") [.ref x,.str name t]) _ _ _
 refine wpAny_call (Cq (s:=⟨hh,gg,d,t+1,os⟩) X I hsub hf (h _ _ _ ?_))
 exact handed_on hv (wpAny_pure q)
end
theorem Dt {K:Frag} {x D:Addr} {ox:Obj} {odo:Option Obj} (hga:findIn K (.ref D) "__getattribute__" = some (some (.builtin "BaseException.__getattribute__"))) (hhk:findIn K (.ref D) "__getattr__" = some none) (hsub:mroIn K D (.type "BaseException")=some true) (hdct:hasDictIn K D=true) (ha:findIn K (.ref D) "__class__" = some (some (.builtin "object.__class__")))
  (hn:specialIn K (.builtin "object.__class__") "__get__" = some (some (.builtin "getset_descriptor.__get__"))) (htk:takesIn K (.builtin "object.__class__")=some true) (hm:mroIn K D (.type "object")=some true) :
  KitX K (.ref x) (.ref D) (fun h=>InstAt h x ox D odo):=by
 obtain⟨cdD,hcD,_⟩:=any_some hdct
 have hlk:∃c' d' cd' sl',K.lookup D=some ⟨c',d',.cls cd',sl'⟩:=by
  unfold clsIn at hcD
  split at hcD
  ·exact⟨_,_,_,_,by assumption⟩
  ·cases hcD
 obtain⟨c',d',cd',sl',ho⟩:=hlk
 refine⟨fun _ _ _ I=>I.type,fun _ _ X _=>?_,fun h tp dd its n sl X htp=>?_,fun{prog w A E Q s} X I k=>?_⟩
 ·intro A' Q' E' s' k q
  unfold isType loadHead
  exact wpAny_bind (wpAny_loadPart (k _ _ (X _ _ ho)) (wpAny_pure q))
 ·refine Bool.eq_false_iff.mpr fun q=>?_
  have e:D=tp:=Value.ref.inj (beq_iff_eq.mp q)
  subst e
  have z:=(X _ _ ho).symm.trans htp
  cases z
 ·have hf:findObj K D odo "__class__" = some (.bind (.builtin "getset_descriptor.__get__") (.builtin "object.__class__")):=by
   unfold findObj
   rw[hcD,Option.bind_some,ha,Option.bind_some]
   simp[hn,htk]
  exact DN X I hga hhk hsub hf rfl (fun A E Q' q'=>wpAny_call (class_get (s:={ s with toks:=s.toks+1 }) (ox:=ox) (od:=odo) X I hm q')) k
noncomputable abbrev bq:List Str:=["FallError", "NoOrder", "NoNumber", "NoSet", "NoRow", "NoLine", "NoText", "TooGreat"]
noncomputable def yc (c x:Str):Bool:=c == x || x == "FallError"
noncomputable def Dg (c:Str):Bool:=!(c == "NoText" || c == "TooGreat")
noncomputable def yI (K:Frag) (D:Addr):Bool:=findIn K (.ref D) "__getattribute__" == some (some (.builtin "BaseException.__getattribute__"))&&findIn K (.ref D) "__getattr__" == some none&&mroIn K D (.type "BaseException") == some true&&hasDictIn K D&&findIn K (.ref D) "__class__" == some (some (.builtin "object.__class__"))&&specialIn K (.builtin "object.__class__") "__get__" == some (some (.builtin "getset_descriptor.__get__"))&&takesIn K (.builtin "object.__class__") == some true&&mroIn K D (.type "object") == some true
noncomputable def Gf (K:Frag) (l:List (Str × Addr)):Bool:=l.all fun p=>yI K p.2&&kitOne K (.ref p.2) (.type "ValueError") == some true&&(!Dg p.1 || excIn K p.2 bmV "ValueError.__new__")&&l.all fun q=>kitOne K (.ref p.2) (.ref q.2) == some (yc p.1 q.1)&&(!(q.1 == "FallError") || exmOne K (.ref p.2) (.ref q.2) == some true)
noncomputable def Df (K:Frag):Prop:=∃l:List (Str × Addr),l.map (·.1)=bq/\(∀p∈l,nsIn K mainGlobals p.1=some (some (.ref p.2)))/\Gf K l=true
theorem GH {K:Frag} {a0 a1 a2 a3 a4 a5 a6 a7:Addr} (e0:nsIn K mainGlobals "FallError" = some (some (.ref a0))) (e1:nsIn K mainGlobals "NoOrder" = some (some (.ref a1))) (e2:nsIn K mainGlobals "NoNumber" = some (some (.ref a2))) (e3:nsIn K mainGlobals "NoSet" = some (some (.ref a3)))
  (e4:nsIn K mainGlobals "NoRow" = some (some (.ref a4))) (e5:nsIn K mainGlobals "NoLine" = some (some (.ref a5))) (e6:nsIn K mainGlobals "NoText" = some (some (.ref a6))) (e7:nsIn K mainGlobals "TooGreat" = some (some (.ref a7)))
  (c:Gf K [("FallError", a0),("NoOrder", a1),("NoNumber", a2),("NoSet", a3),("NoRow", a4),("NoLine", a5),("NoText", a6),("TooGreat", a7)]=true):Df K:=
 ⟨_,rfl,by
  intro p hp
  simp only[List.mem_cons,List.not_mem_nil,or_false] at hp
  rcases hp with rfl | rfl | rfl | rfl | rfl | rfl | rfl | rfl<;>assumption,c⟩
structure pB (K:Frag) (mg:Str->Option Value):Prop where
 at_:∀c∈bq,∃C,mg c=some (.ref C)
 one:∀c∈bq,∀C,mg c=some (.ref C)->yI K C=true/\kitOne K (.ref C) (.type "ValueError")=some true/\(Dg c=true->excIn K C bmV "ValueError.__new__" = true)
 two:∀c∈bq,∀C,mg c=some (.ref C)->∀x∈bq,∀X,mg x=some (.ref X)->kitOne K (.ref C) (.ref X)=some (yc c x)
 exm:∀c∈bq,∀C,mg c=some (.ref C)->∀X,mg "FallError" = some (.ref X)->exmOne K (.ref C) (.ref X)=some true
theorem pB.of {K:Frag} {h:Heap} {mg:Str->Option Value} (X:K.In h) (G:h.Ns mainGlobals mg) (k:Df K):pB K mg:=by
 obtain⟨l,h1,h2,h3⟩:=k
 have mem:∀c∈bq,∀C,mg c=some (.ref C)->(c,C)∈l:=fun c hc C e=>by
  rw[<- h1] at hc
  obtain⟨p,hp,rfl⟩:=List.mem_map.mp hc
  have:=mg_of X G (h2 p hp)
  rw[e] at this;cases this
  exact hp
 have al:=List.all_eq_true.mp h3
 refine⟨fun c hc=>?_,fun c hc C e=>?_,fun c hc C e x hx D e'=>?_,fun c hc C e D e'=>?_⟩
 ·rw[<- h1] at hc
  obtain⟨p,hp,rfl⟩:=List.mem_map.mp hc
  exact⟨_,mg_of X G (h2 p hp)⟩
 ·have:=al _ (mem c hc C e)
  simp only[Bool.and_eq_true,beq_iff_eq,Bool.or_eq_true,Bool.not_eq_true'] at this
  refine⟨this.1.1.1,this.1.1.2,fun z=>this.1.2.elim (fun y=>?_) fun y=>y⟩
  rw[z] at y;cases y
 ·have:=al _ (mem c hc C e)
  simp only[Bool.and_eq_true] at this
  have:=List.all_eq_true.mp this.2 _ (mem x hx D e')
  simp only[Bool.and_eq_true,beq_iff_eq] at this
  exact this.1
 ·have:=al _ (mem c hc C e)
  simp only[Bool.and_eq_true] at this
  have:=List.all_eq_true.mp this.2 _ (mem "FallError" (by decide) D e')
  simp only[Bool.and_eq_true,beq_iff_eq,Bool.or_eq_true,Bool.not_eq_true'] at this
  rcases this.2 with z | z
  ·exact absurd z (by decide)
  ·exact z
theorem Au {P:Program} {w:World} {H:Hp} {h:Heap} {p C:Addr} {o:Obj} {fs:List (Str × Int)} (ok:HOk P w H h) (q:H p=some (FE.AtO p o)) (hc:o.cls=.ref C) (hd:∃vs,o.data=.fields vs) (xf:FE.XFs H o.dict fs):∃odo,InstAt h p o C odo:=by
 obtain⟨q1,_⟩:=ok p _ q
 obtain⟨vs,hd⟩:=hd
 have nc:notCls o=true:=by unfold notCls;rw[hd]
 rcases xf with⟨z,_⟩ | ⟨dx,od,z,q2⟩
 ·exact⟨none,q1,hc,nc,by rw[z];trivial⟩
 ·obtain⟨q3,_⟩:=ok dx _ q2
  exact⟨some od,q1,hc,nc,by rw[z];exact q3⟩
end L2
namespace L2.FE
open PySem PySem.Spec PyProof.Rows
section
variable {X:Cx} {g:GG} {ε:EE} {K:PySem.W.Frag}
noncomputable def vp (x:Str):D->Hh->R D:=fun d h=>match d with
 | .exc c _=>if (bq.contains c&&bq.contains x)=true then .ok (.bl (yc c x)) h else .bad
 | _=>.bad
noncomputable def GL:D->Hh->R D:=fun d h=>match d with
 | .exc c _=>if bq.contains c=true then .ok (.bl true) h else .bad
 | _=>.bad
theorem l5 {mg:Str->Option Value} {x:Str} {f:Addr} (h:gOf mg x=some f):mg x=some (.ref f):=by
 unfold gOf at h
 split at h
 ·cases h;assumption
 ·cases h
theorem wM (hc:pB X.K X.mg) (hgo:g=gOf X.mg):bg X (.builtin "isinstance") (fun vs H Q=>∃p D o c fs C b,vs=[.ref p,D]/\g c=some C/\H p=some (AtO p o)/\o.cls=.ref C/\(∃us,o.data=.fields us)/\XFs H o.dict fs/\bq.contains c=true/\(∀u,RelV D u->PySem.W.kitOne X.K (.ref C) u=some b)/\Q (.bl b) H):=by
 intro pins s σ H xs us Q I r h
 obtain⟨p,D,o,c,fs,C,b,rfl,hg,hp,hcl,hd,xf,hcn,hk,q⟩:=h
 cases r with
 | @cons _ _ _ _ r1 r2=>
  cases r2 with
  | @cons _ u _ _ r3 r4=>
   cases r4
   cases r1
   obtain⟨odo,ia⟩:=Au I.hok hp hcl hd xf
   subst hgo
   have hC:=l5 hg
   have k1:=(hc.one c (by simpa using hcn) C hC).1
   unfold yI at k1
   simp only[Bool.and_eq_true,beq_iff_eq] at k1
   obtain⟨⟨⟨⟨⟨⟨⟨a1,a1b⟩,a1c⟩,a2⟩,a3⟩,a4⟩,a5⟩,a6⟩:=k1
   refine PySem.W.kia_one (Dt a1 a1b a1c a2 a3 a4 a5 a6) I.kIn ia (hk u r3) (by intro z;cases z) fun tk=>?_
   exact⟨.bl b,H,I.kept (h':=s.heap) (t':=tk) fun _ _ z=>z,rfl,q⟩
theorem HF {x:Str} {p:Pos} {C:Addr} (hg:Gl X x) (hm:X.mg x=some (.ref C)) (hd:(x == ("__debug__" : Str))=false:=by decide):PE X (.Name x p) (tC (.ref C)):=fun pins s σ H Q I h=>i4 I hg hm ⟨.ref C,H,I,rfl,h⟩ hd
theorem kF {e:Expr} {me:ME} {x:Str} {p1 p2 pos:Pos} (hc:pB X.K X.mg) (hgo:g=gOf X.mg) (he:PE X e (tM X.K g ε me)) (hg:Gl X "isinstance") (hm:X.mg "isinstance" = none) (hg2:Gl X x) (hx:x∈bq) (hd:(x == ("__debug__" : Str))=false:=by decide)
  (hs1:starEach [e,.Name x p2] X.env=(false,eval e X.env)::starEach [.Name x p2] X.env:=by rfl) (hs2:starEach [.Name x p2] X.env=[(false,eval (.Name x p2) X.env)]:=by rfl) (hpl:(backTo pos (starEach [.Name x p2] X.env)).any (·.1)=false:=by rfl) :
  PE X (.Call (.Name "isinstance" p1) [e,.Name x p2] [] pos) (tM X.K g ε (cUn (vp x) me)):=by
 obtain⟨C2,hC2⟩:=hc.at_ x hx
 refine PE.imp (mD (wM hc hgo) hg hm PyProof.Rows.boot_isinstance (fq he (fq (HF hg2 hC2 hd) jI hs2) hs1) (by decide) (by decide) hs1 hpl) fun σ H Q ⟨α,env,h,s,w⟩=>tM.use s w.bind fun d1 h1 v1 H1 α1 e1 s1 r1 w1=>?_
 unfold vp at w1
 cases r1 with
 | @exc c C p o fs hgc hp hcl hdd xf=>
  obtain⟨hh,w1⟩:=WQ.fc w1
  rw[Bool.and_eq_true] at hh
  refine⟨p,.ref C2,o,c,fs,C,_,rfl,hgc,hp,hcl,hdd,xf,hh.1,fun u ru=>?_,aF.now (aF.ext e1 w1) s1.heap (.bl _)⟩
  cases ru
  subst hgo
  exact hc.two c (by simpa using hh.1) C (l5 hgc) x hx C2 hC2
 | _=>exact w1.elim
theorem GA {e:Expr} {me:ME} {p1 p2 pos:Pos} (hc:pB X.K X.mg) (hgo:g=gOf X.mg) (he:PE X e (tM X.K g ε me)) (hg:Gl X "isinstance") (hm:X.mg "isinstance" = none) (hg2:Gl X "ValueError") (hm2:X.mg "ValueError" = none)
  (hs1:starEach [e,.Name "ValueError" p2] X.env=(false,eval e X.env)::starEach [.Name "ValueError" p2] X.env:=by rfl) (hs2:starEach [.Name "ValueError" p2] X.env=[(false,eval (.Name "ValueError" p2) X.env)]:=by rfl) (hpl:(backTo pos (starEach [.Name "ValueError" p2] X.env)).any (·.1)=false:=by rfl) :
  PE X (.Call (.Name "isinstance" p1) [e,.Name "ValueError" p2] [] pos) (tM X.K g ε (cUn GL me)):=by
 refine PE.imp (mD (wM hc hgo) hg hm PyProof.Rows.boot_isinstance (fq he (fq (zw (v:=.ty "ValueError") hg2 hm2 PyProof.Rows.Boot.«ValueError» rfl (by decide) (by decide)) jI hs2) hs1) (by decide) (by decide) hs1 hpl) fun σ H Q ⟨α,env,h,s,w⟩=>tM.use s w.bind fun d1 h1 v1 H1 α1 e1 s1 r1 w1=>?_
 unfold GL at w1
 cases r1 with
 | @exc c C p o fs hgc hp hcl hdd xf=>
  obtain⟨hh,w1⟩:=WQ.fc w1
  refine⟨p,.ty "ValueError", o,c,fs,C,_,rfl,hgc,hp,hcl,hdd,xf,hh,fun u ru=>?_,aF.now (aF.ext e1 w1) s1.heap (.bl _)⟩
  cases ru
  subst hgo
  exact(hc.one c (by simpa using hh) C (l5 hgc)).2.1
 | _=>exact w1.elim
theorem wU {h:Heap} {l:Addr} {its:Array Value} (x:h.IsList l its):∃dd n sl,h.get? l=some { cls:=.type "list", dict:=dd,data:=.seq its n,slots:=sl }:=by
 obtain⟨⟨c,d,da,sl⟩,h1,h2,n,h3⟩:=x
 dsimp only at h2 h3
 subst h2 h3
 exact⟨_,_,_,h1⟩
noncomputable def eqB (b:Bool):Value->Bool
 | .bool c=>c == b
 | _=>false
theorem rM:∀{bs:List Bool} {us:List Value},Vals (bs.map V.bl) us->us=bs.map Value.bool
 | [],_,.nil=>rfl
 | b::bs,_,.cons r t=>by
  have e:_=Value.bool b:=r
  rw[e,rM t];rfl
noncomputable def zG (K:PySem.W.Frag):V->List V->Hp->VK->Prop:=fun x vs H Q=>∃(l:Addr) (bs:List Bool) (b:Bool),x=.ref l/\vs=[.bl b]/\SqL K H l (bs.map V.bl)/\Q (.int (bs.countP (· == b):Nat)) H
theorem zT:MtM X "list.count" (zG X.K):=by
 intro pins s σ H x vs v us Q I rx rv h
 obtain⟨l,bs,b,rfl,rfl,hq,q⟩:=h
 cases rx
 obtain⟨u,rfl,ru⟩:=rv.one
 have e0:u=Value.bool b:=ru
 subst e0
 obtain⟨its,rs,pl,hz⟩:=I.list hq
 have ei:=rM rs
 subst ei
 obtain⟨dd,n,sl,ho⟩:=wU pl.isList
 refine call_meets F.slot_list_count ⟨_,ho,rfl⟩ F.entry_list_count (F.args_list_count_2 _ _) (SeqAt.list_countAt l _ n dd sl (.bool b) (eqB b)) ⟨ho,fun y hy=>?_,?_⟩
 ·obtain⟨c,_,rfl⟩:=List.mem_map.mp (by simpa using hy:y∈bs.map Value.bool)
  exact SeqAt.EqAt.bool_bool c b
 ·refine⟨.int (bs.countP (· == b):Nat),H,I.kept (h':=s.heap) (t':=s.toks+1) fun _ _ z=>z,⟨s.toks,?_⟩,q⟩
  rw[List.toList_toArray,List.countP_map]
  rfl
noncomputable def yR (K:PySem.W.Frag):V->List V->Hp->VK->Prop:=fun x vs H Q=>∃(l:Addr) (bs:List Bool) (b:Bool) (j:Nat),x=.ref l/\vs=[.bl b]/\SqL K H l (bs.map V.bl)/\bs.findIdx? (· == b)=some j/\bs.length<1000000/\Q (.int (j:Nat)) H
theorem AN:MtM X "list.index" (yR X.K):=by
 intro pins s σ H x vs v us Q I rx rv h
 obtain⟨l,bs,b,j,rfl,rfl,hq,hj,hlen,q⟩:=h
 cases rx
 obtain⟨u,rfl,ru⟩:=rv.one
 have e0:u=Value.bool b:=ru
 subst e0
 obtain⟨its,rs,pl,hz⟩:=I.list hq
 have ei:=rM rs
 subst ei
 obtain⟨dd,n,sl,ho⟩:=wU pl.isList
 obtain⟨hlt,hit,hno⟩:=List.findIdx?_eq_some_iff_getElem.mp hj
 refine call_meets F.slot_list_index ⟨_,ho,rfl⟩ F.entry_list_index (F.args_list_index_2 _ _) (SeqAt.list_indexAt l _ n dd sl (.bool b) (eqB b) j (by simpa using hlt) (by omega) ?_ ?_) ⟨ho,fun y hy=>?_,?_⟩
 ·simpa [eqB] using hit
 ·intro m hm h2
  have:=hno m h2
  simpa [eqB] using this
 ·obtain⟨c,_,rfl⟩:=List.mem_map.mp (by simpa using hy:y∈bs.map Value.bool)
  exact SeqAt.EqAt.bool_bool c b
 ·exact⟨.int (j:Nat),H,I.kept (h':=s.heap) (t':=s.toks+1) fun _ _ z=>z,⟨s.toks,rfl⟩,q⟩
noncomputable def uv:D->List D->Hh->R D:=fun o ds h=>match o,ds with
 | .frl xs,[.bl b]=>match oG xs with
  | some bs=>.ok (.int (bs.countP (· == b):Nat)) h
  | none=>.bad
 | _,_=>.bad
noncomputable def vC:D->List D->Hh->R D:=fun o ds h=>match o,ds with
 | .frl xs,[.bl b]=>match oG xs with
  | some bs=>match bs.findIdx? (· == b) with
   | some j=>if bs.length<1000000 then .ok (.int (j:Nat)) h else .bad
   | none=>.bad
  | none=>.bad
 | _,_=>.bad
theorem Ak:B4 K g ε uv (zG K):=by
 intro α H h o a y x Q r ro ra w
 unfold uv at w
 cases ro with
 | @frl ds p vs hq rs=>
  cases ra with
  | nil=>exact w.elim
  | cons rd rr=>
   cases rr with
   | cons _ _=>cases rd<;>exact w.elim
   | nil=>
    cases rd with
    | bl b=>
     simp only at w
     cases e2:oG ds with
     | none=>rw[e2] at w;exact w.elim
     | some bs=>
      rw[e2] at w
      have e3:=lj e2
      subst e3
      have e4:=rs.HI
      subst e4
      exact⟨p,bs,b,rfl,rfl,hq.sq,aF.now w r (.int _)⟩
    | _=>exact w.elim
 | _=>exact w.elim
theorem Ab:B4 K g ε vC (yR K):=by
 intro α H h o a y x Q r ro ra w
 unfold vC at w
 cases ro with
 | @frl ds p vs hq rs=>
  cases ra with
  | nil=>exact w.elim
  | cons rd rr=>
   cases rr with
   | cons _ _=>cases rd<;>exact w.elim
   | nil=>
    cases rd with
    | bl b=>
     simp only at w
     cases e2:oG ds with
     | none=>rw[e2] at w;exact w.elim
     | some bs=>
      rw[e2] at w
      simp only at w
      cases e5:bs.findIdx? (· == b) with
      | none=>rw[e5] at w;exact w.elim
      | some j=>
       rw[e5] at w
       obtain⟨hl,w⟩:=WQ.fc w
       have e3:=lj e2
       subst e3
       have e4:=rs.HI
       subst e4
       exact⟨p,bs,b,j,rfl,rfl,hq.sq,e5,hl,aF.now w r (.int _)⟩
    | _=>exact w.elim
 | _=>exact w.elim
end
end L2.FE
namespace L2
open PySem PySem.Spec PyProof.Rows
theorem Inv.Jd {X:Cx} {pins pins' pn:List (Addr × Obj)} {σ:St} {H:Hp} {s:Shared} {E:Value->Shared->Prop} (J:Inv (X.wpn pn E) pins' σ H s) (hp:∀p∈X.pn++pins,p∈pn++pins'):Inv X pins σ H s:=
 ⟨⟨J.ok.mod,J.ok.kind,J.ok.glob,J.ok.blt,J.ok.above,J.ok.inj,J.ok.has,J.ok.cab,J.ok.hd,J.ok.frames,J.ok.stk,J.ok.exf,J.ok.bs,J.ok.bsz,J.ok.uN,J.ok.wk,J.ok.j5,J.ok.frf⟩,J.os,J.bare,J.base,J.loc,J.cell,J.free,J.eI,fun p h=>J.pin p (hp p h),J.hok,J.len⟩
end L2
namespace L2.FE
open PySem PySem.Spec PyProof.Rows
noncomputable def Ey (P:Program) (w:World) (K:PySem.W.Frag) (mg:Str->Option Value) (base:Heap) (g:GG) (x:Str) (k:Nat) (ps:List Str) (m:MF):Prop:=
 ∃f fd,FnH P w K mg base k f fd ps (spM K g ps.length m)/\PySem.W.keepIn K (.ref f)=true/\Binds K fd ps []/\mg x=some (.ref f)
section
variable {P:Program} {w:World} {K:PySem.W.Frag} {mg:Str->Option Value} {base:Heap} {g:GG}
theorem F8 {x qual:Str} {st:Stmt} {f:Addr} {fd:FuncData} {N ps:List Str} {k:Nat} {mb:MS} (F:Fun K x qual st f fd) (S:aE N ps (ak st))
  (hb:∀(cdv:Value) (A:Around) (outer:List Env) (s:Shared) (H:Hp) (E:XK),cP k (unm (A.deeper (envOfC qual (ak st) s.heap.objs.size f cdv))) →
   PSs (cxH P w K mg base N qual (ak st) f cdv A outer s H E) (bQ st) (tMS K g E00 mb)):FnH P w K mg base (k+1) f fd ps (spM K g ps.length (cH N.length mb)):=by
 refine Im F S (fun vs H Q E h=>h.1) fun cdv A outer s H vs Q E hr h=>⟨_,hb cdv A outer s H E hr,?_⟩
 obtain⟨hl,α,ds,h,rs,hh,w⟩:=h
 refine tMS.use ⟨hh,kc rs⟩ w.bind fun fl h' H' α' e r kk=>?_
 cases fl with
 | nx e'=>exact fun σ' s'=>(show aF K g α H Q .non h' from kk) _ H' α' e r .non
 | bk e'=>exact kk.elim
 | ct e'=>exact kk.elim
 | rt d=>exact fun v rv=>(show aF K g α H Q d h' from kk) _ H' α' e r rv
end
section
variable {X:Cx} {g:GG} {ε:EE}
theorem Du {k:Nat} {f:Addr} {fd:FuncData} {ps:List Str} {m:MF} {np:Nat} {x:Str} {p pos:Pos} {e:Expr} {es:List Expr} {mr:MA} (F:FnH X.prog X.w X.K X.mg X.base k f fd ps (spM X.K g np m)) (hr:cP k (unm X.A)) (hg:Gl X x) (hm:X.mg x=some (.ref f)) (hk:PySem.W.keepIn X.K (.ref f)=true) (hb:Binds X.K fd ps [])
  (ha:PA X (e::es) (tMA X.K g E00 mr)) (hlen:∀env h ds h',mr env h=.ok ds h'->ds.length=np) (hdb:(x == ("__debug__" : Str))=false:=by decide) (he:starEach (e::es) X.env=(false,eval e X.env)::starEach es X.env:=by rfl) (hpl:(backTo pos (starEach es X.env)).any (·.1)=false:=by rfl) :
  PE X (.Call (.Name x p) (e::es) [] pos) (tM X.K g E00 (ai m mr)):=
 PE.imp (wz F hr hg hm hk hb ha hdb he hpl) fun σ H Q ⟨α,env,h,s,w⟩=>⟨α,env,h,s,w.bind.mono fun d1 h1 eq w1 v1 H1 α1 e1 hr1 r1=>by
  show spM X.K g np m (v1++[]) H1 Q E0
  rw[List.append_nil]
  refine⟨?_,α1,d1,h1,r1,hr1,w1.post e1⟩
  rw[<- r1.length]
  exact hlen env h d1 h1 eq⟩
noncomputable def xI (mb:MS) (mr:MF):MS:=fun env h=>match mb env h with
 | .ok fl h'=>.ok fl h'
 | .err x h'=>if (bq.contains x.cls&&(h'.take h.length).all (rD h.length))=true then (noR (mr [.exc x.cls x.fs] (h'.take h.length))).bind fun d h2=>.ok (.rt d) h2 else .bad
 | .bad=>.bad
theorem JY {body:List Stmt} {mb:MS} {mr:MF} {k:Nat} {f:Addr} {fd:FuncData} {ps:List Str} {i:Nat} {n y:Str} {np p1 p2 cpos rpos hpos pos:Pos}
  (hcl:pB X.K X.mg) (hgo:g=gOf X.mg) (pl:Plain X) (hN:X.N.Nodup) (hi:X.N[i]?=some n) (hl:X.env.scope.names.lookup n=some .local) (hgF:Gl X "FallError") (hgR:Gl X y)
  (F:FnH X.prog X.w X.K X.mg X.base k f fd ps (spM X.K g 1 mr)) (hr:cP k (unm X.A)) (hm:X.mg y=some (.ref f)) (hk:PySem.W.keepIn X.K (.ref f)=true) (hb:Binds X.K fd ps [])
  (hbd:∀(pn:List (Addr × Obj)) (xe:Value->Shared->Prop) (E:XK),iC (X.wpn pn xe) E->Plain (X.wpn pn xe)->PassesOwn (model X.prog X.w) X.A X.env xe->PSs (X.wpn pn xe) body (tMS X.K g (εX g E) mb))
  (hdn:(n == ("__debug__" : Str))=false:=by decide) (hdc:(n == ("__classdict__" : Str))=false:=by decide) (hdb:(y == ("__debug__" : Str))=false:=by decide)
  (hst:starEach [.Name n p2] X.env=(false,eval (.Name n p2) X.env)::starEach [] X.env:=by rfl) (hpl:(backTo cpos (starEach [] X.env)).any (·.1)=false:=by rfl) :
  PS X (.Try body [.ExceptHandler (some (.Name "FallError" np)) (some n) [.Return (some (.Call (.Name y p1) [.Name n p2] [] cpos)) rpos] hpos] [] [] pos) (tMS X.K g ε (xI mb mr)):=by
 intro pins s σ H D I ⟨α,env,h,sr,w⟩
 obtain⟨CF,hmF⟩:=hcl.at_ "FallError" (by decide)
 refine wpAny_Try_except ?_
 let K1:Value->Shared->Prop:=fun e s₁=>wpAny (model X.prog X.w) X.A (noteFrame e X.env) (fun _ s₂=>wpAny (model X.prog X.w) X.A (setFlight e none) (fun _ s₃=>wpAny (model X.prog X.w) X.A (handleBy e X.env [.ExceptHandler (some (.Name "FallError" np)) (some n) [.Return (some (.Call (.Name y p1) [.Name n p2] [] cpos)) rpos] hpos]) (SP X pins D) X.xe s₃) X.xe s₂) X.xe s₁
 let E1:XK:=fun C dc H'=>∃α' x h',mb env h=.err x h'/\Ext X.K α H α' H'/\aZ X.K g α' H' h'/\(∃C0,C=.ref C0/\g x.cls=some C0)/\XFs H' dc x.fs
 have un:∀{σ:St} {H:Hp} {s:Shared},Inv (X.wpn (X.pn++pins) K1) [] σ H s->Inv X pins σ H s:=fun J=>J.Jd fun p hp=>by simpa using hp
 have fl:iC (X.wpn (X.pn++pins) K1) E1:=by
  rintro e s1 ⟨σ1,H1,B,a,C,dc,rfl,J,ar,cv,pn,α',x,h',eq,ext,hr',⟨C0,rfl,hgC⟩,xf⟩
  have ar':Arr B (X.env::X.outer) a (.ref C0) dc s1.heap:=by rw[<- pl.stk.1];exact ar
  have hA:X.A.frames=some (X.env::X.outer):=by rw[<- pl.stk.1];exact J.ok.frames
  have pl1:Plain (X.wpn (X.pn++pins) K1):=⟨pl.ex,pl.stk⟩
  unfold xI at w
  rw[eq] at w
  obtain⟨low,w⟩:=WQ.fc w
  rw[Bool.and_eq_true] at low
  obtain⟨hcn,low⟩:=low
  refine wW hA pl.stk.2 ar' fun h2 y2 g2=>uf y2 fun h3 y3 g3=>?_
  have J3:Inv (X.wpn (X.pn++pins) K1) [] σ1 H1 { s1 with heap:=h3 }:=J.flew (t':=s1.toks) pl1 cv pn ar.stays ar.fr y3.stays (g2.trans g3)
  refine wpAny_handleBy_cons (codeAny_handlers_test ?_) (by intro q;cases q)
  have J3h:Inv ((X.wpn (X.pn++pins) K1).hand (X.A.mark (some (.ref a))) (X.pn++pins) fun _ _=>False) [] σ1 H1 { s1 with heap:=h3 }:=Inv.hand (A:=X.A.mark (some (.ref a))) (pn:=X.pn++pins) J3 rfl (fun p hp=>hp) _
  refine i4 J3h hgF hmF ?_
  obtain⟨ob,ws0,hob,hoc,_,_⟩:=y3.there
  have LT:PySem.W.Looks (model X.prog X.w) h3 (typeOf (.ref a)) (.ref C0):=hoc ▸ (PySem.W.Looks.ld hob).andThen .now
  have hx:PySem.W.exmOne X.K (.ref C0) (.ref CF)=some true:=by
   subst hgo
   exact hcl.exm x.cls (by simpa using hcn) C0 (l5 hgC) CF hmF
  refine(PySem.W.exm_one J3.kIn LT hx).here ?_
  refine codeAny_handlers_suite_as ?_
  refine uf y3 fun h4 y4 g4=>?_
  have J4:Inv (X.wpn (X.pn++pins) K1) [] σ1 H1 { s1 with heap:=h4 }:=J.flew (t':=s1.toks) pl1 cv pn ar.stays ar.fr y4.stays (g2.trans (g3.trans g4))
  obtain⟨oe,ws,q1,q2,q3,q4⟩:=y4.there
  have fr4:h4.FunFrames B X.stack:=by rw[pl.stk.1];exact y4.fr
  obtain⟨hn,J5⟩:=J4.adopt pl1 cv pn fr4 y4.new q1 q4
  refine jF (X:=X.wpn (X.pn++pins) K1) J5 hN hi (.inl hl) (v:=.ref a) (u:=.ref a) rfl (fun s6 J6=>?_) (.inr hl)
  have J7:Inv ((X.wpn (X.pn++pins) K1).hand (X.A.mark (some (.ref a))) (X.pn++pins) fun _ _=>False) [] (σ1.set i (some (.ref a))) (upd H1 a (AtO a oe)) s6:=Inv.hand (A:=X.A.mark (some (.ref a))) (pn:=X.pn++pins) J6 rfl (fun p hp=>hp) _
  have T:=zM (Dv (pos:=rpos) (wz (X:=(X.wpn (X.pn++pins) K1).hand (X.A.mark (some (.ref a))) (X.pn++pins) fun _ _=>False) (p:=p1) (pos:=cpos) F hr hgR hm hk hb (fq (Cb (pos:=p2) hi (.inl hl) hdn hdc) jI hst) hdb hst hpl))
  have lenσ:i<σ1.length:=by rw[J.len];exact(List.getElem?_eq_some_iff.mp hi).1
  refine wpAny_mono (T [] s6 _ _ { nx:=fun _ _=>False,rt:=D.rt } J7 ⟨.ref a,by simp[lenσ],?_⟩) (fun fl s7 q=>?_) fun _ _ z=>z.elim
  ·show spM X.K g 1 mr ([.ref a]++[]) (upd H1 a (AtO a oe)) D.rt E0
   have k0:α.length=h.length:=sr.heap.len
   have fz:∀p o u,H1 p=some (.frz o u)->upd H1 a (AtO a oe) p=some (.frz o u):=fun p o u z=>by rw[aC (aN z hn)];exact z
   have Lw:sU X.K α α' H1 (upd H1 a (AtO a oe)) h.length:=⟨fun m hm=>pI ext.pre (by omega),fun p xs z=>by rw[aC (aN z hn)];exact z,fz⟩
   have kp:∀m p u,m<h.length->α'[m]?=some p->H1 p=some u->upd H1 a (AtO a oe) p=some u:=fun m p u _ _ z=>by rw[aC (aN z hn)];exact z
   have ex2:Ext X.K α H α (upd H1 a (AtO a oe)):=⟨⟨List.prefix_refl _,fun p xs z=>Lw.tup p xs (ext.tup p xs z),fun p o u z=>fz p o u (ext.frz p o u z),fun p ps z=>by
    obtain⟨m,q⟩:=ext.tbl p ps z
    exact⟨m,by rw[aC (aN q hn)];exact q⟩⟩,fun p u z m nt=>by
    have:=ext.kept p u z m nt
    rw[aC (aN this hn)];exact this,fun _ z m=>absurd z m⟩
   refine⟨rfl,α,[.exc x.cls x.fs],h'.take h.length,.cons (.exc hgC aP q2 ⟨ws,q4⟩ ?_) .nil,⟨?_,sr.heap.inj,fun m p ob h1 h2=>?_,hr'.tab.upd (.inl hn)⟩,?_⟩
   ·rw[q3]
    exact xf.elim .inl fun⟨dx,od,z1,z2⟩=>.inr ⟨dx,od,z1,fz _ _ _ z2⟩
   ·rw[List.length_take,<- hr'.len,k0]
    have:=ext.pre.length_le
    omega
   ·have hm:m<h.length:=(qS h2).1
    rw[pI ext.pre (by omega)] at h1
    exact xc k0 ext hr' low Lw kp m p ob hm h1 h2
   ·refine((ui w.bind).ext ex2).mono fun d h2 _ kk v H2 α2 e2 r2 rd=>?_
    exact(show eA X.K g α H D (.rt d) h2 from kk) H2 α2 (ex2.trans e2) r2 v rd
  ·cases fl with
   | ret u=>
    obtain⟨v,σ7,H7,J8,rv,q⟩:=q
    obtain⟨m,hm7,_⟩:=J8.loc
    have J9:Inv X pins σ7 H7 s7:=un (Inv.back (pins:=[]) J8 J.ok fun p hp=>hp)
    refine wpAny_nameGoes_keeps hl hm7 (by rw[I.ok.kind];rfl) fun h8 v8 hn8 sb=>?_
    exact⟨v,σ7.set i none,H7,J9.forget hN hi hm7 hn8 (fun z hz=>if_neg hz) sb,rv,q⟩
   | next=>obtain⟨_,_,_,q⟩:=q;exact q.elim
   | brk=>obtain⟨_,_,_,q⟩:=q;exact q.elim
   | cont=>obtain⟨_,_,_,q⟩:=q;exact q.elim
 have I1:Inv (X.wpn (X.pn++pins) K1) [] σ H s:=I.wpn (fun p hp=>by simpa using hp) _
 refine wpAny_mono (hbd (X.pn++pins) K1 E1 fl ⟨pl.ex,pl.stk⟩ PassesOwn.looking [] s σ H D I1 ⟨α,env,h,sr,?_⟩) (fun f s1 q=>?_) fun _ _ z=>z
 ·unfold xI at w
  cases eq:mb env h with
  | ok fl h'=>rw[eq] at w;exact w
  | err x h'=>exact fun α' H' e r C dc hg xf=>⟨α',x,h',eq,e,r,⟨C,rfl,hg⟩,xf⟩
  | bad=>rw[eq] at w;exact w.elim
 ·cases f with
  | next=>obtain⟨σ',H',J,q⟩:=q;exact wpAny_execs_nil ⟨σ',H',un J,q⟩
  | brk=>obtain⟨σ',H',J,q⟩:=q;exact⟨σ',H',un J,q⟩
  | cont=>obtain⟨σ',H',J,q⟩:=q;exact⟨σ',H',un J,q⟩
  | ret u=>obtain⟨v,σ',H',J,r,q⟩:=q;exact⟨v,σ',H',un J,r,q⟩
end
end L2.FE
namespace L2
open PySem PySem.Spec PyProof.Rows
theorem Dr {k:Nat} {A:Around} (h:cP k A):cP k (unm A):=⟨rfl,h.dp,h.un,h.gd⟩
end L2
namespace L2.FE
open PySem PySem.Spec PyProof.Rows
section
variable {X:Cx} {g:GG} {ε:EE} {K:PySem.W.Frag}
noncomputable def yz (P:Program) (w:World) (K:PySem.W.Frag) (mg:Str->Option Value) (base:Heap) (g:GG) (k np:Nat) (tab:Str->Option MF):Prop:=
 ∀x m,tab x=some m->∃f fd ps,g x=some f/\ef P w K mg base (CXE P w) k f fd ps (spE K g np m)/\PySem.W.keepIn K (.ref f)=true/\Binds K fd ps []
theorem s_ {E:XK} {k np:Nat} {tab:Str->Option MF} {fe e:Expr} {es:List Expr} {pos:Pos} {mf:ME} {mr:MA} (fl:iC X E) (pl:Plain X) (T:yz X.prog X.w X.K X.mg X.base g k np tab) (hr:cP k X.A) (hf:PE X fe (tM X.K g (εX g E) mf)) (ha:PA X (e::es) (tMA X.K g (εX g E) mr)) (hlen:∀env h ds h',mr env h=.ok ds h'->ds.length=np)
  (hc:eval (.Call fe (e::es) [] pos) X.env=(do callWith pos (← eval fe X.env) [] (backTo pos (starEach (e::es) X.env)) (backToKw pos (keywordEach [] X.env))):=by rfl)
  (he:starEach (e::es) X.env=(false,eval e X.env)::starEach es X.env:=by rfl) (hpl:(backTo pos (starEach es X.env)).any (·.1)=false:=by rfl) :
  PE X (.Call fe (e::es) [] pos) (tM X.K g (εX g E) (k9 tab mf mr)):=by
 intro pins s σ H Q I ⟨α,env,h,s0,w⟩
 refine Call_ (thn (hf pins s σ H (fun v H1=>∃α1 h1 f fd ps m,v=.ref f/\ef X.prog X.w X.K X.mg X.base (CXE X.prog X.w) k f fd ps (spE X.K g np m)/\PySem.W.keepIn X.K (.ref f)=true/\Binds X.K fd ps []/\eP X.K g α1 H1 env σ h1/\WQ X.K g (εX g E) α1 H1 ((mr env h1).bind m) (aF X.K g α1 H1 Q)) I ?_) fun v s1 ⟨x,H1,I1,r1,q1⟩=>?_) hc
 ·refine tM.use s0 w.bind fun d1 h1 v1 H1 α1 e1 s1 r1 w1=>?_
  cases r1 with
  | @fn x f hx=>
   simp only at w1
   cases et:tab x with
   | none=>rw[et] at w1;exact w1.elim
   | some m=>
    rw[et] at w1
    obtain⟨f',fd,ps,h1',h2',h3',h4'⟩:=T x m et
    rw[hx] at h1'
    cases h1'
    exact⟨α1,h1,f,fd,ps,m,rfl,h2',h3',h4',s1,WQ.post e1 w1⟩
  | _=>exact w1.elim
 ·obtain⟨α1,h1,f,fd,ps,m,rfl,F,hk,hb,s2,w2⟩:=q1
  cases r1
  refine PySem.W.callWith_K (h₀:=X.base) I.ok.mod.kin hk (thn (ha pos pins s1 σ H1 (fun vs H2=>spE X.K g np m vs H2 Q E) I1 ?_) fun us s3 ⟨vs,H2,I2,r,q⟩=>⟨I2.kIn,?_⟩) he hpl
  ·exact⟨α1,env,h1,s2,w2.bind.mono fun d3 h3 eq w3 v3 H3 α3 e3 hr3 r3=>⟨by rw[<- r3.length];exact hlen env h1 d3 h3 eq,α3,d3,h3,r3,hr3,w3.post e3⟩⟩
  ·exact DA F hr hb .nil (pX pl fl) I2 r (by rw[List.append_nil];exact q)
end
end L2.FE
namespace L2
open PySem PySem.Spec PyProof.Rows
inductive RdE (K:PySem.W.Frag) (H:Hp):V->PyData->Prop
 | non:RdE K H .non .none
 | bl (b:Bool):RdE K H (.bl b) (.bool b)
 | int (i:Int):RdE K H (.int i) (.int i)
 | str (x:Str):RdE K H (.str x) (.str x)
 | tup {a:Addr} {xs:List V} {ds:List PyData} (h:SqT K H a xs) (hl:xs.length=ds.length) (hx:∀(i:Nat) x d,xs[i]?=some x->ds[i]?=some d->RdE K H x d):RdE K H (.ref a) (.tuple ds)
 | edic {a:Addr} {o:Obj} (h:H a=some (.frz o (.dK []))):RdE K H (.ref a) (.dict [])
theorem sQ {h:Heap}:∀{us:List Value} {ds:List PyData},us.length=ds.length->(∀(i:Nat) u d,us[i]?=some u->ds[i]?=some d->∃as,Reads h u d as/\sysModules∉as)->∃as,ReadsAll h us ds as/\sysModules∉as
 | [],[],_,_=>⟨_,.nil,by simp⟩
 | [],_::_,hl,_=>by simp at hl
 | _::_,[],hl,_=>by simp at hl
 | u::us,d::ds,hl,hx=>by
  obtain⟨as,h1,n1⟩:=hx 0 u d rfl rfl
  obtain⟨bs,h2,n2⟩:=sQ (us:=us) (ds:=ds) (by simpa using hl) fun i u d e1 e2=>hx (i+1) u d (by simpa using e1) (by simpa using e2)
  exact⟨_,.cons h1 h2,by simp[n1,n2]⟩
section
variable {X:Cx}
theorem Inv.HM {pins:List (Addr × Obj)} {σ:St} {H:Hp} {s:Shared} (I:Inv X pins σ H s) {x:V} {d:PyData} (r:RdE X.K H x d):∀u,RelV x u->∃as,Reads s.heap u d as/\sysModules∉as:=by
 induction r with
 | non=>intro u ru;cases (show u=Value.none from ru);exact⟨_,.none,by simp⟩
 | bl b=>intro u ru;cases (show u=Value.bool b from ru);exact⟨_,.bool b,by simp⟩
 | int i=>intro u ru;obtain⟨t,q⟩:=(show ∃t,u=Value.int i t from ru);cases q;exact⟨_,.int i t,by simp⟩
 | str y=>intro u ru;obtain⟨t,q⟩:=(show ∃t,u=Value.str y t from ru);cases q;exact⟨_,.str y t,by simp⟩
 | @tup a xs ds h hl hx ih=>
  intro u ru
  cases (show u=Value.ref a from ru)
  obtain⟨its,rv,p,hz⟩:=I.tuple h
  obtain⟨o,ho,hc,n,hd⟩:=p
  obtain⟨as,ra,na⟩:=sQ (h:=s.heap) (us:=its) (ds:=ds) (by rw[<- rv.length,hl]) fun i u d e1 e2=>by
   obtain⟨y,e3,ry⟩:=rv.get' e1
   exact ih i y d e3 e2 u ry
  exact⟨_,.tuple ho hc hd (by simpa using ra),na⟩
 | @edic a o h=>
  intro u ru
  cases (show u=Value.ref a from ru)
  obtain⟨_,_,na,vs,kv,o',es,ep,e1,e2,e3,e4⟩:=I.hok a _ h
  have hv:vs=[]:=by cases kv;rfl
  subst hv
  have he:es.toList=[]:=by
   have:=e4.2.1.length
   simpa using this
  exact⟨_,.dict (kvs:=[]) (as:=[]) (bs:=[]) e1 e2.1 e3 (by rw[he];exact .nil) (by rw[he];exact .nil),by simpa using fun z=>(by rw[<- z] at na;simp at na)⟩
theorem xH (hg:X.A.guards=some []) (hu:X.A.units+64<cLine):bg X (.builtin "repr") (fun vs H Q=>∃p d,vs=[.ref p]/\RdE X.K H (.ref p) d/\d.showable=true/\d.depth<=60/\d.shown.length<=sizeLine/\Q (.str d.shown) H):=by
 intro pins s σ H xs us Q I r h
 obtain⟨p,d,rfl,rd,hs,hdp,hz,q⟩:=h
 obtain⟨u,rfl,rx⟩:=vals1 r
 cases rx
 obtain⟨as,ra,na⟩:=I.HM rd (.ref p) rfl
 exact repr_of_reads' ra hs (fun _=>na) hg (by omega) (fun _ _ e=>e) (fun h' u tk kp=>⟨.str d.shown,H,I.kept kp,⟨_,rfl⟩,q⟩) hz
theorem xU:bg X (.builtin "repr") (fun vs H Q=>vs=[.non]/\Q (.str "None") H):=by
 intro pins s σ H xs us Q I r h
 obtain⟨rfl,q⟩:=h
 obtain⟨u,rfl,rx⟩:=vals1 r
 cases (show u=Value.none from rx)
 exact PySem.P.repr_of_none ⟨.str "None", H,I.tok _,⟨_,rfl⟩,q⟩
theorem yC:bg X (.builtin "repr") (fun vs H Q=>∃b,vs=[.bl b]/\Q (.str (if b then "True" else "False")) H):=by
 intro pins s σ H xs us Q I r h
 obtain⟨b,rfl,q⟩:=h
 obtain⟨u,rfl,rx⟩:=vals1 r
 cases (show u=Value.bool b from rx)
 exact PySem.P.repr_of_bool ⟨.str (if b then "True" else "False"),H,I.tok _,⟨_,rfl⟩,q⟩
theorem xO:bg X (.builtin "repr") (fun vs H Q=>∃x,vs=[.str x]/\(reprText x).length<=sizeLine/\Q (.str (reprText x)) H):=by
 intro pins s σ H xs us Q I r h
 obtain⟨x,rfl,hz,q⟩:=h
 obtain⟨u,rfl,t,rfl⟩:=vals1 r
 exact PySem.P.repr_of_str ⟨.str (reprText x),H,I.tok _,⟨_,rfl⟩,q⟩ hz
end
end L2
namespace L2.FE
open PySem PySem.Spec PyProof.Rows
noncomputable def mJ:Nat->D->Option PyData
 | 0,_=>none
 | k+1,d=>match d with
  | .non=>some .none
  | .bl b=>some (.bool b)
  | .int i=>if sml i=true then some (.int i) else none
  | .str x=>if x.cps.toList.all (fun c=>decide (c<16 ^ 8))=true then some (.str x) else none
  | .tup ds=>(fE (mJ k) ds).map .tuple
  | .edic=>some (.dict [])
  | _=>none
structure Gj (k:Nat) (d:PyData):Prop where
 sh:d.showable=true
 dp:d.depth<=k
 lv:d.leavesShort 1921=true
structure Io (k:Nat) (ds:List PyData):Prop where
 sh:PyData.showableAll ds=true
 dp:PyData.depthAll ds<=k
 lv:PyData.leavesShortAll 1921 ds=true
section
variable {K:PySem.W.Frag} {g:GG} {α:List Addr} {H:Hp} {h:Hh} {X:Cx} {ε:EE}
theorem tK {f:D->Option PyData} {k:Nat} (hf:∀d x p,aM K g α H d x->f d=some p->RdE K H x p/\Gj k p):∀{ds:List D} {vs:List V} {ps:List PyData},aw K g α H ds vs->fE f ds=some ps →
  Io k ps/\vs.length=ps.length/\∀(i:Nat) x d,vs[i]?=some x->ps[i]?=some d->RdE K H x d
 | _,_,_,.nil,e=>by
  cases e
  exact⟨⟨by simp[PyData.showableAll],by simp[PyData.depthAll],by simp[PyData.leavesShortAll]⟩,rfl,fun i x d h=>by simp at h⟩
 | _,_,_,.cons r t,e=>by
  unfold fE at e
  split at e
  ·rename_i p ps h1 h2
   cases e
   obtain⟨a1,a2⟩:=hf _ _ _ r h1
   obtain⟨b1,b2,b3⟩:=tK hf t h2
   refine⟨⟨by rw[PyData.showableAll,a2.sh,b1.sh];rfl,by rw[PyData.depthAll];exact Nat.max_le.mpr ⟨a2.dp,b1.dp⟩,by rw[PyData.leavesShortAll,a2.lv,b1.lv];rfl⟩,by simp[b2],fun i x d hx hd=>?_⟩
   cases i with
   | zero=>simp at hx hd;subst hx hd;exact a1
   | succ i=>exact b3 i x d (by simpa using hx) (by simpa using hd)
  ·cases e
theorem vS:∀(k:Nat) (d:D) (x:V) (p:PyData),aM K g α H d x->mJ k d=some p->RdE K H x p/\Gj k p
 | 0,_,_,_,_,e=>by cases e
 | k+1,d,x,p,rd,e=>by
  unfold mJ at e
  cases rd with
  | non=>cases e;exact⟨.non,by simp[PyData.showable],by simp[PyData.depth],by simp[PyData.leavesShort]⟩
  | bl b=>cases e;exact⟨.bl b,by simp[PyData.showable],by simp[PyData.depth],by simp[PyData.leavesShort]⟩
  | int i=>
   simp only at e
   split at e
   ·rename_i hs
    cases e
    have hl:i.natAbs.log2<1920:=Nat.lt_trans (pM hs) (by decide)
    exact⟨.int i,by simp[PyData.showable,hl],by simp[PyData.depth],by simp only[PyData.leavesShort,decide_eq_true_eq];exact int_text_len_1921 hl⟩
   ·cases e
  | str z=>
   simp only at e
   split at e
   ·rename_i hs
    cases e
    exact⟨.str z,by simp[PyData.showable],by simp[PyData.depth],by simpa only[PyData.leavesShort] using hs⟩
   ·cases e
  | edic hp=>cases e;exact⟨.edic hp,by simp[PyData.showable,PyData.showableKv],by simp[PyData.depth,PyData.depthKv],by simp[PyData.leavesShort,PyData.leavesShortKv]⟩
  | tup hp rs=>
   simp only at e
   cases e1:fE (mJ k) _ with
   | none=>rw[e1] at e;cases e
   | some ps=>
    rw[e1] at e
    cases e
    obtain⟨b1,b2,b3⟩:=tK (fun d x p=>vS k d x p) rs e1
    exact⟨.tup (SqT.of hp) b2 b3,by rw[PyData.showable];exact b1.sh,by rw[PyData.depth];exact Nat.succ_le_succ b1.dp,by rw[PyData.leavesShort];exact b1.lv⟩
  | _=>cases e
noncomputable def AB (d:D) (h:Hh):R D:=match mJ 12 d with
 | some p=>if p.bulk<=8000 then .ok (.str p.shown) h else .bad
 | none=>.bad
noncomputable def vo:List D->Hh->R D:=fun ds h=>match ds with
 | [.non]=>.ok (.str "None") h
 | [.bl b]=>.ok (.str (if b then "True" else "False")) h
 | [.str x]=>if (reprText x).length<=1000000 then .ok (.str (reprText x)) h else .bad
 | [.tup ds]=>AB (.tup ds) h
 | [.edic]=>AB .edic h
 | _=>.bad
noncomputable def gb:List D->Hh->R D:=fun ds h=>match sV ds h with
 | .ok d h'=>.ok d h'
 | _=>vo ds h
noncomputable abbrev pG (K:PySem.W.Frag):List V->Hp->VK->Prop:=fun vs H Q=>vd K vs H Q\/(∃p d,vs=[.ref p]/\RdE K H (.ref p) d/\d.showable=true/\d.depth<=60/\d.shown.length<=sizeLine/\Q (.str d.shown) H)\/(vs=[.non]/\Q (.str "None") H)\/(∃b,vs=[.bl b]/\Q (.str (if b then "True" else "False")) H)\/∃x,vs=[.str x]/\(reprText x).length<=sizeLine/\Q (.str (reprText x)) H
theorem lO (hg:X.A.guards=some []) (hu:X.A.units+64<cLine):bg X (.builtin "repr") (pG X.K):=bg.or (Ex hg hu) (bg.or (xH hg hu) (bg.or xU (bg.or yC xO)))
theorem l0:m9 K g ε gb (pG K):=by
 intro α H h a x Q r ra w
 unfold gb at w
 cases e:sV a h with
 | ok d h'=>rw[e] at w;exact .inl (Fb α H h a x Q r ra (by rw[e];exact w))
 | err z h'=>rw[e] at w;exact im α H h a x Q r ra w
 | bad=>rw[e] at w;exact im α H h a x Q r ra w
where
 im (α H h a x Q) (r:aZ K g α H h) (ra:aw K g α H a x) (w:WQ K g ε α H (vo a h) (aF K g α H Q)):pG K x H Q:=by
  unfold vo at w
  have gen:∀{d:D} {v:V},aM K g α H d v->(∃p,v=.ref p)->WQ K g ε α H (AB d h) (aF K g α H Q)->pG K [v] H Q:=by
   intro d v rd ⟨p,hp⟩ w
   subst hp
   unfold AB at w
   cases e:mJ 12 d with
   | none=>simp only[e] at w;exact w.elim
   | some pd=>
    simp only[e] at w
    obtain⟨hb,w⟩:=WQ.fc w
    obtain⟨q1,q2⟩:=vS 12 d _ pd rd e
    have:=PyData.shown_le_bulk 1921 (by decide) pd q2.lv
    exact .inr (.inl ⟨p,pd,rfl,q1,q2.sh,Nat.le_trans q2.dp (by decide),by rw[sizeLine_eq];omega,aF.now w r (.str _)⟩)
  cases ra with
  | nil=>exact w.elim
  | cons rd rr=>
   cases rr with
   | cons _ _=>cases rd<;>exact w.elim
   | nil=>
    cases rd with
    | non=>exact .inr (.inr (.inl ⟨rfl,aF.now w r (.str _)⟩))
    | bl b=>exact .inr (.inr (.inr (.inl ⟨b,rfl,aF.now w r (.str _)⟩)))
    | str z=>
     obtain⟨hz,w⟩:=WQ.fc w
     exact .inr (.inr (.inr (.inr ⟨z,rfl,hW hz,aF.now w r (.str _)⟩)))
    | tup hp rs=>exact gen (.tup hp rs) ⟨_,rfl⟩ w
    | edic hp=>exact gen (.edic hp) ⟨_,rfl⟩ w
    | _=>exact w.elim
theorem qp {ds:List D} {d:D} {h h':Hh} (e:sV ds h=.ok d h'):gb ds h=.ok d h':=by unfold gb;rw[e]
end
theorem us0 {P:List Value->Prop} {us:List Value} (hl:us.length=0) (h:P []):P us:=by cases us with | nil=>exact h | cons _ _=>cases hl
theorem us1 {P:List Value->Prop} {us:List Value} (hl:us.length=1) (h:∀a,P [a]):P us:=by cases us with | nil=>cases hl | cons a us=>exact us0 (P:=fun us=>P (a::us)) (Nat.succ.inj hl) (h a)
theorem us2 {P:List Value->Prop} {us:List Value} (hl:us.length=2) (h:∀a b,P [a,b]):P us:=by cases us with | nil=>cases hl | cons a us=>exact us1 (P:=fun us=>P (a::us)) (Nat.succ.inj hl) (h a)
theorem us3 {P:List Value->Prop} {us:List Value} (hl:us.length=3) (h:∀a b c,P [a,b,c]):P us:=by cases us with | nil=>cases hl | cons a us=>exact us2 (P:=fun us=>P (a::us)) (Nat.succ.inj hl) (h a)
theorem us4 {P:List Value->Prop} {us:List Value} (hl:us.length=4) (h:∀a b c d,P [a,b,c,d]):P us:=by cases us with | nil=>cases hl | cons a us=>exact us3 (P:=fun us=>P (a::us)) (Nat.succ.inj hl) (h a)
theorem kR {fd:FuncData} {ps:List Str} {us:List Value} (hl:us.length=1) (h:∀a:Value,bindArgs fd ⟨[a],[]⟩=pure (ps.zip [a])):bindArgs fd ⟨us,[]⟩=pure (ps.zip us):=us1 (P:=fun us=>bindArgs fd ⟨us,[]⟩=pure (ps.zip us)) hl h
theorem qK {fd:FuncData} {ps:List Str} {us:List Value} (hl:us.length=2) (h:∀a b:Value,bindArgs fd ⟨[a,b],[]⟩=pure (ps.zip [a,b])):bindArgs fd ⟨us,[]⟩=pure (ps.zip us):=us2 (P:=fun us=>bindArgs fd ⟨us,[]⟩=pure (ps.zip us)) hl h
theorem vX {fd:FuncData} {ps:List Str} {us:List Value} (hl:us.length=3) (h:∀a b c:Value,bindArgs fd ⟨[a,b,c],[]⟩=pure (ps.zip [a,b,c])):bindArgs fd ⟨us,[]⟩=pure (ps.zip us):=us3 (P:=fun us=>bindArgs fd ⟨us,[]⟩=pure (ps.zip us)) hl h
theorem LU {fd:FuncData} {ps:List Str} {us:List Value} (hl:us.length=4) (h:∀a b c d:Value,bindArgs fd ⟨[a,b,c,d],[]⟩=pure (ps.zip [a,b,c,d])):bindArgs fd ⟨us,[]⟩=pure (ps.zip us):=us4 (P:=fun us=>bindArgs fd ⟨us,[]⟩=pure (ps.zip us)) hl h
end L2.FE
namespace PySem
open Sem (wp)
section
variable {prog:Program} {w:World} {A:Around} {E:Value->Shared->Prop} {h:Heap} {g:Array GenState} {d:Drawn} {t:Nat} {os:OsState}
variable {nm q:Str} {C N:Addr} {bs bm bmB:List Value} {hdct:Bool} {sn:List Str} {sub:List Value} {ab:Bool} {col:Option Bool} {dd:Option Addr} {k0 k1 k2 k3 k5:Option Value} {B newId initId:String}
theorem pf (F:ExcBaseFacts B newId initId bmB) (T:OwnTail h bmB bm) {mN:Str->Option Value} {rest:List Value} {fI:Addr} {oI:Obj} {Q:Fin->Shared->Prop}
  (hC:h.get? C=some (excClassObj nm q C N bs bm hdct sn sub ab col dd k0 k1 k2 k3 k5 newId)) (hn:h.Ns N mN) (hi:mN "__init__" = some (.ref fI)) (hfI:h.get? fI=some oI) (hfc:oI.cls=.type "function")
  (hq:∀h' e,Heap.MadeExcOf h h' e (.ref C) rest->e=h.objs.size+1->h'.objs.size=h.objs.size+2->wpAny (model prog w) A (call (.ref fI) (.ref e::rest)) (fun r s'=>r=.none/\Q (.done (.ret (.ref e))) s') E ⟨h',g,d,t,os⟩) (hrest:rest.length<=sizeLine) :
  wpAny (model prog w) A (Builtin.«type.__call__» ⟨.ref C::rest,[]⟩) Q E ⟨h,g,d,t,os⟩:=by
 repeat (first | with_reducible refine wpAny_loadPart_at hC ?_ | with_reducible refine wpAny_madeBy_exc hC ?_ | wp_step)
 refine codeAny_call_builtin_code (Code.quiet_builtin _ F.quiet) (wpAny_check_new_subT F T hC ?_)
 refine codeAny_exc_new_subT F T hC ?_ hrest
 show wpAny _ _ _ _ _ _
 have up:∀b o,h.get? b=some o->((h.push { cls:=.type "tuple", data:=.seq rest.toArray }).push { cls:=.ref C,data:=.fields #[.ref h.objs.size,.none,.none,.none,.bool false,.none] }).get? b=some o:=fun b o z=>Heap.get?_push_of_some _ (Heap.get?_push_of_some _ z)
 have hC1:=up _ _ hC
 have hfI1:=up _ _ hfI
 have hn1:((h.push { cls:=.type "tuple", data:=.seq rest.toArray }).push { cls:=.ref C,data:=.fields #[.ref h.objs.size,.none,.none,.none,.bool false,.none] }).Ns N mN:=hn.keeps up
 have hget:((h.push { cls:=.type "tuple", data:=.seq rest.toArray }).push { cls:=.ref C,data:=.fields #[.ref h.objs.size,.none,.none,.none,.bool false,.none] }).get? (h.objs.size+1)=some { cls:=.ref C,data:=.fields #[.ref h.objs.size,.none,.none,.none,.bool false,.none] }:=by heap_get
 have hcC:(Value.ref C::bm).contains (.ref C)=true:=by simp
 have T1:=T.keeps up
 unfold isInstance
 repeat (first | with_reducible refine wpAny_loadPart_at hget ?_ | (with_reducible refine wpAny_isSubtype_exc hC1 ?_;rw[hcC]) | wp_step)
 show wpAny _ _ (typeLookup (.ref C) _) _ _ _
 refine wpAny_typeLookup_tail hC1 hn1 T1 F.mroIs F.init.lookup ?_
 rw[hi]
 refine wpAny_holding (wpAny_bind ?_)
 unfold bindSpecial
 refine wpAny_bind (wpAny_typeOf (T:="function") ⟨_,hfI1,hfc⟩ ?_)
 rw[if_pos (by decide)]
 refine wpAny_pure (wpAny_bind (wpAny_mono (hq _ (h.objs.size+1) ⟨up,Heap.get?_none_of_le (Nat.le_succ _),h.objs.size,hget,Heap.get?_none_of_le (Nat.le_refl _),?_⟩ rfl (by rw[Heap.size_push,Heap.size_push])) (fun r s' hr=>?_) fun _ _ x=>x))
 ·exact Heap.get?_push_of_some _ (Heap.get?_push_at rfl rfl)
 ·obtain⟨rfl,hQ⟩:=hr
  wp_walk
  exact hQ
theorem xV (F:ExcBaseFacts B newId initId bmB) (T:OwnTail h bmB bm) {mN:Str->Option Value} {rest:List Value} {fI:Addr} {oI:Obj} {Q:Value->Shared->Prop}
  (hC:h.get? C=some (excClassObj nm q C N bs bm hdct sn sub ab col dd k0 k1 k2 k3 k5 newId)) (hn:h.Ns N mN) (hi:mN "__init__" = some (.ref fI)) (hfI:h.get? fI=some oI) (hfc:oI.cls=.type "function")
  (hq:∀h' e,Heap.MadeExcOf h h' e (.ref C) rest->e=h.objs.size+1->h'.objs.size=h.objs.size+2->wpAny (model prog w) (A.under (.builtin "type.__call__" ⟨.ref C::rest,[]⟩)) (call (.ref fI) (.ref e::rest)) (fun r s'=>r=.none/\Q (.ref e) s') E ⟨h',g,d,t,os⟩) (hrest:rest.length<=sizeLine) :
  wpAny (model prog w) A (call (.ref C) rest) Q E ⟨h,g,d,t,os⟩:=by
 have f1:=tc_lookup
 have f2:=tc_bind (.ref C)
 have hT:(⟨h,g,d,t,os⟩:Shared).TypeIs (.ref C) "type" := ⟨_,hC,rfl⟩
 refine wpAny_call (codeAny_of_tree ?_)
 show wpAny _ _ (callAny (.ref C) _) _ _ _
 repeat (any_goals (first | assumption | with_reducible refine wpAny_loadPart_at hC ?_ | wp_step))
 refine⟨rfl,?_⟩
 refine codeAny_call_builtin_at (Code.quiet_builtin _ (by decide +kernel)) entry_typeCall (wpAny_check_type_call_sub hC (pf (hrest:=hrest) F T hC hn hi hfI hfc fun h' e hm he hs=>?_))
 exact hq h' e hm he hs
end
end PySem
namespace PySem.W
open PySem PySem.Calls PyProof.Rows PySem.Spec Builtin Builtin.ObjectAttr
noncomputable abbrev Jl:List Value:=[.type "ValueError", .type "Exception", .type "BaseException", .type "object"]
noncomputable def Br:Value->Bool
 | .ref _=>true
 | _=>false
noncomputable def oB (l:List Value):Bool:=l.dropWhile Br == Jl
theorem j6 {l:List Value} (e:oB l=true):l=Jl\/∃c r,l=.ref c::r/\oB r=true:=by
 cases l with
 | nil=>cases e
 | cons a r=>
  by_cases h:Br a=true
  ·cases a with
   | ref c=>exact .inr ⟨c,r,rfl,by unfold oB at e ⊢;rw[List.dropWhile_cons_of_pos h] at e;exact e⟩
   | _=>cases h
  ·unfold oB at e
   rw[List.dropWhile_cons_of_neg h] at e
   exact .inl (beq_iff_eq.mp e)
theorem mq (self:Value):∀(n:Nat) {l:List Value},l.length<=n->oB l=true->refuseLoop self "__setattr__" l=pure ()
 | 0,l,hl,e=>by
  have:l=[]:=List.eq_nil_of_length_eq_zero (by omega)
  subst this;cases e
 | n+1,l,hl,e=>by
  rcases j6 e with rfl | ⟨c,r,rfl,e'⟩
  ·exact PySem.F.store_ValueError.passes self
  ·rw[refuseLoop_ref];exact mq self n (by simp at hl;omega) e'
theorem tF:∀(n:Nat) {l:List Value},l.length<=n->oB l=true->l.contains (.type "object")=true
 | 0,l,hl,e=>by
  have:l=[]:=List.eq_nil_of_length_eq_zero (by omega)
  subst this;cases e
 | n+1,l,hl,e=>by
  rcases j6 e with rfl | ⟨c,r,rfl,e'⟩
  ·simp
  ·rw[List.contains_cons,tF n (by simp at hl;omega) e',Bool.or_true]
noncomputable def hV (K:Frag) (C:Addr):Bool:=(clsIn K C).any fun cd=>oB cd.mro
section
variable {K:Frag} {prog:Program} {w:World} {A:Around} {R:Result->Shared->Prop} {s:Shared} {x C:Addr}
theorem sJ {ox:Obj} {od:Option Obj} {name:Str} {tk:Tok} {v:Value} (X:K.In s.heap) (I:InstAt s.heap x ox C od) (hp:hV K C=true) (ht:takerIn K C name=some none)
  (h:∀b,wpAny (model prog w) A.in1 (storeInOwnDict (.ref x) (.ref C) (.str name tk) name v b)
   (fun fin s'=>match fin with | .done f=>R (.ok f) s' | .again c'=>c'.quiet=true/\codeAny (model prog w) A c' R s') (fun e s'=>R (.error e) s') s) :
  codeAny (model prog w) A (.call (.builtin "object.__setattr__") ⟨[.ref x,.str name tk,v],[]⟩) R s:=by
 have SF:=PySem.F.store_object
 obtain⟨cd,hc,ho⟩:=any_some hp
 have ne:cd.mro.isEmpty=false:=by cases q:cd.mro with | nil=>rw[q] at ho;cases ho | cons _ _=>rfl
 have sub:Looks (model prog w) s.heap (isInstance (.ref x) (.type "object")) true:=I.type.andThen (looks_mroIn X (by unfold mroIn;rw[hc,Option.bind_some,if_neg (by rw[ne];decide),tF _ (Nat.le_refl _) ho]))
 refine codeAny_call_builtin SF.slot.plain SF.entry (@check_slot (model prog w) _ _ s "object.__setattr__" "object" "__setattr__" (.ref x) [.str name tk,v] [] _ SF.kind SF.split sub (SF.args (.ref x) (.str name tk) v) ?_)
 obtain⟨attr,ha,hr⟩:=Option.bind_eq_some_iff.mp ht
 have hm:Looks (model prog w) s.heap (mroOf (.ref C)) cd.mro:=(looks_clsIn X hc).andThen .now
 have L3:Looks (model prog w) s.heap (storeTaker? attr) none:=by
  cases attr with
  | none=>exact .now
  | some a=>
   obtain⟨b,hb,hz⟩:=Option.map_eq_some_iff.mp hr
   refine(looks_takesIn X hb).andThen ?_
   cases b with
   | true=>cases hz
   | false=>exact .now
 rw[osa_eq,refuse_eq]
 refine wpAny_bind (wpAny_bind (I.type.here (wpAny_bind (hm.here ?_))))
 rw[mq _ _ (Nat.le_refl _) ho]
 refine wpAny_pure (wpAny_bind (I.type.here (wpAny_bind ((looks_findIn X ha).here (wpAny_bind (L3.here ?_))))))
 exact h _
theorem CA {E:Value->Shared->Prop} {ws:Array Value} {name:Str} {v:Value} {Q:Unit->Shared->Prop} (X:K.In s.heap) (hx:s.heap.get? x=some { cls:=.ref C,data:=.fields ws })
  (hs:findIn K (.ref C) "__setattr__" = some (some (.builtin "object.__setattr__"))) (hp:hV K C=true) (ht:takerIn K C name=some none) (hh:hasDictIn K C=true)
  (h:∀h',h'.get? x=some { cls:=.ref C,dict:=some s.heap.objs.size,data:=.fields ws }->h'.Ns1 s.heap.objs.size (fun y=>if y=name then some v else none) →
   (∀b o,b≠x->s.heap.get? b=some o->h'.get? b=some o)->∀t',Q () { s with heap:=h',toks:=t' }) :
  wpAny (model prog w) A (setAttr (.ref x) name v) Q E s:=by
 have I:InstAt s.heap x { cls:=.ref C,data:=.fields ws } C none:=⟨hx,rfl,rfl,True.intro⟩
 refine set_plain X I hs (sJ (s:={ s with toks:=s.toks+1 }) X I hp ht fun b=>?_)
 obtain⟨cd,hc,hd'⟩:=any_some hh
 refine wpAny_bind (wpAny_pure (wpAny_bind (wpAny_bind (wpAny_loadPart hx (wpAny_bind (Looks.here (s:={ s with toks:=s.toks+1 }) (looks_clsIn X hc) ?_))))))
 rw[hd']
 have hx1:(s.heap.push { cls:=.type "dict", data:=.dict #[] }).get? x=some { cls:=.ref C,data:=.fields ws }:=Heap.get?_push_of_some _ hx
 have hxs:x≠s.heap.objs.size:=Nat.ne_of_lt (Heap.lt_size hx)
 refine wpAny_bind (wpAny_alloc' ?_)
 refine wpAny_bind (wpAny_update' hx1 ?_)
 refine wpAny_pure ?_
 have hgd:((s.heap.push { cls:=.type "dict", data:=.dict #[] }).update x fun o=>{ cls:=o.cls,dict:=some s.heap.objs.size,data:=o.data,slots:=o.slots }).get? s.heap.objs.size=some { cls:=.type "dict", data:=.dict #[] }:=
  (Heap.get?_update_ne _ _ _ _ hxs.symm).trans (Heap.get?_push_at rfl rfl)
 have hnd:((s.heap.push { cls:=.type "dict", data:=.dict #[] }).update x fun o=>{ cls:=o.cls,dict:=some s.heap.objs.size,data:=o.data,slots:=o.slots }).Ns s.heap.objs.size (fun _=>none):=
  ⟨_,#[],_,hgd,rfl,fun e he=>absurd he (by simp),fun _=>rfl⟩
 show wpAny _ _ (storeInDict s.heap.objs.size (.str name s.toks) name v) _ _ _
 unfold storeInDict newKeyGuard
 refine wpAny_bind (wpAny_pure (wpAny_bind (wpAny_nsSet1 (Heap.Ns1.of_empty hnd) fun h' hn' hs'=>?_)))
 obtain⟨oD,esD,epD,hoD,hdD,hcD⟩:=hn'.count (PySem.Within.cons name v PySem.Within.nil)
 refine wpAny_bind (wpAny_lookBehind hoD (by rw[hdD];exact pastItsLine_dict (Nat.le_trans hcD (by rw[List.length_cons,List.length_nil,sizeLine_eq];omega))) ?_)
 refine wpAny_pure (h h' ?_ ?_ (fun b o hb z=>?_) _)
 ·refine(hs'.2 x hxs).trans ?_
  exact Heap.get?_update_self _ hx1 rfl
 ·obtain⟨o',es,ep,e1,e2,e3,eu,e4⟩:=hn'
  exact⟨o',es,ep,e1,e2,e3,eu,fun y=>by rw[e4 y]⟩
 ·exact(hs'.2 b (Nat.ne_of_lt (Heap.lt_size z))).trans ((Heap.get?_update_ne _ _ _ _ hb).trans (Heap.get?_push_of_some _ z))
theorem BN {E:Value->Shared->Prop} {ws:Array Value} {dx:Addr} {mA:Str->Option Value} {ns:List Str} {name:Str} {v:Value} {Q:Unit->Shared->Prop} (X:K.In s.heap) (hx:s.heap.get? x=some { cls:=.ref C,dict:=some dx,data:=.fields ws }) (hne:dx≠x) (hn:s.heap.Ns1 dx mA) (hw:PySem.Within mA ns) (hsz:ns.length<=1000)
  (hs:findIn K (.ref C) "__setattr__" = some (some (.builtin "object.__setattr__"))) (hp:hV K C=true) (ht:takerIn K C name=some none) (hh:hasDictIn K C=true)
  (h:∀h',h'.get? x=some { cls:=.ref C,dict:=some dx,data:=.fields ws }->h'.Ns1 dx (fun y=>if y=name then some v else mA y) →
   (∀b o,b≠dx->s.heap.get? b=some o->h'.get? b=some o)->∀t',Q () { s with heap:=h',toks:=t' }) :
  wpAny (model prog w) A (setAttr (.ref x) name v) Q E s:=by
 obtain⟨od,_,_,hod,_⟩:=id hn
 have I:InstAt s.heap x { cls:=.ref C,dict:=some dx,data:=.fields ws } C (some od):=⟨hx,rfl,rfl,hod⟩
 refine set_plain X I hs (sJ (s:={ s with toks:=s.toks+1 }) X I hp ht fun b=>?_)
 obtain⟨cd,hc,hd'⟩:=any_some hh
 refine wpAny_bind (wpAny_pure (wpAny_bind (wpAny_bind (wpAny_loadPart hx (wpAny_bind (Looks.here (s:={ s with toks:=s.toks+1 }) (looks_clsIn X hc) ?_))))))
 rw[hd']
 refine wpAny_pure (a:=some dx) (wpAny_bind (wpAny_pure (wpAny_bind ?_)))
 refine wpAny_nsSet1 (s:={ s with toks:=s.toks+1 }) hn fun h' hn' hs'=>?_
 obtain⟨oD,esD,epD,hoD,hdD,hcD⟩:=hn'.count (PySem.Within.cons name v hw)
 refine wpAny_bind (wpAny_lookBehind hoD (by rw[hdD];exact pastItsLine_dict (Nat.le_trans hcD (by rw[List.length_cons,sizeLine_eq];omega))) ?_)
 exact wpAny_pure (h h' ((hs'.2 x hne.symm).trans hx) hn' (fun b o hb z=>(hs'.2 b hb).trans z) _)
end
end PySem.W
namespace PySem
open Sem (wp)
section
variable {M:Model} {A:Around} {E:Value->Shared->Prop} {env:Env}
variable {nm q:Str} {C N:Addr} {bs bm:List Value} {hdct:Bool} {sn:List Str} {sub:List Value} {ab:Bool} {col:Option Bool} {dd:Option Addr} {k0 k1 k2 k3 k5:Option Value} {newId:String}
theorem jO {s:Shared} {x:Sem Value} {Q:Flow->Shared->Prop} (hbase:bm.contains (.type "BaseException")=true) (hh:A.handled=none)
  (h:wpAny M A x (fun v s₁=>∃e oe,v=.ref e/\s₁.heap.get? C=some (excClassObj nm q C N bs bm hdct sn sub ab col dd k0 k1 k2 k3 k5 newId)/\s₁.heap.get? e=some oe/\oe.cls=.ref C/\(∃ws,oe.data=.fields ws/\ws[1]?=some .none)/\E (.ref e) s₁) E s) :
  wpAny M A (raiseStmt env (some x) none) Q E s:=by
 have hcB:(Value.ref C::bm).contains (.type "BaseException")=true:=by rw[List.contains_cons,hbase,Bool.or_true]
 unfold raiseStmt
 refine wpAny_bind (wpAny_mono h (fun v s₁ h₁=>?_) fun _ _ x=>x)
 obtain⟨e,⟨ec,ed,eda,esl⟩,rfl,hC,he,hcl,⟨ws,hda,hw1⟩,hE⟩:=h₁
 dsimp only at hcl hda
 subst hcl hda
 obtain⟨hp,g,d,tk,os⟩:=s₁
 repeat (first | with_reducible refine wpAny_loadPart_at he ?_ | with_reducible refine wpAny_loadPart_at hC ?_ | (with_reducible refine wpAny_isSubtype_exc hC ?_;rw[hcB]) | wp_step)
 rw[hw1]
 refine wpAny_pure ?_
 rw[if_neg (by decide)]
 refine wpAny_pure ?_
 exact wpAny_raiseNew_none hh hE
end
section
variable {prog:Program} {w:World} {A:Around} {E:Value->Shared->Prop} {s:Shared} {env:Env}
variable {nm q:Str} {C N:Addr} {bs bm bmB:List Value} {hdct:Bool} {sn:List Str} {sub:List Value} {ab:Bool} {col:Option Bool} {dd:Option Addr} {k0 k1 k2 k3 k5:Option Value} {newId:String}
theorem yE {x:Str} {np cpos pos:Pos} {args:List Expr} {Q:Flow->Shared->Prop}
  (hbase:bm.contains (.type "BaseException")=true) (hh:A.handled=none) (hplain:(backTo cpos (starEach args env)).any (·.1)=false)
  (h:wpAny (model prog w) A (eval (.Name x np) env) (fun f s₁=>f=.ref C/\wpAny (model prog w) A (evalArgs (.ref C) true (backTo cpos (starEach args env)) [])
   (fun a s₂=>a.kw=[]/\s₂.heap.get? C=some (excClassObj nm q C N bs bm hdct sn sub ab col dd k0 k1 k2 k3 k5 newId) ∧
    wpAny (model prog w) A (call (.ref C) a.pos) (fun v s₃=>s₃.heap.get? C=some (excClassObj nm q C N bs bm hdct sn sub ab col dd k0 k1 k2 k3 k5 newId)/\∃e oe,v=.ref e/\s₃.heap.get? e=some oe/\oe.cls=.ref C/\(∃ws,oe.data=.fields ws/\ws[1]?=some .none)/\E (.ref e) s₃) E s₂) E s₁) E s) :
  wpAny (model prog w) A (exec (.Raise (some (.Call (.Name x np) args [] cpos)) none pos) env) Q E s:=by
 rw[arm_exec_Raise]
 first
  | refine wpAny_bind (wpAny_standAt (jO (C:=C) (nm:=nm) (q:=q) (N:=N) (bs:=bs) (bm:=bm) (hdct:=hdct) (sn:=sn) (sub:=sub) (ab:=ab) (col:=col) (dd:=dd) (k0:=k0) (k1:=k1) (k2:=k2) (k3:=k3) (k5:=k5) (newId:=newId) hbase hh (wpAny_bind (wpAny_mono (wpAny_Call_ofName (wpAny_mono h (fun f s₁ h₁=>?_) fun _ _ x=>x)) (fun v s₃ h₃=>wpAny_bind (wpAny_standAt (wpAny_pure h₃))) fun _ _ x=>x))))
  | (simp only[evalOpt,Option.map];refine wpAny_bind (wpAny_standAt (jO (C:=C) (nm:=nm) (q:=q) (N:=N) (bs:=bs) (bm:=bm) (hdct:=hdct) (sn:=sn) (sub:=sub) (ab:=ab) (col:=col) (dd:=dd) (k0:=k0) (k1:=k1) (k2:=k2) (k3:=k3) (k5:=k5) (newId:=newId) hbase hh (wpAny_bind (wpAny_mono (wpAny_Call_ofName (wpAny_mono h (fun f s₁ h₁=>?_) fun _ _ x=>x)) (fun v s₃ h₃=>wpAny_bind (wpAny_standAt (wpAny_pure h₃))) fun _ _ x=>x)))))
 obtain⟨rfl,h₁⟩:=h₁
 unfold callWith
 refine wpAny_bind (wpAny_holding (wpAny_mono h₁ (fun a s₂ h₂=>wpAny_bind (wpAny_standAt ?_)) fun _ _ x=>x))
 obtain⟨apos,akw⟩:=a
 obtain⟨hkw,hC,h₂⟩:=h₂
 obtain rfl:akw=[]:=hkw
 obtain⟨hp,g,d,tk,os⟩:=s₂
 simp only[hplain]
 refine wpAny_bind (wpAny_keeperOf_exc hC ?_)
 refine wpAny_bind (wpAny_mono h₂ (fun v s₃ h₃=>wpAny_bind (wpAny_holding (wpAny_point (wpAny_pure ?_)))) fun _ _ x=>x)
 obtain⟨hC3,e,oe,rfl,z1,z2,z3,z4⟩:=h₃
 exact⟨e,oe,rfl,hC3,z1,z2,z3,z4⟩
end
end PySem
namespace L2
open PySem PySem.Spec PyProof.Rows PySem.W
theorem yF {K:PySem.W.Frag} {h:Heap} {N:Addr} {mg:Str->Option Value} {n:Str} {v:Value} (X:K.In h) (G:h.Ns N mg) (e:nsIn K N n=some (some v)):mg n=some v:=by
 obtain⟨o,es,ep,ho,hd,_,hf⟩:=G
 unfold nsIn at e
 split at e
 ·rename_i c d es' n' sl q
  have:=X _ _ q
  rw[ho] at this
  cases this
  cases hd
  split at e
  ·rename_i en he
   cases e
   rw[<- hf]
   unfold nsFind findBy
   rw[<- Array.find?_toList,he]
   rfl
  ·split at e<;>cases e
 ·cases e
noncomputable def qV (K:PySem.W.Frag) (C fI:Addr):Bool:=match K.lookup C with
 | some ⟨.type "type", _,.cls cd,sl⟩=>(match cd.mro,sl.toList with
  | .ref C'::bm,[_,_,_,_,some (.builtin n),_]=>C' == C&&n == "ValueError.__new__" && !cd.hasDel&&tailIn K bmV bm&&nsOkIn K cd.ns&&nsIn K cd.ns "__init__" == some (some (.ref fI))
  | _,_=>false)
 | _=>false
theorem pU {K:PySem.W.Frag} {h:Heap} {C fI:Addr} (X:K.In h) (q:qV K C fI=true) :
  ∃bm N nm q' bs hdct sn sub ab col dd k0 k1 k2 k3 k5 mN,h.get? C=some (excClassObj nm q' C N bs bm hdct sn sub ab col dd k0 k1 k2 k3 k5 "ValueError.__new__")/\h.Ns N mN/\mN "__init__" = some (.ref fI)/\OwnTail h bmV bm:=by
 unfold qV at q
 split at q
 ·rename_i dd cd sl ho
  split at q
  ·rename_i C' bm k0 k1 k2 k3 n k5 hm hs
   simp only[Bool.and_eq_true,beq_iff_eq,Bool.not_eq_true'] at q
   obtain⟨⟨⟨⟨⟨rfl,rfl⟩,hdel⟩,ht⟩,hok⟩,hni⟩:=q
   obtain⟨nm,bs,mro,ns,qn,hd,sn,sub,ab,col,del⟩:=cd
   dsimp only at hm hdel hok hni
   subst hm hdel
   obtain rfl:sl = #[k0,k1,k2,k3,some (.builtin "ValueError.__new__"),k5]:=by
    obtain⟨l⟩:=sl
    simp only at hs
    rw[hs]
   exact⟨bm,ns,nm,qn,bs,hd,sn,sub,ab,col,dd,k0,k1,k2,k3,k5,_,X _ _ ho,.of_isNs (isNs_of_in X hok),yF X (.of_isNs (isNs_of_in X hok)) hni,tail_of_in X ht⟩
  ·cases q
 ·cases q
inductive lI:List Stmt->List Str->Prop
 | nil:lI [] []
 | cons {f:Str} {p1 p2 p3 p4:Pos} {r:List Stmt} {fs:List Str}:(f == ("__debug__" : Str))=false->lI r fs->lI (.Assign [.Attribute (.Name "self" p1) f p2] (.Name f p3) p4::r) (f::fs)
noncomputable def cK:Stmt->Stmt
 | .ClassDef _ _ _ (st::_) ..=>st
 | st=>st
structure Ew (K:PySem.W.Frag) (x:Str) (cst:Stmt) (C:Addr) (fs:List Str):Prop where
 ex:∃fI fd qual,qV K C fI=true/\Fun K "__init__" qual (cK cst) fI fd/\Binds K fd ("self" :: fs) []/\typeIn K (.ref fI)=some (.type "function")
 sc:aE ("self" :: fs) ("self" :: fs) (ak (cK cst))
 loc:∀y∈("self" : Str)::fs,(ak (cK cst)).names.lookup y=some .local
 body:lI (bQ (cK cst)) fs
 sa:findIn K (.ref C) "__setattr__" = some (some (.builtin "object.__setattr__"))
 ov:hV K C=true
 tk:∀f∈fs,takerIn K C f=some none
 hd:hasDictIn K C=true
 ne:fs≠[]
section
variable {K:PySem.W.Frag} {prog:Program} {w:World} {A:Around} {E:Value->Shared->Prop} {C:Addr} {env:Env} {m:Str->Option Value} {e:Addr} {ws:Array Value}
theorem lE {s:Shared} {y:Str} {p:Pos} {v:Value} {Q:Value->Shared->Prop} (hk:env.scope.kind=.function) (hl:env.kindOf y=some .local) (hn:s.heap.Ns env.locals m) (hv:m y=some v) (hd:(y == ("__debug__" : Str))=false) (h:Q v s):wpAny (model prog w) A (eval (.Name y p) env) Q E s:=
 wpAny_Name (wpAny_loadName_local hk hl hn hv h) hd
theorem zF {h h':Heap} {a:Addr} {m:Str->Option Value} (n:h.Ns a m) (k:∀o,h.get? a=some o->h'.get? a=some o):h'.Ns a m:=let ⟨o,es,ep,q,r⟩:=n;⟨o,es,ep,k o q,r⟩
theorem tm (hk:env.scope.kind=.function) (hls:env.kindOf "self" = some .local) (sa:findIn K (.ref C) "__setattr__" = some (some (.builtin "object.__setattr__"))) (ov:hV K C=true) (hd:hasDictIn K C=true) {dx:Addr} (hms:m "self" = some (.ref e)) (hne:dx≠e) (hLe:env.locals≠e) (hLd:env.locals≠dx) :
  ∀{body:List Stmt} {fs:List Str} (_:lI body fs) (_:∀f∈fs,takerIn K C f=some none/\env.kindOf f=some .local) {us:List Value} (_:us.length=fs.length) (_:∀(i:Nat) (f:Str) (u:Value),fs[i]?=some f->us[i]?=some u->m f=some u) {mA:Str->Option Value} {ns:List Str} (_:PySem.Within mA ns) (_:ns.length+fs.length<=1000) {s:Shared} {Q:Flow->Shared->Prop}
   (_:K.In s.heap) (_:∀a o,K.lookup a=some o->a≠dx) (_:s.heap.get? e=some { cls:=.ref C,dict:=some dx,data:=.fields ws }) (_:s.heap.Ns1 dx mA) (_:s.heap.Ns env.locals m)
   (_:∀h',h'.get? e=some { cls:=.ref C,dict:=some dx,data:=.fields ws }->h'.Ns1 dx ((fs.zip us).foldl (fun mA (p:Str × Value) y=>if y=p.1 then some p.2 else mA y) mA)->(∀b o,b≠dx->s.heap.get? b=some o->h'.get? b=some o)->∀t',Q .next { s with heap:=h',toks:=t' }),
   wpAny (model prog w) A (execs body env) Q E s
 | _,_,.nil,_,us,_,_,mA,ns,_,_,s,Q,X,_,hx,hn,_,h=>wpAny_execs_nil (h s.heap hx hn (fun _ _ _ z=>z) s.toks)
 | _,_,.cons (f:=f) (fs:=fs) hdb ib,hf,[],hl,_,mA,ns,_,_,s,Q,_,_,_,_,_,_=>by cases hl
 | _,_,.cons (f:=f) (fs:=fs) hdb ib,hf,u::us,hl,hm,mA,ns,hw,hz,s,Q,X,hK,hx,hn,hL,h=>by
  refine wpAny_execs_cons (plainObj_wpAny_Assign_Attribute ?_ rfl)
  refine lE hk (hf f (by simp)).2 hL (hm 0 f u rfl rfl) hdb (lE hk hls hL hms (by decide) ?_)
  refine BN X hx hne hn hw (by simp at hz;omega) sa ov (hf f (by simp)).1 hd fun h1 q1 q2 q3 t1=>?_
  refine tm hk hls sa ov hd hms hne hLe hLd ib (fun y hy=>hf y (by simp[hy])) (us:=us) (by simpa using hl) (fun i y v a b=>hm (i+1) y v a b) (PySem.Within.cons f u hw) (by simp at hz ⊢;omega) (s:={ s with heap:=h1,toks:=t1 })
   (fun a o z=>q3 a o (hK a o z) (X a o z)) hK q1 q2 (zF hL fun o z=>q3 _ o hLd z) fun h' r1 r2 r3 t'=>?_
  exact h h' r1 r2 (fun b o hb z=>r3 b o hb (q3 b o hb z)) t'
end
noncomputable abbrev mkM (ps:List (Str × Value)):Str->Option Value:=ps.foldl (fun mA (p:Str × Value) y=>if y=p.1 then some p.2 else mA y) fun _=>none
noncomputable abbrev ws0 (t:Addr):Array Value:=#[.ref t,.none,.none,.none,.bool false,.none]
theorem Dw {K:PySem.W.Frag} {prog:Program} {w:World} {A:Around} {E:Value->Shared->Prop} {x:Str} {cst:Stmt} {C:Addr} {fs:List Str} {s:Shared} {us:List Value} {Q:Value->Shared->Prop} {k:Nat} (ci:Ew K x cst C fs) (X:K.In s.heap) (lim:s.heap.NoLimit) (hr:cP (k+2) A) (hl:us.length=fs.length) (hz:fs.length<=1000)
  (h:∀h' e dx t t',(∀b o,s.heap.get? b=some o->h'.get? b=some o)->s.heap.objs.size<=e->s.heap.objs.size<=dx->dx≠e->h'.get? e=some { cls:=.ref C,dict:=some dx,data:=.fields (ws0 t) }->h'.Ns1 dx (mkM (fs.zip us))->Q (.ref e) { s with heap:=h',toks:=t' }) :
  wpAny (model prog w) A (call (.ref C) us) Q E s:=by
 obtain⟨fI,fd,qual,hex,F,hb,hty⟩:=ci.ex
 obtain⟨bm,N,nm,q',bs,hdct,sn,sub,ab,col,dd,k0,k1,k2,k3,k5,mN,hC,hN,hi,T⟩:=pU X hex
 obtain⟨oc,od,kV,doc,pm,an,cdv,ct,osl,rfl,lk,hcd⟩:=F.ex
 have hfc:oc=.type "function" := by
  have z:(K.lookup fI).map (·.cls)=some (.type "function"):=hty
  rw[lk] at z
  exact Option.some.inj z
 obtain⟨h0,g,d,t,os⟩:=s
 have S:=ci.sc
 have lim2:us.length<=sizeLine:=by rw[sizeLine_eq];omega
 refine xV (Q:=Q) (F:=PySem.F.excBase_ValueError) T hC hN hi (X _ _ lk) hfc (fun h1 e me hee hsz=>?_) lim2
 have X1:K.In h1:=X.keeps me.keeps
 dsimp only at hee hsz
 obtain⟨t0,he,htn,_⟩:=me.there
 have hkind:∀y∈(("self" : Str)::fs).zip (Value.ref e::us),(ak (cK cst)).names.lookup y.1=some .local\/((ak (cK cst)).names.lookup y.1=some .cell/\((cellsFrom (h1.objs.size+1) (ak (cK cst)).names []).lookup y.1).isSome=true):=fun⟨n,v⟩ hy=>.inl (ci.loc n (List.of_mem_zip hy).1)
 have hbb:=hb ⟨h1,g,d,t,os⟩ (Value.ref e::us) X1 (by simp[hl])
 rw[List.append_nil] at hbb
 refine wpAny_call (codeAny_call_function (hr.make C us []).depth (X1 _ _ lk) rfl S.co S.gen rfl (codeRec_of X1 hcd) (hbb _ _ _ _ ?_))
 refine wpAny_newFunctionEnv_cells S.kind hkind fun env henv s1 x1=>?_
 subst henv
 refine⟨(lim.keeps me.keeps).keeps x1.toInCall.keep,codeAny_func ?_⟩
 have ks:∀b o,h1.get? b=some o->s1.heap.get? b=some o:=x1.toInCall.keep
 have X2:K.In s1.heap:=X1.keeps ks
 have he1:=ks _ _ he
 have hL:s1.heap.Ns h1.objs.size (bindL (envOfC qual (ak (cK cst)) h1.objs.size fI cdv).kindOf ((("self" : Str)::fs).zip (Value.ref e::us)) (fun _=>none)):=x1.toInCall.ns
 obtain⟨hp1,tk1,rfl⟩:=x1.toInCall.same
 have kindL:∀y∈("self" : Str)::fs,(envOfC qual (ak (cK cst)) h1.objs.size fI cdv).kindOf y=some .local:=ci.loc
 have hms:bindL (envOfC qual (ak (cK cst)) h1.objs.size fI cdv).kindOf ((("self" : Str)::fs).zip (Value.ref e::us)) (fun _=>none) "self" = some (.ref e):=j_ (i:=0) S.nd rfl rfl (kindL _ (by simp))
 have hmf:∀(i:Nat) (f:Str) (u:Value),fs[i]?=some f->us[i]?=some u->bindL (envOfC qual (ak (cK cst)) h1.objs.size fI cdv).kindOf ((("self" : Str)::fs).zip (Value.ref e::us)) (fun _=>none) f=some u:=fun i f u a b=>
  j_ (i:=i+1) S.nd (by simpa using a) (by simpa using b) (kindL f (by have:=List.mem_of_getElem? a;simp[this]))
 generalize bindL (envOfC qual (ak (cK cst)) h1.objs.size fI cdv).kindOf ((("self" : Str)::fs).zip (Value.ref e::us)) (fun _=>none)=m at hms hmf hL
 have hLe:h1.objs.size≠e:=Nat.ne_of_gt (Heap.lt_size he)
 have hse:h0.objs.size<=e:=by rw[hee];exact Nat.le_succ _
 have ib:=ci.body
 have tkf:=ci.tk
 obtain⟨f,fs,rfl⟩:∃f fs',fs=f::fs':=by
  cases fs with
  | nil=>exact absurd rfl ci.ne
  | cons f r=>exact⟨f,r,rfl⟩
 obtain⟨u,us,rfl⟩:∃u us',us=u::us':=by
  cases us with
  | nil=>cases hl
  | cons u r=>exact⟨u,r,rfl⟩
 generalize bQ (cK cst)=body at ib ⊢
 cases ib with
 | cons hdb ib=>
  refine wpAny_execs_cons (plainObj_wpAny_Assign_Attribute ?_ rfl)
  refine lE S.kind (kindL f (by simp)) hL (hmf 0 f u rfl rfl) hdb (lE S.kind (kindL _ (by simp)) hL hms (by decide) ?_)
  refine CA X2 he1 ci.sa ci.ov (tkf f (by simp)) ci.hd fun h2 q1 q2 q3 t2=>?_
  have hLk:∀o,hp1.get? h1.objs.size=some o->h2.get? h1.objs.size=some o:=fun o z=>q3 _ o hLe z
  have lt1:h1.objs.size<hp1.objs.size:=let ⟨o,_,_,q,_⟩:=hL;Heap.lt_size q
  refine tm (e:=e) S.kind (kindL _ (by simp)) ci.sa ci.ov ci.hd (dx:=hp1.objs.size) hms (Nat.ne_of_gt (Heap.lt_size he1)) hLe (Nat.ne_of_lt lt1) ib (fun y hy=>⟨tkf y (by simp[hy]),kindL y (by simp[hy])⟩) (us:=us) (by simpa using hl) (fun i y v a b=>hmf (i+1) y v a b) (ns:=[f]) (PySem.Within.cons f u PySem.Within.nil) (by simp at hz ⊢;omega) (s:={ heap:=h2,gens:=g,drawn:=d,toks:=t2,os:=os })
   (fun a o z=>q3 a o (fun z2=>?_) (X2 a o z)) (fun a o z=>Nat.ne_of_lt (Heap.lt_size (X2 a o z))) q1 q2 (zF hL hLk) fun h3 r1 r2 r3 t3=>?_
  ·exact absurd (z2 ▸ Heap.lt_size (X a o z):e<h0.objs.size) (Nat.not_lt_of_le hse)
  ·refine⟨rfl,h h3 e hp1.objs.size t0 t3 (fun b o z=>r3 b o (Nat.ne_of_lt (Heap.lt_size (ks _ _ (me.keeps _ _ z)))) (q3 b o ?_ (ks _ _ (me.keeps _ _ z)))) hse ?_ (Nat.ne_of_gt (Heap.lt_size he1)) r1 r2⟩
   ·rintro rfl;have:=me.new;rw[this] at z;cases z
   ·dsimp only;omega
theorem DJ (y:Str):∀(ps:List (Str × Value)) (mA:Str->Option Value),(ps.map (·.1)).Nodup->(ps.foldl (fun mA (p:Str × Value) y=>if y=p.1 then some p.2 else mA y) mA) y=(match ps.lookup y with | some v=>some v | none=>mA y)
 | [],mA,_=>rfl
 | (f,v)::r,mA,nd=>by
  rw[List.foldl_cons,DJ y r _ (List.nodup_cons.mp nd).2]
  by_cases h:y=f
  ·subst h
   have:r.lookup y=none:=by
    cases q:r.lookup y with
    | none=>rfl
    | some w=>exact absurd (List.mem_map.mpr ⟨_,PySem.mem_of_lookup q,rfl⟩) (List.nodup_cons.mp nd).1
   simp[this,List.lookup]
  ·have hb:(y == f)=false:=by simpa using h
   simp[List.lookup,hb,h]
theorem qx:∀{fs:List Str} {is:List Int} {us:List Value},Vals (is.map V.int) us->∀y,kI (((fs.zip is).map fun x=>(x.1,V.int x.2)).lookup y) ((fs.zip us).lookup y)
 | [],_,_,_,y=>True.intro
 | f::fs,[],us,r,y=>by cases r;exact True.intro
 | f::fs,i::is,_,.cons a r,y=>by
  simp only[List.zip_cons_cons,List.map_cons,List.lookup]
  cases h:y == f with
  | true=>exact a
  | false=>exact qx r y
theorem xY {X:Cx} {E:XK} {pins:List (Addr × Obj)} {σ:St} {H:Hp} {s:Shared} {e dx:Addr} {h':Heap} {C:Value} {oe od:Obj} {ws:Array Value} {fs:List (Str × V)} {t':Nat} (p:Plain X) (fl:iC X E) (I:Inv X pins σ H s) (k:∀b o,s.heap.get? b=some o->h'.get? b=some o)
  (he:s.heap.objs.size<=e) (hdx:s.heap.objs.size<=dx) (ne:dx≠e) (q1:h'.get? e=some oe) (q2:oe.cls=C) (q3:oe.dict=some dx) (q4:oe.data=.fields ws) (q5:ws[1]?=some .none) (new:bM X.prog X.w (upd H dx (.frz od (.xd fs))) h' dx (.frz od (.xd fs)))
  (q:E C (some dx) (upd H dx (.frz od (.xd fs)))):X.xe (.ref e) { s with heap:=h',toks:=t' }:=by
 have I1:Inv X pins σ (upd H dx (.frz od (.xd fs))) { s with heap:=h',toks:=t' }:=I.laid k hdx new
 have fr:=I1.stack
 have nfr:∀b,b∈frs X.stack->upd H dx (.frz od (.xd fs)) b=none:=I1.pO
 have hHe:upd H dx (.frz od (.xd fs)) e=none:=by rw[aC (Ne.symm ne)];exact I.hok.fresh he
 refine fl _ _ ⟨σ,_,PySem.W.hideAll h' (e::frs X.stack),e,C,some dx,rfl,I1.drop,.inl ⟨fun b o z=>PySem.W.of_hideAll _ z,PySem.W.hideAll_none _ List.mem_cons_self,?_,oe,ws,q1,q2,q3,q4,q5⟩,⟨fun b o z=>?_,fun b o e' n hb=>?_⟩,fun p' hp=>?_,q⟩
 ·exact PySem.W.funFrames_hide fr fun env he' b hb=>List.mem_cons_of_mem _ (List.mem_filterMap.mpr ⟨env,he',hb⟩)
 ·obtain⟨u,hu⟩:=Cj (I1.hok b o z)
  refine⟨u,PySem.W.hideAll_get _ hu fun hm=>?_⟩
  rcases List.mem_cons.mp hm with rfl | hm
  ·rw[hHe] at z;cases z
  ·rw[nfr b hm] at z;cases z
 ·have hx:b∉X.ex:=by rw[p.ex];simp
  refine PySem.W.hideAll_get _ (I1.base.keep b o e' n hb hx) fun z=>?_
  rcases List.mem_cons.mp z with rfl | z
  ·exact absurd (Heap.lt_size (I.base.keep b o e' n hb hx)) (Nat.not_lt_of_le he)
  ·rcases List.mem_cons.mp (I.ic b z) with rfl | z
   ·exact absurd (Heap.lt_size e') (Nat.not_lt_of_le I.ok.above)
   ·exact hb z
 ·obtain⟨r1,r2,r3,r4,r5⟩:=I.pin p' (List.mem_append_left _ hp)
  refine PySem.W.hideAll_get _ (k _ _ r1) fun z=>?_
  rcases List.mem_cons.mp z with z | z
  ·rw[<- z] at he;exact absurd (Heap.lt_size r1) (Nat.not_lt_of_le he)
  ·rcases List.mem_cons.mp (I.ic _ z) with z | z
   ·exact r3 z
   ·exact r4 z
end L2
namespace L2.FE
open PySem PySem.Spec PyProof.Rows
noncomputable def pK (x:Str) (fs:List Str) (mr:MA):MS:=fun env h=>(mr env h).bind fun ds h1=>match intsOf ds with
 | some is=>if is.length=fs.length then .err ⟨x,fs.zip is⟩ h1 else .bad
 | none=>.bad
section
variable {X:Cx} {g:GG} {E:XK}
theorem wm:∀{fs:List Str} {us:List Value},us.length=fs.length->(fs.zip us).map (·.1)=fs
 | [],_,_=>rfl
 | f::fs,[],h=>by cases h
 | f::fs,u::us,h=>by rw[List.zip_cons_cons,List.map_cons,wm (by simpa using h)]
theorem BI {x:Str} {cst:Stmt} {C:Addr} {fs:List Str} {np cpos pos:Pos} {e:Expr} {es:List Expr} {mr:MA} {k:Nat} (fl:iC X E) (pl:Plain X) (hc:X.calm=true) (hg:Gl X x) (hm:X.mg x=some (.ref C)) (hgx:g x=some C) (ci:Ew X.K x cst C fs) (hr:cP (k+2) X.A) (hz:fs.length<=1000)
  (ha:PA X (e::es) (tMA X.K g (εX g E) mr)) (hdb:(x == ("__debug__" : Str))=false:=by decide) (he:starEach (e::es) X.env=(false,eval e X.env)::starEach es X.env:=by rfl) (hpl:(backTo cpos (starEach es X.env)).any (·.1)=false:=by rfl) :
  PS X (.Raise (some (.Call (.Name x np) (e::es) [] cpos)) none pos) (tMS X.K g (εX g E) (pK x fs mr)):=by
 intro pins s σ H D I ⟨α,env,h,sr,w⟩
 obtain⟨fI,fd,qual,hex,_⟩:=ci.ex
 obtain⟨tl,N,nm,q',bs,hdct,sn,sub,ab,col,dd,k0,k1,k2,k3,k5,mN,hC',hN,hni,T⟩:=pU I.kIn hex
 refine PySem.yE (C:=C) (nm:=nm) (q:=q') (N:=N) (bs:=bs) (bm:=tl) (hdct:=hdct) (sn:=sn) (sub:=sub) (ab:=ab) (col:=col) (dd:=dd) (k0:=k0) (k1:=k1) (k2:=k2) (k3:=k3) (k5:=k5) (newId:="ValueError.__new__") (T.hasType PySem.F.excBase_ValueError.hasBase) (I.ok.hd hc) (by rw[he];show(false || (backTo cpos (starEach es X.env)).any (·.1))=false;rw[hpl];rfl) (i4 I hg hm ⟨rfl,?_⟩ hdb)
 have A0:=ha cpos pins s σ H (fun vs H1=>∃is:List Int,vs=is.map V.int/\is.length=fs.length/\∀dx od,H1 dx=none->E (.ref C) (some dx) (upd H1 dx (.frz od (.xd ((fs.zip is).map fun x=>(x.1,V.int x.2)))))) I ⟨α,env,h,sr,w.bind.mono fun ds h1 eq w1 vs H1 α1 e1 hr1 r1=>by
  cases ei:intsOf ds with
  | none=>simp only[ei] at w1;exact w1.elim
  | some is=>
   simp only[ei] at w1
   by_cases hl:is.length=fs.length
   ·rw[if_pos hl] at w1
    have:=hJ ei
    subst this
    refine⟨is,r1.zm,hl,fun dx od hn=>?_⟩
    exact w1 α1 _ (e1.trans (Ext.fresh hn)) (hr1.grow hn) C (some dx) hgx (.inr ⟨dx,od,rfl,aP⟩)
   ·rw[if_neg hl] at w1;exact w1.elim⟩
 rw[he] at A0 ⊢
 refine PySem.Calls.evalArgs_plain (wpAny_mono A0 (fun us s1 ⟨vs,H1,I1,rv,is,ev,hl,fin⟩=>?_) fun _ _ z=>z)
 subst ev
 have hul:us.length=fs.length:=by rw[<- rv.length,List.length_map];exact hl
 obtain⟨tl',N',nm',q'',bs',hdct',sn',sub',ab',col',dd',k0',k1',k2',k3',k5',mN',hC1,_⟩:=pU I1.kIn hex
 have hCC:s1.heap.get? C=some (excClassObj nm q' C N bs tl hdct sn sub ab col dd k0 k1 k2 k3 k5 "ValueError.__new__"):=by
  have a:=I.kIn
  have b:=I1.kIn
  unfold qV at hex
  split at hex
  ·rename_i dd2 cd2 sl2 ho
   have x1:=a _ _ ho
   have x2:=b _ _ ho
   rw[x2,<- x1];exact hC'
  ·cases hex
 refine⟨rfl,hCC,?_⟩
 have limS:s1.heap.NoLimit:=I1.nolimit
 refine Dw ci I1.kIn limS hr hul hz fun h' e' dx t t' kp he' hdx' ne' q1 q2=>?_
 refine⟨kp _ _ hCC,e',_,rfl,q1,rfl,⟨_,rfl,rfl⟩,?_⟩
 obtain⟨od,es',ep',ho',_⟩:=id q2
 refine xY (C:=.ref C) (od:=od) (fs:=(fs.zip is).map fun x=>(x.1,V.int x.2)) pl fl I1 kp he' hdx' ne' q1 rfl rfl rfl rfl ⟨ho',_,q2,fun y=>?_⟩ (fin dx od (I1.hok.fresh hdx'))
 have nd:((fs.zip us).map (·.1)).Nodup:=by rw[wm hul];exact(List.nodup_cons.mp ci.sc.nd).2
 show kI _ (mkM (fs.zip us) y)
 rw[show mkM (fs.zip us) y=_ from DJ y _ _ nd]
 have:=qx (fs:=fs) rv y
 cases q:(fs.zip us).lookup y with
 | none=>rw[q] at this;exact this
 | some v=>rw[q] at this;exact this
end
end L2.FE
namespace PySem.W
open PySem PySem.Calls PyProof.Rows PySem.Spec Builtin Builtin.ObjectAttr
theorem sR:∀(n:Nat) {l:List Value},l.length<=n->oB l=true->l.contains (.type "BaseException")=true
 | 0,l,hl,e=>by
  have:l=[]:=List.eq_nil_of_length_eq_zero (by omega)
  subst this;cases e
 | n+1,l,hl,e=>by
  rcases j6 e with rfl | ⟨c,r,rfl,e'⟩
  ·simp
  ·rw[List.contains_cons,sR n (by simp at hl;omega) e',Bool.or_true]
section
variable {K:Frag} {prog:Program} {w:World} {A:Around} {E:Value->Shared->Prop} {s:Shared} {x C dx:Addr} {ox:Obj} {mA:Str->Option Value} {name:Str} {v:Value}
theorem Ar {tk:Tok} {Q:Fin->Shared->Prop} (X:K.In s.heap) (hx:s.heap.get? x=some ox) (hc:ox.cls=.ref C) (hf:∃ws,ox.data=.fields ws) (hd:ox.dict=some dx) (hn:s.heap.Ns dx mA) (hv:mA name=some v)
  (hna:findIn K (.ref C) name=some none) (hh:hasDictIn K C=true) (h:Q (.done (.ret v)) s):wpAny (model prog w) A (Builtin.«object.__getattribute__» ⟨[.ref x,.str name tk],[]⟩) Q E s:=by
 obtain⟨cd,hcd,hd'⟩:=any_some hh
 obtain⟨oc,od,oda,osl⟩:=ox
 obtain⟨ws,hf⟩:=hf
 dsimp only at hc hd hf
 subst hc hd hf
 have I:InstAt s.heap x ⟨.ref C,some dx,.fields ws,osl⟩ C (some hn.choose):=⟨hx,rfl,rfl,hn.choose_spec.choose_spec.choose_spec.1⟩
 have e:Builtin.«object.__getattribute__» ⟨[.ref x,.str name tk],[]⟩=(typeOf (.ref x) >>= fun tp=>find (.ref x) tp name >>= fun f=>match f with
   | .value v=>(ret v:Sem Fin)
   | .bind g a=>bindTo g a (.ref x) tp
   | .missing=>do
    if tp == .type "module" then
     if ← isOpaqueModuleObj (.ref x) then
      let byTheModulesOwnEntry:=match (← stack).drop 1 with
       | (.builtin "module.__getattribute__" ⟨m::_,_⟩,_)::_=>m == .ref x
       | _=>false
      if !byTheModulesOwnEntry then unsupported "thirdparty:object.__getattribute__:a-miss-on-an-opaque-module"
    if tp == .type "type" then
     if let some key ← opaqueClassAbove (.ref x) then unsupported s!"thirdparty:{key.toString}.{name.toString}:object.__getattribute__-misses-on-an-opaque-class"
    noSuchAttribute (.ref x) name):=by rfl
 rw[e]
 refine wpAny_bind (I.type.here ?_)
 refine wpAny_bind ?_
 unfold find
 refine wpAny_bind ((looks_findIn X hna).here ?_)
 refine wpAny_bind (wpAny_pure (wpAny_bind (wpAny_pure ?_)))
 show wpAny _ _ (ownThenClass (.ref x) name none none) _ _ _
 unfold ownThenClass inOwnDict
 refine wpAny_bind (wpAny_bind ?_)
 show wpAny _ _ (loadPart x (some headPart) >>= _) _ _ _
 refine wpAny_bind (wpAny_loadPart hx ?_)
 show wpAny _ _ (instanceDict x false) _ _ _
 unfold instanceDict
 refine wpAny_bind (wpAny_loadPart hx ?_)
 refine wpAny_bind ?_
 refine(looks_clsIn X hcd).here ?_
 rw[hd']
 refine wpAny_pure (a:=some dx) ?_
 show wpAny _ _ (nsGet dx name) _ _ _
 refine wpAny_nsGet hn ?_
 rw[hv]
 refine wpAny_bind (wpAny_rule (wpAny_pure ?_))
 exact wpAny_pure h
theorem Ff {b:Bool} {Q:Value->Shared->Prop} (X:K.In s.heap) (hx:s.heap.get? x=some ox) (hc:ox.cls=.ref C) (hf:∃ws,ox.data=.fields ws) (hd:ox.dict=some dx) (hn:s.heap.Ns dx mA) (hv:mA name=some v)
  (hga:findIn K (.ref C) "__getattribute__" = some (some (.builtin "BaseException.__getattribute__"))) (hgh:findIn K (.ref C) "__getattr__" = some none) (hna:findIn K (.ref C) name=some none) (ov:hV K C=true) (hh:hasDictIn K C=true) (hv2:handedOut v=pure v)
  (h:Q v { s with toks:=s.toks+1 }):wpAny (model prog w) A (getAttr (.ref x) name b) Q E s:=by
 have FB:=PySem.F.attrBase_ValueError
 have I:InstAt s.heap x ox C (some hn.choose):=⟨hx,hc,by obtain⟨ws,e⟩:=hf;unfold notCls;rw[e],by rw[hd];exact hn.choose_spec.choose_spec.choose_spec.1⟩
 obtain⟨cd,hcd,ho⟩:=any_some ov
 have ne:cd.mro.isEmpty=false:=by cases q:cd.mro with | nil=>rw[q] at ho;cases ho | cons _ _=>rfl
 have sub:Looks (model prog w) s.heap (isInstance (.ref x) (.type "BaseException")) true:=I.type.andThen (looks_mroIn X (by unfold mroIn;rw[hcd,Option.bind_some,if_neg (by rw[ne];decide),sR _ (Nat.le_refl _) ho]))
 unfold getAttr getAttrBy
 refine wpAny_bind (wpAny_mkText (wpAny_holding (wpAny_bind (Looks.here (s:={ s with toks:=s.toks+1 }) I.type (wpAny_bind (Looks.here (s:={ s with toks:=s.toks+1 }) (looks_findIn X hga) ?_))))))
 dsimp only
 have hx2:(Value.builtin "BaseException.__getattribute__" == Value.builtin "object.__getattribute__")=false:=by decide +kernel
 rw[if_neg (by rw[hx2,Bool.and_false];decide)]
 unfold getAttrByItsOwn
 refine wpAny_bind ?_
 show wpAny _ _ (typeLookup (.ref C) "__getattr__") _ _ _
 refine Looks.here (s:={ s with toks:=s.toks+1 }) (looks_findIn X hgh) ?_
 refine wpAny_bind (wpAny_attempt (wpAny_holding ?_))
 have hcall:callGetattribute (.ref x) (.str name s.toks) (.builtin "BaseException.__getattribute__") b=boundAndCalled (.builtin "BaseException.__getattribute__") (.ref x) (.str name s.toks):=by cases b<;>rfl
 rw[hcall]
 unfold boundAndCalled
 refine wpAny_bind ?_
 rw[FB.ga.bind (.ref x)]
 refine wpAny_pure ?_
 have hk:builtinKind "BaseException.__getattribute__" = some .slot:=by decide +kernel
 have hsplit:splitId "BaseException.__getattribute__" = some ("BaseException", "__getattribute__"):=by decide +kernel
 refine wpAny_call (codeAny_call_builtin FB.ga.plain PySem.F.entry_bexc_ga (@check_slot (model prog w) _ _ { s with toks:=s.toks+1 } "BaseException.__getattribute__" "BaseException" "__getattribute__" (.ref x) [.str name s.toks] [] _ hk hsplit sub (PySem.F.args_bexc_ga (.ref x) (.str name s.toks)) ?_))
 refine Ar (s:={ s with toks:=s.toks+1 }) X hx hc hf hd hn hv hna hh ?_
 show wpAny _ _ (handedOut v) _ _ _
 rw[hv2]
 exact wpAny_pure h
end
end PySem.W
namespace L2
open PySem PySem.Spec PyProof.Rows PySem.W
structure Ij (K:PySem.W.Frag) (C:Addr) (f:Str):Prop where
 ga:findIn K (.ref C) "__getattribute__" = some (some (.builtin "BaseException.__getattribute__"))
 gh:findIn K (.ref C) "__getattr__" = some none
 na:findIn K (.ref C) f=some none
 ov:hV K C=true
 hd:hasDictIn K C=true
end L2
namespace L2.FE
open PySem PySem.Spec PyProof.Rows
noncomputable def Dy (c f:Str):D->Hh->R D:=fun d h=>match d with
 | .exc c' fs=>if c'=c then (match fs.lookup f with | some i=>.ok (.int i) h | none=>.bad) else .bad
 | _=>.bad
theorem ou:∀{fs:List (Str × Int)} {f:Str} {i:Int},fs.lookup f=some i->(fs.map fun x=>(x.1,V.int x.2)).lookup f=some (.int i)
 | [],f,i,h=>by cases h
 | (y,j)::fs,f,i,h=>by
  simp only[List.map_cons,List.lookup] at h ⊢
  cases q:f == y with
  | true=>rw[q] at h;cases h;rfl
  | false=>rw[q] at h;exact ou h
section
variable {X:Cx} {g:GG} {ε:EE}
theorem HG {e:Expr} {c f:Str} {C:Addr} {pos:Pos} {m:ME} (he:PE X e (tM X.K g ε m)) (hgc:g c=some C) (cr:Ij X.K C f) (hb:attributeBase e f X.env (eval e X.env)=eval e X.env:=by rfl):PE X (.Attribute e f pos) (tM X.K g ε (cUn (Dy c f) m)):=by
 intro pins s σ H Q I ⟨α,env,h,sr,w⟩
 have A0:=he pins s σ H (fun v H1=>∃(p dx:Addr) (o od:Obj) (i:Int) (fs:List (Str × Int)),v=.ref p/\H1 p=some (AtO p o)/\o.cls=.ref C/\(∃vs,o.data=.fields vs)/\o.dict=some dx/\H1 dx=some (.frz od (.xd (fs.map fun x=>(x.1,V.int x.2))))/\fs.lookup f=some i/\Q (.int i) H1) I ⟨α,env,h,sr,w.bind.mono fun d h1 eq w1 v H1 α1 e1 hr1 r1=>by
  unfold Dy at w1
  cases r1 with
  | exc hg hp hcl hda hfs=>
   rename_i c' C' p o fs
   dsimp only at w1
   by_cases hc:c'=c
   ·rw[if_pos hc] at w1
    subst hc
    rw[hgc] at hg;cases hg
    cases el:fs.lookup f with
    | none=>rw[el] at w1;exact w1.elim
    | some i=>
     rw[el] at w1
     rcases hfs with⟨_,rfl⟩ | ⟨dx,od,hd1,hd2⟩
     ·cases el
     ·exact⟨p,dx,o,od,i,fs,rfl,hp,hcl,hda,hd1,hd2,el,w1 (.int i) H1 α1 e1 hr1 (.int i)⟩
   ·rw[if_neg hc] at w1;exact w1.elim
  | _=>exact w1.elim⟩
 refine E7 hb (thn A0 fun u s1 ⟨v,H1,I1,rv,p,dx,o,od,i,fs,ev,hp,hcl,hda,hd1,hd2,el,q⟩=>?_)
 subst ev
 obtain rfl:u=Value.ref p:=rv
 obtain⟨ho,_⟩:=I1.hok p _ hp
 obtain⟨hod,mA,hns,rel⟩:=I1.hok dx _ hd2
 have rl:=rel f
 rw[ou el] at rl
 cases em:mA f with
 | none=>rw[em] at rl;exact rl.elim
 | some u=>
  rw[em] at rl
  obtain⟨t,rfl⟩:=rl
  exact PySem.W.Ff I1.kIn ho hcl hda hd1 hns.ns em cr.ga cr.gh cr.na cr.ov cr.hd rfl ⟨.int i,H1,I1.tok _,⟨t,rfl⟩,q⟩
end
end L2.FE
namespace L2
open PySem PySem.Spec PyProof.Rows PySem.W
noncomputable def CIs (K:PySem.W.Frag) (x:Str) (cst:Stmt) (fs:List Str):Prop:=∃C,nsIn K mainGlobals x=some (some (.ref C))/\Ew K x cst C fs/\∀f∈fs,Ij K C f
noncomputable def JR (K:PySem.W.Frag) (C fI:Addr) (fs:List Str):Bool:=qV K C fI&&typeIn K (.ref fI) == some (.type "function")&&findIn K (.ref C) "__setattr__" == some (some (.builtin "object.__setattr__"))&&hV K C&&hasDictIn K C&&
 findIn K (.ref C) "__getattribute__" == some (some (.builtin "BaseException.__getattribute__"))&&findIn K (.ref C) "__getattr__" == some none&&fs.all fun f=>takerIn K C f == some none&&findIn K (.ref C) f == some none
noncomputable def CIm (K:PySem.W.Frag) (mg:Str->Option Value) (x:Str) (cst:Stmt) (fs:List Str):Prop:=∃C,mg x=some (.ref C)/\Ew K x cst C fs/\∀f∈fs,Ij K C f
theorem CIm.of {K:PySem.W.Frag} {h:Heap} {mg:Str->Option Value} {x:Str} {cst:Stmt} {fs:List Str} (X:K.In h) (G:h.Ns mainGlobals mg) (c:CIs K x cst fs):CIm K mg x cst fs:=
 let ⟨C,a,b,d⟩:=c;⟨C,mg_of X G a,b,d⟩
end L2
namespace L2.FE
open PySem PySem.Spec PyProof.Rows
section
variable {X:Cx} {g:GG} {E:XK}
theorem Bq {x:Str} {cst:Stmt} {fs:List Str} {np cpos pos:Pos} {e:Expr} {es:List Expr} {mr:MA} {k:Nat} (fl:iC X E) (pl:Plain X) (hc:X.calm=true) (hg:Gl X x) (cm:CIm X.K X.mg x cst fs) (hgo:g=gOf X.mg) (hr:cP (k+2) X.A) (hz:fs.length<=1000)
  (ha:PA X (e::es) (tMA X.K g (εX g E) mr)) (hdb:(x == ("__debug__" : Str))=false:=by decide) (he:starEach (e::es) X.env=(false,eval e X.env)::starEach es X.env:=by rfl) (hpl:(backTo cpos (starEach es X.env)).any (·.1)=false:=by rfl) :
  PS X (.Raise (some (.Call (.Name x np) (e::es) [] cpos)) none pos) (tMS X.K g (εX g E) (pK x fs mr)):=by
 obtain⟨C,hm,ci,_⟩:=cm
 exact BI fl pl hc hg hm (by rw[hgo];unfold gOf;rw[hm]) ci hr hz ha hdb he hpl
theorem zo {ε:EE} {e:Expr} {c f:Str} {cst:Stmt} {fs:List Str} {pos:Pos} {m:ME} (he:PE X e (tM X.K g ε m)) (cm:CIm X.K X.mg c cst fs) (hgo:g=gOf X.mg) (hf:f∈fs) (hb:attributeBase e f X.env (eval e X.env)=eval e X.env:=by rfl):PE X (.Attribute e f pos) (tM X.K g ε (cUn (Dy c f) m)):=by
 obtain⟨C,hm,_,cr⟩:=cm
 exact HG he (by rw[hgo];unfold gOf;rw[hm]) (cr f hf) hb
end
end L2.FE
namespace L2
open PySem PySem.Spec PyProof.Rows PySem.W
theorem FN {K:PySem.W.Frag} {x qual:Str} {cst:Stmt} {C fI:Addr} {fs:List Str} {oc:Value} {od an:Option Addr} {osl:Array (Option Value)} {kV doc pm cdv ct:Value} (a:nsIn K mainGlobals x=some (some (.ref C))) (_b:findIn K (.ref C) "__init__" = some (some (.ref fI)))
  (l:K.lookup fI=some ⟨oc,od,.func (fnOf "__init__" qual (fU (cK cst)) (bQ (cK cst)) (ak (cK cst)) .none kV doc pm an cdv ct),osl⟩) (c:codeIn K cdv qual=true) (k:keepIn K (.ref fI)=true) (o:JR K C fI fs=true)
  (sc:aE ("self" :: fs) ("self" :: fs) (ak (cK cst))) (loc:∀y∈("self" : Str)::fs,(ak (cK cst)).names.lookup y=some .local) (body:lI (bQ (cK cst)) fs)
  (bd:∀(kV doc pm:Value) (an:Option Addr) (cdv ct:Value) (us:List Value),us.length=(("self" : Str)::fs).length->bindArgs (fnOf "__init__" qual (fU (cK cst)) (bQ (cK cst)) (ak (cK cst)) .none kV doc pm an cdv ct) ⟨us,[]⟩=pure ((("self" : Str)::fs).zip us)) (ne:fs≠[]):CIs K x cst fs:=by
 unfold JR at o
 simp only[Bool.and_eq_true,beq_iff_eq,List.all_eq_true] at o
 obtain⟨⟨⟨⟨⟨⟨⟨o1,o2⟩,o3⟩,o4⟩,o5⟩,o6⟩,o7⟩,o8⟩:=o
 have F:Fun K "__init__" qual (cK cst) fI _:=yk l c k
 exact⟨C,a,⟨⟨fI,_,qual,o1,F,F.binds bd,o2⟩,sc,loc,body,o3,o4,fun f hf=>(o8 f hf).1,o5,ne⟩,fun f hf=>⟨o6,o7,(o8 f hf).2,o4,o5⟩⟩
end L2
namespace L2.Srt
open PySem PySem.W PyProof.Rows
section
variable {n:Nat} {key:Nat->Int}
structure Pm (n:Nat) (p:Array Nat):Prop where
 size:p.size=n
 perm:p.Perm (List.range n).toArray
theorem Pm.lt {p:Array Nat} (h:Pm n p) {i:Nat} (hi:i<n):p.getD i 0<n:=by
 have hi':i<p.size:=by rw[h.size];exact hi
 have e:p.getD i 0=p[i]:=by simp[Array.getD,hi']
 rw[e]
 have:=h.perm.mem_iff.mp (Array.getElem_mem hi')
 simpa using this
variable (inj:∀i j,i<n->j<n->key i=key j->i=j)
include inj
omit inj in
omit inj in
omit inj in
omit inj in
omit inj in
omit inj in
end
end L2.Srt
namespace L2.Srt
open PySem PySem.W PyProof.Rows PySem.Calls
section
variable {prog:Program} {w:World} {A:Around} {E:Value->Shared->Prop} {s:Shared} {vs:List Value}
inductive Prs (h:Heap):List Value->List (Int × Int)->Prop
 | nil:Prs h [] []
 | cons {a:Addr} {o:Obj} {k:Nat} {t u:Tok} {x y:Int} {vs:List Value} {ps:List (Int × Int)}:h.get? a=some o->o.cls=.type "tuple" -> o.data=.seq #[.int x t,.int y u] k->Prs h vs ps->Prs h (.ref a::vs) ((x,y)::ps)
theorem Prs.len {h:Heap} {vs:List Value} {ps:List (Int × Int)} (r:Prs h vs ps):vs.length=ps.length:=by
 induction r with
 | nil=>rfl
 | cons _ _ _ _ ih=>simp[ih]
theorem Prs.at_ {h:Heap} {vs:List Value} {ps:List (Int × Int)} (r:Prs h vs ps):∀{i:Nat},i<ps.length->∃a o k t u,vs.getD i Value.none=.ref a/\h.get? a=some o/\o.data=.seq #[.int (ps.getD i (0,0)).1 t,.int (ps.getD i (0,0)).2 u] k:=by
 induction r with
 | nil=>intro i hi;simp at hi
 | @cons a o k t u x y vs ps ha hc hd r ih=>
  intro i hi
  cases i with
  | zero=>exact⟨a,o,k,t,u,rfl,ha,hd⟩
  | succ i=>
   obtain⟨a',o',k',t',u',e1,e2,e3⟩:=ih (i:=i) (by simpa using hi)
   exact⟨a',o',k',t',u',by simpa using e1,e2,by simpa using e3⟩
end
end L2.Srt
namespace L2
open PySem PySem.Spec PyProof.Rows L2.Srt
inductive PrV (K:PySem.W.Frag) (H:Hp):List V->List (Int × Int)->Prop
 | nil:PrV K H [] []
 | cons {a:Addr} {x y:Int} {xs:List V} {ps:List (Int × Int)}:SqT K H a [.int x,.int y]->PrV K H xs ps->PrV K H (.ref a::xs) ((x,y)::ps)
section
variable {X:Cx}
theorem PrV.len {K:PySem.W.Frag} {H:Hp} {xs:List V} {ps:List (Int × Int)} (r:PrV K H xs ps):xs.length=ps.length:=by
 induction r with
 | nil=>rfl
 | cons _ _ ih=>simp[ih]
end
end L2
namespace L2.FE
open PySem PySem.Spec PyProof.Rows
noncomputable def setOf (h:Hh) (n:Nat):Option (List Int):=match h[n]? with
 | some (.set ns)=>some ns
 | _=>none
section
variable {X:Cx} {g:GG} {ε:EE} {K:PySem.W.Frag}
theorem aZ.set {α:List Addr} {H:Hp} {h:Hh} {n:Nat} {p:Addr} {ns:List Int} (r:aZ K g α H h) (e:setOf h n=some ns) (hp:α[n]?=some p):H p=some (.set (fun k=>ns.any (· == k)) ns.length):=by
 unfold setOf at e
 cases eo:h[n]? with
 | none=>rw[eo] at e;cases e
 | some o=>
  rw[eo] at e
  cases o with
  | set k=>cases e;exact r.here n p _ hp eo
  | _=>cases e
end
noncomputable def eh (h:Hh) (n:Nat):Option (List (List Key × D)):=match h[n]? with
 | some (.dit kvs)=>some kvs
 | _=>none
noncomputable def uh:List (List Key × D)->List Key->Option D
 | [],_=>none
 | p::r,k=>if p.1=k then some p.2 else uh r k
noncomputable def Bg (kvs:List (List Key × D)) (k:List Key) (d:D):List (List Key × D):=
 if (kvs.any fun kv=>decide (kv.1=k))=true then kvs.map (fun kv=>if kv.1=k then (kv.1,d) else kv) else kvs++[(k,d)]
noncomputable abbrev PDT (K:PySem.W.Frag) (g:GG) (α:List Addr) (H:Hp):List (List Key × D)->List (List Key × V)->Prop:=Paired (fun(a:List Key × D) (b:List Key × V)=>a.1=b.1/\aM K g α H a.2 b.2)
section
variable {K:PySem.W.Frag} {g:GG} {α:List Addr} {H:Hp} {h:Hh}
theorem aZ.dit {n:Nat} {p:Addr} {kvs:List (List Key × D)} (r:aZ K g α H h) (e:eh h n=some kvs) (hp:α[n]?=some p):∃kws,H p=some (.dT kws)/\PDT K g α H kvs kws:=by
 unfold eh at e
 cases eo:h[n]? with
 | none=>rw[eo] at e;cases e
 | some o=>
  rw[eo] at e
  cases o with
  | dit k=>cases e;exact r.here n p _ hp eo
  | _=>cases e
theorem PDT.val (k:List Key):∀{kvs:List (List Key × D)} {kws:List (List Key × V)},PDT K g α H kvs kws->(uh kvs k=none/\mw kws k=none)\/∃d v,uh kvs k=some d/\mw kws k=some v/\aM K g α H d v
 | _,_,.nil=>.inl ⟨rfl,rfl⟩
 | p::r,q::t,.cons c rr=>by
  by_cases e:p.1=k
  ·exact .inr ⟨p.2,q.2,if_pos e,lJ (c.1 ▸ e),c.2⟩
  ·rw[show uh (p::r) k=uh r k from if_neg e,lW (c.1 ▸ e)]
   exact PDT.val k rr
theorem PDT.any (k:List Key):∀{kvs:List (List Key × D)} {kws:List (List Key × V)},PDT K g α H kvs kws->(kvs.any fun kv=>decide (kv.1=k))=kws.any fun kv=>decide (kv.1=k)
 | _,_,.nil=>rfl
 | p::r,q::t,.cons c rr=>by rw[List.any_cons,List.any_cons,PDT.any k rr,c.1]
theorem PDT.zZ (k:List Key) {d:D} {v:V} (rd:aM K g α H d v):∀{kvs:List (List Key × D)} {kws:List (List Key × V)},PDT K g α H kvs kws →
  PDT K g α H (kvs.map fun kv=>if kv.1=k then (kv.1,d) else kv) (kws.map fun kv=>if kv.1=k then (kv.1,v) else kv)
 | _,_,.nil=>.nil
 | p::r,q::t,.cons c rr=>by
  refine .cons ?_ (PDT.zZ k rd rr)
  dsimp only
  by_cases e:p.1=k
  ·rw[if_pos e,if_pos (c.1 ▸ e)];exact⟨c.1,rd⟩
  ·rw[if_neg e,if_neg (c.1 ▸ e)];exact c
theorem PDT.snoc {x:List Key × D} {y:List Key × V} (c:x.1=y.1/\aM K g α H x.2 y.2):∀{kvs:List (List Key × D)} {kws:List (List Key × V)},PDT K g α H kvs kws->PDT K g α H (kvs++[x]) (kws++[y])
 | _,_,.nil=>.cons c .nil
 | _::_,_::_,.cons b rr=>.cons b (PDT.snoc c rr)
theorem PDT.put (k:List Key) {d:D} {v:V} (rd:aM K g α H d v) {kvs:List (List Key × D)} {kws:List (List Key × V)} (r:PDT K g α H kvs kws):PDT K g α H (Bg kvs k d) (putK kws k v):=by
 unfold Bg putK
 rw[PDT.any k r]
 split
 ·exact PDT.zZ k rd r
 ·exact PDT.snoc ⟨rfl,rd⟩ r
theorem PDT.ext {α':List Addr} {H':Hp} {kvs:List (List Key × D)} {kws:List (List Key × V)} (e:Ext K α H α' H') (r:PDT K g α H kvs kws):PDT K g α' H' kvs kws:=Paired.Jk e.toEx0 r
theorem PDT.length:∀{kvs:List (List Key × D)} {kws:List (List Key × V)},PDT K g α H kvs kws->kvs.length=kws.length
 | _,_,.nil=>rfl
 | _::_,_::_,.cons _ rr=>congrArg (· + 1) (PDT.length rr)
theorem aF.dit {Q:VK} {kvs:List (List Key × D)} {kws:List (List Key × V)} {p:Addr} (w:aF K g α H Q (.ref h.length) (h++[.dit kvs])) (r:aZ K g α H h) (rs:PDT K g α H kvs kws) (hp:H p=none):Q (.ref p) (upd H p (.dT kws)):=by
 have x:=Ext.push (K:=K) (α:=α) (o:=.dT kws) hp
 exact w _ _ _ x (r.push hp ⟨_,aP,rs.ext x⟩) (.ref (by rw[<- r.len];simp))
end
noncomputable def rf:List D->Option (List Key)
 | []=>some []
 | d::ds=>match Iy d,rf ds with
  | some k,some ks=>some (k::ks)
  | _,_=>none
noncomputable def oZ:D->Option (List Key)
 | .tup ds=>rf ds
 | _=>none
theorem yP {K:PySem.W.Frag} {g:GG} {α:List Addr} {H:Hp}:∀{ds:List D} {vs:List V} {ks:List Key},aw K g α H ds vs->rf ds=some ks->vs=ks.map kV
 | _,_,ks,.nil,e=>by cases e;rfl
 | d::ds,_,ks,.cons r rs,e=>by
  unfold rf at e
  cases e1:Iy d with
  | none=>rw[e1] at e;cases e
  | some k=>
   cases e2:rf ds with
   | none=>rw[e1,e2] at e;cases e
   | some ks'=>
    rw[e1,e2] at e
    cases e
    rw[GJ r e1,yP rs e2];rfl
theorem uy {K:PySem.W.Frag} {g:GG} {α:List Addr} {H:Hp} {d:D} {v:V} {k:List Key} (r:aM K g α H d v) (e:oZ d=some k):∃b,v=.ref b/\H b=some (.tup (k.map kV)):=by
 cases r with
 | tup hp rs=>exact⟨_,rfl,by rw[hp,yP rs e]⟩
 | _=>cases e
noncomputable def zK:ME:=fun _ h=>.ok (.ref h.length) (h++[.dit []])
noncomputable def jP:D->D->Hh->R D:=fun o i h=>match o,oZ i with
 | .ref n,some k=>match eh h n with
  | some kvs=>match uh kvs k with
   | some d=>.ok d h
   | none=>.bad
  | none=>.bad
 | _,_=>.bad
noncomputable def tj:D->D->D->Hh->R Unit:=fun o i v h=>match o,oZ i with
 | .ref n,some k=>match eh h n with
  | some kvs=>if kvs.length<1000000 then .ok () (h.set n (.dit (Bg kvs k v))) else .bad
  | none=>.bad
 | _,_=>.bad
section
variable {X:Cx} {g:GG} {ε:EE} {o i e f:Expr} {mo mi me mf:ME} {pos:Pos}
theorem ET:PE X (.Dict [] [] pos) (tM X.K g ε zK):=
 PE.imp Bp fun σ H Q ⟨α,env,h,s,w⟩ p hp=>aF.dit (show aF X.K g α H Q _ _ from w) s.heap .nil hp
theorem zr (hu:X.A.units+1<cLine) (ho:PE X o (tM X.K g ε mo)) (hi:PE X i (tM X.K g ε mi)) (hs:GW i):PE X (.Subscript o i pos) (tM X.K g ε (av jP mo mi)):=
 PE.imp (Fw hu ho hi hs) fun σ H Q ⟨α,env,h,s,w⟩=>tM.use s w.bind fun d1 h1 v1 H1 α1 e1 s1 r1 w1=>tM.use s1 (w1.ext e1).bind fun d2 h2 v2 H2 α2 e2 s2 r2 w2=>by
  unfold jP at w2
  cases ek:oZ d2 with
  | none=>rw[ek] at w2;cases d1<;>exact w2.elim
  | some k=>
   rw[ek] at w2
   cases (r1.ext e2) with
   | @ref n p hp=>
    simp only at w2
    cases ed:eh h2 n with
    | none=>rw[ed] at w2;exact w2.elim
    | some kvs=>
     rw[ed] at w2
     obtain⟨kws,hd,rs⟩:=s2.heap.dit ed hp
     obtain⟨b',rfl,eb⟩:=uy r2 ek
     simp only at w2
     rcases rs.val k with⟨ev,_⟩ | ⟨d,v,ev,ew,rv⟩
     ·rw[ev] at w2;exact w2.elim
     ·rw[ev] at w2
      refine⟨p,v,rfl,?_,aF.now (aF.ext (e1.trans e2) (show aF X.K g α H Q d h2 from w2)) s2.heap rv⟩
      rw[<- ew]
      exact vA.t hd eb
   | _=>exact w2.elim
theorem GY {p:Pos} (hu:X.A.units+1<cLine) (he:PE X e (tM X.K g ε me)) (ho:PE X o (tM X.K g ε mo)) (hi:PE X i (tM X.K g ε mi))
  (hs:swapsWith e (some (.Subscript o i p)) pos.line X.env=pure false:=by rfl):PS X (.Assign [.Subscript o i p] e pos) (tMS X.K g ε (kL tj mo mi me)):=
 PS.imp (FL hu ho hi he hs) fun E σ H ⟨α,env,h,s,w⟩=>tM.use s w.bind fun d1 h1 v1 H1 α1 e1 s1 r1 w1=>tM.use s1 (w1.ext e1).bind fun d2 h2 v2 H2 α2 e2 s2 r2 w2=>tM.use s2 (w2.ext e2).bind fun d3 h3 v3 H3 α3 e3 s3 r3 w3=>by
  have w4:=(w3.ext e3).bind
  unfold tj at w4
  cases ek:oZ d3 with
  | none=>rw[ek] at w4;cases d2<;>exact w4.elim
  | some k=>
   rw[ek] at w4
   cases (r2.ext e3) with
   | @ref n p hp=>
    simp only at w4
    cases ed:eh h3 n with
    | none=>rw[ed] at w4;exact w4.elim
    | some kvs=>
     rw[ed] at w4
     obtain⟨hl,w4⟩:=WQ.fc w4
     obtain⟨kws,hd,rs⟩:=s3.heap.dit ed hp
     obtain⟨b',rfl,eb⟩:=uy r3 ek
     refine⟨p,_,rfl,CG.t hd eb (by rw[<- rs.length,sizeLine_eq];omega),?_⟩
     have x:=Ext.write (o:=.dT (putK kws k v1)) s3.heap hp
     have ra:=(r1.ext e2).ext e3
     exact(show eA X.K g α H E (.nx env) _ from w4) _ _ (e1.trans (e2.trans (e3.trans x))) (s3.heap.write hp ⟨_,aP,(rs.put k ra).ext x⟩) _ (s3.vs.ext x)
   | _=>exact w4.elim
end
end L2.FE
namespace L2
open PySem PySem.Spec PyProof.Rows
section
variable {prog:Program} {w:World} {A:Around} {R:Result->Shared->Prop} {s:Shared} {elt tg iter tg2 iter2:Expr} {scope:Scope} {pos:Pos} {it acc:Value} {env:Env}
noncomputable abbrev e2 (elt tg iter tg2 iter2:Expr) (scope:Scope) (pos:Pos):Expr:=.ListComp elt [⟨tg,iter,[],0⟩,⟨tg2,iter2,[],0⟩] scope pos
end
end L2
namespace L2.FE
open PySem PySem.Spec PyProof.Rows
variable {X:Cx} {g:GG}
theorem Ek {K:PySem.W.Frag} {ε:EE} {mi:MI} {ix:List Nat} {tt:TT} {te:TE} {σ:St} {H:Hp} {Q:VK} (t:FY (tMI K g ε mi) ix tt te σ H Q):yA (tMI K g ε mi) 1 ix (qR 0) tt te σ H Q:=by
 obtain⟨α,env,h,s,w⟩:=t
 refine⟨α,env,h,s,w.mono fun sr h1 _ z J H' α' e hr rd acc ha=>?_⟩
 obtain⟨W,w0,st⟩:=z J H' α' e hr rd acc ha
 refine⟨W,w0,fun i m ys H1 hw=>(st i m ys H1 hw).imp id fun⟨a,b⟩=>⟨a,fun σ0 x H2 hc hy=>?_⟩⟩
 obtain⟨ts,tl,rfl⟩:=hc
 match ts,tl with
 | [t0],_=>exact⟨⟨[some x],rfl,rfl⟩,b x H2 hy⟩
theorem eM {nl:NL} [lC nl] {elt iter:Expr} {x:Str} {px:Pos} {ifs:List Expr} {scope osc:Scope} {pos:Pos} {mi:MI} {tt:MT} {te:ME} (ix:List Nat) (N':List Str)
  (hxe:X.xe=fun _ _=>False) (hc:X.calm=true) (ho:X.env.scope=osc) (hN:N'=x::ix.map fun i=>(X.N[i]?).getD ("" : Str)) (hnd:N'.Nodup)
  (hall:(∀y∈scope.names,y.2=.free->osc.names.lookup y.1=some .cell)/\(∀y∈scope.names,y.2≠.cell)/\scope.kind=.function/\(∀y∈scope.names,y.2=.local->scope.names.lookup y.1=some .local)/\scope.names.lookup x=some .local/\(∀y∈N'.tail,scope.names.lookup y=some .free))
  (hi:PI X (.Name x px) iter (tMI X.K g E00 mi))
  (ht:∀cl C bh bO fp,PTs (iA X scope cl C bh bO fp N') ifs (tMT X.K g E00 tt))
  (he:∀cl C bh bO fp,PE (iA X scope cl C bh bO fp N') elt (tM X.K g E00 te))
  (hs:∀x,foldedSetIterable iter X.env x=pure x:=by intro _;rfl) :
  PE X (.ListComp elt [⟨.Name x px,iter,ifs,0⟩] scope pos) (tM X.K g E00 (fB nl mi ix tt te)):=by
 refine PE.imp (PE.frz (Bn (tgr:=qR 0) ix [x] N' hxe hc ho hN hnd ⟨hall.1,hall.2.1,hall.2.2.1,hall.2.2.2.1,fun y hy=>hall.2.2.2.2.2 y (by rw[hN] at hy ⊢;exact hy)⟩ hi (fun cl C bh bO fp=>cE (X:=iA X scope cl C bh bO fp N') hnd (show N'[0]?=some x by rw[hN];rfl) (.inl (lookup_relabel_local hall.2.2.2.2.1)) (.inr (lookup_relabel_local hall.2.2.2.2.1))) ht he hs)) fun σ H Q t=>?_
 exact Ek (Bl (fun _ _ z=>z) t)
end L2.FE
namespace L2
open PySem PySem.Spec PyProof.Rows
noncomputable def pA (h:Heap) (d:Addr) (es:Array DictEntry) (ep:Nat):Prop:=∃q,h.get? d=some q/\q.ExactDict/\q.data=.dict es ep
section
variable {prog:Program} {w:World} {A:Around} {E:Value->Shared->Prop} {s:Shared} {it d:Addr} {i ep:Nat} {es:Array DictEntry}
theorem pA.typeIs (x:pA s.heap d es ep):s.TypeIs (.ref d) "dict" := let ⟨q,a,b,_⟩:=x;⟨q,a,b.1⟩
theorem pA.keep {h h':Heap} (x:pA h d es ep) (k:∀q,h.get? d=some q->h'.get? d=some q):pA h' d es ep:=let ⟨q,a,b⟩:=x;⟨q,k q a,b⟩
theorem pA.lt {h:Heap} (x:pA h d es ep):d<h.objs.size:=let ⟨_,a,_⟩:=x;Heap.lt_size a
theorem BF {Q:Value->Shared->Prop} (lo:(d == sysModules)=false) (x:pA s.heap d es ep)
  (hQ:Q (.ref s.heap.objs.size) { s with heap:=s.heap.push { cls:=.type "dict_keyiterator", data:=.fields #[.ref d,.int 0 0,.int es.size 0,.int ep 0] } }):wpAny (model prog w) A (pyIter (.ref d)) Q E s:=by
 obtain⟨q,a,_,c⟩:=id x
 have T:=x.typeIs
 refine wpAny_pyIter_slot T F.slot_dict_iter (wpAny_call_entry F.slot_dict_iter T F.entry_dict_iter (by
  unfold Builtin.«dict.__iter__»;refine wpAny_bind ?_;unfold Builtin.Dict.dictSlotNone
  refine wpAny_bind (wpAny_notOrdered_dict T ?_);show wpAny _ _ (pure (Value.ref d)) _ _ s;refine wpAny_pure ?_
  show wpAny _ _ (Builtin.Dict.showsAll d >>= _) _ _ s;unfold Builtin.Dict.showsAll;rw[if_neg (by rw[lo];exact Bool.false_ne_true)]
  refine wpAny_bind (wpAny_pure (wpAny_bind (wpAny_dictEntries a c (wpAny_bind (wpAny_dictEpoch a c (wpAny_bind (wpAny_newObj_type (wpAny_pure ⟨_,rfl,"dict_keyiterator", _,⟨_,Heap.get?_push_size _ rfl,rfl⟩,F.slot_dict_keyiterator_next.lookup,?_⟩))))))))
  simpa [rawInt] using hQ) (F.args_dict_iter_1 _))
theorem Dz {Q:Option Value->Shared->Prop} (hi:s.heap.IsKeyIter it d i es.size ep) (x:pA s.heap d es ep) (lt:i<es.size)
  (hQ:∀h',h'.IsKeyIter it d (i+1) es.size ep->Heap.SameBut it s.heap h'->Q (some es[i].key) { s with heap:=h' }):wpAny (model prog w) A (pyNext (.ref it)) Q E s:=by
 obtain⟨p,p1,p2,p3⟩:=id hi
 obtain⟨q,a,_,c⟩:=id x
 have own:Builtin.Dict_items.ownsTuple "dict_keyiterator" = false:=by decide
 unfold pyNext
 refine wpAny_bind (wpAny_attempt (wpAny_callSpecial?_slot (name:=Str.ofString "__next__") hi.typeIs F.slot_dict_keyiterator_next (wpAny_call_entry F.slot_dict_keyiterator_next hi.typeIs F.entry_dict_keyiterator_next ?_ (F.args_dict_keyiterator_next_1 _))))
 refine wpAny_bind (wpAny_pure (wpAny_bind (wpAny_bind ?_)))
 first | refine wpAny_bind (wpAny_typeNameOfWhole_keyiter hi.typeIs (wpAny_pure (wpAny_bind (wpAny_fieldsOf p1 p3 ?_)))) | refine wpAny_bind (wpAny_typeNameOf_keyiter hi.typeIs (wpAny_pure (wpAny_bind (wpAny_fieldsOf p1 p3 ?_))))
 simp only[own,Bool.false_eq_true,if_false];show wpAny _ _ (if (Value.ref d == Value.none)=true then _ else _) _ _ s
 rw[if_neg (show ¬ ((Value.ref d == Value.none)=true) from Bool.false_ne_true)];refine wpAny_bind (wpAny_pure (wpAny_bind (wpAny_dictEntries a c ?_)))
 rw[if_neg (by simp)];refine wpAny_bind (wpAny_pure (wpAny_bind (wpAny_dictEpoch a c ?_)));rw[if_neg (by simp)];refine wpAny_pure ?_
 simp only[show ¬ ((i:Int)<0) from by omega,if_false,Int.toNat_natCast,Array.getElem?_eq_getElem lt];refine wpAny_bind ?_
 first | refine wpAny_bind (wpAny_typeNameOfWhole_keyiter hi.typeIs (wpAny_pure (wpAny_bind (wpAny_isOneOf_keyiter hi.typeIs ?_)))) | refine wpAny_bind (wpAny_typeNameOf_keyiter hi.typeIs (wpAny_pure (wpAny_bind (wpAny_isOneOf_keyiter hi.typeIs ?_))))
 show wpAny _ _ (setField (.ref it) 1 (rawInt ((i:Int)+1)) >>= _) _ _ s;refine wpAny_bind (wpAny_setField p1 p3 (by simp) ?_)
 have hi':(s.heap.update it (Obj.mapFields (·.setIfInBounds 1 (rawInt ((i:Int)+1))))).IsKeyIter it d (i+1) es.size ep:=⟨_,Heap.get?_update_self _ p1 (Obj.isFreed_of_fields (Obj.data_mapFields p3 _)),(Obj.cls_mapFields ..).trans p2,by rw[Obj.data_mapFields p3];simp[rawInt]⟩
 refine wpAny_bind (wpAny_holding (wpAny_bind (wpAny_isOneOf_keyiter (s:={ s with heap:=s.heap.update it (Obj.mapFields (·.setIfInBounds 1 (rawInt ((i:Int)+1)))) }) hi'.typeIs ?_)))
 show wpAny _ _ (pure es[i].key) _ _ _;exact wpAny_pure (wpAny_pure ⟨_,rfl,wpAny_pure (hQ _ hi' (Heap.SameBut.update ..))⟩)
theorem Eo {Q:Option Value->Shared->Prop} (hh:A.handled=none) (hi:s.heap.IsKeyIter it d i es.size ep) (x:pA s.heap d es ep) (ge:es.size<=i)
  (hQ:∀h',Heap.ExtBut it s.heap h'->Q none { s with heap:=h' }):wpAny (model prog w) A (pyNext (.ref it)) Q E s:=by
 obtain⟨p,p1,p2,p3⟩:=id hi
 obtain⟨q,a,_,c⟩:=id x
 have own:Builtin.Dict_items.ownsTuple "dict_keyiterator" = false:=by decide
 unfold pyNext
 refine wpAny_bind (wpAny_attempt (wpAny_callSpecial?_slot (name:=Str.ofString "__next__") hi.typeIs F.slot_dict_keyiterator_next (wpAny_call_entry F.slot_dict_keyiterator_next hi.typeIs F.entry_dict_keyiterator_next ?_ (F.args_dict_keyiterator_next_1 _))))
 refine wpAny_bind (wpAny_pure (wpAny_bind (wpAny_bind ?_)))
 first | refine wpAny_bind (wpAny_typeNameOfWhole_keyiter hi.typeIs (wpAny_pure (wpAny_bind (wpAny_fieldsOf p1 p3 ?_)))) | refine wpAny_bind (wpAny_typeNameOf_keyiter hi.typeIs (wpAny_pure (wpAny_bind (wpAny_fieldsOf p1 p3 ?_))))
 simp only[own,Bool.false_eq_true,if_false];show wpAny _ _ (if (Value.ref d == Value.none)=true then _ else _) _ _ s
 rw[if_neg (show ¬ ((Value.ref d == Value.none)=true) from Bool.false_ne_true)];refine wpAny_bind (wpAny_pure (wpAny_bind (wpAny_dictEntries a c ?_)))
 rw[if_neg (by simp)];refine wpAny_bind (wpAny_pure (wpAny_bind (wpAny_dictEpoch a c ?_)));rw[if_neg (by simp)];refine wpAny_pure ?_
 simp only[show ¬ ((i:Int)<0) from by omega,if_false,Int.toNat_natCast,Array.getElem?_eq_none ge];refine wpAny_bind ?_
 first | refine wpAny_bind (wpAny_typeNameOfWhole_keyiter hi.typeIs (wpAny_pure ?_)) | refine wpAny_bind (wpAny_typeNameOf_keyiter hi.typeIs (wpAny_pure ?_))
 show wpAny _ _ (setField (.ref it) 0 .none >>= _) _ _ s;refine wpAny_bind (wpAny_setField p1 p3 (by simp) ?_)
 show wpAny _ _ (newExc (.type "StopIteration") [] >>= _) _ _ _;refine wpAny_bind ?_;simp only[newExc,newTuple]
 refine wpAny_bind (wpAny_newObj_type (wpAny_bind (m:=firstArgMember _ _) (wpAny_of_eq (a:=Value.none) (by first | rfl | (simp only[firstArgMember];rfl)) (wpAny_newObj_type ?_ (by size_fits)))) (by size_fits))
 simp only[raiseNew];refine wpAny_bind (wpAny_handled ?_);rw[show A.in1.handled=none from hh]
 refine wpAny_bind (wpAny_pure (wpAny_throw ?_));refine wpAny_bind (wpAny_isInstance (T:="StopIteration") (b:=true) ⟨_,Heap.get?_push_size _ rfl,rfl⟩ isSubtype_stop ?_)
 exact wpAny_pure (hQ _ (((Heap.SameBut.update ..).extBut.push _).push _))
theorem Ah (hh:A.handled=none) (I:Addr) (ne:d≠I):Walks prog w A I [I,d] [I] es.size (fun j v=>∃e,es[j]?=some e/\v=e.key) (fun j h=>h.IsKeyIter I d j es.size ep/\pA h d es ep) where
 sub:=fun b hb=>by simp at hb;simp[hb]
 frame:=fun _ _ _ st hk=>⟨st.1.at fun o e=>hk I (by simp) o e,st.2.keep fun o e=>hk d (by simp) o e⟩
 item:=fun j s Q E hj st hQ=>Dz st.1 st.2 hj fun h' a b=>hQ _ h' s.toks ⟨_,Array.getElem?_eq_getElem hj,rfl⟩ ⟨a,st.2.keep fun o e=>b.extBut d o ne e⟩ fun c o hc e=>b.extBut c o (fun z=>hc (by simp[z])) e
 done:=fun s Q E st hQ=>Eo hh st.1 st.2 (Nat.le_refl _) fun h' a=>hQ h' s.toks fun c o hc e=>a c o (fun z=>hc (by simp[z])) e
 self:=fun _ _ _ _ st hQ=>wpAny_pyIter_keyiter st.1 hQ
theorem FA (lo:(d == sysModules)=false):PySem.W.KdlSrc prog w "dict" d d es.size (fun j v=>∃e,es[j]?=some e/\v=e.key) (fun h=>pA h d es ep) where
 type:=fun _ x=>x.typeIs
 there:=fun _ x=>⟨x.lt,x.lt⟩
 keep:=fun _ _ x k=>x.keep fun o e=>k d (.inl rfl) o e
 notList:=by decide
 notTuple:=by decide
 hint:=fun _ _ _ _ x hq=>PySem.W.kdl_hint_dict x.typeIs hq
 iter:=fun _ _ hh x=>⟨_,_,(fun _ _ hq=>BF lo x hq),Ah hh _ (Nat.ne_of_lt x.lt),⟨⟨_,Heap.get?_push_size _ rfl,rfl,rfl⟩,x.keep fun o e=>Heap.get?_push_of_some _ e⟩⟩
end
theorem kA {X:Cx} (hc:X.calm=true):bg X (.type "list") (fun xs H Q=>∃p kvs,xs=[.ref p]/\H p=some (.dT kvs)/\∀l bs,H l=none->Paired (fun(kv:List Key × V) b=>H b=some (.tup (kv.1.map kV))) kvs bs->Q (.ref l) (upd H l (.lst (bs.map V.ref)))):=by
 intro pins s σ H xs us Q I r h
 obtain⟨p,kvs,rfl,hp,q⟩:=h
 obtain⟨u,rfl,rx⟩:=vals1 r
 cases rx
 obtain⟨z,lo,ws,rel,ob,es,ep,h1,h2,h3,h4,h5⟩:=I.hok p _ hp
 have sz:es.size=ws.length:=by rw[<- Array.length_toList,h4,List.length_map]
 have zz:kvs.length=ws.length:=rel.length
 refine PySem.W.kdl_call (FA (es:=es) (ep:=ep) lo) (I.ok.hd hc) ⟨ob,h1,h2,h3⟩ (by rw[sz,<- zz];exact z) fun h' tk acc c kp e hi=>?_
 have pb:Paired (fun(kv:List Key × V) b=>H b=some (.tup (kv.1.map kV))) kvs (ws.map fun x=>x.2.1):=by
  clear hi h5 h4 zz sz z q hp
  induction rel with
  | nil=>exact .nil
  | cons a _ ih=>exact .cons a.2.1 ih
 refine⟨.ref s.heap.objs.size,_,I.laid (t':=tk) kp (Nat.le_refl _) (show bM X.prog X.w _ h' _ (.lst _) from⟨?_,acc.toList,c,?_,by simpa using e⟩),rfl,q _ _ (I.hok.fresh (Nat.le_refl _)) pb⟩
 ·rw[List.length_map,List.length_map,<- zz];exact z
 ·refine FE.xt _ _ (by rw[Array.length_toList,hi.1,List.length_map,List.length_map,sz]) fun j u hj=>?_
  obtain⟨en,e1,e2⟩:=hi.2 j u (by rw[<- Array.getElem?_toList];exact hj)
  rw[<- Array.getElem?_toList,h4,List.getElem?_map] at e1
  cases ej:ws[j]? with
  | none=>rw[ej] at e1;cases e1
  | some y=>
   rw[ej] at e1
   cases e1
   refine⟨.ref y.2.1,by rw[List.getElem?_map,List.getElem?_map,ej];rfl,?_⟩
   rw[e2];rfl
end L2
namespace L2.FE
open PySem PySem.Spec PyProof.Rows
noncomputable def unK:Key->D
 | .inl i=>.int i
 | .inr x=>.str x
noncomputable def tupK (k:List Key):D:=.tup (k.map unK)
noncomputable def iN (nl:NL):List D->Hh->R D:=fun ds h=>match ds with
 | [.ref n]=>match eh h n with
  | some kvs=>nl (kvs.map fun kv=>tupK kv.1) h
  | none=>.bad
 | _=>.bad
theorem uP {K:PySem.W.Frag} {g:GG} {α:List Addr} {H:Hp}:∀k:List Key,aw K g α H (k.map unK) (k.map kV)
 | []=>.nil
 | .inl i::r=>.cons (.int i) (uP r)
 | .inr x::r=>.cons (.str x) (uP r)
theorem vN {K:PySem.W.Frag} {g:GG} {α:List Addr} {H:Hp}:∀{kvs:List (List Key × D)} {kws:List (List Key × V)} {bs:List Addr},PDT K g α H kvs kws->Paired (fun(kv:List Key × V) b=>H b=some (.tup (kv.1.map kV))) kws bs->aw K g α H (kvs.map fun kv=>tupK kv.1) (bs.map V.ref)
 | _,_,_,.nil,.nil=>.nil
 | _,_,_,.cons c r,.cons a t=>.cons (.tup a (by rw[c.1];exact uP _)) (vN r t)
theorem xh {K:PySem.W.Frag} {g:GG} {ε:EE} {nl:NL} [lC nl]:m9 K g ε (iN nl) (fun xs H Q=>∃p kvs,xs=[.ref p]/\H p=some (.dT kvs)/\∀l bs,H l=none->Paired (fun(kv:List Key × V) b=>H b=some (.tup (kv.1.map kV))) kvs bs->ki Q (.ref l) (upd H l (.lst (bs.map V.ref)))):=by
 intro α H h a x Q r ra w
 obtain⟨d,v,rfl,rfl,rd⟩:=kW (f:=iN nl) (fun d _ _ _=>by cases d<;>rfl) (fun _=>rfl) ra w
 unfold iN at w
 cases rd with
 | @ref n p hp=>
  simp only at w
  cases e:eh h n with
  | none=>rw[e] at w;exact w.elim
  | some kvs=>
   rw[e] at w
   obtain⟨kws,hd,rs⟩:=r.dit e hp
   exact⟨p,kws,rfl,hd,fun l bs hl pb=>NL.post w r (vN rs pb) hl⟩
 | _=>exact w.elim
noncomputable def ua:D->D->D->Hh->R D:=fun o i x h=>match o,oZ i with
 | .ref n,some k=>match eh h n with
  | some kvs=>.ok ((uh kvs k).getD x) h
  | none=>.bad
 | _,_=>.bad
noncomputable def qt (mo mi mx:ME):ME:=fun env h=>(mo env h).bind fun o h1=>match o with
 | .ref n=>match eh h1 n with
  | some _=>(mi env h1).bind fun i h2=>(mx env h2).bind fun x h3=>ua o i x h3
  | none=>.bad
 | _=>.bad
section
variable {X:Cx} {g:GG} {ε:EE} {o e f:Expr} {mo me mf:ME} {apos cpos:Pos}
theorem BS (hu:X.A.units+1<cLine) (ho:PE X o (tM X.K g ε mo)) (he:PE X e (tM X.K g ε me)) (hf:PE X f (tM X.K g ε mf)) (m:M2 X o "get" apos e f cpos):PE X (.Call (.Attribute o "get" apos) [e,f] [] cpos) (tM X.K g ε (qt mo me mf)):=
 PE.imp (DG hu ho he hf m) fun σ H Q ⟨α,env,h,s,w⟩=>tM.use s w.bind fun d1 h1 v1 H1 α1 e1 s1 r1 w1=>by
  cases r1 with
  | @ref n p hp=>
   simp only at w1
   cases ed:eh h1 n with
   | none=>rw[ed] at w1;exact w1.elim
   | some kvs0=>
    rw[ed] at w1
    obtain⟨kws0,hd0,_⟩:=s1.heap.dit ed hp
    refine⟨p,rfl,.inr ⟨kws0,.inl hd0⟩,?_⟩
    refine tM.use s1 (w1.ext e1).bind fun d2 h2 v2 H2 α2 e2 s2 r2 w2=>tM.use s2 (w2.ext e2).bind fun d3 h3 v3 H3 α3 e3 s3 r3 w3=>?_
    unfold ua at w3
    cases ek:oZ d2 with
    | none=>rw[ek] at w3;exact w3.elim
    | some k=>
     rw[ek] at w3
     simp only at w3
     cases ed3:eh h3 n with
     | none=>rw[ed3] at w3;exact w3.elim
     | some kvs=>
      rw[ed3] at w3
      have hp3:α3[n]?=some p:=(e2.trans e3).toEx0.get hp
      obtain⟨kws,hd,rs⟩:=s3.heap.dit ed3 hp3
      obtain⟨b',rfl,eb⟩:=uy (r2.ext e3) ek
      refine⟨mw kws k,vA.t hd eb,?_⟩
      have pp:=aF.ext (e1.trans (e2.trans e3)) (show aF X.K g α H Q _ h3 from w3)
      rcases rs.val k with⟨ev,ew⟩ | ⟨d,v,ev,ew,rv⟩
      ·rw[ev] at pp;rw[ew];exact aF.now pp s3.heap r3
      ·rw[ev] at pp;rw[ew];exact aF.now pp s3.heap rv
  | _=>exact w1.elim
end
end L2.FE
namespace L2
open PySem PySem.Spec PyProof.Rows
theorem Iq {X:Cx} {pins:List (Addr × Obj)} {σ:St} {H:Hp} {s:Shared} {a b:Addr} {k:List Key} {v:V} {r:Value} {A:Around} {E:Value->Shared->Prop} {Q:Unit->Shared->Prop} (hu:A.units<cLine) (I:Inv X pins σ H s) (e:H a=some (.dT [])) (eb:H b=some (.tup (k.map kV))) (rv:RelV v r) (h:∀s',Inv X pins σ (upd H a (.dT [(k,v)])) s'->Q () s') :
  wpAny (model X.prog X.w) A (dictSet a (.ref b) r) Q E s:=by
 obtain⟨z,hd,xs,rel,dd⟩:=Ga I.hok e
 cases rel
 refine wpAny_dictSet_heap (hsz:=Nat.zero_le _) hu (rp I.hok eb) dd fun h' dd' hs=>h _ ?_
 obtain⟨q,es,ep,hq,h2,h3,h4,_,h5⟩:=dd'
 refine vf I (by rw[e];exact True.intro) hs ⟨q,hq⟩ ⟨by simp[sizeLine_eq],hd,[(k,b,r)],.cons ⟨rfl,?_,rv⟩ .nil,q,es,ep,hq,h2,h3,h4,h5⟩
 rw[aC (F1 eb e (fun z=>nomatch z))]
 exact eb
noncomputable def GR (tk tv:TE):TE:=fun σ H Q=>∀p,H p=none->tk σ (upd H p (.dT [])) fun x H1=>tv σ H1 fun y H2=>∃b k,x=.ref b/\H2 b=some (.tup (k.map kV))/\H2 p=some (.dT [])/\Q (.ref p) (upd H2 p (.dT [(k,y)]))
theorem BX {X:Cx} {ek ev:Expr} {pos:Pos} {tk tv:TE} (hu:X.A.units<cLine) (hk:PE X ek tk) (hv:PE X ev tv):PE X (.Dict [some ek] [ev] pos) (GR tk tv):=by
 intro pins s σ H Q I q
 have hn:=I.hok.fresh (Nat.le_refl s.heap.objs.size)
 have I1:=I.laid (a:=s.heap.objs.size) (o:=.dT []) (h':=s.heap.push { cls:=.type "dict", data:=.dict #[] }) (t':=s.toks) (fun _ _ q=>Heap.get?_push_of_some _ q) (Nat.le_refl _) (wt s.heap I.big)
 rw[arm_eval_Dict,zip_pairTrees [some ek] [ev] X.env pos rfl rfl,dictDisplay_pairs (pairTrees [some ek] [ev] X.env pos) (by simp[pairTrees]) (by simp[pairTrees])]
 refine wpAny_bind (wpAny_standAt (wpAny_bind ?_))
 unfold subDict
 refine wpAny_bind (wpAny_alloc (wpAny_bind (wpAny_holding ?_)))
 rw[if_pos (by simp[pairTrees])]
 refine wpAny_bind (pairTrees_cons_walk (thn (hk pins _ σ _ _ I1 (q _ hn)) fun u s1 ⟨x,H1,J1,rx,q1⟩=>thn (hv pins s1 σ H1 _ J1 q1) fun w2 s2 ⟨y,H2,J2,ry,b,k,ex,eb,ep,q2⟩=>pairTrees_nil_walk ?_))
 subst ex
 cases rx
 refine wpAny_holding ?_
 simp only[List.forIn_cons,List.forIn_nil]
 refine wpAny_bind (wpAny_bind (wpAny_bind (Iq hu J2 ep eb ry fun s3 J3=>?_)))
 repeat (first | refine wpAny_pure ?_ | refine wpAny_bind ?_)
 exact⟨.ref s.heap.objs.size,_,J3,rfl,q2⟩
end L2
namespace L2.FE
open PySem PySem.Spec PyProof.Rows
theorem un0 {A:Around} (h:A.units+64<cLine):A.units<cLine:=by omega
noncomputable def p6 (mk mv:ME):ME:=fun env h=>(mk env (h++[.dit []])).bind fun i h1=>(mv env h1).bind fun v h2=>match oZ i,eh h2 h.length with
 | some k,some []=>.ok (.ref h.length) (h2.set h.length (.dit [(k,v)]))
 | _,_=>.bad
theorem Ct {X:Cx} {g:GG} {ε:EE} {ek ev:Expr} {pos:Pos} {mk mv:ME} (hu:X.A.units<cLine) (hk:PE X ek (tM X.K g ε mk)) (hv:PE X ev (tM X.K g ε mv)):PE X (.Dict [some ek] [ev] pos) (tM X.K g ε (p6 mk mv)):=
 PE.imp (BX hu hk hv) fun σ H Q ⟨α,env,h,s,w⟩ p hp=>by
  have x:=Ext.push (K:=X.K) (α:=α) (o:=.dT []) hp
  have hr:aZ X.K g (α++[p]) (upd H p (.dT [])) (h++[.dit []]):=s.heap.push hp ⟨[],aP,.nil⟩
  have s0:eP X.K g (α++[p]) (upd H p (.dT [])) env σ (h++[.dit []]):=s.ext x hr
  have ap:(α++[p])[h.length]?=some p:=by rw[<- s.heap.len];simp
  unfold p6 at w
  refine tM.use s0 (w.ext x).bind fun d1 h1 v1 H1 α1 e1 s1 r1 w1=>tM.use s1 (w1.ext e1).bind fun d2 h2 v2 H2 α2 e2 s2 r2 w2=>?_
  cases ek:oZ d1 with
  | none=>rw[ek] at w2;exact w2.elim
  | some k=>
   cases ed:eh h2 h.length with
   | none=>rw[ek,ed] at w2;exact w2.elim
   | some kvs=>
    cases kvs with
    | cons _ _=>rw[ek,ed] at w2;exact w2.elim
    | nil=>
     rw[ek,ed] at w2
     have ap2:α2[h.length]?=some p:=(e1.trans e2).toEx0.get ap
     obtain⟨kws,hd,rs⟩:=s2.heap.dit ed ap2
     cases rs
     obtain⟨b',rfl,eb⟩:=uy (r1.ext e2) ek
     refine⟨b',k,rfl,eb,hd,?_⟩
     have xw:=Ext.write (K:=X.K) (o:=.dT [(k,v2)]) s2.heap ap2
     have xx:=x.trans (e1.trans e2)
     exact(show aF X.K g α H Q _ _ from w2) _ _ α2 (xx.trans xw) (s2.heap.write ap2 ⟨_,aP,.cons ⟨rfl,r2.ext xw⟩ .nil⟩) (.ref ap2)
end L2.FE
namespace FC
open PySem L2 L2.FE
noncomputable def cy:MF:=cH 2 (aO (eX (a_ asB (av dLt (ag 1) (ai cp (ae (ag 0) ao)))) (bG (av dIx (ag 0) (ag 1))) cw)
  (bG (cC (.int 0))))
noncomputable def di:MF:=cH 2 (aO (cb 1 (ai Dx (ae (ag 0) (ae (av je (cC (.int 0)) (ag 0)) ao))))
  (bG (ai (cO v7) (ae (ag 1) (ae (ai yt (ae (av dGe (ag 1) (av vj (cC (.int 10)) (cC (.int 18)))) ao)) (ae (av xv (ag 1) (cC (.int 1000003))) ao))))))
noncomputable def e_:MF:=cH 1 (aO (cb 0 (av xv (av (bS az) (ag 0) (cC (.int 7919))) (cC (.int 2147483647))))
  (bG (av xv (av (bS az) (av (bS az) (av (lH az) (ag 0) (ag 0)) (av (lH az) (cC (.int 48271)) (ag 0))) (cC (.int 12345))) (cC (.int 2147483629)))))
noncomputable def aB:MF:=cH 3 (aO (eX (BB (a_ asB (av dEq (av dIx (ag 0) (cC (.int 1))) (cC (.int 1)))) (a_ asB (av dGt (av dIx (ag 0) (cC (.int 0))) (cC (.int 0))))) (aO (cb 2 (av xv (av dIx (ag 0) (cC (.int 0))) (ag 1)))
  (aO (kL jg (ag 0) (cC (.int 0)) (av Dp (av dIx (ag 0) (cC (.int 0))) (ag 1)))
  (bG (ag 2)))) cw)
  (aO (kL jg (ag 0) (cC (.int 2)) (ai e_ (ae (av (bS az) (ai e_ (ae (av dIx (ag 0) (cC (.int 2))) ao)) (cC (.int 7))) ao)))
  (bG (av xv (av Dp (av dIx (ag 0) (cC (.int 2))) (cC (.int 64))) (ag 1)))))
noncomputable def dP:MF:=cH 3 (bG (av dIx (ai (cO az) (ae (av je (ag 1) (cC (.int 1))) (ae (av (bS az) (ag 2) (cC (.int 1))) (ae (cC (.bl true)) (ae (cC .non) (ae (cC (.str "2")) (ae (ai cG (ae (cC (.int 2)) ao)) (ae (ai (cO az) (ae (cC (.int 1)) ao)) (ae (cC (.bl false)) (ae (av vj (cC (.int 10)) (cC (.int 30))) (ae (cC .edic) (ae (av je (cC (.int 0)) (av vj (cC (.int 10)) (cC (.int 30)))) ao)))))))))))) (ai aB (ae (ag 0) (ae (cC (.int 11)) ao)))))
noncomputable def cL:MF:=fun ds h=>((cH 3 (aO (cb 2 (ai (m_ v7) (ae (ag 1) ao)))
  (bG (ai mW (ae (fB az (kj m8 (ae (ag 1) ao)) [2,0] tt1 (iy xB (ag 1) (ae (ai aB (ae (ag 2) (ae (ai cp (ae (ag 1) ao)) ao))) ao))) ao))))) ds h).bind (cJ h)
noncomputable def cq:MF:=cH 8 (aO (cb 2 (ai aB (ae (ag 0) (ae (cC (.int 7)) ao))))
  (aO (cb 3 (av (bS az) (cC (.int 1)) (ai aB (ae (ag 0) (ae (ag 1) ao)))))
  (aO (cb 4 (ai aB (ae (ag 0) (ae (ag 3) ao))))
  (aO (cb 5 (av dIx (ai (cO az) (ae (ag 1) (ae (cUn oH (cC (.int 1))) (ae (cC (.bl true)) (ae (cC (.bl false)) (ae (cC .non) (ae (cC (.str "0")) (ae (ai (cO az) (ae (cC (.int 0)) ao)) (ae (cC .edic) (ae (ai cG (ae (cC (.int 0)) ao)) (ae (av vj (cC (.int 10)) (cC (.int 30))) ao))))))))))) (ai aB (ae (ag 0) (ae (cC (.int 10)) ao)))))
  (aO (cb 6 (dy az (ai cL (ae (ag 0) (ae (ag 1) ao))) dF (eg (ag 3))))
  (aO (cb 7 (ai (cO az) (ae (av (bS az) (av (bS az) (dy az (ag 6) dF (eg (ag 4))) (ai cG (ae (ag 5) ao))) (dy az (ag 6) (eg (av (bS az) (ag 4) (cC (.int 1)))) dF)) (ae (av (bS az) (av (bS az) (dy az (ag 6) dF (eg (ag 4))) (ai cG (ae (ag 5) ao))) (dy az (ag 6) (eg (av (bS az) (ag 4) (cC (.int 1)))) dF)) (ae (ai (dList az) (ae (ag 6) ao)) ao)))))
  (aO (cb 7 (av (bS az) (ag 7) (ai (cO az) (ae (av (bS az) (av (bS az) (dy az (ag 6) dF (eg (ag 4))) (dy az (ag 6) (eg (ag 4)) (eg (av (bS az) (ag 4) (cC (.int 1)))))) (dy az (ag 6) (eg (ag 4)) dF)) (ae (ai qI (ae (av (bS az) (ag 1) (cC (.int 1))) ao)) ao)))))
  (bG (av dIx (av (bS az) (ag 7) (ai (cO az) (ae (cC .non) (ae (av (bS az) (ag 6) (dy az (ag 6) dF (eg (cC (.int 1))))) ao)))) (ag 2))))))))))
noncomputable def gD:MF:=cH 2 (aO (cb 1 (ai (cO az) (ae (cUn (vp "NoOrder") (ag 0)) (ae (cUn (vp "NoNumber") (ag 0)) (ae (cUn (vp "NoSet") (ag 0)) (ae (cUn (vp "NoRow") (ag 0)) ao))))))
  (aO (cb 1 (av (bS az) (ag 1) (ai (cO az) (ae (cUn (vp "NoLine") (ag 0)) (ae (cUn (vp "NoText") (ag 0)) (ae (cUn (vp "TooGreat") (ag 0)) ao))))))
  (aO (eX (vt (ft (a_ ju (cUn GL (ag 0)))) (a_ asB (av dNe (iy uv (ag 1) (ae (cC (.bl true)) ao)) (cC (.int 1))))) (bG (cC (.str "other"))) cw)
  (bG (av dIx (ai (cO az) (ae (cC (.str "order")) (ae (cC (.str "number")) (ae (cC (.str "set")) (ae (cC (.str "row")) (ae (cC (.str "line")) (ae (cC (.str "text")) (ae (cC (.str "great")) ao)))))))) (iy vC (ag 1) (ae (cC (.bl true)) ao)))))))
noncomputable def aR:MF:=cH 2 (aO (cb 1 (ai gD (ae (ag 0) ao)))
  (bG (cIf (a_ asB (av dEq (ag 1) (cC (.str "great")))) (ai cG (ae (ag 1) (ae (cUn (Dy "TooGreat" "many") (ag 0)) (ae (cUn (Dy "TooGreat" "most") (ag 0)) ao)))) (ai cG (ae (ag 1) ao)))))
noncomputable def gB:MF:=cH 1 (bG (wg (cUn (oR "int") (ag 0)) (CO (cUn (oR "bool") (ag 0)))))
noncomputable def bF:MF:=cH 3 (bG (wg (ai gB (ae (ag 0) ao)) (jD dLe dLe (ag 1) (ag 0) (ag 2))))
noncomputable def aY:MF:=cH 3 (eX (up (ft (a_ ju (ai bF (ae (ag 0) (ae (ag 1) (ae (ag 2) ao))))))) (qZ "NoNumber") cw)
noncomputable def aK:MF:=cH 2 (aO (f6 (ai aY (ae (up (ag 0)) (ae (up (cC (.int 1))) (ae (up (cC (.int 12))) ao)))))
  (f6 (ai aY (ae (up (ag 1)) (ae (up (cC (.int 0))) (ae (up (cC (.int 12))) ao))))))
noncomputable def cN:MF:=fun ds h=>((cH 8 (aO (cb 2 (av (lH v7) (ai (cO az) (ae (cC (.int 0)) ao)) (av (bS az) (ai cp (ae (ag 0) ao)) (cC (.int 1)))))
  (aO (fO (nN (ag 0)) (gT2 3 4) (aO (cb 5 (cIf (a_ asB (av dLt (ag 3) (ag 1))) (cC (.int 1)) (cC (.int 0))))
  (fO (nN (ag 4)) (gT2 6 7) (uk (ag 2) (av (bS az) (ag 6) (ag 5)) (ag 7)))))
  (bG (ag 2))))) ds h).bind (cJ h)
noncomputable def eZ:MF:=fun ds h=>((cH 3 (aO (cb 1 (ai (cO v7) (ae (ai (cO az) (ae (ai (cO az) (ae (cC (.int 1)) ao)) ao)) ao)))
  (aO (fO (kj t_ (ae (cC (.int 1)) (ae (av (bS az) (ag 0) (cC (.int 1))) ao))) (gN 2) (f6 (iy iV (ag 1) (ae (fB az (kj m8 (ae (av (bS az) (ag 2) (cC (.int 1))) ao)) [1] tt1 (ai cN (ae (av dIx (ag 1) (cUn oH (cC (.int 1)))) (ae (ag 0) ao)))) ao))))
  (bG (ag 1))))) ds h).bind (cJ h)
noncomputable def bj:MF:=EJ 3 (cb 2 (ai eZ (ae (ag 0) ao))) "begun_count" [2,1]
noncomputable def gv:MF:=cH 1 (aO (eX (a_ asB (av dEq (ai cp (ae (ag 0) ao)) (cC (.int 0)))) (bG (cC (.int 0))) cw)
  (bG (av je (av dIx (ag 0) (cUn oH (cC (.int 1)))) (ai cp (ae (fB az (eB (ag 0)) [0] (a_ asB (av dLt (ag 0) (av dIx (ag 1) (cUn oH (cC (.int 1)))))) (ag 0)) ao)))))
noncomputable def fF:MF:=cH 1 (bG (ai mW (ae (fB az (kj m8 (ae (av je (ai cp (ae (ag 0) ao)) (cC (.int 1))) ao)) [0] (a_ asB (av dGt (av dIx (ag 1) (ag 0)) (av dIx (ag 1) (av (bS az) (ag 0) (cC (.int 1)))))) (ag 0)) ao)))
noncomputable def bt:MF:=cH 5 (aO (cb 3 (av dIx (av dIx (ag 0) (av je (av je (ai cp (ae (ag 0) ao)) (cC (.int 1))) (ai cp (ae (ag 2) ao)))) (ai gv (ae (ag 2) ao))))
  (aO (cb 4 (av je (ag 1) (ai cp (ae (ai fF (ae (ag 2) ao)) ao))))
  (bG (cIf (a_ asB (jD dLe dLt (cC (.int 0)) (ag 4) (ai cp (ae (ag 3) ao)))) (av dIx (ag 3) (ag 4)) (cC (.int 0))))))
noncomputable def wR:Str->Option (Nat × MF):=fun x=>if x="begun_count" then some (3,bt) else none
@[simp] theorem A2:wR "begun_count" = some (3,bt):=by kernel_rfl
noncomputable def cM:MF:=cH 4 (aO (f6 (ai aK (ae (up (ag 0)) (ae (up (ag 1)) ao))))
  (aO (up (cb 3 (ai bj (ae (ag 0) (ae (ag 1) ao)))))
  (aO (f6 (ai aY (ae (up (ag 2)) (ae (up (cC (.int 0))) (ae (up (av je (qM wR (ag 3) (ae (ai cG ao) ao)) (cC (.int 1)))) ao)))))
  (up (bG (fun _ _=>.bad))))))
noncomputable def cR:MF:=fun ds h=>((cH 3 (aO (eX (vt (ft (a_ ju (cUn (oR "tuple") (ag 1)))) (a_ asB (av dGt (ai cp (ae (ag 1) ao)) (ag 0)))) (bG (cC (.bl false))) cw)
  (aO (fO (eB (ag 1)) (gN 2) (eX (ft (a_ ju (ai bF (ae (ag 2) (ae (cC (.int 0)) (ae (av je (ag 0) (cC (.int 1))) ao)))))) (bG (cC (.bl false))) cw))
  (bG (av dEq (ai cp (ae (ai rN (ae (ag 1) ao)) ao)) (ai cp (ae (ag 1) ao))))))) ds h).bind (cJ h)
noncomputable def bA:MF:=cH 2 (eX (up (ft (a_ ju (ai cR (ae (ag 0) (ae (ag 1) ao)))))) (qZ "NoRow") cw)
noncomputable def bW:MF:=cH 3 (aO (f6 (ai aK (ae (up (ag 0)) (ae (up (ag 1)) ao))))
  (aO (f6 (ai bA (ae (up (ag 0)) (ae (up (ag 2)) ao))))
  (up (bG (ai bt (ae (ai eZ (ae (ag 0) ao)) (ae (ag 1) (ae (ag 2) ao))))))))
noncomputable def bu:MF:=cH 3 (aO (f6 (ai aK (ae (up (ag 0)) (ae (up (ag 1)) ao))))
  (aO (f6 (ai bA (ae (up (ag 0)) (ae (up (ag 2)) ao))))
  (up (bG (fB az (eB (fun _ _=>.bad)) [] tt1 (av dIx (ag 0) (cUn oH (cC (.int 1)))))))))
noncomputable def cX:MF:=cH 3 (aO (f6 (ai aK (ae (up (ag 0)) (ae (up (ag 1)) ao))))
  (aO (up (cb 2 (ai bj (ae (ag 0) (ae (ag 1) ao)))))
  (aO (f6 (fun _ _=>.bad))
  (up (bG (fun _ _=>.bad))))))
noncomputable def cV:MF:=fun ds h=>((cH 2 (aO (eX (vt (ft (a_ ju (cUn (oR "tuple") (ag 0)))) (ft (a_ asB (jD dLe dLe (cC (.int 1)) (ai cp (ae (ag 0) ao)) (cC (.int 20)))))) (bG (cC (.bl false))) cw)
  (aO (fO (eB (ag 0)) (gN 1) (eX (ft (a_ ju (ai bF (ae (ag 1) (ae (cC (.int 0)) (ae (av je (ai cp (ae (ag 0) ao)) (cC (.int 1))) ao)))))) (bG (cC (.bl false))) cw))
  (bG (av dEq (ai cp (ae (ai rN (ae (ag 0) ao)) ao)) (ai cp (ae (ag 0) ao))))))) ds h).bind (cJ h)
noncomputable def cx:MF:=cH 1 (eX (up (ft (a_ ju (ai cV (ae (ag 0) ao))))) (qZ "NoOrder") cw)
noncomputable def ba:MF:=cH 1 (aO (f6 (ai cx (ae (up (ag 0)) ao)))
  (eX (up (a_ asB (av dGt (ai cp (ae (ag 0) ao)) (cC (.int 12))))) (pK "TooGreat" ["many", "most"] (ae (up (ai cp (ae (ag 0) ao))) (ae (up (cC (.int 12))) ao))) cw))
noncomputable def dG:MF:=cH 1 (aO (f6 (ai ba (ae (up (ag 0)) ao)))
  (up (bG (fun _ _=>.bad))))
noncomputable def cW:MF:=cH 3 (aO (f6 (ai ba (ae (up (ag 0)) ao)))
  (aO (up (cb 1 (ai bj (ae (ai cp (ae (ag 0) ao)) (ae (ai cp (ae (ai fF (ae (ag 0) ao)) ao)) ao)))))
  (aO (up (cb 2 (av (bS az) (fun _ _=>.bad) (cC (.int 1)))))
  (aO (up (eX (a_ asB (av dEq (ag 2) (qM wR (ag 1) (ae (ai cG ao) ao)))) (bG (cC .non)) cw))
  (up (bG (fun _ _=>.bad)))))))
noncomputable def kr:Str->Option MF:=fun x=>if x="order_at" then some cM else if x="begun_many" then some bW else if x="next_numbers" then some bu else none
@[simp] theorem C3:kr "order_at" = some cM:=by kernel_rfl
@[simp] theorem Ae:kr "begun_many" = some bW:=by kernel_rfl
@[simp] theorem yp:kr "next_numbers" = some bu:=by kernel_rfl
noncomputable def oE:Str->Option MF:=fun x=>if x="number_of" then some dG else if x="next_order" then some cW else none
@[simp] theorem Be:oE "number_of" = some dG:=by kernel_rfl
@[simp] theorem AO:oE "next_order" = some cW:=by kernel_rfl
noncomputable def aI:MF:=cH 5 (xI (aO (eX (up (a_ asB (av dLt (ag 0) (cC (.int 3))))) (bG (k9 kr (up (av dIx (ai (cO az) (ae (cC (.fn "order_at")) (ae (cC (.fn "begun_many")) (ae (cC (.fn "next_numbers")) ao)))) (ag 0))) (ae (up (ag 1)) (ae (up (ag 2)) (ae (up (ag 3)) ao))))) cw)
  (bG (cIf (up (a_ asB (av dEq (ag 0) (cC (.int 3))))) (ai cX (ae (up (ag 1)) (ae (up (ag 2)) ao))) (k9 oE (up (av dIx (ai (cO az) (ae (cC (.fn "number_of")) (ae (cC (.fn "next_order")) ao))) (av je (ag 0) (cC (.int 4))))) (ae (up (ag 3)) ao))))) aR)
noncomputable def e9:MF:=zV (fun ds h=>((cH 9 (aO (cb 2 (p6 (ai cG (ae (cC (.int 0)) (ae (cC (.int 0)) ao))) (cC (.int 1))))
  (aO (fO (kj t_ (ae (cC (.int 1)) (ae (ag 0) ao))) (gN 3) (aO (cb 4 zK)
  (aO (fO (eB (ai (iN az) (ae (ag 2) ao))) (gT2 5 6) (fO (kj m8 (ae (av (bS az) (ag 3) (cC (.int 1))) ao)) (gN 7) (aO (cb 8 (ai cG (ae (ag 7) (ae (av (bS az) (ag 6) (ai yt (ae (av dLe (ag 7) (ag 5)) ao))) ao))))
  (kL tj (ag 4) (ag 8) (av (bS az) (qt (ag 4) (ag 8) (cC (.int 0))) (av jP (ag 2) (ai cG (ae (ag 5) (ae (ag 6) ao)))))))))
  (cb 2 (ag 4)))))
  (bG (ai xW (ae (fB az (eB (ai (iN az) (ae (ag 2) ao))) [2,1] (a_ asB (av dEq (av dIx (ag 0) (cC (.int 1))) (ag 2))) (av jP (ag 1) (ag 0))) ao)))))) ds h).bind (cJ h))
noncomputable def bN:MF:=cH 6 (aO (cb 1 (ai cL (ae (ag 0) (ae (av (bS az) (cC (.int 13)) (ai aB (ae (ag 0) (ae (cC (.int 8)) ao)))) ao))))
  (aO (cb 2 (ai aB (ae (ag 0) (ae (ai cp (ae (ag 1) ao)) ao))))
  (aO (cb 3 (ai (cO az) (ae (av (bS az) (av (bS az) (dy az (ag 1) dF (eg (ag 2))) (ai cG (ae (ai (cO az) (ae (cC (.int 0)) ao)) ao))) (dy az (ag 1) (eg (av (bS az) (ag 2) (cC (.int 1)))) dF)) (ae (ai (dList az) (ae (ag 1) ao)) (ae (av (bS az) (av (bS az) (dy az (ag 1) dF (eg (ag 2))) (dy az (ag 1) (eg (ag 2)) (eg (av (bS az) (ag 2) (cC (.int 1)))))) (dy az (ag 1) (eg (ag 2)) dF)) ao)))))
  (aO (cb 4 (av dIx (av (bS az) (ag 3) (ai (cO az) (ae (cC .non) (ae (ai cG ao) (ae (ai cG (ae (cC (.bl true)) ao)) (ae (ai cG (ae (cC (.int 1)) ao)) (ae (ai cG (ae (cC (.bl false)) ao)) (ae (ai cG (ae (cC (.int 0)) (ae (cC (.bl true)) ao))) (ae (ai qI (ae (cC (.int 21)) ao)) ao))))))))) (ai aB (ae (ag 0) (ae (cC (.int 10)) ao)))))
  (aO (cb 5 (ai gb (ae (ag 4) ao)))
  (aO (eX (a_ asB (av dNe (fB az (eB (ai cG (ae (cC (.int 4)) (ae (cC (.int 5)) ao)))) [1] tt1 (ai aI (ae (ag 0) (ae (cC (.int 1)) (ae (cC (.int 0)) (ae (ag 1) ao)))))) (av (lH az) (ai (cO az) (ae (ai cG (ae (cC (.str "great")) (ae (ai cp (ae (ag 1) ao)) (ae (cC (.int 12)) ao)))) ao)) (cC (.int 2))))) (bG (cC (.bl false))) cw)
  (bG (wg (av dEq (fB az (eB (ai cG (ae (cC (.int 4)) (ae (cC (.int 5)) ao)))) [4] tt1 (ai aI (ae (ag 0) (ae (cC (.int 1)) (ae (cC (.int 0)) (ae (ag 1) ao)))))) (av (lH az) (ai (cO az) (ae (ai cG (ae (cC (.str "order")) ao)) ao)) (cC (.int 2)))) (av dEq (ai gb (ae (ag 4) ao)) (ag 5))))))))))
noncomputable def qm:MF:=fun ds h=>((cH 13 (aO (fO (eB (av (bS az) (ai (cO az) (ae (ai cy (ae (ag 0) (ae (cC (.int 0)) ao))) ao)) (dy az (ag 0) (eg (cC (.int 1))) (eg (cC (.int 4)))))) (gN 1) (aO (cb 2 (ai di (ae (ag 1) ao)))
  (aO (BU 3 4 (ae (ai dP (ae (ag 2) (ae (cC (.int 1)) (ae (cC (.int 12)) ao)))) (ae (ai dP (ae (ag 2) (ae (cC (.int 0)) (ae (cC (.int 12)) ao)))) ao)))
  (aO (EI 5 6 (ai cG (ae (av (bS az) (cC (.int 1)) (ai aB (ae (ag 2) (ae (cC (.int 12)) ao)))) (ae (ai aB (ae (ag 2) (ae (cC (.int 13)) ao))) ao))))
  (aO (cb 7 (ai cq (ae (ag 2) (ae (ag 5) ao))))
  (aO (fO (eB (ai (cO az) (ae (ai cG (ae (ag 3) (ae (ag 6) ao))) (ae (ai cG (ae (ag 5) (ae (ag 4) ao))) (ae (ai cG (ae (ag 3) (ae (ag 4) ao))) ao))))) (gT2 8 9) (eX (a_ asB (av dNe (fB az (kj m8 (ae (cC (.int 4)) ao)) [8,9,7] tt1 (ai aI (ae (ag 0) (ae (ag 1) (ae (ag 2) (ae (ag 3) ao)))))) (av (lH az) (ai (cO az) (ae (ai cG (ae (cC (.str "number")) ao)) ao)) (cC (.int 4))))) (bG (cC (.bl false))) cw))
  (aO (cb 10 (ai gb (ae (ag 7) ao)))
  (aO (eX (vt (a_ asB (av dNe (fB az (eB (ai cG (ae (cC (.int 1)) (ae (cC (.int 2)) ao)))) [5,6,7] tt1 (ai aI (ae (ag 0) (ae (ag 1) (ae (ag 2) (ae (ag 3) ao)))))) (av (lH az) (ai (cO az) (ae (ai cG (ae (cC (.str "row")) ao)) ao)) (cC (.int 2))))) (a_ asB (av dNe (ai gb (ae (ag 7) ao)) (ag 10)))) (bG (cC (.bl false))) cw)
  (aO (cb 11 (ai e9 (ae (ag 5) (ae (ag 6) ao))))
  (aO (fO (eB (ai (cO az) (ae (ag 11) (ae (av (bS az) (ag 11) (cC (.int 1))) (ae (cUn oH (cC (.int 1))) (ae (cC (.bl true)) (ae (cC (.bl false)) (ae (cC .non) (ae (cC (.str "0")) (ae (ai (cO az) (ae (cC (.int 0)) ao)) (ae (ai cG (ae (cC (.int 0)) ao)) (ae (av vj (cC (.int 10)) (cC (.int 30))) ao)))))))))))) (gN 12) (eX (a_ asB (av dNe (ai aI (ae (cC (.int 0)) (ae (ag 5) (ae (ag 6) (ae (ag 12) ao))))) (ai cG (ae (cC (.str "number")) ao)))) (bG (cC (.bl false))) cw))
  (eX (ft (a_ ju (ai bN (ae (ag 2) ao)))) (bG (cC (.bl false))) cw)))))))))))
  (bG (cC (.bl true))))) ds h).bind (cJ h)
noncomputable def aD (i:Nat):Stmt:=PySem.Challenge.pw_fallcounts_k24_listed_refused.main.body.getD i (.Pass ⟨0,0,0,0⟩)
structure Blt (mg:Str->Option Value):Prop where
 ValueError:mg "ValueError" = none
 bool:mg "bool" = none
 enumerate:mg "enumerate" = none
 int:mg "int" = none
 isinstance:mg "isinstance" = none
 len:mg "len" = none
 list:mg "list" = none
 max:mg "max" = none
 range:mg "range" = none
 repr:mg "repr" = none
 set:mg "set" = none
 sum:mg "sum" = none
 tuple:mg "tuple" = none
section
variable {P:Program} {w:World} {K:PySem.W.Frag} {mg:Str->Option Value} {base:Heap} {g:GG}
theorem pz:aE ["_law_script", "_law_k"] ["_law_script", "_law_k"] (ak (aD 42)):=⟨rfl,rfl,rfl,by decide +kernel,rfl,by decide +kernel,by decide +kernel⟩
theorem nI (D:aJ K mg "_law_cell_at" (aD 42)) (T:Blt mg):Has P w K mg base g "_law_cell_at" 1 ["_law_script", "_law_k"] cy:=by
 obtain⟨f,fd,hm,F⟩:=D
 refine⟨f,fd,iJ F pz (fun cdv A outer s H E hr=>?_),F.kp,F.binds (fun _ _ _ _ _ _ us hl=>qK hl fun _ _=>rfl),hm,bJ F⟩
 exact(@au _ _ _ _ _ _ _ (@i8 _ _ _ _ _ _ _ _ _ _ (@cS _ _ _ _ _ _ _ _ _ _ _ vT xC (af 1) (aQ cz cu rfl T.len PySem.boot_len (@aa _ _ _ _ _ _ _ (af 0) aj rfl)) (bY _)) (@aA _ _ _ _ _ (@bw _ _ _ _ _ _ (@dB _ _ _ _ _ _ _ _ _ _ ck dC (af 0) (af 1) (fun _ _=>rfl)))) cg)
   (@aA _ _ _ _ _ (@bw _ _ _ _ _ _ aq)))
theorem j3:aE ["_law_cell", "_law_left"] ["_law_cell"] (ak (aD 44)):=⟨rfl,rfl,rfl,by decide +kernel,rfl,by decide +kernel,by decide +kernel⟩
theorem oK (D:aJ K mg "_law_pen_of" (aD 44)) (T:Blt mg):Has P w K mg base g "_law_pen_of" 1 ["_law_cell"] di:=by
 obtain⟨f,fd,hm,F⟩:=D
 refine⟨f,fd,iJ F j3 (fun cdv A outer s H E hr=>?_),F.kp,F.binds (fun _ _ _ _ _ _ us hl=>kR hl fun _=>rfl),hm,bJ F⟩
 exact(@au _ _ _ _ _ _ _ (@bR _ _ _ _ _ _ 1 _ _ j3.nd rfl (by first | exact Or.inl rfl | exact Or.inr rfl) (aQ (As rfl) Fp rfl T.max PyProof.Rows.boot_max (@aa _ _ _ _ _ _ _ (af 0) (@aa _ _ _ _ _ _ _ (@ay _ _ _ _ _ _ _ _ _ _ _ f_ gf aq (af 0)) aj rfl) rfl)) rfl (.inl rfl))
   (@aA _ _ _ _ _ (@bw _ _ _ _ _ _ (@bP _ _ _ _ _ _ _ _ (@aa _ _ _ _ _ _ _ (af 1) (@aa _ _ _ _ _ _ _ (dj tW Cf rfl T.int PyProof.Rows.boot_int (@aa _ _ _ _ _ _ _ (@nB _ _ _ _ _ _ _ _ _ _ _ Js JK (af 1) (@ay _ _ _ _ _ _ _ _ _ _ _ mn qT aq aq) (bY _)) aj rfl)) (@aa _ _ _ _ _ _ _ (@ay _ _ _ _ _ _ _ _ _ _ _ qk qP (af 1) aq) aj rfl) rfl) rfl)))))
theorem lV:aE ["_law_seed"] ["_law_seed"] (ak (aD 43)):=⟨rfl,rfl,rfl,by decide +kernel,rfl,by decide +kernel,by decide +kernel⟩
theorem rY (D:aJ K mg "_law_next" (aD 43)) (T:Blt mg):Has P w K mg base g "_law_next" 1 ["_law_seed"] e_:=by
 obtain⟨f,fd,hm,F⟩:=D
 refine⟨f,fd,iJ F lV (fun cdv A outer s H E hr=>?_),F.kp,F.binds (fun _ _ _ _ _ _ us hl=>kR hl fun _=>rfl),hm,bJ F⟩
 exact(@au _ _ _ _ _ _ _ (@bR _ _ _ _ _ _ 0 _ _ lV.nd rfl (by first | exact Or.inl rfl | exact Or.inr rfl) (@ay _ _ _ _ _ _ _ _ _ _ _ qk qP (@ay _ _ _ _ _ _ _ _ _ _ _ a8 a9 (af 0) aq) aq) rfl (.inl rfl))
   (@aA _ _ _ _ _ (@bw _ _ _ _ _ _ (@ay _ _ _ _ _ _ _ _ _ _ _ qk qP (@ay _ _ _ _ _ _ _ _ _ _ _ a8 a9 (@ay _ _ _ _ _ _ _ _ _ _ _ a8 a9 (@ay _ _ _ _ _ _ _ _ _ _ _ lx kZ (af 0) (af 0)) (@ay _ _ _ _ _ _ _ _ _ _ _ lx kZ aq (af 0))) aq) aq))))
theorem mK:aE ["_law_pen", "_law_many_here", "_law_found"] ["_law_pen", "_law_many_here"] (ak (aD 45)):=⟨rfl,rfl,rfl,by decide +kernel,rfl,by decide +kernel,by decide +kernel⟩
theorem sG (D:aJ K mg "_law_draw" (aD 45)) (T:Blt mg) (ik:Has P w K mg base g "_law_next" 1 ["_law_seed"] e_):Has P w K mg base g "_law_draw" 2 ["_law_pen", "_law_many_here"] aB:=by
 obtain⟨f,fd,hm,F⟩:=D
 obtain⟨DT,CY,kD,kB,kC,kz,_⟩:=ik
 refine⟨f,fd,iJ F mK (fun cdv A outer s H E hr=>?_),F.kp,F.binds (fun _ _ _ _ _ _ us hl=>qK hl fun _ _=>rfl),hm,bJ F⟩
 exact(@au _ _ _ _ _ _ _ (@i8 _ _ _ _ _ _ _ _ _ _ (PW.pt (@HH _ _ _ _ _ _ _ _ _ (@cS _ _ _ _ _ _ _ _ _ _ _ (iu hr.units) ko (@dB _ _ _ _ _ _ _ _ _ _ ck dC (af 0) aq (fun _ _=>rfl)) aq (bY _)) (@Fe _ _ _ _ _ _ (@cS _ _ _ _ _ _ _ _ _ _ _ zq zb (@dB _ _ _ _ _ _ _ _ _ _ ck dC (af 0) aq (fun _ _=>rfl)) aq (bY _))))) (@au _ _ _ _ _ _ _ (@bR _ _ _ _ _ _ 2 _ _ mK.nd rfl (by first | exact Or.inl rfl | exact Or.inr rfl) (@ay _ _ _ _ _ _ _ _ _ _ _ qk qP (@dB _ _ _ _ _ _ _ _ _ _ ck dC (af 0) aq (fun _ _=>rfl)) (af 1)) rfl (.inl rfl))
   (@au _ _ _ _ _ _ _ (yX (@ay _ _ _ _ _ _ _ _ _ _ _ wQ B8 (@dB _ _ _ _ _ _ _ _ _ _ ck dC (af 0) aq (fun _ _=>rfl)) (af 1)) (af 0) aq set_list qv)
   (@aA _ _ _ _ _ (@bw _ _ _ _ _ _ (af 2))))) cg)
   (@au _ _ _ _ _ _ _ (yX (aH (kD.mono (by decide)) hr rfl kz kB kC (@aa _ _ _ _ _ _ _ (@ay _ _ _ _ _ _ _ _ _ _ _ a8 a9 (aH (kD.mono (by decide)) hr rfl kz kB kC (@aa _ _ _ _ _ _ _ (@dB _ _ _ _ _ _ _ _ _ _ ck dC (af 0) aq (fun _ _=>rfl)) aj rfl) (ah ax)) aq) aj rfl) (ah ax)) (af 0) aq set_list qv)
   (@aA _ _ _ _ _ (@bw _ _ _ _ _ _ (@ay _ _ _ _ _ _ _ _ _ _ _ qk qP (@ay _ _ _ _ _ _ _ _ _ _ _ wQ B8 (@dB _ _ _ _ _ _ _ _ _ _ ck dC (af 0) aq (fun _ _=>rfl)) aq) (af 1))))))
theorem wG:aE ["_law_pen", "_law_low", "_law_high"] ["_law_pen", "_law_low", "_law_high"] (ak (aD 50)):=⟨rfl,rfl,rfl,by decide +kernel,rfl,by decide +kernel,by decide +kernel⟩
theorem ub (D:aJ K mg "_law_odd" (aD 50)) (T:Blt mg) (aS:Has P w K mg base g "_law_draw" 2 ["_law_pen", "_law_many_here"] aB):Has P w K mg base g "_law_odd" 3 ["_law_pen", "_law_low", "_law_high"] dP:=by
 obtain⟨f,fd,hm,F⟩:=D
 obtain⟨fW,ff,aW,aU,aX,aV,_⟩:=aS
 refine⟨f,fd,iJ F wG (fun cdv A outer s H E hr=>?_),F.kp,F.binds (fun _ _ _ _ _ _ us hl=>vX hl fun _ _ _=>rfl),hm,bJ F⟩
 exact(@aA _ _ _ _ _ (@bw _ _ _ _ _ _ (@dB _ _ _ _ _ _ _ _ _ _ ck dC (@bP _ _ _ _ _ _ _ _ (@aa _ _ _ _ _ _ _ (@ay _ _ _ _ _ _ _ _ _ _ _ f_ gf (af 1) aq) (@aa _ _ _ _ _ _ _ (@ay _ _ _ _ _ _ _ _ _ _ _ a8 a9 (af 2) aq) (@aa _ _ _ _ _ _ _ eJ (@aa _ _ _ _ _ _ _ nu (@aa _ _ _ _ _ _ _ dQ (@aa _ _ _ _ _ _ _ (@bK _ _ _ _ _ _ _ (@aa _ _ _ _ _ _ _ aq aj rfl)) (@aa _ _ _ _ _ _ _ (@bP _ _ _ _ _ _ _ _ (@aa _ _ _ _ _ _ _ aq aj rfl)) (@aa _ _ _ _ _ _ _ eJ (@aa _ _ _ _ _ _ _ (@ay _ _ _ _ _ _ _ _ _ _ _ mn qT aq aq) (@aa _ _ _ _ _ _ _ yU (@aa _ _ _ _ _ _ _ (@ay _ _ _ _ _ _ _ _ _ _ _ f_ gf aq (@ay _ _ _ _ _ _ _ _ _ _ _ mn qT aq aq)) aj rfl) rfl) rfl) rfl) rfl) rfl) rfl) rfl) rfl) rfl) rfl)) (aH (aW.mono (by decide)) hr rfl aV aU aX (@aa _ _ _ _ _ _ _ (af 0) (@aa _ _ _ _ _ _ _ aq aj rfl) rfl) (ah (ah ax))) (fun _ _=>rfl))))
theorem ku:aE ["_law_pen", "_law_n", "_law_left"] ["_law_pen", "_law_n"] (ak (aD 48)):=⟨rfl,rfl,rfl,by decide +kernel,rfl,by decide +kernel,by decide +kernel⟩
theorem qw (D:aJ K mg "_law_order" (aD 48)) (T:Blt mg) (aS:Has P w K mg base g "_law_draw" 2 ["_law_pen", "_law_many_here"] aB):Has P w K mg base g "_law_order" 3 ["_law_pen", "_law_n"] cL:=by
 obtain⟨f,fd,hm,F⟩:=D
 obtain⟨fW,ff,aW,aU,aX,aV,_⟩:=aS
 refine⟨f,fd,iQ (iJ F ku (fun cdv A outer s H E hr=>?_)),F.kp,F.binds (fun _ _ _ _ _ _ us hl=>qK hl fun _ _=>rfl),hm,bJ F⟩
 exact(@au _ _ _ _ _ _ _ (@bR _ _ _ _ _ _ 2 _ _ ku.nd rfl (by first | exact Or.inl rfl | exact Or.inr rfl) (CS rfl rfl T.list rfl T.range (@aa _ _ _ _ _ _ _ (af 1) aj rfl)) rfl (.inl rfl))
   (@aA _ _ _ _ _ (@bw _ _ _ _ _ _ (dj kx xi rfl T.tuple PyProof.Rows.boot_tuple (@aa _ _ _ _ _ _ _ (eM (osc:=ak (aD 48)) [2,0] ["_law_place", "_law_left", "_law_pen"] rfl rfl rfl rfl (by decide +kernel) ⟨by decide +kernel,by decide +kernel,rfl,by decide +kernel,rfl,by decide +kernel⟩ (mz rfl T.range (@aa _ _ _ _ _ _ _ (af 1) aj rfl))
    (fun cl C bh bO fp=>lu) (fun cl C bh bO fp=>(uz PySem.F.slot_list_pop PySem.F.type_list_pop Cr GC (af 1) (@aa _ _ _ _ _ _ _ (aH (aW.mono (by decide)) hr rfl aV aU aX (@aa _ _ _ _ _ _ _ (af 2) (@aa _ _ _ _ _ _ _ (aQ cz cu rfl T.len PySem.boot_len (@aa _ _ _ _ _ _ _ (af 1) aj rfl)) aj rfl) rfl) (ah (ah ax))) aj rfl)))) aj rfl)))))
theorem br:aE ["_law_pen", "_law_n", "_law_way", "_law_size", "_law_spot", "_law_odd_here", "_law_begun", "_law_some"] ["_law_pen", "_law_n"] (ak (aD 52)):=⟨rfl,rfl,rfl,by decide +kernel,rfl,by decide +kernel,by decide +kernel⟩
theorem ly (D:aJ K mg "_law_bad_begun" (aD 52)) (T:Blt mg) (aS:Has P w K mg base g "_law_draw" 2 ["_law_pen", "_law_many_here"] aB) (cU:Has P w K mg base g "_law_order" 3 ["_law_pen", "_law_n"] cL):Has P w K mg base g "_law_bad_begun" 4 ["_law_pen", "_law_n"] cq:=by
 obtain⟨f,fd,hm,F⟩:=D
 obtain⟨fW,ff,aW,aU,aX,aV,_⟩:=aS
 obtain⟨qY,oO,gO,gU,gQ,gG,_⟩:=cU
 refine⟨f,fd,iJ F br (fun cdv A outer s H E hr=>?_),F.kp,F.binds (fun _ _ _ _ _ _ us hl=>qK hl fun _ _=>rfl),hm,bJ F⟩
 exact(@au _ _ _ _ _ _ _ (@bR _ _ _ _ _ _ 2 _ _ br.nd rfl (by first | exact Or.inl rfl | exact Or.inr rfl) (aH (aW.mono (by decide)) hr rfl aV aU aX (@aa _ _ _ _ _ _ _ (af 0) (@aa _ _ _ _ _ _ _ aq aj rfl) rfl) (ah (ah ax))) rfl (.inl rfl))
   (@au _ _ _ _ _ _ _ (@bR _ _ _ _ _ _ 3 _ _ br.nd rfl (by first | exact Or.inl rfl | exact Or.inr rfl) (@ay _ _ _ _ _ _ _ _ _ _ _ a8 a9 aq (aH (aW.mono (by decide)) hr rfl aV aU aX (@aa _ _ _ _ _ _ _ (af 0) (@aa _ _ _ _ _ _ _ (af 1) aj rfl) rfl) (ah (ah ax)))) rfl (.inl rfl))
   (@au _ _ _ _ _ _ _ (@bR _ _ _ _ _ _ 4 _ _ br.nd rfl (by first | exact Or.inl rfl | exact Or.inr rfl) (aH (aW.mono (by decide)) hr rfl aV aU aX (@aa _ _ _ _ _ _ _ (af 0) (@aa _ _ _ _ _ _ _ (af 3) aj rfl) rfl) (ah (ah ax))) rfl (.inl rfl))
   (@au _ _ _ _ _ _ _ (@bR _ _ _ _ _ _ 5 _ _ br.nd rfl (by first | exact Or.inl rfl | exact Or.inr rfl) (@dB _ _ _ _ _ _ _ _ _ _ ck dC (@bP _ _ _ _ _ _ _ _ (@aa _ _ _ _ _ _ _ (af 1) (@aa _ _ _ _ _ _ _ (@sO _ _ _ _ _ _ _ _ _ mM nj aq) (@aa _ _ _ _ _ _ _ eJ (@aa _ _ _ _ _ _ _ eJ (@aa _ _ _ _ _ _ _ nu (@aa _ _ _ _ _ _ _ dQ (@aa _ _ _ _ _ _ _ (@bP _ _ _ _ _ _ _ _ (@aa _ _ _ _ _ _ _ aq aj rfl)) (@aa _ _ _ _ _ _ _ yU (@aa _ _ _ _ _ _ _ (@bK _ _ _ _ _ _ _ (@aa _ _ _ _ _ _ _ aq aj rfl)) (@aa _ _ _ _ _ _ _ (@ay _ _ _ _ _ _ _ _ _ _ _ mn qT aq aq) aj rfl) rfl) rfl) rfl) rfl) rfl) rfl) rfl) rfl) rfl)) (aH (aW.mono (by decide)) hr rfl aV aU aX (@aa _ _ _ _ _ _ _ (af 0) (@aa _ _ _ _ _ _ _ aq aj rfl) rfl) (ah (ah ax))) (fun _ _=>rfl)) rfl (.inl rfl))
   (@au _ _ _ _ _ _ _ (@bR _ _ _ _ _ _ 6 _ _ br.nd rfl (by first | exact Or.inl rfl | exact Or.inr rfl) (cA (aH (gO.mono (by decide)) hr rfl gG gU gQ (@aa _ _ _ _ _ _ _ (af 0) (@aa _ _ _ _ _ _ _ (af 1) aj rfl) rfl) (ah (ah ax))) eT (@cD _ _ _ _ _ (af 3))) rfl (.inl rfl))
   (@au _ _ _ _ _ _ _ (@bR _ _ _ _ _ _ 7 _ _ br.nd rfl (by first | exact Or.inl rfl | exact Or.inr rfl) (@bP _ _ _ _ _ _ _ _ (@aa _ _ _ _ _ _ _ (@ay _ _ _ _ _ _ _ _ _ _ _ a8 a9 (@ay _ _ _ _ _ _ _ _ _ _ _ a8 a9 (cA (af 6) eT (@cD _ _ _ _ _ (af 4))) (@bK _ _ _ _ _ _ _ (@aa _ _ _ _ _ _ _ (af 5) aj rfl))) (cA (af 6) (@cD _ _ _ _ _ (@ay _ _ _ _ _ _ _ _ _ _ _ a8 a9 (af 4) aq)) eT)) (@aa _ _ _ _ _ _ _ (@ay _ _ _ _ _ _ _ _ _ _ _ a8 a9 (@ay _ _ _ _ _ _ _ _ _ _ _ a8 a9 (cA (af 6) eT (@cD _ _ _ _ _ (af 4))) (@bK _ _ _ _ _ _ _ (@aa _ _ _ _ _ _ _ (af 5) aj rfl))) (cA (af 6) (@cD _ _ _ _ _ (@ay _ _ _ _ _ _ _ _ _ _ _ a8 a9 (af 4) aq)) eT)) (@aa _ _ _ _ _ _ _ (dj (bg.frz lU) zQ rfl T.list PyProof.Rows.boot_list (@aa _ _ _ _ _ _ _ (af 6) aj rfl)) aj rfl) rfl) rfl)) rfl (.inl rfl))
   (@au _ _ _ _ _ _ _ (@bR _ _ _ _ _ _ 7 _ _ br.nd rfl (by first | exact Or.inl rfl | exact Or.inr rfl) (@ay _ _ _ _ _ _ _ _ _ _ _ a8 a9 (af 7) (@bP _ _ _ _ _ _ _ _ (@aa _ _ _ _ _ _ _ (@ay _ _ _ _ _ _ _ _ _ _ _ a8 a9 (@ay _ _ _ _ _ _ _ _ _ _ _ a8 a9 (cA (af 6) eT (@cD _ _ _ _ _ (af 4))) (cA (af 6) (@cD _ _ _ _ _ (af 4)) (@cD _ _ _ _ _ (@ay _ _ _ _ _ _ _ _ _ _ _ a8 a9 (af 4) aq)))) (cA (af 6) (@cD _ _ _ _ _ (af 4)) eT)) (@aa _ _ _ _ _ _ _ (zf rfl rfl T.tuple rfl T.range (@aa _ _ _ _ _ _ _ (@ay _ _ _ _ _ _ _ _ _ _ _ a8 a9 (af 1) aq) aj rfl)) aj rfl) rfl))) rfl (.inl rfl))
   (@aA _ _ _ _ _ (@bw _ _ _ _ _ _ (@dB _ _ _ _ _ _ _ _ _ _ ck dC (@ay _ _ _ _ _ _ _ _ _ _ _ a8 a9 (af 7) (@bP _ _ _ _ _ _ _ _ (@aa _ _ _ _ _ _ _ nu (@aa _ _ _ _ _ _ _ (@ay _ _ _ _ _ _ _ _ _ _ _ a8 a9 (af 6) (cA (af 6) eT (@cD _ _ _ _ _ aq))) aj rfl) rfl))) (af 2) (fun _ _=>rfl)))))))))))
theorem gc:aE ["_law_e", "_law_marks"] ["_law_e"] (ak (aD 46)):=⟨rfl,rfl,rfl,by decide +kernel,rfl,by decide +kernel,by decide +kernel⟩
theorem nP (D:aJ K mg "_law_kind_of" (aD 46)) (T:Blt mg) (hgo:g=gOf mg) (CL:pB K mg):Ey P w K mg base g "_law_kind_of" 1 ["_law_e"] gD:=by
 obtain⟨f,fd,hm,F⟩:=D
 refine⟨f,fd,F8 F gc (fun cdv A outer s H E hr=>?_),F.kp,F.binds (fun _ _ _ _ _ _ us hl=>kR hl fun _=>rfl),hm⟩
 exact(@au _ _ _ _ _ _ _ (@bR _ _ _ _ _ _ 1 _ _ gc.nd rfl (by first | exact Or.inl rfl | exact Or.inr rfl) (@bP _ _ _ _ _ _ _ _ (@aa _ _ _ _ _ _ _ (kF CL hgo (af 0) rfl T.isinstance rfl (by decide)) (@aa _ _ _ _ _ _ _ (kF CL hgo (af 0) rfl T.isinstance rfl (by decide)) (@aa _ _ _ _ _ _ _ (kF CL hgo (af 0) rfl T.isinstance rfl (by decide)) (@aa _ _ _ _ _ _ _ (kF CL hgo (af 0) rfl T.isinstance rfl (by decide)) aj rfl) rfl) rfl) rfl)) rfl (.inl rfl))
   (@au _ _ _ _ _ _ _ (@bR _ _ _ _ _ _ 1 _ _ gc.nd rfl (by first | exact Or.inl rfl | exact Or.inr rfl) (@ay _ _ _ _ _ _ _ _ _ _ _ a8 a9 (af 1) (@bP _ _ _ _ _ _ _ _ (@aa _ _ _ _ _ _ _ (kF CL hgo (af 0) rfl T.isinstance rfl (by decide)) (@aa _ _ _ _ _ _ _ (kF CL hgo (af 0) rfl T.isinstance rfl (by decide)) (@aa _ _ _ _ _ _ _ (kF CL hgo (af 0) rfl T.isinstance rfl (by decide)) aj rfl) rfl) rfl))) rfl (.inl rfl))
   (@au _ _ _ _ _ _ _ (@i8 _ _ _ _ _ _ _ _ _ _ (PW.pt (@zc _ _ _ _ _ _ _ _ _ (@iw _ _ _ _ _ _ (@fj _ _ _ _ _ _ iU (GA CL hgo (af 0) rfl T.isinstance rfl T.ValueError) (fun _=>rfl))) (@uZ _ _ _ _ _ _ (@cS _ _ _ _ _ _ _ _ _ _ _ (n6 hr.units) tB (uz PySem.F.slot_list_count PySem.F.type_list_count zT Ak (af 1) (@aa _ _ _ _ _ _ _ eJ aj rfl)) aq (bY _))))) (@aA _ _ _ _ _ (@bw _ _ _ _ _ _ dQ)) cg)
   (@aA _ _ _ _ _ (@bw _ _ _ _ _ _ (@dB _ _ _ _ _ _ _ _ _ _ ck dC (@bP _ _ _ _ _ _ _ _ (@aa _ _ _ _ _ _ _ dQ (@aa _ _ _ _ _ _ _ dQ (@aa _ _ _ _ _ _ _ dQ (@aa _ _ _ _ _ _ _ dQ (@aa _ _ _ _ _ _ _ dQ (@aa _ _ _ _ _ _ _ dQ (@aa _ _ _ _ _ _ _ dQ aj rfl) rfl) rfl) rfl) rfl) rfl) rfl)) (uz PySem.F.slot_list_index PySem.F.type_list_index AN Ab (af 1) (@aa _ _ _ _ _ _ _ eJ aj rfl)) (fun _ _=>rfl)))))))
theorem jn:aE ["_law_e", "_law_kind"] ["_law_e"] (ak (aD 47)):=⟨rfl,rfl,rfl,by decide +kernel,rfl,by decide +kernel,by decide +kernel⟩
theorem nV (D:aJ K mg "_law_refused" (aD 47)) (T:Blt mg) (hgo:g=gOf mg) (dS:CIm K mg "TooGreat" (aD 8) ["many", "most"]) (fH:Ey P w K mg base g "_law_kind_of" 1 ["_law_e"] gD):Ey P w K mg base g "_law_refused" 2 ["_law_e"] aR:=by
 obtain⟨f,fd,hm,F⟩:=D
 obtain⟨Aa,zE,n5,nM,mP,nU⟩:=fH
 refine⟨f,fd,F8 F jn (fun cdv A outer s H E hr=>?_),F.kp,F.binds (fun _ _ _ _ _ _ us hl=>kR hl fun _=>rfl),hm⟩
 exact(@au _ _ _ _ _ _ _ (@bR _ _ _ _ _ _ 1 _ _ jn.nd rfl (by first | exact Or.inl rfl | exact Or.inr rfl) (Du (n5.mono (by decide)) hr rfl nU nM mP (@aa _ _ _ _ _ _ _ (af 0) aj rfl) (ah ax)) rfl (.inl rfl))
   (@aA _ _ _ _ _ (@bw _ _ _ _ _ _ (@l8 _ _ _ _ _ _ _ _ _ _ (@cS _ _ _ _ _ _ _ _ _ _ _ (iu hr.units) ko (af 1) dQ (bY _)) (@bK _ _ _ _ _ _ _ (@aa _ _ _ _ _ _ _ (af 1) (@aa _ _ _ _ _ _ _ (zo (af 0) dS hgo (by decide)) (@aa _ _ _ _ _ _ _ (zo (af 0) dS hgo (by decide)) aj rfl) rfl) rfl)) (@bK _ _ _ _ _ _ _ (@aa _ _ _ _ _ _ _ (af 1) aj rfl))))))
theorem vP:aE ["thing"] ["thing"] (ak (aD 10)):=⟨rfl,rfl,rfl,by decide +kernel,rfl,by decide +kernel,by decide +kernel⟩
theorem uW (D:aJ K mg "is_whole" (aD 10)) (T:Blt mg):Has P w K mg base g "is_whole" 1 ["thing"] gB:=by
 obtain⟨f,fd,hm,F⟩:=D
 refine⟨f,fd,iJ F vP (fun cdv A outer s H E hr=>?_),F.kp,F.binds (fun _ _ _ _ _ _ us hl=>kR hl fun _=>rfl),hm,bJ F⟩
 exact(@aA _ _ _ _ _ (@bw _ _ _ _ _ _ (@yB _ _ _ _ _ _ _ _ _ (uO (af 0) rfl T.isinstance rfl T.int PyProof.Rows.boot_int) (@yd _ _ _ _ _ _ _ (@Gr _ _ _ _ _ _ (uO (af 0) rfl T.isinstance rfl T.bool PyProof.Rows.boot_bool))))))
theorem vh:aE ["thing", "least", "most"] ["thing", "least", "most"] (ak (aD 11)):=⟨rfl,rfl,rfl,by decide +kernel,rfl,by decide +kernel,by decide +kernel⟩
theorem r8 (D:aJ K mg "is_within" (aD 11)) (T:Blt mg) (jf:Has P w K mg base g "is_whole" 1 ["thing"] gB):Has P w K mg base g "is_within" 2 ["thing", "least", "most"] bF:=by
 obtain⟨f,fd,hm,F⟩:=D
 obtain⟨Fx,DR,uF,t8,t7,uL,_⟩:=jf
 refine⟨f,fd,iJ F vh (fun cdv A outer s H E hr=>?_),F.kp,F.binds (fun _ _ _ _ _ _ us hl=>vX hl fun _ _ _=>rfl),hm,bJ F⟩
 exact(@aA _ _ _ _ _ (@bw _ _ _ _ _ _ (@yB _ _ _ _ _ _ _ _ _ (aH (uF.mono (by decide)) hr rfl uL t8 t7 (@aa _ _ _ _ _ _ _ (af 0) aj rfl) (ah ax)) (@yd _ _ _ _ _ _ _ (C8 tu tu tV tV (af 1) (af 0) (af 2))))))
theorem ni:aE ["thing", "least", "most"] ["thing", "least", "most"] (ak (aD 12)):=⟨rfl,rfl,rfl,by decide +kernel,rfl,by decide +kernel,by decide +kernel⟩
theorem mB (D:aJ K mg "number_needed" (aD 12)) (T:Blt mg) (hgo:g=gOf mg) (CL:pB K mg) (bX:Has P w K mg base g "is_within" 2 ["thing", "least", "most"] bF):fC P w K mg base g "number_needed" 3 ["thing", "least", "most"] aY:=by
 obtain⟨f,fd,hm,F⟩:=D
 obtain⟨kE,j0,eG,eN,eO,eQ,_⟩:=bX
 obtain⟨A_NoNumber,k_⟩:=CL.at_ "NoNumber" (by decide)
 refine⟨f,fd,jN F ni (fun cdv A outer s H E hr fl pl po=>?_),F.kp,F.binds (fun _ _ _ _ _ _ us hl=>vX hl fun _ _ _=>rfl),hm⟩
 exact(@aA _ _ _ _ _ (@i8 _ _ _ _ _ _ _ _ _ _ (@tJ _ _ _ _ _ (@iw _ _ _ _ _ _ (@fj _ _ _ _ _ _ iU (aH (eG.mono (by decide)) hr rfl eQ eN eO (@aa _ _ _ _ _ _ _ (af 0) (@aa _ _ _ _ _ _ _ (af 1) (@aa _ _ _ _ _ _ _ (af 2) aj rfl) rfl) rfl) (ah (ah (ah ax)))) (fun _=>rfl)))) (@aA _ _ _ _ _ (t5 fl pl rfl rfl k_ (fL hgo k_) ((CL.one _ (by decide) _ k_).2.2 rfl))) cg))
theorem mL:aE ["n", "k"] ["n", "k"] (ak (aD 27)):=⟨rfl,rfl,rfl,by decide +kernel,rfl,by decide +kernel,by decide +kernel⟩
theorem k7 (D:aJ K mg "numbers_needed" (aD 27)) (T:Blt mg) {fT:Tok} (cn:mg "MOST_LISTED" = some (.int 12 fT)) (b0:fC P w K mg base g "number_needed" 3 ["thing", "least", "most"] aY):fC P w K mg base g "numbers_needed" 4 ["n", "k"] aK:=by
 obtain⟨f,fd,hm,F⟩:=D
 obtain⟨l9,lh,dE,dD,dA,dz⟩:=b0
 refine⟨f,fd,jN F mL (fun cdv A outer s H E hr fl pl po=>?_),F.kp,F.binds (fun _ _ _ _ _ _ us hl=>qK hl fun _ _=>rfl),hm⟩
 exact(@au _ _ _ _ _ _ _ (fh (cT fl pl (dE.mono (by decide)) hr rfl dz dD dA (@aa _ _ _ _ _ _ _ (@b8 _ _ _ _ _ (af 0)) (@aa _ _ _ _ _ _ _ (@b8 _ _ _ _ _ aq) (@aa _ _ _ _ _ _ _ (@b8 _ _ _ _ _ (jS rfl cn)) aj rfl) rfl) rfl) (ah (ah (ah ax)))))
   (@aA _ _ _ _ _ (fh (cT fl pl (dE.mono (by decide)) hr rfl dz dD dA (@aa _ _ _ _ _ _ _ (@b8 _ _ _ _ _ (af 1)) (@aa _ _ _ _ _ _ _ (@b8 _ _ _ _ _ aq) (@aa _ _ _ _ _ _ _ (@b8 _ _ _ _ _ (jS rfl cn)) aj rfl) rfl) rfl) (ah (ah (ah ax)))))))
theorem cB:aE ["fewer", "lower", "counts", "rank", "rest", "fall", "falls", "many"] ["fewer", "lower"] (ak (aD 33)):=⟨rfl,rfl,rfl,by decide +kernel,rfl,by decide +kernel,by decide +kernel⟩
theorem oY (D:aJ K mg "rest_counts" (aD 33)) (T:Blt mg):Has P w K mg base g "rest_counts" 1 ["fewer", "lower"] cN:=by
 obtain⟨f,fd,hm,F⟩:=D
 refine⟨f,fd,iQ (iJ F cB (fun cdv A outer s H E hr=>?_)),F.kp,F.binds (fun _ _ _ _ _ _ us hl=>qK hl fun _ _=>rfl),hm,bJ F⟩
 exact(@au _ _ _ _ _ _ _ (@bR _ _ _ _ _ _ 2 _ _ cB.nd rfl (by first | exact Or.inl rfl | exact Or.inr rfl) (@ay _ _ _ _ _ _ _ _ _ _ _ lx kZ (@bP _ _ _ _ _ _ _ _ (@aa _ _ _ _ _ _ _ aq aj rfl)) (@ay _ _ _ _ _ _ _ _ _ _ _ a8 a9 (aQ cz cu rfl T.len PySem.boot_len (@aa _ _ _ _ _ _ _ (af 0) aj rfl)) aq)) rfl (.inl rfl))
   (@au _ _ _ _ _ _ _ (jC PassesOwn.never rfl (zO rfl T.enumerate (af 0)) (rL rfl (eR (cE (i:=3) cB.nd rfl (by first | exact Or.inl rfl | exact Or.inr rfl)) (eR (cE (i:=4) cB.nd rfl (by first | exact Or.inl rfl | exact Or.inr rfl)) mC))) q_ (@au _ _ _ _ _ _ _ (@bR _ _ _ _ _ _ 5 _ _ cB.nd rfl (by first | exact Or.inl rfl | exact Or.inr rfl) (@l8 _ _ _ _ _ _ _ _ _ _ (@cS _ _ _ _ _ _ _ _ _ _ _ vT xC (af 3) (af 1) (bY _)) aq aq) rfl (.inl rfl))
   (@aA _ _ _ _ _ (jC PassesOwn.never rfl (zO rfl T.enumerate (af 4)) (rL rfl (eR (cE (i:=6) cB.nd rfl (by first | exact Or.inl rfl | exact Or.inr rfl)) (eR (cE (i:=7) cB.nd rfl (by first | exact Or.inl rfl | exact Or.inr rfl)) mC))) q_ (@aA _ _ _ _ _ (Fm (af 2) (@ay _ _ _ _ _ _ _ _ _ _ _ a8 a9 (af 6) (af 5)) (af 7)))))))
   (@aA _ _ _ _ _ (@bw _ _ _ _ _ _ (af 2)))))
theorem j1:aE ["n", "rests", "left"] ["n"] (ak (aD 32)):=⟨rfl,rfl,rfl,by decide +kernel,rfl,by decide +kernel,by decide +kernel⟩
theorem vD (D:aJ K mg "rests_of" (aD 32)) (T:Blt mg) (f7:Has P w K mg base g "rest_counts" 1 ["fewer", "lower"] cN):Has P w K mg base g "rests_of" 2 ["n"] eZ:=by
 obtain⟨f,fd,hm,F⟩:=D
 obtain⟨Bb,Ag,pq,oN,oX,oM,_⟩:=f7
 refine⟨f,fd,iQ (iJ F j1 (fun cdv A outer s H E hr=>?_)),F.kp,F.binds (fun _ _ _ _ _ _ us hl=>kR hl fun _=>rfl),hm,bJ F⟩
 exact(@au _ _ _ _ _ _ _ (@bR _ _ _ _ _ _ 1 _ _ j1.nd rfl (by first | exact Or.inl rfl | exact Or.inr rfl) (@bP _ _ _ _ _ _ _ _ (@aa _ _ _ _ _ _ _ (@bP _ _ _ _ _ _ _ _ (@aa _ _ _ _ _ _ _ (@bP _ _ _ _ _ _ _ _ (@aa _ _ _ _ _ _ _ aq aj rfl)) aj rfl)) aj rfl)) rfl (.inl rfl))
   (@au _ _ _ _ _ _ _ (jC PassesOwn.never rfl (yQ rfl T.range (@aa _ _ _ _ _ _ _ aq (@aa _ _ _ _ _ _ _ (@ay _ _ _ _ _ _ _ _ _ _ _ a8 a9 (af 0) aq) aj rfl) rfl)) (cE (i:=2) j1.nd rfl (by first | exact Or.inl rfl | exact Or.inr rfl)) jj (@aA _ _ _ _ _ (fh (uz PySem.F.slot_list_append PySem.F.type_list_append tY AH (af 1) (@aa _ _ _ _ _ _ _ (eM (osc:=ak (aD 32)) [1] ["lower", "rests"] rfl rfl rfl rfl (by decide +kernel) ⟨by decide +kernel,by decide +kernel,rfl,by decide +kernel,rfl,by decide +kernel⟩ (mz rfl T.range (@aa _ _ _ _ _ _ _ (@ay _ _ _ _ _ _ _ _ _ _ _ a8 a9 (af 2) aq) aj rfl))
    (fun cl C bh bO fp=>lu) (fun cl C bh bO fp=>(aH (pq.mono (by decide)) hr rfl oM oN oX (@aa _ _ _ _ _ _ _ (@dB _ _ _ _ _ _ _ _ _ _ ck dC (af 1) (@sO _ _ _ _ _ _ _ _ _ mM nj aq) (fun _ _=>rfl)) (@aa _ _ _ _ _ _ _ (af 0) aj rfl) rfl) (ah (ah ax))))) aj rfl)))))
   (@aA _ _ _ _ _ (@bw _ _ _ _ _ _ (af 1)))))
theorem kn:aE ["n", "k", "rests"] ["n", "k"] (ak (aD 36)):=⟨rfl,rfl,rfl,by decide +kernel,rfl,by decide +kernel,by decide +kernel⟩
theorem rK (D:aJ K mg "counter_of" (aD 36)) (T:Blt mg) (MK:Eh K mg base "counter_of" (aD 36)) (d_:Has P w K mg base g "rests_of" 2 ["n"] eZ):Has P w K mg base g "counter_of" 3 ["n", "k"] bj:=by
 obtain⟨f,fd,hm,F⟩:=D
 obtain⟨u0,se,iM,iO,iY,iZ,_⟩:=d_
 obtain⟨c,PT,MK⟩:=MK f fd hm F
 refine⟨f,fd,HN ((bQ (aD 36)).take 1) "begun_count" "begun" ["rests", "k"] [2,1] F kn MK rfl (fun _=>rfl) (by decide +kernel) (by decide +kernel) rfl ⟨⟨_,_,_,[("rests", _),("k", _)],rfl,rfl⟩,rfl,rfl,rfl,by decide +kernel,rfl,rfl,by decide +kernel,⟨by decide,by decide⟩,fun _ _ _ _ _=>rfl⟩ (fun cdv A outer s H E hr=>?_),F.kp,F.binds (fun _ _ _ _ _ _ us hl=>qK hl fun _ _=>rfl),hm,bJ F⟩
 exact(@aA _ _ _ _ _ (@bR _ _ _ _ _ _ 2 _ _ kn.nd rfl (by first | exact Or.inl rfl | exact Or.inr rfl) (aH (iM.mono (by decide)) hr rfl iZ iO iY (@aa _ _ _ _ _ _ _ (af 0) aj rfl) (ah ax)) rfl (.inl rfl)))
theorem rS:aE ["begun"] ["begun"] (ak (aD 35)):=⟨rfl,rfl,rfl,by decide +kernel,rfl,by decide +kernel,by decide +kernel⟩
theorem qe (D:aJ K mg "lower_left" (aD 35)) (T:Blt mg):Has P w K mg base g "lower_left" 1 ["begun"] gv:=by
 obtain⟨f,fd,hm,F⟩:=D
 refine⟨f,fd,iJ F rS (fun cdv A outer s H E hr=>?_),F.kp,F.binds (fun _ _ _ _ _ _ us hl=>kR hl fun _=>rfl),hm,bJ F⟩
 exact(@au _ _ _ _ _ _ _ (@i8 _ _ _ _ _ _ _ _ _ _ (@cS _ _ _ _ _ _ _ _ _ _ _ (iu hr.units) ko (aQ cz cu rfl T.len PySem.boot_len (@aa _ _ _ _ _ _ _ (af 0) aj rfl)) aq (bY _)) (@aA _ _ _ _ _ (@bw _ _ _ _ _ _ aq)) cg)
   (@aA _ _ _ _ _ (@bw _ _ _ _ _ _ (@ay _ _ _ _ _ _ _ _ _ _ _ f_ gf (@dB _ _ _ _ _ _ _ _ _ _ ck dC (af 0) (@sO _ _ _ _ _ _ _ _ _ mM nj aq) (fun _ _=>rfl)) (aQ cz cu rfl T.len PySem.boot_len (@aa _ _ _ _ _ _ _ (eM (osc:=ak (aD 35)) [0] ["number", "begun"] rfl rfl rfl rfl (by decide +kernel) ⟨by decide +kernel,by decide +kernel,rfl,by decide +kernel,rfl,by decide +kernel⟩ (@gj _ _ _ _ _ _ (af 0))
    (fun cl C bh bO fp=>(yM (@cS _ _ _ _ _ _ _ _ _ _ _ vT xC (af 0) (@dB _ _ _ _ _ _ _ _ _ _ ck dC (af 1) (@sO _ _ _ _ _ _ _ _ _ mM nj aq) (fun _ _=>rfl)) (bY _)))) (fun cl C bh bO fp=>(af 0))) aj rfl))))))
theorem wx:aE ["numbers"] ["numbers"] (ak (aD 17)):=⟨rfl,rfl,rfl,by decide +kernel,rfl,by decide +kernel,by decide +kernel⟩
theorem uY (D:aJ K mg "falls_in" (aD 17)) (T:Blt mg):Has P w K mg base g "falls_in" 1 ["numbers"] fF:=by
 obtain⟨f,fd,hm,F⟩:=D
 refine⟨f,fd,iJ F wx (fun cdv A outer s H E hr=>?_),F.kp,F.binds (fun _ _ _ _ _ _ us hl=>kR hl fun _=>rfl),hm,bJ F⟩
 exact(@aA _ _ _ _ _ (@bw _ _ _ _ _ _ (dj kx xi rfl T.tuple PyProof.Rows.boot_tuple (@aa _ _ _ _ _ _ _ (eM (osc:=ak (aD 17)) [0] ["place", "numbers"] rfl rfl rfl rfl (by decide +kernel) ⟨by decide +kernel,by decide +kernel,rfl,by decide +kernel,rfl,by decide +kernel⟩ (mz rfl T.range (@aa _ _ _ _ _ _ _ (@ay _ _ _ _ _ _ _ _ _ _ _ f_ gf (aQ cz cu rfl T.len PySem.boot_len (@aa _ _ _ _ _ _ _ (af 0) aj rfl)) aq) aj rfl))
    (fun cl C bh bO fp=>(yM (@cS _ _ _ _ _ _ _ _ _ _ _ zq zb (@dB _ _ _ _ _ _ _ _ _ _ ck dC (af 1) (af 0) (fun _ _=>rfl)) (@dB _ _ _ _ _ _ _ _ _ _ ck dC (af 1) (@ay _ _ _ _ _ _ _ _ _ _ _ a8 a9 (af 0) aq) (fun _ _=>rfl)) (bY _)))) (fun cl C bh bO fp=>(af 0))) aj rfl))))
theorem gS:aE ["rests", "k", "begun", "counts", "falls"] ["rests", "k", "begun"] (ak (aD 34)):=⟨rfl,rfl,rfl,by decide +kernel,rfl,by decide +kernel,by decide +kernel⟩
theorem oW (D:aJ K mg "begun_count" (aD 34)) (T:Blt mg) (gY:Has P w K mg base g "lower_left" 1 ["begun"] gv) (dZ:Has P w K mg base g "falls_in" 1 ["numbers"] fF):Has P w K mg base g "begun_count" 2 ["rests", "k", "begun"] bt:=by
 obtain⟨f,fd,hm,F⟩:=D
 obtain⟨Cw,Bd,qW,rk,qX,qf,_⟩:=gY
 obtain⟨uK,sy,iW,ji,jh,i5,_⟩:=dZ
 refine⟨f,fd,iJ F gS (fun cdv A outer s H E hr=>?_),F.kp,F.binds (fun _ _ _ _ _ _ us hl=>vX hl fun _ _ _=>rfl),hm,bJ F⟩
 exact(@au _ _ _ _ _ _ _ (@bR _ _ _ _ _ _ 3 _ _ gS.nd rfl (by first | exact Or.inl rfl | exact Or.inr rfl) (@dB _ _ _ _ _ _ _ _ _ _ ck dC (@dB _ _ _ _ _ _ _ _ _ _ ck dC (af 0) (@ay _ _ _ _ _ _ _ _ _ _ _ f_ gf (@ay _ _ _ _ _ _ _ _ _ _ _ f_ gf (aQ cz cu rfl T.len PySem.boot_len (@aa _ _ _ _ _ _ _ (af 0) aj rfl)) aq) (aQ cz cu rfl T.len PySem.boot_len (@aa _ _ _ _ _ _ _ (af 2) aj rfl))) (fun _ _=>rfl)) (aH (qW.mono (by decide)) hr rfl qf rk qX (@aa _ _ _ _ _ _ _ (af 2) aj rfl) (ah ax)) (fun _ _=>rfl)) rfl (.inl rfl))
   (@au _ _ _ _ _ _ _ (@bR _ _ _ _ _ _ 4 _ _ gS.nd rfl (by first | exact Or.inl rfl | exact Or.inr rfl) (@ay _ _ _ _ _ _ _ _ _ _ _ f_ gf (af 1) (aQ cz cu rfl T.len PySem.boot_len (@aa _ _ _ _ _ _ _ (aH (iW.mono (by decide)) hr rfl i5 ji jh (@aa _ _ _ _ _ _ _ (af 2) aj rfl) (ah ax)) aj rfl))) rfl (.inl rfl))
   (@aA _ _ _ _ _ (@bw _ _ _ _ _ _ (@l8 _ _ _ _ _ _ _ _ _ _ (xp tu vT tV xC aq (af 4) (aQ cz cu rfl T.len PySem.boot_len (@aa _ _ _ _ _ _ _ (af 3) aj rfl))) (@dB _ _ _ _ _ _ _ _ _ _ ck dC (af 3) (af 4) (fun _ _=>rfl)) aq)))))
theorem n9:aE ["n", "k", "number", "many_with"] ["n", "k", "number"] (ak (aD 22)):=⟨rfl,rfl,rfl,by decide +kernel,rfl,by decide +kernel,by decide +kernel⟩
theorem uE (D:aJ K mg "order_at" (aD 22)) (T:Blt mg) (aL:fC P w K mg base g "numbers_needed" 4 ["n", "k"] aK) (bL:Has P w K mg base g "counter_of" 3 ["n", "k"] bj) (b0:fC P w K mg base g "number_needed" 3 ["thing", "least", "most"] aY) (bz:Has P w K mg base g "begun_count" 2 ["rests", "k", "begun"] bt):fC P w K mg base g "order_at" 5 ["n", "k", "number"] cM:=by
 obtain⟨f,fd,hm,F⟩:=D
 obtain⟨eY,eD,bB,bD,bE,bC⟩:=aL
 obtain⟨j2,jo,dR,dM,dN,dO,_⟩:=bL
 obtain⟨l9,lh,dE,dD,dA,dz⟩:=b0
 obtain⟨jm,iI,de,cY,cZ,c_,_⟩:=bz
 have TC:∀x np m,wR x=some (np,m)->∃f fd ps,mg x=some (.ref f)/\ef P w K mg base CX0 3 f fd ps (spM K g np m)/\PySem.W.keepIn K (.ref f)=true/\Binds K fd ps []:=by
  intro x np m e
  unfold wR at e
  by_cases b9:x="begun_count"
  ·rw[if_pos b9] at e;cases e;rw[b9];exact⟨_,_,_,c_,de.mono (by decide),cY,cZ⟩
  rw[if_neg b9] at e
  cases e
 refine⟨f,fd,jN F n9 (fun cdv A outer s H E hr fl pl po=>?_),F.kp,F.binds (fun _ _ _ _ _ _ us hl=>vX hl fun _ _ _=>rfl),hm⟩
 exact(@au _ _ _ _ _ _ _ (fh (cT fl pl (bB.mono (by decide)) hr rfl bC bD bE (@aa _ _ _ _ _ _ _ (@b8 _ _ _ _ _ (af 0)) (@aa _ _ _ _ _ _ _ (@b8 _ _ _ _ _ (af 1)) aj rfl) rfl) (ah (ah ax))))
   (@au _ _ _ _ _ _ _ (@pV _ _ _ _ _ (@bR _ _ _ _ _ _ 3 _ _ n9.nd rfl (by first | exact Or.inl rfl | exact Or.inr rfl) (aH (dR.mono (by decide)) hr rfl dO dM dN (@aa _ _ _ _ _ _ _ (af 0) (@aa _ _ _ _ _ _ _ (af 1) aj rfl) rfl) (ah (ah ax))) rfl (.inl rfl)))
   (@au _ _ _ _ _ _ _ (fh (cT fl pl (dE.mono (by decide)) hr rfl dz dD dA (@aa _ _ _ _ _ _ _ (@b8 _ _ _ _ _ (af 2)) (@aa _ _ _ _ _ _ _ (@b8 _ _ _ _ _ aq) (@aa _ _ _ _ _ _ _ (@b8 _ _ _ _ _ (@ay _ _ _ _ _ _ _ _ _ _ _ f_ gf (we TC hr (af 3) (@aa _ _ _ _ _ _ _ (@bK _ _ _ _ _ _ _ aj) aj rfl) (ah ax)) aq)) aj rfl) rfl) rfl) (ah (ah (ah ax)))))
   (@aA _ _ _ _ _ (@pV _ _ _ _ _ (@bw _ _ _ _ _ _ gR))))))
theorem hG:aE ["n", "thing", "number"] ["n", "thing"] (ak (aD 30)):=⟨rfl,rfl,rfl,by decide +kernel,rfl,by decide +kernel,by decide +kernel⟩
theorem kQ (D:aJ K mg "beginning_good" (aD 30)) (T:Blt mg) (bX:Has P w K mg base g "is_within" 2 ["thing", "least", "most"] bF):Has P w K mg base g "beginning_good" 3 ["n", "thing"] cR:=by
 obtain⟨f,fd,hm,F⟩:=D
 obtain⟨kE,j0,eG,eN,eO,eQ,_⟩:=bX
 refine⟨f,fd,iQ (iJ F hG (fun cdv A outer s H E hr=>?_)),F.kp,F.binds (fun _ _ _ _ _ _ us hl=>qK hl fun _ _=>rfl),hm,bJ F⟩
 exact(@au _ _ _ _ _ _ _ (@i8 _ _ _ _ _ _ _ _ _ _ (PW.pt (@zc _ _ _ _ _ _ _ _ _ (@iw _ _ _ _ _ _ (@fj _ _ _ _ _ _ iU (uO (af 1) rfl T.isinstance rfl T.tuple PyProof.Rows.boot_tuple) (fun _=>rfl))) (@uZ _ _ _ _ _ _ (@cS _ _ _ _ _ _ _ _ _ _ _ zq zb (aQ cz cu rfl T.len PySem.boot_len (@aa _ _ _ _ _ _ _ (af 1) aj rfl)) (af 0) (bY _))))) (@aA _ _ _ _ _ (@bw _ _ _ _ _ _ eJ)) cg)
   (@au _ _ _ _ _ _ _ (jC PassesOwn.never rfl (@gj _ _ _ _ _ _ (af 1)) (cE (i:=2) hG.nd rfl (by first | exact Or.inl rfl | exact Or.inr rfl)) jj (@aA _ _ _ _ _ (@i8 _ _ _ _ _ _ _ _ _ _ (@iw _ _ _ _ _ _ (@fj _ _ _ _ _ _ iU (aH (eG.mono (by decide)) hr rfl eQ eN eO (@aa _ _ _ _ _ _ _ (af 2) (@aa _ _ _ _ _ _ _ aq (@aa _ _ _ _ _ _ _ (@ay _ _ _ _ _ _ _ _ _ _ _ f_ gf (af 0) aq) aj rfl) rfl) rfl) (ah (ah (ah ax)))) (fun _=>rfl))) (@aA _ _ _ _ _ (@bw _ _ _ _ _ _ eJ)) cg)))
   (@aA _ _ _ _ _ (@bw _ _ _ _ _ _ (@nB _ _ _ _ _ _ _ _ _ _ _ (iu hr.units) ko (aQ cz cu rfl T.len PySem.boot_len (@aa _ _ _ _ _ _ _ (dj (mj rfl) BZ rfl T.set PyProof.Rows.boot_set (@aa _ _ _ _ _ _ _ (af 1) aj rfl)) aj rfl)) (aQ cz cu rfl T.len PySem.boot_len (@aa _ _ _ _ _ _ _ (af 1) aj rfl)) (bY _))))))
theorem kf:aE ["n", "thing"] ["n", "thing"] (ak (aD 31)):=⟨rfl,rfl,rfl,by decide +kernel,rfl,by decide +kernel,by decide +kernel⟩
theorem jL (D:aJ K mg "beginning_needed" (aD 31)) (T:Blt mg) (hgo:g=gOf mg) (CL:pB K mg) (eW:Has P w K mg base g "beginning_good" 3 ["n", "thing"] cR):fC P w K mg base g "beginning_needed" 4 ["n", "thing"] bA:=by
 obtain⟨f,fd,hm,F⟩:=D
 obtain⟨yN,xE,lq,kG,lz,k6,_⟩:=eW
 obtain⟨A_NoRow,uu⟩:=CL.at_ "NoRow" (by decide)
 refine⟨f,fd,jN F kf (fun cdv A outer s H E hr fl pl po=>?_),F.kp,F.binds (fun _ _ _ _ _ _ us hl=>qK hl fun _ _=>rfl),hm⟩
 exact(@aA _ _ _ _ _ (@i8 _ _ _ _ _ _ _ _ _ _ (@tJ _ _ _ _ _ (@iw _ _ _ _ _ _ (@fj _ _ _ _ _ _ iU (aH (lq.mono (by decide)) hr rfl k6 kG lz (@aa _ _ _ _ _ _ _ (af 0) (@aa _ _ _ _ _ _ _ (af 1) aj rfl) rfl) (ah (ah ax))) (fun _=>rfl)))) (@aA _ _ _ _ _ (t5 fl pl rfl rfl uu (fL hgo uu) ((CL.one _ (by decide) _ uu).2.2 rfl))) cg))
theorem sE:aE ["n", "k", "begun"] ["n", "k", "begun"] (ak (aD 25)):=⟨rfl,rfl,rfl,by decide +kernel,rfl,by decide +kernel,by decide +kernel⟩
theorem rE (D:aJ K mg "begun_many" (aD 25)) (T:Blt mg) (aL:fC P w K mg base g "numbers_needed" 4 ["n", "k"] aK) (bI:fC P w K mg base g "beginning_needed" 4 ["n", "thing"] bA) (bz:Has P w K mg base g "begun_count" 2 ["rests", "k", "begun"] bt) (d_:Has P w K mg base g "rests_of" 2 ["n"] eZ):fC P w K mg base g "begun_many" 5 ["n", "k", "begun"] bW:=by
 obtain⟨f,fd,hm,F⟩:=D
 obtain⟨eY,eD,bB,bD,bE,bC⟩:=aL
 obtain⟨jT,jx,dU,dX,dI,dJ⟩:=bI
 obtain⟨jm,iI,de,cY,cZ,c_,_⟩:=bz
 obtain⟨u0,se,iM,iO,iY,iZ,_⟩:=d_
 refine⟨f,fd,jN F sE (fun cdv A outer s H E hr fl pl po=>?_),F.kp,F.binds (fun _ _ _ _ _ _ us hl=>vX hl fun _ _ _=>rfl),hm⟩
 exact(@au _ _ _ _ _ _ _ (fh (cT fl pl (bB.mono (by decide)) hr rfl bC bD bE (@aa _ _ _ _ _ _ _ (@b8 _ _ _ _ _ (af 0)) (@aa _ _ _ _ _ _ _ (@b8 _ _ _ _ _ (af 1)) aj rfl) rfl) (ah (ah ax))))
   (@au _ _ _ _ _ _ _ (fh (cT fl pl (dU.mono (by decide)) hr rfl dJ dX dI (@aa _ _ _ _ _ _ _ (@b8 _ _ _ _ _ (af 0)) (@aa _ _ _ _ _ _ _ (@b8 _ _ _ _ _ (af 2)) aj rfl) rfl) (ah (ah ax))))
   (@aA _ _ _ _ _ (@pV _ _ _ _ _ (@bw _ _ _ _ _ _ (aH (de.mono (by decide)) hr rfl c_ cY cZ (@aa _ _ _ _ _ _ _ (aH (iM.mono (by decide)) hr rfl iZ iO iY (@aa _ _ _ _ _ _ _ (af 0) aj rfl) (ah ax)) (@aa _ _ _ _ _ _ _ (af 1) (@aa _ _ _ _ _ _ _ (af 2) aj rfl) rfl) rfl) (ah (ah (ah ax)))))))))
theorem o_:aE ["n", "k", "begun"] ["n", "k", "begun"] (ak (aD 26)):=⟨rfl,rfl,rfl,by decide +kernel,rfl,by decide +kernel,by decide +kernel⟩
theorem mY (D:aJ K mg "next_numbers" (aD 26)) (T:Blt mg) (aL:fC P w K mg base g "numbers_needed" 4 ["n", "k"] aK) (bI:fC P w K mg base g "beginning_needed" 4 ["n", "thing"] bA):fC P w K mg base g "next_numbers" 5 ["n", "k", "begun"] bu:=by
 obtain⟨f,fd,hm,F⟩:=D
 obtain⟨eY,eD,bB,bD,bE,bC⟩:=aL
 obtain⟨jT,jx,dU,dX,dI,dJ⟩:=bI
 refine⟨f,fd,jN F o_ (fun cdv A outer s H E hr fl pl po=>?_),F.kp,F.binds (fun _ _ _ _ _ _ us hl=>vX hl fun _ _ _=>rfl),hm⟩
 exact(@au _ _ _ _ _ _ _ (fh (cT fl pl (bB.mono (by decide)) hr rfl bC bD bE (@aa _ _ _ _ _ _ _ (@b8 _ _ _ _ _ (af 0)) (@aa _ _ _ _ _ _ _ (@b8 _ _ _ _ _ (af 1)) aj rfl) rfl) (ah (ah ax))))
   (@au _ _ _ _ _ _ _ (fh (cT fl pl (dU.mono (by decide)) hr rfl dJ dX dI (@aa _ _ _ _ _ _ _ (@b8 _ _ _ _ _ (af 0)) (@aa _ _ _ _ _ _ _ (@b8 _ _ _ _ _ (af 2)) aj rfl) rfl) (ah (ah ax))))
   (@aA _ _ _ _ _ (@pV _ _ _ _ _ (@bw _ _ _ _ _ _ (eM (osc:=ak (aD 26)) [] ["longer"] rfl rfl rfl rfl (by decide +kernel) ⟨by decide +kernel,by decide +kernel,rfl,by decide +kernel,rfl,by decide +kernel⟩ (@gj _ _ _ _ _ _ gR)
    (fun cl C bh bO fp=>lu) (fun cl C bh bO fp=>(@dB _ _ _ _ _ _ _ _ _ _ ck dC (af 0) (@sO _ _ _ _ _ _ _ _ _ mM nj aq) (fun _ _=>rfl)))))))))
theorem km:aE ["n", "k", "many_with"] ["n", "k"] (ak (aD 21)):=⟨rfl,rfl,rfl,by decide +kernel,rfl,by decide +kernel,by decide +kernel⟩
theorem rj (D:aJ K mg "orders_all" (aD 21)) (T:Blt mg) (aL:fC P w K mg base g "numbers_needed" 4 ["n", "k"] aK) (bL:Has P w K mg base g "counter_of" 3 ["n", "k"] bj):fC P w K mg base g "orders_all" 5 ["n", "k"] cX:=by
 obtain⟨f,fd,hm,F⟩:=D
 obtain⟨eY,eD,bB,bD,bE,bC⟩:=aL
 obtain⟨j2,jo,dR,dM,dN,dO,_⟩:=bL
 refine⟨f,fd,jN F km (fun cdv A outer s H E hr fl pl po=>?_),F.kp,F.binds (fun _ _ _ _ _ _ us hl=>qK hl fun _ _=>rfl),hm⟩
 exact(@au _ _ _ _ _ _ _ (fh (cT fl pl (bB.mono (by decide)) hr rfl bC bD bE (@aa _ _ _ _ _ _ _ (@b8 _ _ _ _ _ (af 0)) (@aa _ _ _ _ _ _ _ (@b8 _ _ _ _ _ (af 1)) aj rfl) rfl) (ah (ah ax))))
   (@au _ _ _ _ _ _ _ (@pV _ _ _ _ _ (@bR _ _ _ _ _ _ 2 _ _ km.nd rfl (by first | exact Or.inl rfl | exact Or.inr rfl) (aH (dR.mono (by decide)) hr rfl dO dM dN (@aa _ _ _ _ _ _ _ (af 0) (@aa _ _ _ _ _ _ _ (af 1) aj rfl) rfl) (ah (ah ax))) rfl (.inl rfl)))
   (@au _ _ _ _ _ _ _ (fh gR)
   (@aA _ _ _ _ _ (@pV _ _ _ _ _ (@bw _ _ _ _ _ _ gR))))))
theorem kq:aE ["thing", "number"] ["thing"] (ak (aD 15)):=⟨rfl,rfl,rfl,by decide +kernel,rfl,by decide +kernel,by decide +kernel⟩
theorem qL (D:aJ K mg "order_good" (aD 15)) (T:Blt mg) {jM:Tok} (gy:mg "MOST_NUMBERS" = some (.int 20 jM)) (bX:Has P w K mg base g "is_within" 2 ["thing", "least", "most"] bF):Has P w K mg base g "order_good" 3 ["thing"] cV:=by
 obtain⟨f,fd,hm,F⟩:=D
 obtain⟨kE,j0,eG,eN,eO,eQ,_⟩:=bX
 refine⟨f,fd,iQ (iJ F kq (fun cdv A outer s H E hr=>?_)),F.kp,F.binds (fun _ _ _ _ _ _ us hl=>kR hl fun _=>rfl),hm,bJ F⟩
 exact(@au _ _ _ _ _ _ _ (@i8 _ _ _ _ _ _ _ _ _ _ (PW.pt (@zc _ _ _ _ _ _ _ _ _ (@iw _ _ _ _ _ _ (@fj _ _ _ _ _ _ iU (uO (af 0) rfl T.isinstance rfl T.tuple PyProof.Rows.boot_tuple) (fun _=>rfl))) (@uZ _ _ _ _ _ _ (@iw _ _ _ _ _ _ (xp tu tu tV tV aq (aQ cz cu rfl T.len PySem.boot_len (@aa _ _ _ _ _ _ _ (af 0) aj rfl)) (jS rfl gy)))))) (@aA _ _ _ _ _ (@bw _ _ _ _ _ _ eJ)) cg)
   (@au _ _ _ _ _ _ _ (jC PassesOwn.never rfl (@gj _ _ _ _ _ _ (af 0)) (cE (i:=1) kq.nd rfl (by first | exact Or.inl rfl | exact Or.inr rfl)) jj (@aA _ _ _ _ _ (@i8 _ _ _ _ _ _ _ _ _ _ (@iw _ _ _ _ _ _ (@fj _ _ _ _ _ _ iU (aH (eG.mono (by decide)) hr rfl eQ eN eO (@aa _ _ _ _ _ _ _ (af 1) (@aa _ _ _ _ _ _ _ aq (@aa _ _ _ _ _ _ _ (@ay _ _ _ _ _ _ _ _ _ _ _ f_ gf (aQ cz cu rfl T.len PySem.boot_len (@aa _ _ _ _ _ _ _ (af 0) aj rfl)) aq) aj rfl) rfl) rfl) (ah (ah (ah ax)))) (fun _=>rfl))) (@aA _ _ _ _ _ (@bw _ _ _ _ _ _ eJ)) cg)))
   (@aA _ _ _ _ _ (@bw _ _ _ _ _ _ (@nB _ _ _ _ _ _ _ _ _ _ _ (iu hr.units) ko (aQ cz cu rfl T.len PySem.boot_len (@aa _ _ _ _ _ _ _ (dj (mj rfl) BZ rfl T.set PyProof.Rows.boot_set (@aa _ _ _ _ _ _ _ (af 0) aj rfl)) aj rfl)) (aQ cz cu rfl T.len PySem.boot_len (@aa _ _ _ _ _ _ _ (af 0) aj rfl)) (bY _))))))
theorem pj:aE ["thing"] ["thing"] (ak (aD 16)):=⟨rfl,rfl,rfl,by decide +kernel,rfl,by decide +kernel,by decide +kernel⟩
theorem ng (D:aJ K mg "order_needed" (aD 16)) (T:Blt mg) (hgo:g=gOf mg) (CL:pB K mg) (gz:Has P w K mg base g "order_good" 3 ["thing"] cV):fC P w K mg base g "order_needed" 4 ["thing"] cx:=by
 obtain⟨f,fd,hm,F⟩:=D
 obtain⟨CP,A9,pY,rh,rC,qN,_⟩:=gz
 obtain⟨A_NoOrder,nQ⟩:=CL.at_ "NoOrder" (by decide)
 refine⟨f,fd,jN F pj (fun cdv A outer s H E hr fl pl po=>?_),F.kp,F.binds (fun _ _ _ _ _ _ us hl=>kR hl fun _=>rfl),hm⟩
 exact(@aA _ _ _ _ _ (@i8 _ _ _ _ _ _ _ _ _ _ (@tJ _ _ _ _ _ (@iw _ _ _ _ _ _ (@fj _ _ _ _ _ _ iU (aH (pY.mono (by decide)) hr rfl qN rh rC (@aa _ _ _ _ _ _ _ (af 0) aj rfl) (ah ax)) (fun _=>rfl)))) (@aA _ _ _ _ _ (t5 fl pl rfl rfl nQ (fL hgo nQ) ((CL.one _ (by decide) _ nQ).2.2 rfl))) cg))
theorem mO:aE ["order"] ["order"] (ak (aD 28)):=⟨rfl,rfl,rfl,by decide +kernel,rfl,by decide +kernel,by decide +kernel⟩
theorem mH (D:aJ K mg "listed_needed" (aD 28)) (T:Blt mg) (hgo:g=gOf mg) (dS:CIm K mg "TooGreat" (aD 8) ["many", "most"]) {fT:Tok} (cn:mg "MOST_LISTED" = some (.int 12 fT)) (fM:fC P w K mg base g "order_needed" 4 ["thing"] cx):fC P w K mg base g "listed_needed" 5 ["order"] ba:=by
 obtain⟨f,fd,hm,F⟩:=D
 obtain⟨zR,zp,nS,nR,mX,nZ⟩:=fM
 refine⟨f,fd,jN F mO (fun cdv A outer s H E hr fl pl po=>?_),F.kp,F.binds (fun _ _ _ _ _ _ us hl=>kR hl fun _=>rfl),hm⟩
 exact(@au _ _ _ _ _ _ _ (fh (cT fl pl (nS.mono (by decide)) hr rfl nZ nR mX (@aa _ _ _ _ _ _ _ (@b8 _ _ _ _ _ (af 0)) aj rfl) (ah ax)))
   (@aA _ _ _ _ _ (@i8 _ _ _ _ _ _ _ _ _ _ (@tJ _ _ _ _ _ (@cS _ _ _ _ _ _ _ _ _ _ _ zq zb (aQ cz cu rfl T.len PySem.boot_len (@aa _ _ _ _ _ _ _ (af 0) aj rfl)) (jS rfl cn) (bY _))) (@aA _ _ _ _ _ (Bq (k:=0) fl pl rfl rfl dS hgo (hr.mono (by decide)) (by decide) (@aa _ _ _ _ _ _ _ (@b8 _ _ _ _ _ (aQ cz cu rfl T.len PySem.boot_len (@aa _ _ _ _ _ _ _ (af 0) aj rfl))) (@aa _ _ _ _ _ _ _ (@b8 _ _ _ _ _ (jS rfl cn)) aj rfl) rfl))) cg)))
theorem um:aE ["order"] ["order"] (ak (aD 23)):=⟨rfl,rfl,rfl,by decide +kernel,rfl,by decide +kernel,by decide +kernel⟩
theorem sd (D:aJ K mg "number_of" (aD 23)) (T:Blt mg) (bZ:fC P w K mg base g "listed_needed" 5 ["order"] ba):fC P w K mg base g "number_of" 6 ["order"] dG:=by
 obtain⟨f,fd,hm,F⟩:=D
 obtain⟨lD,la,fk,fi,fm,fw⟩:=bZ
 refine⟨f,fd,jN F um (fun cdv A outer s H E hr fl pl po=>?_),F.kp,F.binds (fun _ _ _ _ _ _ us hl=>kR hl fun _=>rfl),hm⟩
 exact(@au _ _ _ _ _ _ _ (fh (cT fl pl (fk.mono (by decide)) hr rfl fw fi fm (@aa _ _ _ _ _ _ _ (@b8 _ _ _ _ _ (af 0)) aj rfl) (ah ax)))
   (@aA _ _ _ _ _ (@pV _ _ _ _ _ (@bw _ _ _ _ _ _ gR))))
theorem iz:aE ["order", "many_with", "number"] ["order"] (ak (aD 24)):=⟨rfl,rfl,rfl,by decide +kernel,rfl,by decide +kernel,by decide +kernel⟩
theorem rm (D:aJ K mg "next_order" (aD 24)) (T:Blt mg) (bZ:fC P w K mg base g "listed_needed" 5 ["order"] ba) (bL:Has P w K mg base g "counter_of" 3 ["n", "k"] bj) (dZ:Has P w K mg base g "falls_in" 1 ["numbers"] fF) (bz:Has P w K mg base g "begun_count" 2 ["rests", "k", "begun"] bt):fC P w K mg base g "next_order" 6 ["order"] cW:=by
 obtain⟨f,fd,hm,F⟩:=D
 obtain⟨lD,la,fk,fi,fm,fw⟩:=bZ
 obtain⟨j2,jo,dR,dM,dN,dO,_⟩:=bL
 obtain⟨uK,sy,iW,ji,jh,i5,_⟩:=dZ
 obtain⟨jm,iI,de,cY,cZ,c_,_⟩:=bz
 have TC:∀x np m,wR x=some (np,m)->∃f fd ps,mg x=some (.ref f)/\ef P w K mg base CX0 4 f fd ps (spM K g np m)/\PySem.W.keepIn K (.ref f)=true/\Binds K fd ps []:=by
  intro x np m e
  unfold wR at e
  by_cases b9:x="begun_count"
  ·rw[if_pos b9] at e;cases e;rw[b9];exact⟨_,_,_,c_,de.mono (by decide),cY,cZ⟩
  rw[if_neg b9] at e
  cases e
 refine⟨f,fd,jN F iz (fun cdv A outer s H E hr fl pl po=>?_),F.kp,F.binds (fun _ _ _ _ _ _ us hl=>kR hl fun _=>rfl),hm⟩
 exact(@au _ _ _ _ _ _ _ (fh (cT fl pl (fk.mono (by decide)) hr rfl fw fi fm (@aa _ _ _ _ _ _ _ (@b8 _ _ _ _ _ (af 0)) aj rfl) (ah ax)))
   (@au _ _ _ _ _ _ _ (@pV _ _ _ _ _ (@bR _ _ _ _ _ _ 1 _ _ iz.nd rfl (by first | exact Or.inl rfl | exact Or.inr rfl) (aH (dR.mono (by decide)) hr rfl dO dM dN (@aa _ _ _ _ _ _ _ (aQ cz cu rfl T.len PySem.boot_len (@aa _ _ _ _ _ _ _ (af 0) aj rfl)) (@aa _ _ _ _ _ _ _ (aQ cz cu rfl T.len PySem.boot_len (@aa _ _ _ _ _ _ _ (aH (iW.mono (by decide)) hr rfl i5 ji jh (@aa _ _ _ _ _ _ _ (af 0) aj rfl) (ah ax)) aj rfl)) aj rfl) rfl) (ah (ah ax))) rfl (.inl rfl)))
   (@au _ _ _ _ _ _ _ (@pV _ _ _ _ _ (@bR _ _ _ _ _ _ 2 _ _ iz.nd rfl (by first | exact Or.inl rfl | exact Or.inr rfl) (@ay _ _ _ _ _ _ _ _ _ _ _ a8 a9 gR aq) rfl (.inl rfl)))
   (@au _ _ _ _ _ _ _ (@pV _ _ _ _ _ (@i8 _ _ _ _ _ _ _ _ _ _ (@cS _ _ _ _ _ _ _ _ _ _ _ (iu hr.units) ko (af 2) (we TC hr (af 1) (@aa _ _ _ _ _ _ _ (@bK _ _ _ _ _ _ _ aj) aj rfl) (ah ax)) (bY _)) (@aA _ _ _ _ _ (@bw _ _ _ _ _ _ nu)) cg))
   (@aA _ _ _ _ _ (@pV _ _ _ _ _ (@bw _ _ _ _ _ _ gR)))))))
theorem lL:aE ["_law_way", "_law_n", "_law_k", "_law_thing", "_law_e"] ["_law_way", "_law_n", "_law_k", "_law_thing"] (ak (aD 51)):=⟨rfl,rfl,rfl,by decide +kernel,rfl,by decide +kernel,by decide +kernel⟩
theorem r_ (D:aJ K mg "_law_told" (aD 51)) (T:Blt mg) (hgo:g=gOf mg) (CL:pB K mg) (fJ:Ey P w K mg base g "_law_refused" 2 ["_law_e"] aR) (iR:fC P w K mg base g "order_at" 5 ["n", "k", "number"] cM) (gE:fC P w K mg base g "begun_many" 5 ["n", "k", "begun"] bW) (fS:fC P w K mg base g "next_numbers" 5 ["n", "k", "begun"] bu) (g8:fC P w K mg base g "orders_all" 5 ["n", "k"] cX) (h9:fC P w K mg base g "number_of" 6 ["order"] dG) (gA:fC P w K mg base g "next_order" 6 ["order"] cW):Has P w K mg base g "_law_told" 7 ["_law_way", "_law_n", "_law_k", "_law_thing"] aI:=by
 obtain⟨f,fd,hm,F⟩:=D
 obtain⟨Al,zj,nK,nh,m5,nz⟩:=fJ
 obtain⟨D8,DW,t9,vv,uR,i6⟩:=iR
 obtain⟨BQ,Bf,qu,qo,qy,g7⟩:=gE
 obtain⟨zY,zl,mR,m6,n8,fP⟩:=fS
 obtain⟨DB,Bc,qG,qC,qg,qD⟩:=g8
 obtain⟨DV,BV,sj,sA,sC,ie⟩:=h9
 obtain⟨Bh,A_,qh,p9,qq,gK⟩:=gA
 have TE_0:yz P w K mg base g 6 3 kr:=by
  intro x m e
  unfold kr at e
  by_cases i_:x="order_at"
  ·rw[if_pos i_] at e;cases e;rw[i_];exact⟨_,_,_,fL hgo i6,t9.mono (by decide),vv,uR⟩
  rw[if_neg i_] at e
  by_cases g9:x="begun_many"
  ·rw[if_pos g9] at e;cases e;rw[g9];exact⟨_,_,_,fL hgo g7,qu.mono (by decide),qo,qy⟩
  rw[if_neg g9] at e
  by_cases fK:x="next_numbers"
  ·rw[if_pos fK] at e;cases e;rw[fK];exact⟨_,_,_,fL hgo fP,mR.mono (by decide),m6,n8⟩
  rw[if_neg fK] at e
  cases e
 have TE_1:yz P w K mg base g 6 1 oE:=by
  intro x m e
  unfold oE at e
  by_cases il:x="number_of"
  ·rw[if_pos il] at e;cases e;rw[il];exact⟨_,_,_,fL hgo ie,sj.mono (by decide),sA,sC⟩
  rw[if_neg il] at e
  by_cases gW:x="next_order"
  ·rw[if_pos gW] at e;cases e;rw[gW];exact⟨_,_,_,fL hgo gK,qh.mono (by decide),p9,qq⟩
  rw[if_neg gW] at e
  cases e
 refine⟨f,fd,iJ F lL (fun cdv A outer s H E hr=>?_),F.kp,F.binds (fun _ _ _ _ _ _ us hl=>LU hl fun _ _ _ _=>rfl),hm,bJ F⟩
 exact(@aA _ _ _ _ _ (JY (i:=4) CL hgo ⟨rfl,rfl,rfl⟩ lL.nd rfl rfl rfl rfl (nK.mono (by decide)) (Dr hr) nz nh m5 (fun pn xe E fl pl po=>(@au _ _ _ _ _ _ _ (@i8 _ _ _ _ _ _ _ _ _ _ (@tJ _ _ _ _ _ (@cS _ _ _ _ _ _ _ _ _ _ _ vT xC (af 0) aq (bY _))) (@aA _ _ _ _ _ (@bw _ _ _ _ _ _ (s_ fl pl TE_0 hr (@b8 _ _ _ _ _ (@dB _ _ _ _ _ _ _ _ _ _ ck dC (@bP _ _ _ _ _ _ _ _ (@aa _ _ _ _ _ _ _ (vZ rfl i6 (fL hgo i6)) (@aa _ _ _ _ _ _ _ (vZ rfl g7 (fL hgo g7)) (@aa _ _ _ _ _ _ _ (vZ rfl fP (fL hgo fP)) aj rfl) rfl) rfl)) (af 0) (fun _ _=>rfl))) (@aa _ _ _ _ _ _ _ (@b8 _ _ _ _ _ (af 1)) (@aa _ _ _ _ _ _ _ (@b8 _ _ _ _ _ (af 2)) (@aa _ _ _ _ _ _ _ (@b8 _ _ _ _ _ (af 3)) aj rfl) rfl) rfl) (ah (ah (ah ax)))))) cg)
   (@aA _ _ _ _ _ (@bw _ _ _ _ _ _ (@l8 _ _ _ _ _ _ _ _ _ _ (@tJ _ _ _ _ _ (@cS _ _ _ _ _ _ _ _ _ _ _ (iu hr.units) ko (af 0) aq (bY _))) (cT fl pl (qG.mono (by decide)) hr rfl qD qC qg (@aa _ _ _ _ _ _ _ (@b8 _ _ _ _ _ (af 1)) (@aa _ _ _ _ _ _ _ (@b8 _ _ _ _ _ (af 2)) aj rfl) rfl) (ah (ah ax))) (s_ fl pl TE_1 hr (@b8 _ _ _ _ _ (@dB _ _ _ _ _ _ _ _ _ _ ck dC (@bP _ _ _ _ _ _ _ _ (@aa _ _ _ _ _ _ _ (vZ rfl ie (fL hgo ie)) (@aa _ _ _ _ _ _ _ (vZ rfl gK (fL hgo gK)) aj rfl) rfl)) (@ay _ _ _ _ _ _ _ _ _ _ _ f_ gf (af 0) aq) (fun _ _=>rfl))) (@aa _ _ _ _ _ _ _ (@b8 _ _ _ _ _ (af 3)) aj rfl) (ah ax)))))))))
theorem cj:aE ["_law_n", "_law_k", "_law_ends", "_law_size", "_law_later", "_law_last", "_law_falls", "_law_place", "_law_there"] ["_law_n", "_law_k"] (ak (aD 49)):=⟨rfl,rfl,rfl,by decide +kernel,rfl,by decide +kernel,by decide +kernel⟩
theorem rT (D:aJ K mg "_law_many" (aD 49)) (T:Blt mg):Has P w K mg base g "_law_many" 1 ["_law_n", "_law_k"] e9:=by
 obtain⟨f,fd,hm,F⟩:=D
 refine⟨f,fd,G3 (iQ (iJ F cj (fun cdv A outer s H E hr=>?_))),F.kp,F.binds (fun _ _ _ _ _ _ us hl=>qK hl fun _ _=>rfl),hm,bJ F⟩
 exact(@au _ _ _ _ _ _ _ (@bR _ _ _ _ _ _ 2 _ _ cj.nd rfl (by first | exact Or.inl rfl | exact Or.inr rfl) (Ct (un0 hr.units) (@bK _ _ _ _ _ _ _ (@aa _ _ _ _ _ _ _ aq (@aa _ _ _ _ _ _ _ aq aj rfl) rfl)) aq) rfl (.inl rfl))
   (@au _ _ _ _ _ _ _ (jC PassesOwn.never rfl (yQ rfl T.range (@aa _ _ _ _ _ _ _ aq (@aa _ _ _ _ _ _ _ (af 0) aj rfl) rfl)) (cE (i:=3) cj.nd rfl (by first | exact Or.inl rfl | exact Or.inr rfl)) jj (@au _ _ _ _ _ _ _ (@bR _ _ _ _ _ _ 4 _ _ cj.nd rfl (by first | exact Or.inl rfl | exact Or.inr rfl) ET rfl (.inl rfl))
   (@au _ _ _ _ _ _ _ (jC PassesOwn.never rfl (@gj _ _ _ _ _ _ (dj (bg.frz (kA rfl)) xh rfl T.list PyProof.Rows.boot_list (@aa _ _ _ _ _ _ _ (af 2) aj rfl))) (rL rfl (eR (cE (i:=5) cj.nd rfl (by first | exact Or.inl rfl | exact Or.inr rfl)) (eR (cE (i:=6) cj.nd rfl (by first | exact Or.inl rfl | exact Or.inr rfl)) mC))) q_ (@aA _ _ _ _ _ (jC PassesOwn.never rfl (mz rfl T.range (@aa _ _ _ _ _ _ _ (@ay _ _ _ _ _ _ _ _ _ _ _ a8 a9 (af 3) aq) aj rfl)) (cE (i:=7) cj.nd rfl (by first | exact Or.inl rfl | exact Or.inr rfl)) jj (@au _ _ _ _ _ _ _ (@bR _ _ _ _ _ _ 8 _ _ cj.nd rfl (by first | exact Or.inl rfl | exact Or.inr rfl) (@bK _ _ _ _ _ _ _ (@aa _ _ _ _ _ _ _ (af 7) (@aa _ _ _ _ _ _ _ (@ay _ _ _ _ _ _ _ _ _ _ _ a8 a9 (af 6) (dj tW Cf rfl T.int PyProof.Rows.boot_int (@aa _ _ _ _ _ _ _ (@nB _ _ _ _ _ _ _ _ _ _ _ tu tV (af 7) (af 5) (bY _)) aj rfl))) aj rfl) rfl)) rfl (.inl rfl))
   (@aA _ _ _ _ _ (GY (un1 hr.units) (@ay _ _ _ _ _ _ _ _ _ _ _ a8 a9 (BS (un1 hr.units) (af 4) (af 8) aq ⟨rfl,rfl,rfl,rfl⟩) (zr (un1 hr.units) (af 2) (@bK _ _ _ _ _ _ _ (@aa _ _ _ _ _ _ _ (af 5) (@aa _ _ _ _ _ _ _ (af 6) aj rfl) rfl)) (fun _ _=>rfl))) (af 4) (af 8)))))))
   (@aA _ _ _ _ _ (@bR _ _ _ _ _ _ 2 _ _ cj.nd rfl (by first | exact Or.inl rfl | exact Or.inr rfl) (af 4) rfl (.inl rfl))))))
   (@aA _ _ _ _ _ (@bw _ _ _ _ _ _ (aQ (zU rfl) GQ rfl T.sum PyProof.Rows.boot_sum (@aa _ _ _ _ _ _ _ (eM (osc:=ak (aD 49)) [2,1] ["_law_one", "_law_ends", "_law_k"] rfl rfl rfl rfl (by decide +kernel) ⟨by decide +kernel,by decide +kernel,rfl,by decide +kernel,rfl,by decide +kernel⟩ (@gj _ _ _ _ _ _ (dj (bg.frz (kA rfl)) xh rfl T.list PyProof.Rows.boot_list (@aa _ _ _ _ _ _ _ (af 2) aj rfl)))
    (fun cl C bh bO fp=>(yM (@cS _ _ _ _ _ _ _ _ _ _ _ (iu hr.units) ko (@dB _ _ _ _ _ _ _ _ _ _ ck dC (af 0) aq (fun _ _=>rfl)) (af 2) (bY _)))) (fun cl C bh bO fp=>(zr (un1 hr.units) (af 1) (af 0) (fun _ _=>rfl)))) aj rfl))))))
theorem bH:aE ["_law_pen", "_law_far", "_law_spot", "_law_bad", "_law_thing", "_law_kept"] ["_law_pen"] (ak (aD 53)):=⟨rfl,rfl,rfl,by decide +kernel,rfl,by decide +kernel,by decide +kernel⟩
theorem jt (D:aJ K mg "_law_orders_right" (aD 53)) (T:Blt mg) (cU:Has P w K mg base g "_law_order" 3 ["_law_pen", "_law_n"] cL) (aS:Has P w K mg base g "_law_draw" 2 ["_law_pen", "_law_many_here"] aB) (dq:Has P w K mg base g "_law_told" 7 ["_law_way", "_law_n", "_law_k", "_law_thing"] aI):Has P w K mg base g "_law_orders_right" 8 ["_law_pen"] bN:=by
 obtain⟨f,fd,hm,F⟩:=D
 obtain⟨qY,oO,gO,gU,gQ,gG,_⟩:=cU
 obtain⟨fW,ff,aW,aU,aX,aV,_⟩:=aS
 obtain⟨r6,qJ,dg,dk,du,dh,_⟩:=dq
 refine⟨f,fd,iJ F bH (fun cdv A outer s H E hr=>?_),F.kp,F.binds (fun _ _ _ _ _ _ us hl=>kR hl fun _=>rfl),hm,bJ F⟩
 exact(@au _ _ _ _ _ _ _ (@bR _ _ _ _ _ _ 1 _ _ bH.nd rfl (by first | exact Or.inl rfl | exact Or.inr rfl) (aH (gO.mono (by decide)) hr rfl gG gU gQ (@aa _ _ _ _ _ _ _ (af 0) (@aa _ _ _ _ _ _ _ (@ay _ _ _ _ _ _ _ _ _ _ _ a8 a9 aq (aH (aW.mono (by decide)) hr rfl aV aU aX (@aa _ _ _ _ _ _ _ (af 0) (@aa _ _ _ _ _ _ _ aq aj rfl) rfl) (ah (ah ax)))) aj rfl) rfl) (ah (ah ax))) rfl (.inl rfl))
   (@au _ _ _ _ _ _ _ (@bR _ _ _ _ _ _ 2 _ _ bH.nd rfl (by first | exact Or.inl rfl | exact Or.inr rfl) (aH (aW.mono (by decide)) hr rfl aV aU aX (@aa _ _ _ _ _ _ _ (af 0) (@aa _ _ _ _ _ _ _ (aQ cz cu rfl T.len PySem.boot_len (@aa _ _ _ _ _ _ _ (af 1) aj rfl)) aj rfl) rfl) (ah (ah ax))) rfl (.inl rfl))
   (@au _ _ _ _ _ _ _ (@bR _ _ _ _ _ _ 3 _ _ bH.nd rfl (by first | exact Or.inl rfl | exact Or.inr rfl) (@bP _ _ _ _ _ _ _ _ (@aa _ _ _ _ _ _ _ (@ay _ _ _ _ _ _ _ _ _ _ _ a8 a9 (@ay _ _ _ _ _ _ _ _ _ _ _ a8 a9 (cA (af 1) eT (@cD _ _ _ _ _ (af 2))) (@bK _ _ _ _ _ _ _ (@aa _ _ _ _ _ _ _ (@bP _ _ _ _ _ _ _ _ (@aa _ _ _ _ _ _ _ aq aj rfl)) aj rfl))) (cA (af 1) (@cD _ _ _ _ _ (@ay _ _ _ _ _ _ _ _ _ _ _ a8 a9 (af 2) aq)) eT)) (@aa _ _ _ _ _ _ _ (dj (bg.frz lU) zQ rfl T.list PyProof.Rows.boot_list (@aa _ _ _ _ _ _ _ (af 1) aj rfl)) (@aa _ _ _ _ _ _ _ (@ay _ _ _ _ _ _ _ _ _ _ _ a8 a9 (@ay _ _ _ _ _ _ _ _ _ _ _ a8 a9 (cA (af 1) eT (@cD _ _ _ _ _ (af 2))) (cA (af 1) (@cD _ _ _ _ _ (af 2)) (@cD _ _ _ _ _ (@ay _ _ _ _ _ _ _ _ _ _ _ a8 a9 (af 2) aq)))) (cA (af 1) (@cD _ _ _ _ _ (af 2)) eT)) aj rfl) rfl) rfl)) rfl (.inl rfl))
   (@au _ _ _ _ _ _ _ (@bR _ _ _ _ _ _ 4 _ _ bH.nd rfl (by first | exact Or.inl rfl | exact Or.inr rfl) (@dB _ _ _ _ _ _ _ _ _ _ ck dC (@ay _ _ _ _ _ _ _ _ _ _ _ a8 a9 (af 3) (@bP _ _ _ _ _ _ _ _ (@aa _ _ _ _ _ _ _ nu (@aa _ _ _ _ _ _ _ (@bK _ _ _ _ _ _ _ aj) (@aa _ _ _ _ _ _ _ (@bK _ _ _ _ _ _ _ (@aa _ _ _ _ _ _ _ eJ aj rfl)) (@aa _ _ _ _ _ _ _ (@bK _ _ _ _ _ _ _ (@aa _ _ _ _ _ _ _ aq aj rfl)) (@aa _ _ _ _ _ _ _ (@bK _ _ _ _ _ _ _ (@aa _ _ _ _ _ _ _ eJ aj rfl)) (@aa _ _ _ _ _ _ _ (@bK _ _ _ _ _ _ _ (@aa _ _ _ _ _ _ _ aq (@aa _ _ _ _ _ _ _ eJ aj rfl) rfl)) (@aa _ _ _ _ _ _ _ (zf rfl rfl T.tuple rfl T.range (@aa _ _ _ _ _ _ _ aq aj rfl)) aj rfl) rfl) rfl) rfl) rfl) rfl) rfl))) (aH (aW.mono (by decide)) hr rfl aV aU aX (@aa _ _ _ _ _ _ _ (af 0) (@aa _ _ _ _ _ _ _ aq aj rfl) rfl) (ah (ah ax))) (fun _ _=>rfl)) rfl (.inl rfl))
   (@au _ _ _ _ _ _ _ (@bR _ _ _ _ _ _ 5 _ _ bH.nd rfl (by first | exact Or.inl rfl | exact Or.inr rfl) (aQ (lO hr.gd hr.units) l0 rfl T.repr PyProof.Rows.boot_repr (@aa _ _ _ _ _ _ _ (af 4) aj rfl)) rfl (.inl rfl))
   (@au _ _ _ _ _ _ _ (@i8 _ _ _ _ _ _ _ _ _ _ (@cS _ _ _ _ _ _ _ _ _ _ _ (n6 hr.units) tB (eM (osc:=ak (aD 53)) [1] ["_law_way", "_law_far"] rfl rfl rfl rfl (by decide +kernel) ⟨by decide +kernel,by decide +kernel,rfl,by decide +kernel,rfl,by decide +kernel⟩ (@gj _ _ _ _ _ _ (@bK _ _ _ _ _ _ _ (@aa _ _ _ _ _ _ _ aq (@aa _ _ _ _ _ _ _ aq aj rfl) rfl)))
    (fun cl C bh bO fp=>lu) (fun cl C bh bO fp=>(aH (dg.mono (by decide)) hr rfl dh dk du (@aa _ _ _ _ _ _ _ (af 0) (@aa _ _ _ _ _ _ _ aq (@aa _ _ _ _ _ _ _ aq (@aa _ _ _ _ _ _ _ (af 1) aj rfl) rfl) rfl) rfl) (ah (ah (ah (ah ax))))))) (@ay _ _ _ _ _ _ _ _ _ _ _ lx kZ (@bP _ _ _ _ _ _ _ _ (@aa _ _ _ _ _ _ _ (@bK _ _ _ _ _ _ _ (@aa _ _ _ _ _ _ _ dQ (@aa _ _ _ _ _ _ _ (aQ cz cu rfl T.len PySem.boot_len (@aa _ _ _ _ _ _ _ (af 1) aj rfl)) (@aa _ _ _ _ _ _ _ aq aj rfl) rfl) rfl)) aj rfl)) aq) (bY _)) (@aA _ _ _ _ _ (@bw _ _ _ _ _ _ eJ)) cg)
   (@aA _ _ _ _ _ (@bw _ _ _ _ _ _ (@yB _ _ _ _ _ _ _ _ _ (@nB _ _ _ _ _ _ _ _ _ _ _ (iu hr.units) ko (eM (osc:=ak (aD 53)) [4] ["_law_way", "_law_thing"] rfl rfl rfl rfl (by decide +kernel) ⟨by decide +kernel,by decide +kernel,rfl,by decide +kernel,rfl,by decide +kernel⟩ (@gj _ _ _ _ _ _ (@bK _ _ _ _ _ _ _ (@aa _ _ _ _ _ _ _ aq (@aa _ _ _ _ _ _ _ aq aj rfl) rfl)))
    (fun cl C bh bO fp=>lu) (fun cl C bh bO fp=>(aH (dg.mono (by decide)) hr rfl dh dk du (@aa _ _ _ _ _ _ _ (af 0) (@aa _ _ _ _ _ _ _ aq (@aa _ _ _ _ _ _ _ aq (@aa _ _ _ _ _ _ _ (af 1) aj rfl) rfl) rfl) rfl) (ah (ah (ah (ah ax))))))) (@ay _ _ _ _ _ _ _ _ _ _ _ lx kZ (@bP _ _ _ _ _ _ _ _ (@aa _ _ _ _ _ _ _ (@bK _ _ _ _ _ _ _ (@aa _ _ _ _ _ _ _ dQ aj rfl)) aj rfl)) aq) (bY _)) (@yd _ _ _ _ _ _ _ (@nB _ _ _ _ _ _ _ _ _ _ _ (iu hr.units) ko (aQ (lO hr.gd hr.units) l0 rfl T.repr PyProof.Rows.boot_repr (@aa _ _ _ _ _ _ _ (af 4) aj rfl)) (af 5) (bY _))))))))))))
theorem gJ:aE ["_law_script", "_law_cell", "_law_pen", "_law_odd_here", "_law_far", "_law_n", "_law_k", "_law_bad", "_law_one", "_law_other", "_law_kept", "_law_many_here", "_law_number"] ["_law_script"] (ak (aD 54)):=⟨rfl,rfl,rfl,by decide +kernel,rfl,by decide +kernel,by decide +kernel⟩
theorem Fn (D:aJ K mg "law" (aD 54)) (T:Blt mg) (fG:Has P w K mg base g "_law_cell_at" 1 ["_law_script", "_law_k"] cy) (f9:Has P w K mg base g "_law_pen_of" 1 ["_law_cell"] di) (jc:Has P w K mg base g "_law_odd" 3 ["_law_pen", "_law_low", "_law_high"] dP) (aS:Has P w K mg base g "_law_draw" 2 ["_law_pen", "_law_many_here"] aB) (e8:Has P w K mg base g "_law_bad_begun" 4 ["_law_pen", "_law_n"] cq) (dq:Has P w K mg base g "_law_told" 7 ["_law_way", "_law_n", "_law_k", "_law_thing"] aI) (ip:Has P w K mg base g "_law_many" 1 ["_law_n", "_law_k"] e9) (dv:Has P w K mg base g "_law_orders_right" 8 ["_law_pen"] bN):Has P w K mg base g "law" 9 ["_law_script"] qm:=by
 obtain⟨f,fd,hm,F⟩:=D
 obtain⟨An,yY,nv,mZ,mU,mS,_⟩:=fG
 obtain⟨Ba,A5,pw,pD,oQ,ph,_⟩:=f9
 obtain⟨FH,DU,my,mI,l6,lF,_⟩:=jc
 obtain⟨fW,ff,aW,aU,aX,aV,_⟩:=aS
 obtain⟨xR,xF,kP,kX,kK,kJ,_⟩:=e8
 obtain⟨r6,qJ,dg,dk,du,dh,_⟩:=dq
 obtain⟨DS,Dc,rZ,sI,sD,r9,_⟩:=ip
 obtain⟨vH,uB,jw,jv,jy,jq,_⟩:=dv
 refine⟨f,fd,iQ (iJ F gJ (fun cdv A outer s H E hr=>?_)),F.kp,F.binds (fun _ _ _ _ _ _ us hl=>kR hl fun _=>rfl),hm,bJ F⟩
 exact(@au _ _ _ _ _ _ _ (jC PassesOwn.never rfl (@gj _ _ _ _ _ _ (@ay _ _ _ _ _ _ _ _ _ _ _ a8 a9 (@bP _ _ _ _ _ _ _ _ (@aa _ _ _ _ _ _ _ (aH (nv.mono (by decide)) hr rfl mS mZ mU (@aa _ _ _ _ _ _ _ (af 0) (@aa _ _ _ _ _ _ _ aq aj rfl) rfl) (ah (ah ax))) aj rfl)) (cA (af 0) (@cD _ _ _ _ _ aq) (@cD _ _ _ _ _ aq)))) (cE (i:=1) gJ.nd rfl (by first | exact Or.inl rfl | exact Or.inr rfl)) jj (@au _ _ _ _ _ _ _ (@bR _ _ _ _ _ _ 2 _ _ gJ.nd rfl (by first | exact Or.inl rfl | exact Or.inr rfl) (aH (pw.mono (by decide)) hr rfl ph pD oQ (@aa _ _ _ _ _ _ _ (af 1) aj rfl) (ah ax)) rfl (.inl rfl))
   (@au _ _ _ _ _ _ _ (Hu (i:=3) (j:=4) rfl gJ.nd rfl rfl (by decide) (@aa _ _ _ _ _ _ _ (aH (my.mono (by decide)) hr rfl lF mI l6 (@aa _ _ _ _ _ _ _ (af 2) (@aa _ _ _ _ _ _ _ aq (@aa _ _ _ _ _ _ _ aq aj rfl) rfl) rfl) (ah (ah (ah ax)))) (@aa _ _ _ _ _ _ _ (aH (my.mono (by decide)) hr rfl lF mI l6 (@aa _ _ _ _ _ _ _ (af 2) (@aa _ _ _ _ _ _ _ aq (@aa _ _ _ _ _ _ _ aq aj rfl) rfl) rfl) (ah (ah (ah ax)))) aj rfl) rfl))
   (@au _ _ _ _ _ _ _ (JW (i:=5) (j:=6) rfl gJ.nd rfl rfl (@bK _ _ _ _ _ _ _ (@aa _ _ _ _ _ _ _ (@ay _ _ _ _ _ _ _ _ _ _ _ a8 a9 aq (aH (aW.mono (by decide)) hr rfl aV aU aX (@aa _ _ _ _ _ _ _ (af 2) (@aa _ _ _ _ _ _ _ aq aj rfl) rfl) (ah (ah ax)))) (@aa _ _ _ _ _ _ _ (aH (aW.mono (by decide)) hr rfl aV aU aX (@aa _ _ _ _ _ _ _ (af 2) (@aa _ _ _ _ _ _ _ aq aj rfl) rfl) (ah (ah ax))) aj rfl) rfl)))
   (@au _ _ _ _ _ _ _ (@bR _ _ _ _ _ _ 7 _ _ gJ.nd rfl (by first | exact Or.inl rfl | exact Or.inr rfl) (aH (kP.mono (by decide)) hr rfl kJ kX kK (@aa _ _ _ _ _ _ _ (af 2) (@aa _ _ _ _ _ _ _ (af 5) aj rfl) rfl) (ah (ah ax))) rfl (.inl rfl))
   (@au _ _ _ _ _ _ _ (jC PassesOwn.never rfl (@gj _ _ _ _ _ _ (@bP _ _ _ _ _ _ _ _ (@aa _ _ _ _ _ _ _ (@bK _ _ _ _ _ _ _ (@aa _ _ _ _ _ _ _ (af 3) (@aa _ _ _ _ _ _ _ (af 6) aj rfl) rfl)) (@aa _ _ _ _ _ _ _ (@bK _ _ _ _ _ _ _ (@aa _ _ _ _ _ _ _ (af 5) (@aa _ _ _ _ _ _ _ (af 4) aj rfl) rfl)) (@aa _ _ _ _ _ _ _ (@bK _ _ _ _ _ _ _ (@aa _ _ _ _ _ _ _ (af 3) (@aa _ _ _ _ _ _ _ (af 4) aj rfl) rfl)) aj rfl) rfl) rfl))) (rL rfl (eR (cE (i:=8) gJ.nd rfl (by first | exact Or.inl rfl | exact Or.inr rfl)) (eR (cE (i:=9) gJ.nd rfl (by first | exact Or.inl rfl | exact Or.inr rfl)) mC))) q_ (@aA _ _ _ _ _ (@i8 _ _ _ _ _ _ _ _ _ _ (@cS _ _ _ _ _ _ _ _ _ _ _ (n6 hr.units) tB (eM (osc:=ak (aD 54)) [8,9,7] ["_law_way", "_law_one", "_law_other", "_law_bad"] rfl rfl rfl rfl (by decide +kernel) ⟨by decide +kernel,by decide +kernel,rfl,by decide +kernel,rfl,by decide +kernel⟩ (mz rfl T.range (@aa _ _ _ _ _ _ _ aq aj rfl))
    (fun cl C bh bO fp=>lu) (fun cl C bh bO fp=>(aH (dg.mono (by decide)) hr rfl dh dk du (@aa _ _ _ _ _ _ _ (af 0) (@aa _ _ _ _ _ _ _ (af 1) (@aa _ _ _ _ _ _ _ (af 2) (@aa _ _ _ _ _ _ _ (af 3) aj rfl) rfl) rfl) rfl) (ah (ah (ah (ah ax))))))) (@ay _ _ _ _ _ _ _ _ _ _ _ lx kZ (@bP _ _ _ _ _ _ _ _ (@aa _ _ _ _ _ _ _ (@bK _ _ _ _ _ _ _ (@aa _ _ _ _ _ _ _ dQ aj rfl)) aj rfl)) aq) (bY _)) (@aA _ _ _ _ _ (@bw _ _ _ _ _ _ eJ)) cg)))
   (@au _ _ _ _ _ _ _ (@bR _ _ _ _ _ _ 10 _ _ gJ.nd rfl (by first | exact Or.inl rfl | exact Or.inr rfl) (aQ (lO hr.gd hr.units) l0 rfl T.repr PyProof.Rows.boot_repr (@aa _ _ _ _ _ _ _ (af 7) aj rfl)) rfl (.inl rfl))
   (@au _ _ _ _ _ _ _ (@i8 _ _ _ _ _ _ _ _ _ _ (PW.pt (@zc _ _ _ _ _ _ _ _ _ (@cS _ _ _ _ _ _ _ _ _ _ _ (n6 hr.units) tB (eM (osc:=ak (aD 54)) [5,6,7] ["_law_way", "_law_n", "_law_k", "_law_bad"] rfl rfl rfl rfl (by decide +kernel) ⟨by decide +kernel,by decide +kernel,rfl,by decide +kernel,rfl,by decide +kernel⟩ (@gj _ _ _ _ _ _ (@bK _ _ _ _ _ _ _ (@aa _ _ _ _ _ _ _ aq (@aa _ _ _ _ _ _ _ aq aj rfl) rfl)))
    (fun cl C bh bO fp=>lu) (fun cl C bh bO fp=>(aH (dg.mono (by decide)) hr rfl dh dk du (@aa _ _ _ _ _ _ _ (af 0) (@aa _ _ _ _ _ _ _ (af 1) (@aa _ _ _ _ _ _ _ (af 2) (@aa _ _ _ _ _ _ _ (af 3) aj rfl) rfl) rfl) rfl) (ah (ah (ah (ah ax))))))) (@ay _ _ _ _ _ _ _ _ _ _ _ lx kZ (@bP _ _ _ _ _ _ _ _ (@aa _ _ _ _ _ _ _ (@bK _ _ _ _ _ _ _ (@aa _ _ _ _ _ _ _ dQ aj rfl)) aj rfl)) aq) (bY _)) (@uZ _ _ _ _ _ _ (@cS _ _ _ _ _ _ _ _ _ _ _ (n6 hr.units) tB (aQ (lO hr.gd hr.units) l0 rfl T.repr PyProof.Rows.boot_repr (@aa _ _ _ _ _ _ _ (af 7) aj rfl)) (af 10) (bY _))))) (@aA _ _ _ _ _ (@bw _ _ _ _ _ _ eJ)) cg)
   (@au _ _ _ _ _ _ _ (@bR _ _ _ _ _ _ 11 _ _ gJ.nd rfl (by first | exact Or.inl rfl | exact Or.inr rfl) (aH (rZ.mono (by decide)) hr rfl r9 sI sD (@aa _ _ _ _ _ _ _ (af 5) (@aa _ _ _ _ _ _ _ (af 6) aj rfl) rfl) (ah (ah ax))) rfl (.inl rfl))
   (@au _ _ _ _ _ _ _ (jC PassesOwn.never rfl (@gj _ _ _ _ _ _ (@bP _ _ _ _ _ _ _ _ (@aa _ _ _ _ _ _ _ (af 11) (@aa _ _ _ _ _ _ _ (@ay _ _ _ _ _ _ _ _ _ _ _ a8 a9 (af 11) aq) (@aa _ _ _ _ _ _ _ (@sO _ _ _ _ _ _ _ _ _ mM nj aq) (@aa _ _ _ _ _ _ _ eJ (@aa _ _ _ _ _ _ _ eJ (@aa _ _ _ _ _ _ _ nu (@aa _ _ _ _ _ _ _ dQ (@aa _ _ _ _ _ _ _ (@bP _ _ _ _ _ _ _ _ (@aa _ _ _ _ _ _ _ aq aj rfl)) (@aa _ _ _ _ _ _ _ (@bK _ _ _ _ _ _ _ (@aa _ _ _ _ _ _ _ aq aj rfl)) (@aa _ _ _ _ _ _ _ (@ay _ _ _ _ _ _ _ _ _ _ _ mn qT aq aq) aj rfl) rfl) rfl) rfl) rfl) rfl) rfl) rfl) rfl) rfl))) (cE (i:=12) gJ.nd rfl (by first | exact Or.inl rfl | exact Or.inr rfl)) jj (@aA _ _ _ _ _ (@i8 _ _ _ _ _ _ _ _ _ _ (@cS _ _ _ _ _ _ _ _ _ _ _ (n6 hr.units) tB (aH (dg.mono (by decide)) hr rfl dh dk du (@aa _ _ _ _ _ _ _ aq (@aa _ _ _ _ _ _ _ (af 5) (@aa _ _ _ _ _ _ _ (af 6) (@aa _ _ _ _ _ _ _ (af 12) aj rfl) rfl) rfl) rfl) (ah (ah (ah (ah ax))))) (@bK _ _ _ _ _ _ _ (@aa _ _ _ _ _ _ _ dQ aj rfl)) (bY _)) (@aA _ _ _ _ _ (@bw _ _ _ _ _ _ eJ)) cg)))
   (@aA _ _ _ _ _ (@i8 _ _ _ _ _ _ _ _ _ _ (@iw _ _ _ _ _ _ (@fj _ _ _ _ _ _ iU (aH (jw.mono (by decide)) hr rfl jq jv jy (@aa _ _ _ _ _ _ _ (af 2) aj rfl) (ah ax)) (fun _=>rfl))) (@aA _ _ _ _ _ (@bw _ _ _ _ _ _ eJ)) cg))))))))))))
   (@aA _ _ _ _ _ (@bw _ _ _ _ _ _ eJ)))
theorem vz:aE ["self", "many", "most"] ["self", "many", "most"] (ak (cK (aD 8))):=⟨rfl,rfl,rfl,by decide +kernel,rfl,by decide +kernel,by decide +kernel⟩
theorem rV:∀y∈(["self", "many", "most"]:List Str),(ak (cK (aD 8))).names.lookup y=some .local:=by decide +kernel
theorem uI:lI (bQ (cK (aD 8))) ["many", "most"]:=lI.cons rfl (lI.cons rfl (.nil))
theorem uC:∀(kV doc pm:Value) (an:Option Addr) (cdv ct:Value) (us:List Value),us.length=(["self", "many", "most"]:List Str).length->bindArgs (PySem.W.fnOf "__init__" "TooGreat.__init__" (fU (cK (aD 8))) (bQ (cK (aD 8))) (ak (cK (aD 8))) .none kV doc pm an cdv ct) ⟨us,[]⟩=pure ((["self", "many", "most"]:List Str).zip us):=fun _ _ _ _ _ _ us hl=>vX hl fun _ _ _=>rfl
end
structure Text (K:PySem.W.Frag) (ts:List Addr):Prop where
 gH:bU K "_law_cell_at" (aD 42)
 iB:bU K "_law_pen_of" (aD 44)
 jU:bU K "_law_next" (aD 43)
 j4:bU K "_law_draw" (aD 45)
 kO:bU K "_law_odd" (aD 50)
 jk:bU K "_law_order" (aD 48)
 fQ:bU K "_law_bad_begun" (aD 52)
 gZ:bU K "_law_kind_of" (aD 46)
 gX:bU K "_law_refused" (aD 47)
 kU:bU K "is_whole" (aD 10)
 jK:bU K "is_within" (aD 11)
 gp:bU K "number_needed" (aD 12)
 fN:bU K "numbers_needed" (aD 27)
 h_:bU K "rest_counts" (aD 33)
 lg:bU K "rests_of" (aD 32)
 iL:bU K "counter_of" (aD 36)
 iT:bU K "lower_left" (aD 35)
 kT:bU K "falls_in" (aD 17)
 h7:bU K "begun_count" (aD 34)
 kM:bU K "order_at" (aD 22)
 fR:bU K "beginning_good" (aD 30)
 eU:bU K "beginning_needed" (aD 31)
 iS:bU K "begun_many" (aD 25)
 gP:bU K "next_numbers" (aD 26)
 iX:bU K "orders_all" (aD 21)
 jb:bU K "order_good" (aD 15)
 gF:bU K "order_needed" (aD 16)
 gk:bU K "listed_needed" (aD 28)
 jG:bU K "number_of" (aD 23)
 iK:bU K "next_order" (aD 24)
 jJ:bU K "_law_told" (aD 51)
 jX:bU K "_law_many" (aD 49)
 eC:bU K "_law_orders_right" (aD 53)
 CK:bU K "law" (aD 54)
 cls:Df K
 jV:CIs K "TooGreat" (aD 8) ["many", "most"]
 jd:PySem.W.nsIn K mainGlobals "ValueError" = some none
 yJ:PySem.W.nsIn K mainGlobals "bool" = some none
 jA:PySem.W.nsIn K mainGlobals "enumerate" = some none
 Cp:PySem.W.nsIn K mainGlobals "int" = some none
 i7:PySem.W.nsIn K mainGlobals "isinstance" = some none
 Di:PySem.W.nsIn K mainGlobals "len" = some none
 yb:PySem.W.nsIn K mainGlobals "list" = some none
 Cv:PySem.W.nsIn K mainGlobals "max" = some none
 uD:PySem.W.nsIn K mainGlobals "range" = some none
 xK:PySem.W.nsIn K mainGlobals "repr" = some none
 C9:PySem.W.nsIn K mainGlobals "set" = some none
 Cn:PySem.W.nsIn K mainGlobals "sum" = some none
 uU:PySem.W.nsIn K mainGlobals "tuple" = some none
 eF:∃t,PySem.W.nsIn K mainGlobals "MOST_LISTED" = some (some (Value.int 12 t))
 dW:∃t,PySem.W.nsIn K mainGlobals "MOST_NUMBERS" = some (some (Value.int 20 t))
 bj:GF K ts "counter_of" (aD 36)
theorem all_mk {P:Program} {w:World} {K:PySem.W.Frag} {h:Heap} {mg:Str->Option Value} {fa:Addr} (X:K.In h) (G:h.Ns mainGlobals mg) (hfa:mg "law" = some (.ref fa)) {ts:List Addr} (hU:mkU K=true) (t:Text K ts) :
  ∃fd:FuncData,(∀(s:Shared) (v:Value),BindsTo s fd ⟨[v],[]⟩ [("_law_script", v)])/\∀base:Heap,K.In base->base.Ns mainGlobals mg->(∀P∈ts,base.BuiltinsAt mg P)->ef P w K mg base CX0 9 fa fd ["_law_script"] (spM K (gOf mg) 1 qm):=by
 have T:Blt mg:=⟨PySem.W.mg_none_of X G t.jd,PySem.W.mg_none_of X G t.yJ,PySem.W.mg_none_of X G t.jA,PySem.W.mg_none_of X G t.Cp,PySem.W.mg_none_of X G t.i7,PySem.W.mg_none_of X G t.Di,PySem.W.mg_none_of X G t.yb,PySem.W.mg_none_of X G t.Cv,PySem.W.mg_none_of X G t.uD,PySem.W.mg_none_of X G t.xK,PySem.W.mg_none_of X G t.C9,PySem.W.mg_none_of X G t.Cn,PySem.W.mg_none_of X G t.uU⟩
 obtain⟨fT,eF⟩:=t.eF
 have cn:=PySem.W.mg_of X G eF
 obtain⟨jM,dW⟩:=t.dW
 have gy:=PySem.W.mg_of X G dW
 have rF:=aJ.of X G t.gH
 have rR:=aJ.of X G t.iB
 have xD:=aJ.of X G t.jU
 have wd:=aJ.of X G t.j4
 have xX:=aJ.of X G t.kO
 have uj:=aJ.of X G t.jk
 have nW:=aJ.of X G t.fQ
 have qr:=aJ.of X G t.gZ
 have rB:=aJ.of X G t.gX
 have yh:=aJ.of X G t.kU
 have wC:=aJ.of X G t.jK
 have oS:=aJ.of X G t.gp
 have nF:=aJ.of X G t.fN
 have sf:=aJ.of X G t.h_
 have yf:=aJ.of X G t.lg
 have ur:=aJ.of X G t.iL
 have vF:=aJ.of X G t.iT
 have ym:=aJ.of X G t.kT
 have si:=aJ.of X G t.h7
 have yg:=aJ.of X G t.kM
 have nE:=aJ.of X G t.fR
 have kH:=aJ.of X G t.eU
 have ve:=aJ.of X G t.iS
 have p7:=aJ.of X G t.gP
 have ug:=aJ.of X G t.iX
 have t6:=aJ.of X G t.jb
 have qj:=aJ.of X G t.gF
 have oU:=aJ.of X G t.gk
 have xn:=aJ.of X G t.jG
 have uH:=aJ.of X G t.iK
 have wN:=aJ.of X G t.jJ
 have wB:=aJ.of X G t.jX
 have kg:=aJ.of X G t.eC
 have JT:=aJ.of X G t.CK
 have CL:=pB.of X G t.cls
 have dS:=CIm.of X G t.jV
 obtain⟨f,fd,hm,F⟩:=JT
 have e:=hfa.symm.trans hm
 cases e
 refine⟨fd,?_,fun base _ _ hBA=>?_⟩
 ·obtain⟨oc,od,kV,doc,pm,an,cdv,ct,osl,rfl,lk,hcd⟩:=F.ex
  exact fun s v=>.of_eq rfl
 ·have fG:=nI (P:=P) (w:=w) (base:=base) (g:=gOf mg) rF T
  have f9:=oK (P:=P) (w:=w) (base:=base) (g:=gOf mg) rR T
  have ik:=rY (P:=P) (w:=w) (base:=base) (g:=gOf mg) xD T
  have aS:=sG (P:=P) (w:=w) (base:=base) (g:=gOf mg) wd T ik
  have jc:=ub (P:=P) (w:=w) (base:=base) (g:=gOf mg) xX T aS
  have cU:=qw (P:=P) (w:=w) (base:=base) (g:=gOf mg) uj T aS
  have e8:=ly (P:=P) (w:=w) (base:=base) (g:=gOf mg) nW T aS cU
  have fH:=nP (P:=P) (w:=w) (base:=base) (g:=gOf mg) qr T rfl CL
  have fJ:=nV (P:=P) (w:=w) (base:=base) (g:=gOf mg) rB T rfl dS fH
  have jf:=uW (P:=P) (w:=w) (base:=base) (g:=gOf mg) yh T
  have bX:=r8 (P:=P) (w:=w) (base:=base) (g:=gOf mg) wC T jf
  have b0:=mB (P:=P) (w:=w) (base:=base) (g:=gOf mg) oS T rfl CL bX
  have aL:=k7 (P:=P) (w:=w) (base:=base) (g:=gOf mg) nF T cn b0
  have f7:=oY (P:=P) (w:=w) (base:=base) (g:=gOf mg) sf T
  have d_:=vD (P:=P) (w:=w) (base:=base) (g:=gOf mg) yf T f7
  have bL:=rK (P:=P) (w:=w) (base:=base) (g:=gOf mg) ur T (Eh.of X G hBA hU t.bj) d_
  have gY:=qe (P:=P) (w:=w) (base:=base) (g:=gOf mg) vF T
  have dZ:=uY (P:=P) (w:=w) (base:=base) (g:=gOf mg) ym T
  have bz:=oW (P:=P) (w:=w) (base:=base) (g:=gOf mg) si T gY dZ
  have iR:=uE (P:=P) (w:=w) (base:=base) (g:=gOf mg) yg T aL bL b0 bz
  have eW:=kQ (P:=P) (w:=w) (base:=base) (g:=gOf mg) nE T bX
  have bI:=jL (P:=P) (w:=w) (base:=base) (g:=gOf mg) kH T rfl CL eW
  have gE:=rE (P:=P) (w:=w) (base:=base) (g:=gOf mg) ve T aL bI bz d_
  have fS:=mY (P:=P) (w:=w) (base:=base) (g:=gOf mg) p7 T aL bI
  have g8:=rj (P:=P) (w:=w) (base:=base) (g:=gOf mg) ug T aL bL
  have gz:=qL (P:=P) (w:=w) (base:=base) (g:=gOf mg) t6 T gy bX
  have fM:=ng (P:=P) (w:=w) (base:=base) (g:=gOf mg) qj T rfl CL gz
  have bZ:=mH (P:=P) (w:=w) (base:=base) (g:=gOf mg) oU T rfl dS cn fM
  have h9:=sd (P:=P) (w:=w) (base:=base) (g:=gOf mg) xn T bZ
  have gA:=rm (P:=P) (w:=w) (base:=base) (g:=gOf mg) uH T bZ bL dZ bz
  have dq:=r_ (P:=P) (w:=w) (base:=base) (g:=gOf mg) wN T rfl CL fJ iR gE fS g8 h9 gA
  have ip:=rT (P:=P) (w:=w) (base:=base) (g:=gOf mg) wB T
  have dv:=jt (P:=P) (w:=w) (base:=base) (g:=gOf mg) kg T cU aS dq
  have DZ:=Fn (P:=P) (w:=w) (base:=base) (g:=gOf mg) ⟨_,_,hm,F⟩ T fG f9 jc aS e8 dq ip dv
  exact G6 F hm DZ
theorem walk {l:PySem.W.OpenLaw} {q:Program} {loose:List Str} {XP:(Str->Option Value)->Heap->Prop} {YP:World->Heap->Prop} {d:DefRec} {K:Params->PySem.W.Frag} {ts:List Addr} (hn:l.most=some 63) (hdf:d.params.defaults=[])
  (hY:∀(w:World) (h:Heap),YP w h->(K w.params).In h) (hT:∀(w:World) (h:Heap),YP w h->∀P∈ts,h.get? P=some (PySem.W.tabObj #[])) (hI:∀P,HZ (K P) ts=true)
  (ok:∀ns:List Int,ns.length<=63->∃h,qm [.scr (ns.map D.int)] []=.ok (.bl true) h)
  (F:∀(w:World) (mg:Str->Option Value) (fa:Addr) (h:Heap),(K w.params).In h->h.Ns mainGlobals mg->mg d.name=some (.ref fa) →
   ∃fd:FuncData,(∀(s:Shared) (u:Value),BindsTo s fd ⟨[u],[]⟩ [("_law_script", u)])/\∀base:Heap,(K w.params).In base->base.Ns mainGlobals mg->(∀P∈ts,base.BuiltinsAt mg P)->ef l.prog w (K w.params) mg base CX0 9 fa fd ["_law_script"] (spM (K w.params) (gOf mg) 1 qm)) :
  PySem.W.WalkO q loose XP YP l.row.toRowW d [] (fun f vs=>PySem.call f vs):=
 FF (k:=9) hn hdf ⟨rfl,by decide,by decide,rfl⟩ hY hT hI ok F
theorem ny {i:Int} (h1:-(10 ^ 30)<=i) (h2:i<=10 ^ 30):sml i=true:=HR (Nat.le_trans (show i.natAbs<=10 ^ 30 by omega) (by decide +kernel))
theorem yl {h:Hh} {n:Nat} {ds:List D} (e:aG h n=some ds):n<h.length:=by
 unfold aG at e
 by_cases hl:n<h.length
 ·exact hl
 ·rw[List.getElem?_eq_none (by omega)] at e;cases e
theorem ux {h:Hh} {n:Nat} {ds es:List D} (e:aG h n=some ds):aG (h.set n (.lst es)) n=some es:=by
 unfold aG;rw[List.getElem?_set_self (yl e)]
theorem Ef {h t:Hh} {n:Nat} {ds:List D} (e:aG h n=some ds):aG (h++t) n=some ds:=by
 have:=yl e
 unfold aG at e ⊢;rw[List.getElem?_append_left this];exact e
theorem E3 {h t:Hh} {n:Nat} {o:O} (hn:n<h.length):(h++t).set n o=h.set n o++t:=List.set_append_left _ _ hn
theorem BA {h:Hh} {n:Nat} {ds:List D} (e:aG h n=some ds):h.set n (.lst ds)=h:=by
 unfold aG at e
 split at e
 ·rename_i ds' q
  cases e
  refine List.ext_getElem? fun i=>?_
  rw[List.getElem?_set]
  split
  ·rename_i hi;subst hi
   have hl:n<h.length:=by
    by_cases hl:n<h.length
    ·exact hl
    ·rw[List.getElem?_eq_none (by omega)] at q;cases q
   rw[if_pos hl,q]
  ·rfl
 ·cases e
theorem HK {h:Hh} {n:Nat} {ds:List D} (w:Wf h) (l:b_ h.length ds=true):Wf (h.set n (.lst ds)):=by
 unfold Wf at w ⊢
 rw[List.length_set,List.all_eq_true] at *
 intro x hx
 rcases List.mem_or_eq_of_mem_set hx with hx | hx
 ·exact w x hx
 ·subst hx;exact l
structure Pen where
 a:Int
 b:Int
 s:Int
noncomputable abbrev cF (p:Pen):List D:=[.int p.a,.int p.b,.int p.s]
noncomputable def nxt (x:Int):Int:=((x+7919) % 2147483647*((x+7919) % 2147483647)+48271*((x+7919) % 2147483647)+12345) % 2147483629
noncomputable def fD (p:Pen) (m:Int):Int:=if p.b=1/\0<p.a then p.a % m else nxt (nxt p.s+7) / 64 % m
noncomputable def g_ (p:Pen) (m:Int):Pen:=if p.b=1/\0<p.a then ⟨p.a / m,p.b,p.s⟩ else ⟨p.a,p.b,nxt (nxt p.s+7)⟩
theorem uo (p:Pen) {m:Int} (h:0<m):0<=fD p m:=by unfold fD;split<;>exact Int.emod_nonneg _ (by omega)
theorem pW (p:Pen) {m:Int} (h:0<m):fD p m<m:=by unfold fD;split<;>exact Int.emod_lt_of_pos _ h
@[simp] theorem Ll {x:Int} {h:Hh}:e_ [.int x] h=.ok (.int (nxt x)) h:=by
 have h1:0<=(x+7919) % 2147483647:=Int.emod_nonneg _ (by decide)
 have h2:(x+7919) % 2147483647<2147483647:=Int.emod_lt_of_pos _ (by decide)
 have s1:sml ((x+7919) % 2147483647)=true:=ny (by omega) (by omega)
 have s2:sml 48271=true:=by decide +kernel
 simp[e_,bc,s1,s2,nxt]
theorem BJ {p:Pen} {m:Int} {h:Hh} {n:Nat} (e:aG h n=some (cF p)) (hm:0<m) (hm2:m<=10 ^ 20):aB [.ref n,.int m] h=.ok (.int (fD p m)) (h.set n (.lst (cF (g_ p m)))):=by
 have s1:sml m=true:=ny (by omega) (by omega)
 have s2:sml 64=true:=by decide +kernel
 have i2:∀(x y z:Int) (h:Hh),ixK [D.int x,.int y,.int z] 2 h=.ok (.int z) h:=fun _ _ _ _=>rfl
 have n0:ixN (cF p).length 0=some 0:=rfl
 have n2:ixN (cF p).length 2=some 2:=rfl
 by_cases c:p.b=1
 ·by_cases c2:0<p.a
  ·simp[aB,bc,qF e,c,c2,hm,s1,pJ e n0,fD,g_]
  ·simp[aB,bc,qF e,c,c2,i2,pJ e n2,qF (ux e),s1,s2,hm,fD,g_]
 ·simp[aB,bc,qF e,c,i2,pJ e n2,qF (ux e),s1,s2,hm,fD,g_]
@[simp] theorem Fh {p:Pen} {m:Int} {h t:Hh} (hm:0<m/\m<=10 ^ 20):aB [.ref h.length,.int m] (h++.lst (cF p)::t)=.ok (.int (fD p m)) (h++.lst (cF (g_ p m))::t):=by
 rw[BJ fX hm.1 hm.2,lM]
noncomputable def vM (c:Int):Pen:=⟨max c (0 - c),if max c (0 - c) ≥ 10 ^ 18 then 1 else 0,max c (0 - c) % 1000003⟩
@[simp] theorem MD {c:Int} {h:Hh}:di [.int c] h=.ok (.ref h.length) (h++[.lst (cF (vM c))]):=by
 have s1:sml 10=true:=by decide +kernel
 simp[di,bc,s1,vM]
@[simp] theorem LI {ns:List Int} {h:Hh}:cy [.scr (ns.map D.int),.int 0] h=.ok (.int (ns.headD 0)) h:=by
 cases ns with
 | nil=>simp[cy,bc]
 | cons c r=>simp[cy,bc]
@[simp] theorem KH {i:Int} {h:Hh}:gB [.int i] h=.ok (.bl true) h:=by simp[gB,bc]
@[simp] theorem Bt {i a b:Int} {h:Hh}:bF [.int i,.int a,.int b] h=.ok (.bl (decide (a<=i/\i<=b))) h:=by
 by_cases z:a<=i<;>simp[bF,bc,z]
structure Ord (n:Nat) (xs:List Int):Prop where
 len:xs.length=n
 nd:xs.Nodup
 lo:∀x∈xs,0<=x
 hi:∀x∈xs,x<n
noncomputable def gw (lo:Int) (n:Nat):List Int:=(List.range n).map fun(i:Nat)=>lo+i
theorem tZ (lo:Int) (n:Nat):bT lo n=(gw lo n).map D.int:=by simp[bT,gw,List.map_map]
theorem g6 (lo:Int) (n:Nat):(gw lo n).length=n:=by simp[gw]
theorem iG (n:Nat):Ord n (gw 0 n):=by
 refine⟨g6 _ _,?_,?_,?_⟩
 ·unfold gw List.Nodup
  rw[List.pairwise_map]
  exact List.Pairwise.imp (fun{a b} h e=>h (by omega)) List.nodup_range
 ·intro x hx;simp[gw] at hx;omega
 ·intro x hx;simp[gw] at hx;omega
noncomputable def hZ (s:Pen × List Int) (_:Nat):Pen × List Int:=(g_ s.1 s.2.length,s.2.eraseIdx (fD s.1 s.2.length).toNat)
noncomputable def jW (s:Pen × List Int) (_:Nat):Int:=gI s.2 (fD s.1 s.2.length).toNat
noncomputable def uT (p:Pen) (k:Nat):(Pen × List Int) × List Int:=(List.range k).foldl (fun a x=>(hZ a.1 x,a.2++[jW a.1 x])) ((p,gw 0 k),[])
noncomputable def oV (p:Pen) (k:Nat):Pen:=(uT p k).1.1
noncomputable def nq (p:Pen) (k:Nat):List Int:=(uT p k).2
theorem tN {σ X β:Type} (f:σ->X->σ) (g:σ->X->β):∀(xs:List X) (s:σ) (o:List β),(xs.foldl (fun a x=>(f a.1 x,a.2++[g a.1 x])) (s,o)).1=xs.foldl f s
 | [],_,_=>rfl
 | x::xs,s,o=>by rw[List.foldl_cons,List.foldl_cons];exact tN f g xs _ _
theorem getElem_erase {X:Type}:∀{l:List X} {n:Nat} (h:n<l.length),(l[n]::l.eraseIdx n).Perm l
 | x::l,0,_=>by simp
 | x::l,n+1,h=>by
  simp only[List.getElem_cons_succ,List.eraseIdx_cons_succ]
  exact(List.Perm.swap _ _ _).trans (List.Perm.cons x (getElem_erase (by simpa using h)))
theorem D9 (p:Pen) (k:Nat):∀j,j<=k->∀a,a=(List.range j).foldl (fun a x=>(hZ a.1 x,a.2++[jW a.1 x])) ((p,gw 0 k),[])->a.1.2.length=k - j/\a.2.length=j/\(a.2++a.1.2).Perm (gw 0 k):=by
 intro j
 induction j with
 | zero=>intro _ a e;subst e;simp[g6]
 | succ j ih=>
  intro hj a e
  rw[List.range_succ,List.foldl_append] at e
  generalize hb:(List.range j).foldl (fun a x=>(hZ a.1 x,a.2++[jW a.1 x])) ((p,gw 0 k),[])=b at e
  obtain⟨l1,l2,pm⟩:=ih (by omega) b hb.symm
  subst e
  simp only[List.foldl_cons,List.foldl_nil,hZ,jW]
  have hp:(0:Int)<(b.1.2.length:Nat):=by omega
  have d0:=uo b.1.1 hp
  have d1:=pW b.1.1 hp
  generalize fD b.1.1 (b.1.2.length:Nat)=d at d0 d1
  have hd:d.toNat<b.1.2.length:=by omega
  refine⟨by rw[List.length_eraseIdx,if_pos hd];omega,by simp[l2],?_⟩
  refine List.Perm.trans ?_ pm
  rw[List.append_assoc]
  refine List.Perm.append_left _ ?_
  rw[iF hd]
  exact getElem_erase hd
theorem wX (p:Pen) (k:Nat):Ord k (nq p k):=by
 obtain⟨l1,l2,pm⟩:=D9 p k k (Nat.le_refl _) _ rfl
 have e:(uT p k).1.2=[]:=List.eq_nil_of_length_eq_zero (by unfold uT;omega)
 have pm':(nq p k).Perm (gw 0 k):=by
  unfold nq
  have:(uT p k).2++(uT p k).1.2=(uT p k).2:=by rw[e,List.append_nil]
  rw[<- this];exact pm
 have o:=iG k
 exact⟨by rw[pm'.length_eq,o.len],pm'.nodup_iff.mpr o.nd,fun x hx=>o.lo x (pm'.mem_iff.mp hx),fun x hx=>o.hi x (pm'.mem_iff.mp hx)⟩
theorem JU {n k:Nat} {ds:List D} {i:Int} {d:D} {h:Hh} (e:aG h n=some ds) (e2:ixN ds.length i=some k) (e3:ds[k]?=some d) (hl:ds.length<=1000000):xB (.ref n) [.int i] h=.ok d (h.set n (.lst (ds.eraseIdx k))):=by delta xB;dsimp only;rw[e];dsimp only;rw[e2];dsimp only;rw[e3];exact if_pos hl
theorem mE {X Y:Type} (f:X->Y):∀(xs:List X) (k:Nat),(xs.map f).eraseIdx k=(xs.eraseIdx k).map f
 | [],_=>rfl
 | _::_,0=>rfl
 | x::xs,k+1=>by simp[mE f xs k]
theorem D2 {p:Pen} {k:Nat} {h:Hh} {n:Nat} (e:aG h n=some (cF p)) (w:Wf h) (hk:k<=1000):cL [.ref n,.int k] h=.ok (.tup ((nq p k).map D.int)) (h.set n (.lst (cF (oV p k)))):=by
 have hn:=yl e
 have z1:k<=1000000:=by omega
 have st:∀(s:Pen × List Int) (x:Nat) (r:List Nat),(s.2.length=(x::r).length/\(x::r).length<=k)->((hZ s x).2.length=r.length/\r.length<=k) ∧
   (iy xB (ag 1) (ae (ai aB (ae (ag 2) (ae (ai cp (ae (ag 1) ao)) ao))) ao)) [some (D.int (0+(x:Int))),some (.ref h.length),some (.ref n)] (h.set n (.lst (cF s.1))++[.lst (s.2.map D.int)])=.ok (D.int (jW s x)) (h.set n (.lst (cF (hZ s x).1))++[.lst ((hZ s x).2.map D.int)]):=by
  intro s x r ⟨hs,hr⟩
  simp only[List.length_cons] at hs hr
  have hp:(0:Int)<(s.2.length:Nat):=by omega
  have hp2:((s.2.length:Nat):Int)<=10 ^ 20:=by omega
  have d0:=uo s.1 hp
  have d1:=pW s.1 hp
  have hd:(fD s.1 s.2.length).toNat<s.2.length:=by omega
  refine⟨⟨by simp only[hZ];rw[List.length_eraseIdx,if_pos hd];omega,by omega⟩,?_⟩
  have hL:(h.set n (.lst (cF s.1))).length=h.length:=List.length_set
  have e1:aG (h.set n (.lst (cF s.1))++[.lst (s.2.map D.int)]) n=some (cF s.1):=Ef (ux e)
  have e2:aG (h.set n (.lst (cF s.1))++[.lst (s.2.map D.int)]) h.length=some (s.2.map D.int):=by rw[<- hL];exact fX
  have e3:(h.set n (.lst (cF s.1))++[O.lst (s.2.map D.int)]).set n (.lst (cF (g_ s.1 s.2.length)))=h.set n (.lst (cF (g_ s.1 s.2.length)))++[.lst (s.2.map D.int)]:=by rw[E3 (by omega),List.set_set]
  have hL':(h.set n (.lst (cF (g_ s.1 s.2.length)))).length=h.length:=List.length_set
  have e4:aG (h.set n (.lst (cF (g_ s.1 s.2.length)))++[.lst (s.2.map D.int)]) h.length=some (s.2.map D.int):=by rw[<- hL'];exact fX
  have e5:(s.2.map D.int)[(fD s.1 s.2.length).toNat]?=some (.int (jW s x)):=by
   rw[List.getElem?_map,List.getElem?_eq_getElem hd];simp[jW,iF hd]
  have e6:ixN (s.2.map D.int).length (fD s.1 s.2.length)=some (fD s.1 s.2.length).toNat:=by rw[List.length_map];exact za (by omega) hd
  simp only[FJ,ID,CD,bV,BM e2,if_true,Ii,Ie,Ku,GB e2,List.length_map,BJ e1 hp hp2,e3,JU e4 e6 e5 (by rw[List.length_map];omega)]
  rw[<- hL',lM,mE]
  rfl
 obtain⟨ys,q1,q2,q3⟩:=sZ (te:=iy xB (ag 1) (ae (ai aB (ae (ag 2) (ae (ai cp (ae (ag 1) ao)) ao))) ao)) (ee:=fun d=>[some d,some (.ref h.length),some (.ref n)])
  (fun(s:Pen × List Int)=>h.set n (.lst (cF s.1))++[.lst (s.2.map D.int)]) (fun(i:Nat)=>D.int (0+i)) hZ (fun s x=>D.int (jW s x)) (fun r s=>s.2.length=r.length/\r.length<=k) st (List.range k) (p,gw 0 k) ⟨by simp[g6],by simp⟩
 have q1':df tt1 (iy xB (ag 1) (ae (ai aB (ae (ag 2) (ae (ai cp (ae (ag 1) ao)) ao))) ao)) (fun d=>[some d,some (.ref h.length),some (.ref n)]) (bT 0 k) (h++[.lst (bT 0 k)])=.ok ((nq p k).map D.int) (h.set n (.lst (cF (oV p k)))++[.lst []]):=by
  have a1:h.set n (.lst (cF p))=h:=BA e
  have a2:((List.range k).foldl hZ (p,gw 0 k)).2=[]:=List.eq_nil_of_length_eq_zero q2.1
  have a3:((List.range k).foldl hZ (p,gw 0 k)).1=oV p k:=by unfold oV uT;rw[tN]
  have a4:ys=(nq p k).map D.int:=by
   rw[q3]
   unfold nq uT
   have key:∀(xs:List Nat) (s:Pen × List Int) (o:List Int),(xs.foldl (fun(a:(Pen × List Int) × List D) x=>(hZ a.1 x,a.2++[D.int (jW a.1 x)])) (s,o.map D.int)).2=((xs.foldl (fun(a:(Pen × List Int) × List Int) x=>(hZ a.1 x,a.2++[jW a.1 x])) (s,o)).2).map D.int:=by
    intro xs
    induction xs with
    | nil=>intro s o;rfl
    | cons x xs ih=>
     intro s o
     rw[List.foldl_cons,List.foldl_cons]
     have:=ih (hZ s x) (o++[jW s x])
     simpa using this
   exact key _ _ []
  simp only[a1,a2,a3,a4,List.map_nil] at q1
  rw[<- tZ] at q1
  exact q1
 have hL:(h.set n (.lst (cF (oV p k)))).length=h.length:=List.length_set
 have w':Wf (h.set n (.lst (cF (oV p k)))):=HK w rfl
 have ex:cJ h (.tup ((nq p k).map D.int)) (h.set n (.lst (cF (oV p k)))++[.lst []])=.ok (.tup ((nq p k).map D.int)) (h.set n (.lst (cF (oV p k)))):=by
  have:=eV (h:=h.set n (.lst (cF (oV p k)))) (t:=[.lst []]) (d:=.tup ((nq p k).map D.int)) w' (by simp)
  unfold cJ at this ⊢
  rw[hL] at this
  exact this
 have hk6:k<=1000000:=by omega
 simp[cL,bc,z1,kS,q1',ex,hk6]
theorem GU {n:Nat} {xs:List Int} {h:Hh} (o:Ord n xs) (h1:1<=n) (h2:n<=20) (w:Wf h):cV [.tup (xs.map D.int)] h=.ok (.bl true) h:=by
 have hl:=o.len
 obtain⟨q,_⟩:=v_ (tg:=gN 1) (body:=eX (ft (a_ ju (ai bF (ae (ag 1) (ae (cC (.int 0)) (ae (av je (ai cp (ae (ag 0) ao)) (cC (.int 1))) ao)))))) (bG (cC (.bl false))) cw)
  (fun(s:Option D)=>[some (.tup (xs.map D.int)),s]) (fun _=>h) D.int (fun s x=>some (.int x)) (fun r s=>∀x∈r,0<=x/\x<n) (fun s x r hr=>⟨fun y hy=>hr y (List.mem_cons_of_mem _ hy),.inl (by
   have:=hr x List.mem_cons_self
   have z:0<=x/\x<=↑xs.length - 1:=by omega
   simp[z])⟩) xs none (fun x hx=>⟨o.lo x hx,o.hi x hx⟩)
 have c1:(1:Int)<=xs.length:=by omega
 have c2:(xs.length:Int)<=20:=by omega
 have c3:xs.length<=4000:=by omega
 have c4:=AL o.nd
 simp[cV,bc,c1,c2,q,c3,c4]
 exact eV w rfl
noncomputable def bx {X:Type} (xs:List X) (lo hi:Option Int):List X:=(xs.drop (HT.sIx xs.length 0 lo)).take (HT.sIx xs.length xs.length hi - HT.sIx xs.length 0 lo)
theorem dY {X:Type} (f:X->D) (xs:List X) (lo hi:Option Int):cutD (xs.map f) lo hi=(bx xs lo hi).map f:=by
 unfold cutD bx
 rw[List.length_map,List.map_take,List.map_drop]
theorem pT {X:Type} (xs:List X) (k:Nat):bx xs none (some (k:Int))=xs.take k:=by
 unfold bx
 rw[HT.vR,HT.pH]
 simp
theorem tQ {X:Type} (xs:List X) (k:Nat):bx xs (some (k:Int)) none=xs.drop k:=by
 unfold bx
 rw[HT.vR,HT.pH]
 rcases Nat.le_total k xs.length with h | h
 ·rw[Nat.min_eq_left h,List.take_of_length_le (by simp)]
 ·rw[Nat.min_eq_right h];simp[List.drop_eq_nil_of_le h]
theorem l_ {i:Int} (h0:0<=i) (h:i<=1000000):sml i=true:=ny (by omega) (by omega)
theorem uS {h:Hh} (w:Wf h) (p:Pen):Wf (h++[.lst (cF p)]):=w.app rfl
theorem F9 (p:Pen) (m:Int) (h:0<m):∃k:Nat,fD p m=(k:Int)/\(k:Int)<m:=by
 have h0:=uo p h
 have h1:=pW p h
 exact⟨(fD p m).toNat,by omega,by omega⟩
theorem AK (ns:List Int) (lo hi:Option Int):cutD (ns.map D.int) lo hi=(bx ns lo hi).map D.int:=dY _ _ _ _
theorem iP {X:Type} (xs:List X) (lo hi:Option Int):(bx xs lo hi).length<=xs.length:=by
 unfold bx;rw[List.length_take,List.length_drop];omega
theorem vJ {p:Pen} {k:Nat} {h:Hh} (w:Wf h) (hk:k<=1000):cL [.ref h.length,.int k] (h++[.lst (cF p)])=.ok (.tup ((nq p k).map D.int)) (h++[.lst (cF (oV p k))]):=by
 rw[D2 fX (uS w p) hk,lM]
theorem xJ:∀(n:Nat) (xs:List Int),xs.Nodup->(∀x∈xs,0<=x/\x<n)->xs.length<=n
 | 0,xs,_,h=>by
  cases xs with
  | nil=>simp
  | cons x r=>have:=h x List.mem_cons_self;omega
 | n+1,xs,nd,h=>by
  by_cases hm:(n:Int)∈xs
  ·have ih:=xJ n (xs.erase n) (nd.erase _) (fun x hx=>by
    obtain⟨a,b⟩:=(List.Nodup.mem_erase_iff nd).mp hx
    have:=h x b;omega)
   rw[List.length_erase_of_mem hm] at ih
   omega
  ·have ih:=xJ n xs nd (fun x hx=>by
    have a:=h x hx
    have b:x≠(n:Int):=fun e=>hm (e ▸ hx)
    omega)
   omega
theorem D5 {n:Nat} {xs:List Int} (o:Ord n xs) {j:Int} (h0:0<=j) (h1:j<n):j∈xs:=by
 refine Classical.byContradiction fun hj=>?_
 have:=xJ n (j::xs) (List.nodup_cons.mpr ⟨hj,o.nd⟩) (fun x hx=>by
  rcases List.mem_cons.mp hx with rfl | hx
  ·exact⟨h0,h1⟩
  ·exact⟨o.lo x hx,o.hi x hx⟩)
 rw[List.length_cons,o.len] at this
 omega
theorem Kk {xs ys:List Int} (h:xs.length=ys.length) (e:∀i,i<xs.length->gI xs i=gI ys i):xs=ys:=by
 refine List.ext_getElem h fun i h1 h2=>?_
 have:=e i h1
 rwa [iF h1,iF h2] at this
section
variable {env:En} {h:Hh}
@[simp] theorem MM {β:Type} {m:En->Hh->R β}:up m env h=noR (m env h):=Eq.trans rfl rfl
@[simp] theorem Bi {β γ:Type} {x:Xc} {f:β->Hh->R γ}:(R.err x h:R β).bind f=.err x h:=Eq.trans rfl rfl
@[simp] theorem KP {x:Str}:qZ x env h=.err ⟨x,[]⟩ h:=Eq.trans rfl rfl
theorem Gq {mb:MS} {mr:MF} {x:Xc} {d:D} (w:Wf h) (e:mb env h=.err x h) (c:bq.contains x.cls=true) (r:mr [.exc x.cls x.fs] h=.ok d h):xI mb mr env h=.ok (.rt d) h:=by
 unfold xI
 rw[e]
 have w':(h.take h.length).all (rD h.length)=true:=by rw[List.take_length];exact w
 show(if (bq.contains x.cls&&(h.take h.length).all (rD h.length))=true then _ else _)=_
 rw[c,w',List.take_length,r]
 rfl
@[simp] theorem MC {d0 d1 d2:D} {ds:List D}:ixK (d0::d1::d2::ds) 2 h=.ok d2 h:=fV (j:=2) rfl rfl
end
noncomputable def itm:D->Bool
 | .int _=>true
 | .bl _=>true
 | .non=>true
 | .str _=>true
 | .tup _=>true
 | .frl _=>true
 | .edic=>true
 | _=>false
noncomputable def isI:D->Bool
 | .int _=>true
 | _=>false
noncomputable def lP:D->Int
 | .int i=>i
 | _=>0
noncomputable def inR (a b:Int):D->Bool
 | .int i=>decide (a<=i/\i<=b)
 | _=>false
theorem zx {a b:Int} {d:D} (e:inR a b d=true):isI d=true:=by cases d<;>first | rfl | (simp[inR] at e)
theorem EH {d:D} (e:isI d=true):d=.int (lP d):=by cases d<;>first | rfl | (simp[isI] at e)
theorem vm:∀{ds:List D},ds.all isI=true->ds=(ds.map lP).map D.int
 | [],_=>rfl
 | d::ds,e=>by
  simp only[List.all_cons,Bool.and_eq_true] at e
  rw[List.map_cons,List.map_cons,<- vm e.2,<- EH e.1]
theorem ze {a b:Int}:∀{ds:List D},ds.all (inR a b)=true->ds.all isI=true:=fun{ds} e=>by
 rw[List.all_eq_true] at e ⊢
 exact fun d hd=>zx (e d hd)
theorem j7 {a b:Int} {d:D} {h:Hh} (k:itm d=true):bF [d,.int a,.int b] h=.ok (.bl (inR a b d)) h:=by
 cases d with
 | int i=>rw[Bt];rfl
 | _=>first | (exact absurd k Bool.false_ne_true) | rfl
theorem CU {d:D} {h:Hh} (k:itm d=true) (n:∀ds,d≠.tup ds):oR "tuple" d h=.ok (.bl false) h:=by
 cases d<;>first | (exact absurd k Bool.false_ne_true) | exact absurd rfl (n _) | rfl
noncomputable def RA (e:D):Prop:=∀h,∃p,toPy 11 h e=some p/\p.bulk<=100
noncomputable def RB (e:D):Prop:=∃p,mJ 11 e=some p/\p.bulk<=100
noncomputable def RX (d:D):Prop:=∀h,∃s,gb [d] h=.ok (.str s) h
theorem ka {f:D->Option PyData} {n:Nat}:∀{ds:List D},(∀e∈ds,∃p,f e=some p/\p.bulk<=n)->∃ps,fE f ds=some ps/\PyData.bulkAll ps<=(n+1)*ds.length
 | [],_=>⟨[],rfl,by simp[PyData.bulkAll]⟩
 | d::ds,k=>by
  obtain⟨p,e,b⟩:=k d List.mem_cons_self
  obtain⟨ps,e2,b2⟩:=ka (ds:=ds) fun x hx=>k x (List.mem_cons_of_mem _ hx)
  refine⟨p::ps,by simp[fE,e,e2],?_⟩
  rw[PyData.bulkAll,List.length_cons,Nat.mul_add]
  omega
theorem GX {ds:List D} (hl:ds.length<=60) (k:∀e∈ds,RA e):RX (.tup ds):=by
 intro h
 obtain⟨ps,e,b⟩:=ka fun x hx=>k x hx h
 have e1:toPy 12 h (.tup ds)=some (.tuple ps):=by
  show(fE (toPy 11 h) ds).map PyData.tuple=_
  rw[e];rfl
 have e2:PyData.bulk (.tuple ps)<=8000:=by rw[PyData.bulk];omega
 exact⟨_,qp (show oP (.tup ds) h=.ok (.str (PyData.tuple ps).shown) h from by delta oP;rw[e1];exact if_pos e2)⟩
theorem Lz {ds:List D} (hl:ds.length<=60) (k:∀e∈ds,RA e):RX (.frl ds):=by
 intro h
 obtain⟨ps,e,b⟩:=ka fun x hx=>k x hx h
 have e1:toPy 12 h (.frl ds)=some (.list ps):=by
  show(fE (toPy 11 h) ds).map PyData.list=_
  rw[e];rfl
 have e2:PyData.bulk (.list ps)<=8000:=by rw[PyData.bulk];omega
 exact⟨_,qp (show oP (.frl ds) h=.ok (.str (PyData.list ps).shown) h from by delta oP;rw[e1];exact if_pos e2)⟩
theorem K5 {ds:List D} (hl:ds.length<=60) (k:∀e∈ds,RB e):RX (.tup ds):=by
 intro h
 obtain⟨ps,e,b⟩:=ka fun x hx=>k x hx
 have e1:mJ 12 (.tup ds)=some (.tuple ps):=by
  show(fE (mJ 11) ds).map PyData.tuple=_
  rw[e];rfl
 have e2:PyData.bulk (.tuple ps)<=8000:=by rw[PyData.bulk];omega
 have e3:vo [.tup ds] h=.ok (.str (PyData.tuple ps).shown) h:=show AB (.tup ds) h=_ from by delta AB;rw[e1];exact if_pos e2
 have hR:oP (.tup ds) h=.bad\/∃s,oP (.tup ds) h=.ok (.str s) h:=by
  delta oP
  cases toPy 12 h (.tup ds) with
  | none=>exact .inl rfl
  | some p=>
   by_cases z2:p.bulk<=8000
   ·exact .inr ⟨_,if_pos z2⟩
   ·exact .inl (if_neg z2)
 rcases hR with e | ⟨s,e⟩
 ·refine⟨_,Eq.trans ?_ e3⟩
  have e':sV [.tup ds] h=.bad:=e
  delta gb;rw[e']
 ·exact⟨s,qp e⟩
theorem qH {i:Int} (s:sml i=true):RA (.int i):=fun h=>⟨.int i,by show(if sml i=true then some (PyData.int i) else none)=_;rw[if_pos s],by simp[PyData.bulk]⟩
theorem Hl {i:Int} (s:sml i=true):RB (.int i):=⟨.int i,by show(if sml i=true then some (PyData.int i) else none)=_;rw[if_pos s],by simp[PyData.bulk]⟩
noncomputable def uG (e:D):Prop:=itm e=true/\(RA e\/RB e)
theorem uw {i:Int} (s:sml i=true):uG (.int i):=⟨rfl,.inl (qH s)⟩
theorem CV {b:Bool}:uG (.bl b):=⟨rfl,.inl fun h=>⟨.bool b,rfl,by simp[PyData.bulk]⟩⟩
theorem ES:uG .non:=⟨rfl,.inl fun h=>⟨.none,rfl,by simp[PyData.bulk]⟩⟩
theorem Cy:uG (.str "0"):=⟨rfl,.inl fun h=>⟨.str "0", by kernel_rfl,by decide +kernel⟩⟩
theorem Cd:uG .edic:=⟨rfl,.inr ⟨.dict [],rfl,by decide +kernel⟩⟩
theorem Bw:uG (.tup [.int 0]):=⟨rfl,.inl fun h=>⟨.tuple [.int 0],by kernel_rfl,by decide +kernel⟩⟩
theorem wu:uG (.frl [.int 0]):=⟨rfl,.inl fun h=>⟨.list [.int 0],by kernel_rfl,by decide +kernel⟩⟩
structure Th (d:D):Prop where
 it:itm d=true
 its:∀ds,d=.tup ds->(∀e∈ds,itm e=true)/\ds.length<=60
 rx:RX d
theorem yW {od:D} {xs ys:List Int} (o:uG od) (hx:∀x∈xs,sml x=true) (hy:∀x∈ys,sml x=true) (hl:xs.length+ys.length<=50):Th (.tup (xs.map D.int++od::ys.map D.int)):=by
 have ml:(xs.map D.int++od::ys.map D.int).length<=60:=by simp;omega
 have mm:∀e∈xs.map D.int++od::ys.map D.int,(∃i,e=.int i/\sml i=true)\/e=od:=by
  intro e he
  rcases List.mem_append.mp he with he | he
  ·obtain⟨i,hi,rfl⟩:=List.mem_map.mp he;exact .inl ⟨i,rfl,hx i hi⟩
  ·rcases List.mem_cons.mp he with he | he
   ·exact .inr he
   ·obtain⟨i,hi,rfl⟩:=List.mem_map.mp he;exact .inl ⟨i,rfl,hy i hi⟩
 refine⟨rfl,fun ds e=>?_,?_⟩
 ·cases e
  refine⟨fun e he=>?_,ml⟩
  rcases mm e he with⟨i,rfl,_⟩ | rfl
  ·rfl
  ·exact o.1
 ·rcases o.2 with a | b
  ·refine GX ml fun e he=>?_
   rcases mm e he with⟨i,rfl,s⟩ | rfl
   ·exact qH s
   ·exact a
  ·refine K5 ml fun e he=>?_
   rcases mm e he with⟨i,rfl,s⟩ | rfl
   ·exact Hl s
   ·exact b
theorem pN {xs:List Int} (hx:∀x∈xs,sml x=true) (hl:xs.length<=60):Th (.tup (xs.map D.int)):=by
 refine⟨rfl,fun ds e=>?_,GX (by simpa using hl) fun e he=>?_⟩
 ·cases e
  exact⟨fun e he=>by obtain⟨i,_,rfl⟩:=List.mem_map.mp he;rfl,by simpa using hl⟩
 ·obtain⟨i,hi,rfl⟩:=List.mem_map.mp he
  exact qH (hx i hi)
theorem CC {xs:List Int} (hx:∀x∈xs,sml x=true) (hl:xs.length<=60):Th (.frl (xs.map D.int)):=by
 refine⟨rfl,fun ds e=>(nomatch e),Lz (by simpa using hl) fun e he=>?_⟩
 obtain⟨i,hi,rfl⟩:=List.mem_map.mp he
 exact qH (hx i hi)
noncomputable def OGB:MS:=eX (ft (a_ ju (ai bF (ae (ag 1) (ae (cC (.int 0)) (ae (av je (ai cp (ae (ag 0) ao)) (cC (.int 1))) ao)))))) (bG (cC (.bl false))) cw
theorem zC {es:List D} {h:Hh}:∀(ds:List D) (s:Option D),(∀d∈ds,itm d=true)->∃s',(ds.all (inR 0 ((es.length:Int) - 1))=true->dw (gN 1) OGB ds [some (.tup es),s] h=.ok (.nx [some (.tup es),s']) h)/\(ds.all (inR 0 ((es.length:Int) - 1))=false->dw (gN 1) OGB ds [some (.tup es),s] h=.ok (.rt (.bl false)) h)
 | [],s,_=>⟨s,fun _=>rfl,fun z=>nomatch z⟩
 | d::ds,s,k=>by
  obtain⟨s',e1,e2⟩:=zC (es:=es) (h:=h) ds (some d) (fun x hx=>k x (List.mem_cons_of_mem _ hx))
  have w:=j7 (a:=0) (b:=(es.length:Int) - 1) (h:=h) (k d List.mem_cons_self)
  have b1:inR 0 ((es.length:Int) - 1) d=true->OGB [some (.tup es),some d] h=.ok (.nx [some (.tup es),some d]) h:=fun c=>by simp[OGB,w,c]
  have b2:inR 0 ((es.length:Int) - 1) d=false->OGB [some (.tup es),some d] h=.ok (.rt (.bl false)) h:=fun c=>by simp[OGB,w,c]
  refine⟨s',fun z=>?_,fun z=>?_⟩
  ·rw[List.all_cons,Bool.and_eq_true] at z
   rw[fu]
   simp only[vW,bV,List.set,b1 z.1,pZ,e1 z.2]
  ·rw[fu]
   simp only[vW,bV,List.set]
   cases c:inR 0 ((es.length:Int) - 1) d with
   | false=>rw[b2 c];simp
   | true=>
    rw[List.all_cons,c,Bool.true_and] at z
    simp only[b1 c,bV,pZ,e2 z]
noncomputable def ogB (ds:List D):Bool:=decide (1<=(ds.length:Int)/\(ds.length:Int)<=20)&&(ds.all (inR 0 ((ds.length:Int) - 1))&&((unl (ds.map lP)).length == ds.length))
noncomputable def ogD:D->Bool
 | .tup ds=>ogB ds
 | _=>false
theorem FW:cV=fun ds h=>((cH 2 (aO (eX (vt (ft (a_ ju (cUn (oR "tuple") (ag 0)))) (ft (a_ asB (jD dLe dLe (cC (.int 1)) (ai cp (ae (ag 0) ao)) (cC (.int 20)))))) (bG (cC (.bl false))) cw)
  (aO (fO (eB (ag 0)) (gN 1) OGB) (bG (av dEq (ai cp (ae (ai rN (ae (ag 0) ao)) ao)) (ai cp (ae (ag 0) ao))))))) ds h).bind (cJ h):=rfl
theorem EX {d:D} {h:Hh} (t:Th d) (w:Wf h):cV [d] h=.ok (.bl (ogD d)) h:=by
 have ex:∀t b,cJ h (.bl b) (h++t)=.ok (.bl b) h:=fun t b=>eV w rfl
 have ex0:∀b,cJ h (.bl b) h=.ok (.bl b) h:=fun b=>oh w rfl
 by_cases nt:∀ds,d≠.tup ds
 ·have e1:=CU (h:=h) t.it nt
  have e2:ogD d=false:=by cases d<;>first | rfl | exact absurd rfl (nt _)
  rw[FW,e2]
  simp[bc,e1,ex0]
 ·obtain⟨ds,rfl⟩:∃ds,d=.tup ds:=Classical.byContradiction fun z=>nt fun ds e=>z ⟨ds,e⟩
  obtain⟨k,_⟩:=t.its ds rfl
  obtain⟨s',q1,q2⟩:=zC (es:=ds) (h:=h) ds none k
  show _=R.ok (D.bl (ogB ds)) h
  unfold ogB
  rw[FW]
  by_cases c:1<=(ds.length:Int)/\(ds.length:Int)<=20
  ·by_cases c2:ds.all (inR 0 ((ds.length:Int) - 1))=true
   ·have q:=q1 c2
    have ei:=vm (ze c2)
    have c3:ds.length<=4000:=by omega
    have st:rN [.tup ds] h=.ok (.ref h.length) (h++[.set (unl (ds.map lP))]):=by
     have:=BC (h:=h) (ns:=ds.map lP)
     rw[<- ei] at this
     rw[this,List.length_map,if_pos c3]
    have cc:(((unl (ds.map lP)).length:Int) == (ds.length:Int))=((unl (ds.map lP)).length == ds.length):=by
     rw[Bool.eq_iff_iff];simp;omega
    simp only[bc,List.map_cons,List.map_nil,List.length_cons,List.length_nil,List.replicate,List.cons_append,List.nil_append,Kl,IY,I_,Gp,GO,LJ,CD,bV,Hk,Ho,Bool.not_true,FK]
    simp[c.1,c.2,q,st,c2,ex,cc]
   ·simp only[Bool.not_eq_true] at c2
    have q:=q2 c2
    simp[bc,c.1,c.2,q,c2,ex0]
  ·have c':decide (1<=(ds.length:Int)/\(ds.length:Int)<=20)=false:=by simpa using c
   rw[c']
   by_cases c1:1<=(ds.length:Int)
   ·have c4:¬ (ds.length:Int)<=20:=fun z=>c ⟨c1,z⟩
    simp[bc,c1,c4,ex0]
   ·simp[bc,c1,ex0]
theorem lK {xs:List Int} {k:Int}:k∈unl xs↔k∈xs:=by
 have e:(List.range xs.length).map (fun i=>xs.getD i 0)=xs:=by
  refine List.ext_getElem (by simp) fun i h1 h2=>?_
  simp[h2]
 have:=PyProof.Rows.firstMet_any (fun i=>xs.getD i 0) xs.length k
 rw[e] at this
 show k∈PyProof.Rows.firstMet (fun i=>xs.getD i 0) xs.length↔_
 rw[Bool.eq_iff_iff] at this
 simpa using this
theorem y_:∀(ys acc:List Int),acc.Nodup->(ys.foldl PyProof.Rows.step_dedup acc).Nodup
 | [],acc,h=>h
 | y::ys,acc,h=>by
  rw[List.foldl_cons]
  refine y_ ys _ ?_
  unfold PyProof.Rows.step_dedup
  split
  ·exact h
  ·rename_i z
   rw[List.nodup_append]
   refine⟨h,by simp,fun a ha b hb=>?_⟩
   simp only[List.mem_singleton] at hb
   subst hb
   intro e
   subst e
   exact z (List.any_eq_true.mpr ⟨a,ha,by simp⟩)
theorem CB (xs:List Int):(unl xs).Nodup:=y_ _ [] List.nodup_nil
theorem uX:∀(as bs:List Int),as.Nodup->(∀a∈as,a∈bs)->as.length<=bs.length
 | [],bs,_,_=>Nat.zero_le _
 | a::as,bs,nd,s=>by
  obtain⟨h1,h2⟩:=List.nodup_cons.mp nd
  have hm:=s a List.mem_cons_self
  have ih:=uX as (bs.erase a) h2 fun x hx=>by
   have hx':=s x (List.mem_cons_of_mem _ hx)
   have ne:x≠a:=fun e=>h1 (e ▸ hx)
   exact(List.mem_erase_of_ne ne).mpr hx'
  rw[List.length_erase_of_mem hm] at ih
  have:0<bs.length:=List.length_pos_of_mem hm
  simp only[List.length_cons]
  omega
theorem A1 {xs:List Int} (h1:1<=xs.length):((xs.map D.int).all (inR 0 ((xs.length:Int) - 1))&&((unl xs).length == xs.length))=((List.range xs.length).filter fun(i:Nat)=>!(xs.any (· == (i:Int)))).isEmpty:=by
 rw[Bool.eq_iff_iff,Bool.and_eq_true,List.isEmpty_iff,List.filter_eq_nil_iff,List.all_eq_true]
 simp only[beq_iff_eq,List.mem_range,Bool.not_eq_true',Bool.not_eq_false]
 constructor
 ·intro⟨a,b⟩ i hi
  have o:Ord xs.length (unl xs):=⟨b,CB xs,fun x hx=>by
   have:=a _ (List.mem_map_of_mem (lK.mp hx));simp[inR] at this;omega,fun x hx=>by
   have:=a _ (List.mem_map_of_mem (lK.mp hx));simp[inR] at this;omega⟩
  have:=lK.mp (D5 o (j:=(i:Int)) (by omega) (by omega))
  exact List.any_eq_true.mpr ⟨_,this,by simp⟩
 ·intro a
  have all:∀y∈gw 0 xs.length,y∈xs:=fun y hy=>by
   simp only[gw,List.mem_map,List.mem_range] at hy
   obtain⟨i,hi,rfl⟩:=hy
   obtain⟨z,hz,e⟩:=List.any_eq_true.mp (a i hi)
   have:z=(i:Int):=by simpa using e
   subst this
   simpa using hz
  have nd:=(iG xs.length).nd
  refine⟨fun d hd=>?_,?_⟩
  ·obtain⟨x,hx,rfl⟩:=List.mem_map.mp hd
   refine Classical.byContradiction fun z=>?_
   have z':¬ (0<=x/\x<=(xs.length:Int) - 1):=by simpa [inR] using z
   have:=uX (gw 0 xs.length) (xs.erase x) nd fun y hy=>by
    have l:=(iG xs.length).lo y hy
    have l2:=(iG xs.length).hi y hy
    have ne:y≠x:=by omega
    exact(List.mem_erase_of_ne ne).mpr (all y hy)
   rw[g6,List.length_erase_of_mem hx] at this
   omega
  ·have:=uX (gw 0 xs.length) (unl xs) nd fun y hy=>lK.mpr (all y hy)
   rw[g6] at this
   have:=IE xs
   omega
noncomputable abbrev TNm:D:=.tup [.str "number"]
noncomputable abbrev TRw:D:=.tup [.str "row"]
noncomputable abbrev TOr:D:=.tup [.str "order"]
theorem Ei {h:Hh}:aR [.exc "NoNumber" []] h=.ok TNm h:=by kernel_rfl
theorem JF {h:Hh}:aR [.exc "NoRow" []] h=.ok TRw h:=by kernel_rfl
theorem IQ {h:Hh}:aR [.exc "NoOrder" []] h=.ok TOr h:=by kernel_rfl
theorem Kn {a b:Int} {d:D} {h:Hh} (k:itm d=true) (c:inR a b d=true):aY [d,.int a,.int b] h=.ok .non h:=by simp[aY,bc,j7 k,c]
theorem IZ {a b:Int} {d:D} {h:Hh} (k:itm d=true) (c:inR a b d=false):aY [d,.int a,.int b] h=.err ⟨"NoNumber", []⟩ h:=by simp[aY,bc,j7 k,c]
noncomputable def wF (a b:Int):List D:=[.int (a - 1),.int (b+1),.bl true,.non,.str "2", .tup [.int 2],.frl [.int 1],.bl false,.int (10 ^ 30),.edic,.int (0 - 10 ^ 30)]
noncomputable def JG (a b:Int):Prop:=∀d∈wF a b,itm d=true/\inR a b d=false
theorem Gg {p:Pen} {a b:Int} {h:Hh} (ob:JG a b):∃d,dP [.ref h.length,.int a,.int b] (h++[.lst (cF p)])=.ok d (h++[.lst (cF (g_ p 11))])/\itm d=true/\inR a b d=false:=by
 obtain⟨k,ek,hk⟩:=F9 p 11 (by decide)
 have hk':k<(wF a b).length:=by show k<11;omega
 have s1:sml 10=true:=by decide +kernel
 refine⟨(wF a b)[k],?_,ob _ (List.getElem_mem hk')⟩
 have e:∀H:Hh,ixK (wF a b) (k:Int) H=.ok (wF a b)[k] H:=fun H=>fV rfl (List.getElem?_eq_getElem hk')
 have e2:∀H:Hh,ixK [.int (a - 1),.int (b+1),.bl true,.non,.str "2", .tup [.int 2],.frl [.int 1],.bl false,.int (10 ^ 30),.edic,.int (0 - 10 ^ 30)] (k:Int) H=.ok (wF a b)[k] H:=e
 generalize (wF a b)[k]=D0 at e2
 generalize hX:(10:Int) ^ 30=X at e2
 rw[Int.zero_sub] at e2
 simp[dP,bc,ek,s1,hX,e2]
theorem IC {n:Nat} {xs:List Int} {h:Hh} (o:Ord n xs) (h1:1<=n) (h2:n<=20) (w:Wf h):cx [.tup (xs.map D.int)] h=.ok .non h:=by
 simp[cx,bc,GU o h1 h2 w]
theorem HL {d:D} {h:Hh} (t:Th d) (w:Wf h) (c:ogD d=false):cx [d] h=.err ⟨"NoOrder", []⟩ h:=by
 simp[cx,bc,EX t w,c]
theorem Co (xs:List Int):ogB (xs.map D.int)=(decide (1<=(xs.length:Int)/\(xs.length:Int)<=20)&&((xs.map D.int).all (inR 0 ((xs.length:Int) - 1))&&((unl xs).length == xs.length))):=by
 have:(xs.map D.int).map lP=xs:=by rw[List.map_map];exact(List.map_congr_left (fun _ _=>rfl)).trans (List.map_id xs)
 unfold ogB
 rw[this,List.length_map]
theorem EK {xs:List Int} (h1:1<=xs.length) {k:Nat} (hk:k<xs.length) (hm:∀x∈xs,x≠(k:Int)):ogD (.tup (xs.map D.int))=false:=by
 show ogB (xs.map D.int)=false
 rw[Co,A1 h1]
 have:((List.range xs.length).filter fun(i:Nat)=>!(xs.any (· == (i:Int)))).isEmpty=false:=by
  cases z:((List.range xs.length).filter fun(i:Nat)=>!(xs.any (· == (i:Int)))).isEmpty with
  | false=>rfl
  | true=>
   have:=List.filter_eq_nil_iff.mp (List.isEmpty_iff.mp z) k (List.mem_range.mpr hk)
   simp only[Bool.not_eq_true',Bool.not_eq_false] at this
   obtain⟨x,hx,e⟩:=List.any_eq_true.mp this
   exact absurd (by simpa using e) (hm x hx)
 rw[this,Bool.and_false]
theorem ED {ds:List D} (h:20<ds.length):ogD (.tup ds)=false:=by
 show ogB ds=false
 unfold ogB
 rw[decide_eq_false (by omega)];rfl
theorem pQ {ds:List D} {e:D} (he:e∈ds) (k:isI e=false):ogD (.tup ds)=false:=by
 show ogB ds=false
 unfold ogB
 have:ds.all (inR 0 ((ds.length:Int) - 1))=false:=by
  cases z:ds.all (inR 0 ((ds.length:Int) - 1)) with
  | false=>rfl
  | true=>
   have:=List.all_eq_true.mp z e he
   rw[zx this] at k
   cases k
 rw[this];simp
theorem HW {ds:List D} {e:D} (he:e∈ds) (k:∀n:Nat,n=ds.length->inR 0 ((n:Int) - 1) e=false):ogD (.tup ds)=false:=by
 show ogB ds=false
 unfold ogB
 have:ds.all (inR 0 ((ds.length:Int) - 1))=false:=by
  cases z:ds.all (inR 0 ((ds.length:Int) - 1)) with
  | false=>rfl
  | true=>
   have:=List.all_eq_true.mp z e he
   rw[k _ rfl] at this
   cases this
 rw[this];simp
noncomputable def sg (f:Nat->Int) (n:Nat):Int:=((List.range n).map f).sum
theorem DF (f:Nat->Int):sg f 0=0:=rfl
theorem B7 (l:List Int) (x:Int):(l++[x]).sum=l.sum+x:=by
 induction l with
 | nil=>simp
 | cons a l ih=>simp only[List.cons_append,List.sum_cons,ih];omega
theorem p_ (f:Nat->Int) (n:Nat):sg f (n+1)=sg f n+f n:=by
 unfold sg
 rw[List.range_succ,List.map_append]
 exact B7 _ _
theorem jY {f g:Nat->Int}:∀{n:Nat},(∀i,i<n->f i=g i)->sg f n=sg g n
 | 0,_=>rfl
 | n+1,h=>by rw[p_,p_,jY fun i hi=>h i (by omega),h n (by omega)]
theorem ue {f:Nat->Int} {n:Nat} (h:∀i,i<n->f i=0):sg f n=0:=by
 induction n with
 | zero=>rfl
 | succ n ih=>rw[p_,ih fun i hi=>h i (by omega),h n (by omega)];rfl
theorem CJ (f:Nat->Int) (p:Nat):∀q,sg f (p+q)=sg f p+sg (fun i=>f (p+i)) q
 | 0=>by simp[DF]
 | q+1=>by rw[<- Nat.add_assoc,p_,CJ f p q,p_];omega
noncomputable def lss (r:Nat) (l:Int):Int:=if (r:Int)<l then 1 else 0
noncomputable def Rn:Nat->Int->Int->Int
 | 0,_,f=>if f=0 then 1 else 0
 | m+1,l,f=>sg (fun r=>Rn m r (f - lss r l)) (m+1)
theorem yK (r:Nat) (l:Int):0<=lss r l/\lss r l<=1:=by unfold lss;split<;>omega
theorem xN:∀(m:Nat) (l f:Int),f<0->Rn m l f=0
 | 0,l,f,h=>if_neg (by omega)
 | m+1,l,f,h=>ue fun r _=>xN m r _ (by have:=yK r l;omega)
theorem yw:∀(m:Nat) (l f:Int),(m:Int)<f->Rn m l f=0
 | 0,l,f,h=>if_neg (by omega)
 | m+1,l,f,h=>ue fun r _=>yw m r _ (by have:=yK r l;omega)
theorem FX {f:Nat->Int} {B:Nat}:∀{n:Nat},(∀i,i<n->0<=f i/\f i<=B)->0<=sg f n/\sg f n<=(n*B:Nat)
 | 0,_=>by simp[DF]
 | n+1,h=>by
  have ih:=FX (n:=n) fun i hi=>h i (by omega)
  have:=h n (by omega)
  rw[p_,Nat.succ_mul]
  omega
noncomputable def E9:Nat->Nat
 | 0=>1
 | n+1=>(n+1)*E9 n
theorem C5:∀(m:Nat) (l f:Int),0<=Rn m l f/\Rn m l f<=E9 m
 | 0,l,f=>by unfold Rn E9;split<;>omega
 | m+1,l,f=>FX fun r _=>C5 m r _
theorem G4:∀m,m<13->E9 m<=10 ^ 20:=by decide +kernel
noncomputable def eS (m:Nat) (l:Int):List Int:=(List.range (m+1)).map fun(f:Nat)=>Rn m l f
theorem jH (m:Nat) (l:Int):(eS m l).length=m+1:=by simp[eS]
theorem vg {m:Nat} {l:Int} {f:Nat} (h:f<=m):gI (eS m l) f=Rn m l f:=by
 rw[iF (by rw[jH];omega)];simp[eS]
noncomputable def fA (m:Nat):List (List Int):=(List.range (m+1)).map fun(l:Nat)=>eS m l
theorem vQ (m:Nat):(fA m).length=m+1:=by simp[fA]
noncomputable def f1 (xs:List Int):D:=.frl (xs.map D.int)
noncomputable def f2 (xss:List (List Int)):D:=.frl (xss.map f1)
theorem G7 {l:List Int} {i j:Nat} {v:Int} (hj:j<l.length):gI (l.set i v) j=if i=j then v else gI l j:=by
 rw[iF (by simpa using hj),iF hj,List.getElem_set]
theorem Hf {n:Nat} {ns:List Int} {i:Int} {j:Nat} {h:Hh} (e:aG h n=some (ns.map D.int)) (hi:i=(j:Int)) (hj:j<ns.length):C1 (.ref n) (.int i) h=.ok (.int (gI ns j)) h:=by
 have:=vB (ns:=ns) (h:=h) hi hj
 delta C1;dsimp only;rw[qF e];exact this
theorem FQ (L:List (List Int)):gL (L.map f1)=(List.range L.length).map fun(i:Nat)=>D.tup [.int i,f1 (L.getD i [])]:=by
 unfold gL
 rw[List.length_map]
 refine List.map_congr_left fun i hi=>?_
 have hi:=List.mem_range.mp hi
 simp[hi]
noncomputable def RIB:MS:=(uk (ag 2) (av (bS az) (ag 6) (ag 5)) (ag 7))
noncomputable def ROB:MS:=(aO (cb 5 (cIf (a_ asB (av dLt (ag 3) (ag 1))) (cC (.int 1)) (cC (.int 0)))) (fO (nN (ag 4)) (gT2 6 7) RIB))
theorem Kd:cN=fun ds h=>((cH 8 (aO (cb 2 (av (lH v7) (ai (cO az) (ae (cC (.int 0)) ao)) (av (bS az) (ai cp (ae (ag 0) ao)) (cC (.int 1))))) (aO (fO (nN (ag 0)) (gT2 3 4) ROB) (bG (ag 2))))) ds h).bind (cJ h):=rfl
theorem C_ {m i:Nat} {l:Int} {c:List Int} {h:Hh} {d0 d1 d3 d4 y6 y7:Option D} (hc:c.length=m+2) (hi:i<=m) (hm:m<=20):∃c' y6' y7',c'.length=m+2/\(∀f,f<m+2->gI c' f=gI c f+Rn m i ((f:Int) - lss i l))/\dw (gT2 6 7) RIB (gL ((eS m i).map D.int)) [d0,d1,some (.ref h.length),d3,d4,some (.int (lss i l)),y6,y7] (h++[.lst (c.map D.int)])=.ok (.nx [d0,d1,some (.ref h.length),d3,d4,some (.int (lss i l)),y6',y7']) (h++[.lst (c'.map D.int)]):=by
 have l01:=yK i l
 obtain⟨t,ht⟩:∃t:Nat,lss i l=(t:Int):=⟨(lss i l).toNat,by omega⟩
 have t1:t<=1:=by omega
 rw[ht,AX,jH]
 obtain⟨q,q2⟩:=zv (σ:=List Int × Option D × Option D) (tg:=gT2 6 7) (body:=RIB) (fun(j:Nat)=>D.tup [.int j,.int (gI (eS m i) j)]) (m+1) (fun s=>[d0,d1,some (.ref h.length),d3,d4,some (.int t),s.2.1,s.2.2]) (fun s=>h++[.lst (s.1.map D.int)]) (fun s j=>(s.1.set (j+t) (gI s.1 (j+t)+gI (eS m i) j),some (.int j),some (.int (gI (eS m i) j))))
  (fun j s=>s.1.length=m+2/\∀f,f<m+2->gI s.1 f=gI c f+if (f:Int) - t<j then Rn m i ((f:Int) - t) else 0) (c,y6,y7) ⟨hc,fun f hf=>by
   by_cases z:(f:Int) - t<((0:Nat):Int)
   ·rw[if_pos z,xN _ _ _ (by omega)];simp
   ·rw[if_neg z];simp⟩ (fun j s hj ⟨sl,sv⟩=>by
   refine⟨⟨by simp[sl],fun f hf=>?_⟩,.inl ?_⟩
   ·dsimp only
    rw[G7 (by omega)]
    by_cases e:j+t=f
    ·subst e
     rw[if_pos rfl,sv _ hf,vg (by omega),if_neg (by omega),if_pos (by omega),show(((j+t:Nat):Int)) - t=j by omega]
     omega
    ·rw[if_neg e,sv f hf]
     by_cases z:(f:Int) - t<j
     ·rw[if_pos z,if_pos (by omega)]
     ·rw[if_neg z,if_neg (by omega)]
   ·have ij:(j:Int)+(t:Int)=((j+t:Nat):Int):=by omega
    have x1:=Hf (n:=h.length) (ns:=s.1) (i:=((j+t:Nat):Int)) (j:=j+t) (h:=h++[.lst (s.1.map D.int)]) fX rfl (by omega)
    have n2:ixN (s.1.map D.int).length ((j+t:Nat):Int)=some (j+t):=by rw[List.length_map];exact za rfl (by omega)
    have st:jg (.ref h.length) (.int ((j+t:Nat):Int)) (.int (gI s.1 (j+t)+gI (eS m i) j)) (h++[.lst (s.1.map D.int)])=.ok () (h++[.lst ((s.1.set (j+t) (gI s.1 (j+t)+gI (eS m i) j)).map D.int)]):=by
     rw[pJ fX n2,lM,List.map_set]
    generalize gI (eS m i) j=v at *
    generalize ((j+t:Nat):Int)=w at *
    generalize j+t=w' at *
    simp[RIB,ij,x1,st])
 obtain⟨sl,sv⟩:=q2
 exact⟨_,_,_,sl,fun f hf=>by
  rw[sv f hf]
  by_cases z:(f:Int) - t<((m+1:Nat):Int)
  ·rw[if_pos z]
  ·rw[if_neg z,yw _ _ _ (by omega)],q⟩
theorem Ea {m:Nat} {l:Int} {h:Hh} (hm:m<=20) (w:Wf h):cN [f2 (fA m),.int l] h=.ok (f1 (eS (m+1) l)) h:=by
 have key:∀(j i:Nat) (c:List Int) (y3 y4 y5 y6 y7:Option D),i+j=m+1->c.length=m+2->(∀f,f<m+2->gI c f=sg (fun r=>Rn m r ((f:Int) - lss r l)) i)->∃c' z3 z4 z5 z6 z7,c'.length=m+2/\(∀f,f<m+2->gI c' f=sg (fun r=>Rn m r ((f:Int) - lss r l)) (m+1)) ∧
   dw (gT2 3 4) ROB ((List.range' i j).map fun(i:Nat)=>D.tup [.int i,f1 (eS m i)]) [some (f2 (fA m)),some (.int l),some (.ref h.length),y3,y4,y5,y6,y7] (h++[.lst (c.map D.int)])=.ok (.nx [some (f2 (fA m)),some (.int l),some (.ref h.length),z3,z4,z5,z6,z7]) (h++[.lst (c'.map D.int)]):=by
  intro j
  induction j with
  | zero=>
   intro i c y3 y4 y5 y6 y7 e hc hv
   have:i=m+1:=by omega
   subst this
   exact⟨c,y3,y4,y5,y6,y7,hc,hv,rfl⟩
  | succ j ih=>
   intro i c y3 y4 y5 y6 y7 e hc hv
   obtain⟨c1,z6,z7,l1,v1,q1⟩:=C_ (m:=m) (i:=i) (l:=l) (c:=c) (h:=h) (d0:=some (f2 (fA m))) (d1:=some (.int l)) (d3:=some (.int i)) (d4:=some (f1 (eS m i))) (y6:=y6) (y7:=y7) hc (by omega) hm
   obtain⟨c',w3,w4,w5,w6,w7,lc,vc,qc⟩:=ih (i+1) c1 (some (.int i)) (some (f1 (eS m i))) (some (.int (lss i l))) z6 z7 (by omega) l1 (fun f hf=>by rw[v1 f hf,hv f hf,p_])
   refine⟨c',w3,w4,w5,w6,w7,lc,vc,?_⟩
   rw[List.range'_succ,List.map_cons,fu]
   have b:ROB [some (f2 (fA m)),some (.int l),some (.ref h.length),some (.int i),some (f1 (eS m i)),y5,y6,y7] (h++[.lst (c.map D.int)])=.ok (.nx [some (f2 (fA m)),some (.int l),some (.ref h.length),some (.int i),some (f1 (eS m i)),some (.int (lss i l)),z6,z7]) (h++[.lst (c1.map D.int)]):=by
    have eE:wL (f1 (eS m i)) (h++[.lst (c.map D.int)])=.ok (.snap (gL ((eS m i).map D.int))) (h++[.lst (c.map D.int)]):=rfl
    by_cases z:(i:Int)<l
    ·have le:lss i l=1:=if_pos z
     rw[le] at q1 ⊢
     simp[ROB,z,eE,q1]
    ·have le:lss i l=0:=if_neg z
     rw[le] at q1 ⊢
     simp[ROB,z,eE,q1]
   simp[b,qc]
 obtain⟨c',z3,z4,z5,z6,z7,lc,vc,q⟩:=key (m+1) 0 (List.replicate (m+2) 0) none none none none none (by omega) (by simp) (fun f hf=>by rw[DF,iF (by simpa using hf)];simp)
 have ce:c'=eS (m+1) l:=Kk (by rw[lc,jH]) fun f hf=>by
  rw[lc] at hf
  rw[vc f hf,vg (by omega)];rfl
 subst ce
 have en:wL (f2 (fA m)) (h++[.lst (List.replicate (m+2) (.int 0))])=.ok (.snap ((List.range' 0 (m+1)).map fun(i:Nat)=>D.tup [.int i,f1 (eS m i)])) (h++[.lst (List.replicate (m+2) (.int 0))]):=by
  show R.ok (Src.snap (gL ((fA m).map f1))) _=_
  rw[FQ,vQ,<- List.range_eq_range']
  congr 2
  refine List.map_congr_left fun i hi=>?_
  have hi:=List.mem_range.mp hi
  simp[fA,hi]
 have ex:=tD (h:=h) (ds:=(eS (m+1) l).map D.int) (t:=[]) w (by simp[deep])
 have ll:cp [f2 (fA m)] h=.ok (.int ((m+1:Nat):Int)) h:=by
  show R.ok (D.int (((fA m).map f1).length:Int)) h=_
  rw[List.length_map,vQ]
 have z1:(((m+1:Nat):Int)+1).toNat=m+2:=by omega
 have z2:m+2<=1000000:=by omega
 have z3:(((m+1:Nat):Int)+1).natAbs<=1000000:=by omega
 have z4:1<=(((m+1:Nat):Int)+1):=by omega
 rw[List.map_replicate] at q
 rw[Kd]
 generalize f2 (fA m)=FT at *
 show _=R.ok (D.frl ((eS (m+1) l).map D.int)) h
 generalize (eS (m+1) l).map D.int=W at *
 simp[-Int.natCast_add,bc,ll,z1,z2,z3,z4,en,q,ex]
noncomputable def rsD (k:Nat):List D:=(List.range (k+1)).map fun j=>f2 (fA j)
theorem JM (k:Nat):rsD (k+1)=rsD k++[f2 (fA (k+1))]:=by simp[rsD,List.range_succ]
theorem uc (k:Nat):(rsD k).length=k+1:=by simp[rsD]
theorem GI {k j:Nat} {i:Int} {h:Hh} (e:i=(j:Int)) (hj:j<=k):ixK (rsD k) i h=.ok (f2 (fA j)) h:=fV e (by rw[rsD,List.getElem?_map,List.getElem?_range (by omega)];rfl)
theorem Ed {k:Nat} {h:Hh}:ixK (rsD k) (-1) h=.ok (f2 (fA k)) h:=by
 have e:ixN (rsD k).length (-1)=some k:=by rw[uc];unfold ixN;simp;omega
 unfold ixK atI
 rw[e]
 have:(rsD k)[k]?=some (f2 (fA k)):=by simp[rsD]
 simp[this]
noncomputable def RSB:MS:=(f6 (iy iV (ag 1) (ae (fB az (kj m8 (ae (av (bS az) (ag 2) (cC (.int 1))) ao)) [1] tt1 (ai cN (ae (av dIx (ag 1) (cUn oH (cC (.int 1)))) (ae (ag 0) ao)))) ao)))
theorem Ky:eZ=fun ds h=>((cH 3 (aO (cb 1 (ai (cO v7) (ae (ai (cO az) (ae (ai (cO az) (ae (cC (.int 1)) ao)) ao)) ao))) (aO (fO (kj t_ (ae (cC (.int 1)) (ae (av (bS az) (ag 0) (cC (.int 1))) ao))) (gN 2) RSB) (bG (ag 1))))) ds h).bind (cJ h):=rfl
theorem C6 {n:Nat} {h:Hh} (hn:n<=12) (w:Wf h):eZ [.int n] h=.ok (.frl (rsD n)) h:=by
 have low:∀k j,b_ j (rsD k)=true:=fun k j=>n4 fun d hd=>by
  obtain⟨i,_,rfl⟩:=List.mem_map.mp hd
  show b_ j ((fA i).map f1)=true
  exact tH fun b=>by show b_ j (b.map D.int)=true;exact yi
 obtain⟨q,e⟩:=Bx (σ:=Nat × Option D) (tg:=gN 2) (body:=RSB) 1 n (fun s=>[some (.int n),some (.ref h.length),s.2]) (fun s=>h++[.lst (rsD s.1)]) (fun s i=>(i+1,some (.int (1+i)))) (fun i s=>s.1=i) (0,none) rfl (fun i s hi hs=>⟨rfl,.inl (by
   subst hs
   obtain⟨i,y⟩:=s
   dsimp only at hi ⊢
   have c:df tt1 (ai cN (ae (av dIx (ag 1) (cUn oH (cC (.int 1)))) (ae (ag 0) ao))) (fun x=>[some x,some (.ref h.length)]) (bT 0 (i+2)) (h++[.lst (rsD i)])=.ok ((fA (i+1)).map f1) (h++[.lst (rsD i)]):=by
    have w2:Wf (h++[.lst (rsD i)]):=w.app (by show b_ _ _=true;exact low i _)
    rw[Am (fun j=>f1 (eS (i+1) j)) (fun j hj=>by
     have r:=Ea (m:=i) (l:=(j:Int)) (h:=h++[.lst (rsD i)]) (by omega) w2
     simp[Ed,r]),fA,List.map_map]
    rfl
   have z1:(1+(i:Int)+1).natAbs<=1000000:=by omega
   have z2:(1+(i:Int)+1).toNat=i+2:=by omega
   have z3:i+2<=1000000:=by omega
   have z4:(rsD i).length<1000000:=by rw[uc];omega
   rw[JM]
   show _=R.ok (Fl.nx [some (.int n),some (.ref h.length),some (.int (1+i))]) (h++[.lst (rsD i++[.frl ((fA (i+1)).map f1)])])
   generalize (fA (i+1)).map f1=W at *
   generalize rsD i=V at *
   simp[RSB,z1,z2,z3,z4,c])⟩)
 generalize List.foldl _ _ _=s9 at q e
 obtain⟨i9,y9⟩:=s9
 dsimp only at q e
 subst e
 have dp:(rsD i9).all (deep 7)=true:=by
  rw[List.all_eq_true]
  intro d hd
  obtain⟨j,_,rfl⟩:=List.mem_map.mp hd
  simp[f2,f1,deep,List.all_eq_true]
 have ex:=tD (h:=h) (ds:=rsD i9) (t:=[]) w dp
 have r0:rsD 0=[.frl [.frl [.int 1]]]:=rfl
 rw[r0] at q
 have z1:(i9:Int)+1 - 1=i9:=by omega
 have z2:i9<=1000000:=by omega
 have z3:((i9:Int)+1).natAbs<=1000000:=by omega
 rw[Ky]
 generalize rsD i9=V at *
 simp[bc,z1,z2,z3,q,ex]
theorem DY {σ:Type} {tg:D->En->Hh->R En} {body:MS} (enc:Nat->D) (N:Nat) (E:σ->En) (G:σ->Hh) (I:Nat->σ->Prop)
  (st:∀i s,i<N->I i s->∃s',I (i+1) s'/\(tg (enc i) (E s) (G s)).bind body=.ok (.nx (E s')) (G s')) :
  ∀(k i:Nat) (s:σ),i+k=N->I i s->∃s',dw tg body ((List.range' i k).map enc) (E s) (G s)=.ok (.nx (E s')) (G s')/\I N s':=by
 intro k
 induction k with
 | zero=>
  intro i s e hi
  have:i=N:=by omega
  subst this
  exact⟨s,rfl,hi⟩
 | succ k ih=>
  intro i s e hi
  obtain⟨s1,a,b⟩:=st i s (by omega) hi
  obtain⟨s2,c,d⟩:=ih (i+1) s1 (by omega) a
  refine⟨s2,?_,d⟩
  rw[List.range'_succ,List.map_cons,dw,<- dm,b]
  exact c
noncomputable abbrev CT:=List (List Int × Int)
noncomputable def gi:CT->List Int->Option Int
 | [],_=>none
 | p::r,k=>if p.1=k then some p.2 else gi r k
noncomputable def vx (C:CT) (k:List Int) (v:Int):CT:=if (C.any fun kv=>decide (kv.1=k))=true then C.map (fun kv=>if kv.1=k then (kv.1,v) else kv) else C++[(k,v)]
noncomputable def eK (k:List Int):List Key:=k.map Sum.inl
noncomputable def encC (C:CT):List (List Key × D):=C.map fun p=>(eK p.1,.int p.2)
theorem vq:∀{a b:List Int},eK a=eK b->a=b
 | [],[],_=>rfl
 | [],_::_,h=>by simp[eK] at h
 | _::_,[],h=>by simp[eK] at h
 | a::r,b::t,h=>by
  unfold eK at h
  rw[List.map_cons,List.map_cons] at h
  obtain⟨h1,h2⟩:=List.cons.inj h
  cases h1
  rw[vq h2]
theorem Gw (a b:List Int):decide (eK a=eK b)=decide (a=b):=by
 by_cases c:a=b
 ·rw[c];simp
 ·have:¬ eK a=eK b:=fun z=>c (vq z)
  simp[c,this]
theorem lQ (k:List Int):∀C:CT,uh (encC C) (eK k)=(gi C k).map D.int
 | []=>rfl
 | p::r=>by
  show(if eK p.1=eK k then some (D.int p.2) else uh (encC r) (eK k))=(if p.1=k then some p.2 else gi r k).map D.int
  by_cases c:p.1=k
  ·rw[if_pos c,if_pos (by rw[c])];rfl
  ·rw[if_neg c,if_neg (fun z=>c (vq z)),lQ k r]
theorem DQ (C:CT) (k:List Int) (v:Int):Bg (encC C) (eK k) (.int v)=encC (vx C k v):=by
 have a:((encC C).any fun kv=>decide (kv.1=eK k))=C.any fun kv=>decide (kv.1=k):=by
  unfold encC
  rw[List.any_map]
  congr 1
  funext p
  exact Gw p.1 k
 unfold Bg vx
 rw[a]
 by_cases c:(C.any fun kv=>decide (kv.1=k))=true
 ·rw[if_pos c,if_pos c]
  unfold encC
  rw[List.map_map,List.map_map]
  refine List.map_congr_left fun p _=>?_
  show(if eK p.1=eK k then (eK p.1,D.int v) else (eK p.1,.int p.2))=((eK (if p.1=k then (p.1,v) else p).1),D.int (if p.1=k then (p.1,v) else p).2)
  by_cases z:p.1=k
  ·rw[if_pos z,if_pos (by rw[z])]
  ·rw[if_neg z,if_neg (fun q=>z (vq q))]
 ·rw[if_neg c,if_neg c]
  unfold encC
  rw[List.map_append];rfl
theorem sP:∀o:List Int,rf (o.map D.int)=some (eK o)
 | []=>rfl
 | a::r=>by
  have:=sP r
  rw[List.map_cons]
  unfold rf
  rw[this];rfl
theorem rg (o:List Int):oZ (.tup (o.map D.int))=some (eK o):=sP o
theorem DP (o:List Int):tupK (eK o)=.tup (o.map D.int):=by
 unfold tupK eK
 rw[List.map_map];rfl
theorem vL {k q:List Int} {v:Int}:∀C:CT,gi (C.map fun kv=>if kv.1=k then (kv.1,v) else kv) q=if q=k then (if (C.any fun kv=>decide (kv.1=k))=true then some v else none) else gi C q
 | []=>by simp[gi]
 | p::C=>by
  have ih:=vL (k:=k) (q:=q) (v:=v) C
  rw[List.map_cons,List.any_cons]
  by_cases c:p.1=k
  ·rw[if_pos c]
   show(if p.1=q then some v else gi (C.map _) q)=_
   by_cases z:q=k
   ·rw[if_pos (by rw[c,z]),if_pos z,if_pos (by simp[c])]
   ·rw[if_neg (fun e=>z (by rw[<- e,c])),ih,if_neg z,if_neg z]
    show _=if p.1=q then some p.2 else gi C q
    rw[if_neg (fun e=>z (by rw[<- e,c]))]
  ·rw[if_neg c]
   show(if p.1=q then some p.2 else gi (C.map _) q)=_
   by_cases z:q=k
   ·rw[if_neg (fun e=>c (by rw[e,z])),ih,if_pos z,if_pos z,show decide (p.1=k)=false from decide_eq_false c,Bool.false_or]
   ·rw[ih,if_neg z,if_neg z];rfl
theorem wH {k q:List Int} {v:Int}:∀C:CT,gi (C++[(k,v)]) q=match gi C q with | some w=>some w | none=>if k=q then some v else none
 | []=>rfl
 | p::C=>by
  show(if p.1=q then some p.2 else gi (C++[(k,v)]) q)=match (if p.1=q then some p.2 else gi C q) with | some w=>some w | none=>if k=q then some v else none
  by_cases c:p.1=q
  ·rw[if_pos c,if_pos c]
  ·rw[if_neg c,if_neg c,wH C]
theorem m7 {k:List Int}:∀C:CT,(C.any fun kv=>decide (kv.1=k))=false->gi C k=none
 | [],_=>rfl
 | p::C,h=>by
  rw[List.any_cons,Bool.or_eq_false_iff] at h
  show(if p.1=k then _ else _)=_
  rw[if_neg (of_decide_eq_false h.1),m7 C h.2]
theorem DI (C:CT) (k q:List Int) (v:Int):gi (vx C k v) q=if q=k then some v else gi C q:=by
 unfold vx
 cases c:(C.any fun kv=>decide (kv.1=k)) with
 | true=>rw[if_pos rfl,vL,c,if_pos rfl]
 | false=>
  rw[if_neg Bool.false_ne_true,wH]
  by_cases z:q=k
  ·rw[z,m7 C c,if_pos rfl]
  ·rw[if_neg z]
   cases gi C q with
   | none=>simp;exact fun e=>z e.symm
   | some w=>rfl
noncomputable def gC (C:CT) (q:List Int):Int:=(gi C q).getD 0
noncomputable def Ao (C:CT) (k:List Int) (m:Int):CT:=vx C k (gC C k+m)
theorem ER (C:CT) (k q:List Int) (m:Int):gC (Ao C k m) q=gC C q+if q=k then m else 0:=by
 unfold gC Ao
 rw[DI]
 by_cases z:q=k
 ·rw[if_pos z,if_pos z,z];rfl
 ·rw[if_neg z,if_neg z];omega
theorem CH {C:CT} {k:List Int} {v:Int} {p:List Int × Int} (h:p∈vx C k v):p.1=k\/∃q∈C,q.1=p.1:=by
 unfold vx at h
 split at h
 ·obtain⟨q,hq,e⟩:=List.mem_map.mp h
  by_cases c:q.1=k
  ·rw[if_pos c] at e;subst e;exact .inl c
  ·rw[if_neg c] at e;subst e;exact .inr ⟨q,hq,rfl⟩
 ·rcases List.mem_append.mp h with z | z
  ·exact .inr ⟨p,z,rfl⟩
  ·simp only[List.mem_singleton] at z;subst z;exact .inl rfl
theorem Gv {C:CT} {k:List Int} {v:Int} (h:(C.map (·.1)).Nodup):((vx C k v).map (·.1)).Nodup:=by
 unfold vx
 split
 ·have e:(C.map fun kv=>if kv.1=k then (kv.1,v) else kv).map (·.1)=C.map (·.1):=by
   rw[List.map_map]
   refine List.map_congr_left fun p _=>?_
   show(if p.1=k then (p.1,v) else p).1=p.1
   split<;>rfl
  rw[e];exact h
 ·rename_i c
  rw[List.map_append,List.nodup_append]
  refine⟨h,by simp,fun a ha b hb=>?_⟩
  simp only[List.map_cons,List.map_nil,List.mem_singleton] at hb
  subst hb
  intro e
  subst e
  obtain⟨q,hq,e⟩:=List.mem_map.mp ha
  exact c (List.any_eq_true.mpr ⟨q,hq,by simpa using e⟩)
theorem yG {k:List Int}:∀(C:CT),(C.map (·.1)).Nodup->(C.map fun p=>if p.1=k then p.2 else 0).sum=gC C k
 | [],_=>rfl
 | p::C,h=>by
  rw[List.map_cons,List.nodup_cons] at h
  have ih:=yG (k:=k) C h.2
  rw[List.map_cons,List.sum_cons,ih]
  unfold gC
  show _=(if p.1=k then some p.2 else gi C k).getD 0
  by_cases c:p.1=k
  ·have:gi C k=none:=m7 C (by
    cases z:(C.any fun kv=>decide (kv.1=k)) with
    | false=>rfl
    | true=>
     obtain⟨q,hq,e⟩:=List.any_eq_true.mp z
     exact absurd (List.mem_map.mpr ⟨q,hq,(of_decide_eq_true e).trans c.symm⟩) h.1)
   rw[if_pos c,if_pos c,this]
   show p.2+0=p.2
   omega
  ·rw[if_neg c,if_neg c];omega
theorem zA {X:Type} [DecidableEq X]:∀(as bs:List X),as.Nodup->(∀a∈as,a∈bs)->as.length<=bs.length
 | [],bs,_,_=>Nat.zero_le _
 | a::as,bs,nd,s=>by
  obtain⟨h1,h2⟩:=List.nodup_cons.mp nd
  have hm:=s a List.mem_cons_self
  have ih:=zA as (bs.erase a) h2 fun x hx=>by
   have hx':=s x (List.mem_cons_of_mem _ hx)
   have ne:x≠a:=fun e=>h1 (e ▸ hx)
   exact(List.mem_erase_of_ne ne).mpr hx'
  rw[List.length_erase_of_mem hm] at ih
  have:0<bs.length:=List.length_pos_of_mem hm
  simp only[List.length_cons]
  omega
theorem uM:∀{C:CT},(C.map (·.1)).Nodup->∀p∈C,gi C p.1=some p.2
 | [],_,p,h=>by cases h
 | q::C,nd,p,h=>by
  rw[List.map_cons,List.nodup_cons] at nd
  show(if q.1=p.1 then some q.2 else gi C p.1)=some p.2
  rcases List.mem_cons.mp h with rfl | h
  ·rw[if_pos rfl]
  ·rw[if_neg (fun e=>nd.1 (List.mem_map.mpr ⟨p,h,e.symm⟩))]
   exact uM nd.2 p h
noncomputable def leI (p l:Int):Int:=if p<=l then 1 else 0
noncomputable def stP (q:List Int × Int) (L:CT) (p:Nat):CT:=Ao L [(p:Int),gI q.1 1+leI p (gI q.1 0)] q.2
noncomputable def stQ (s:Nat) (L:CT) (q:List Int × Int):CT:=(List.range (s+1)).foldl (stP q) L
noncomputable def EC:Nat->CT
 | 0=>[([0,0],1)]
 | j+1=>(EC j).foldl (stQ (j+1)) []
structure EOk (s:Nat) (C:CT):Prop where
 nd:(C.map (·.1)).Nodup
 ks:∀p∈C,∃r k:Nat,p.1=[(r:Int),(k:Int)]/\r<=s/\k<=s
theorem Gy (p l:Int):0<=leI p l/\leI p l<=1:=by unfold leI;split<;>omega
theorem EOk.put {s:Nat} {L:CT} {q:List Int × Int} {p:Nat} (o:EOk (s+1) L) (hq:∃r k:Nat,q.1=[(r:Int),(k:Int)]/\r<=s/\k<=s) (hp:p<=s+1):EOk (s+1) (stP q L p):=by
 obtain⟨r,k,e,hr,hk⟩:=hq
 have l:=Gy p r
 refine⟨Gv o.nd,fun z hz=>?_⟩
 rcases CH hz with y | ⟨q',hq',y⟩
 ·rw[y,e]
  exact⟨p,(k+leI p r).toNat,by simp[gI];omega,hp,by omega⟩
 ·rw[<- y];exact o.ks q' hq'
theorem EOk.fold {s:Nat} {q:List Int × Int} (hq:∃r k:Nat,q.1=[(r:Int),(k:Int)]/\r<=s/\k<=s):∀(l:List Nat) (L:CT),(∀p∈l,p<=s+1)->EOk (s+1) L->EOk (s+1) (l.foldl (stP q) L)
 | [],L,_,o=>o
 | p::l,L,h,o=>EOk.fold hq l _ (fun x hx=>h x (List.mem_cons_of_mem _ hx)) (o.put hq (h p List.mem_cons_self))
theorem Dq {s:Nat} {L:CT} {q:List Int × Int} (hq:∃r k:Nat,q.1=[(r:Int),(k:Int)]/\r<=s/\k<=s) (o:EOk (s+1) L):EOk (s+1) (stQ (s+1) L q):=
 EOk.fold hq _ L (fun p hp=>by have:=List.mem_range.mp hp;omega) o
theorem zD {s:Nat}:∀(M L:CT),(∀q∈M,∃r k:Nat,q.1=[(r:Int),(k:Int)]/\r<=s/\k<=s)->EOk (s+1) L->EOk (s+1) (M.foldl (stQ (s+1)) L)
 | [],L,_,o=>o
 | q::M,L,h,o=>zD M _ (fun x hx=>h x (List.mem_cons_of_mem _ hx)) (Dq (h q List.mem_cons_self) o)
theorem sS:∀s,EOk s (EC s)
 | 0=>⟨by simp[EC],fun p hp=>by simp[EC] at hp;subst hp;exact⟨0,0,rfl,by omega,by omega⟩⟩
 | s+1=>zD (EC s) [] (sS s).ks ⟨by simp,fun p hp=>by cases hp⟩
theorem EOk.len {s:Nat} {C:CT} (b:EOk s C):C.length<=(s+1)*(s+1):=by
 have:=zA (C.map (·.1)) ((List.range ((s+1)*(s+1))).map fun i=>[((i / (s+1):Nat):Int),((i % (s+1):Nat):Int)]) b.nd (fun a ha=>by
  obtain⟨p,hp,rfl⟩:=List.mem_map.mp ha
  obtain⟨r,k,e,hr,hk⟩:=b.ks p hp
  rw[e]
  refine List.mem_map.mpr ⟨r*(s+1)+k,List.mem_range.mpr ?_,?_⟩
  ·have:r*(s+1)<=s*(s+1):=Nat.mul_le_mul_right _ hr
   have:(s+1)*(s+1)=s*(s+1)+(s+1):=by rw[Nat.succ_mul]
   omega
  ·have e1:(r*(s+1)+k) / (s+1)=r:=by
    rw[Nat.mul_comm,Nat.mul_add_div (by omega),Nat.div_eq_of_lt (by omega)];omega
   have e2:(r*(s+1)+k) % (s+1)=k:=by
    rw[Nat.mul_comm,Nat.mul_add_mod,Nat.mod_eq_of_lt (by omega)]
   rw[e1,e2])
 simpa using this
theorem EOk.IA {s:Nat} {C:CT} (b:EOk s C) (hs:s<=12):C.length<=169:=by
 have:=b.len
 have:(s+1)*(s+1)<=13*13:=Nat.mul_le_mul (by omega) (by omega)
 omega
theorem De {q:List Int × Int} {p:Nat} {f:Int}:∀(l:List Nat) (L:CT),l.Nodup->gC (l.foldl (stP q) L) [(p:Int),f]=gC L [(p:Int),f]+if p∈l/\f=gI q.1 1+leI p (gI q.1 0) then q.2 else 0
 | [],L,_=>by simp
 | x::l,L,nd=>by
  obtain⟨n1,n2⟩:=List.nodup_cons.mp nd
  rw[List.foldl_cons,De l _ n2]
  unfold stP
  rw[ER]
  by_cases c:p=x
  ·subst c
   have nl:¬ (p∈l/\f=gI q.1 1+leI p (gI q.1 0)):=fun z=>n1 z.1
   rw[if_neg nl]
   by_cases d:f=gI q.1 1+leI p (gI q.1 0)
   ·rw[if_pos (show[(p:Int),f]=[(p:Int),gI q.1 1+leI p (gI q.1 0)] by rw[<- d]),if_pos (show p∈p::l/\_ from⟨List.mem_cons_self,d⟩)];omega
   ·have d1:¬ [(p:Int),f]=[(p:Int),gI q.1 1+leI p (gI q.1 0)]:=fun z=>d (by simpa using z)
    have d2:¬ (p∈p::l/\f=gI q.1 1+leI p (gI q.1 0)):=fun z=>d z.2
    rw[if_neg d1,if_neg d2];omega
  ·have c1:¬ [(p:Int),f]=[(x:Int),gI q.1 1+leI x (gI q.1 0)]:=fun z=>c (by simp at z;omega)
   rw[if_neg c1]
   by_cases d:p∈l/\f=gI q.1 1+leI p (gI q.1 0)
   ·rw[if_pos d,if_pos ⟨List.mem_cons_of_mem _ d.1,d.2⟩];omega
   ·rw[if_neg d,if_neg (fun z=>d ⟨(List.mem_cons.mp z.1).resolve_left c,z.2⟩)];omega
theorem Cc {s p:Nat} {f:Int} (hp:p<=s):∀(M L:CT),gC (M.foldl (stQ s) L) [(p:Int),f]=gC L [(p:Int),f]+(M.map fun q=>if f=gI q.1 1+leI p (gI q.1 0) then q.2 else 0).sum
 | [],L=>by simp
 | q::M,L=>by
  rw[List.foldl_cons,Cc hp M,List.map_cons,List.sum_cons]
  unfold stQ
  rw[De _ _ List.nodup_range]
  by_cases c:f=gI q.1 1+leI p (gI q.1 0)
  ·rw[if_pos ⟨List.mem_range.mpr (by omega),c⟩,if_pos c];omega
  ·rw[if_neg (fun z=>c z.2),if_neg c];omega
theorem nL {s:Nat} (F:Nat->Int):∀(M:CT),(∀q∈M,∃r k:Nat,q.1=[(r:Int),(k:Int)]/\r<=s/\k<=s)->(M.map fun q=>if gI q.1 1=F (gI q.1 0).toNat then q.2 else 0).sum=sg (fun l=>(M.map fun q=>if q.1=[(l:Int),F l] then q.2 else 0).sum) (s+1)
 | [],_=>by simp[ue]
 | q::M,h=>by
  obtain⟨r,k,e,hr,hk⟩:=h q List.mem_cons_self
  have ih:=nL F M fun x hx=>h x (List.mem_cons_of_mem _ hx)
  rw[List.map_cons,List.sum_cons,ih]
  have g0:gI q.1 0=r:=by rw[e];rfl
  have g1:gI q.1 1=k:=by rw[e];rfl
  rw[g0,g1]
  have key:∀n,sg (fun l=>((q::M).map fun q=>if q.1=[(l:Int),F l] then q.2 else 0).sum) n=(if r<n/\(k:Int)=F r then q.2 else 0)+sg (fun l=>(M.map fun q=>if q.1=[(l:Int),F l] then q.2 else 0).sum) n:=by
   intro n
   induction n with
   | zero=>simp[DF]
   | succ n ihn=>
    rw[p_,p_,ihn,List.map_cons,List.sum_cons,e]
    by_cases c:r=n
    ·subst c
     rw[if_neg (fun z=>by omega)]
     by_cases d:(k:Int)=F r
     ·rw[if_pos (by rw[d]),if_pos ⟨by omega,d⟩];omega
     ·rw[if_neg (fun z=>d (by simpa using z)),if_neg (fun z=>d z.2)];omega
    ·rw[if_neg (show ¬ [(r:Int),(k:Int)]=[(n:Int),F n] from fun z=>c (by simp at z;omega))]
     by_cases d:r<n/\(k:Int)=F r
     ·rw[if_pos d,if_pos ⟨by omega,d.2⟩];omega
     ·rw[if_neg d,if_neg (fun z=>d ⟨by omega,z.2⟩)];omega
  rw[key (s+1)]
  have tn:((r:Int)).toNat=r:=by omega
  rw[tn]
  by_cases d:(k:Int)=F r
  ·rw[if_pos d,if_pos ⟨by omega,d⟩]
  ·rw[if_neg d,if_neg (fun z=>d z.2)]
theorem yj (f:Nat->Int):∀n,sg (fun i=>f (n - 1 - i)) n=sg f n
 | 0=>rfl
 | n+1=>by
  have a:=CJ (fun i=>f (n+1 - 1 - i)) 1 n
  rw[Nat.add_comm 1 n] at a
  rw[a,p_,DF,p_]
  have:sg (fun i=>f (n+1 - 1 - (1+i))) n=sg (fun i=>f (n - 1 - i)) n:=jY fun i hi=>by
   show f (n+1 - 1 - (1+i))=f (n - 1 - i)
   congr 1;omega
  rw[this,yj f n]
  show 0+f n+_=_
  omega
theorem B9:∀(s p:Nat) (f:Int),p<=s->gC (EC s) [(p:Int),f]=Rn s ((s:Int) - p) f
 | 0,p,f,h=>by
  have:p=0:=by omega
  subst this
  show(if [(0:Int),0]=[((0:Nat):Int),f] then some (1:Int) else none).getD 0=if f=0 then 1 else 0
  by_cases c:f=0
  ·subst c;rfl
  ·rw[if_neg (fun z=>c (by simp at z;omega)),if_neg c];rfl
 | s+1,p,f,h=>by
  have b:=sS s
  show gC ((EC s).foldl (stQ (s+1)) []) [(p:Int),f]=_
  rw[Cc h]
  have e1:((EC s).map fun q=>if f=gI q.1 1+leI p (gI q.1 0) then q.2 else 0)=(EC s).map fun q=>if gI q.1 1=(fun l:Nat=>f - leI p l) (gI q.1 0).toNat then q.2 else 0:=List.map_congr_left fun q hq=>by
   obtain⟨r,k,e,_,_⟩:=b.ks q hq
   rw[e]
   have g0:gI [(r:Int),(k:Int)] 0=r:=rfl
   have g1:gI [(r:Int),(k:Int)] 1=k:=rfl
   have tn:((r:Int)).toNat=r:=by omega
   rw[g0,g1,tn]
   by_cases c:f=(k:Int)+leI p r
   ·rw[if_pos c,if_pos (by show(k:Int)=f - leI p r;omega)]
   ·rw[if_neg c,if_neg (by show ¬ (k:Int)=f - leI p r;omega)]
  rw[e1,nL (fun l=>f - leI p l) (EC s) b.ks]
  have e2:sg (fun l=>((EC s).map fun q=>if q.1=[(l:Int),(fun l:Nat=>f - leI p l) l] then q.2 else 0).sum) (s+1)=sg (fun l=>(fun(r:Nat)=>Rn s r (f - lss r (((s+1:Nat):Int) - p))) (s+1 - 1 - l)) (s+1):=jY fun l hl=>by
   show((EC s).map fun q=>if q.1=[(l:Int),f - leI p l] then q.2 else 0).sum=Rn s ((s+1 - 1 - l:Nat):Int) (f - lss (s+1 - 1 - l) (((s+1:Nat):Int) - p))
   rw[yG _ b.nd,B9 s l _ (by omega),show((s+1 - 1 - l:Nat):Int)=(s:Int) - l by omega]
   congr 2
   unfold leI lss
   by_cases c:(p:Int)<=l
   ·rw[if_pos c,if_pos (by omega)]
   ·rw[if_neg c,if_neg (by omega)]
  rw[e2,yj (fun(r:Nat)=>Rn s r (f - lss r (((s+1:Nat):Int) - p))) (s+1)]
  show 0+Rn (s+1) (((s+1:Nat):Int) - p) f=_
  omega
theorem HV {s:Nat} {k:Int}:((EC s).map fun q=>if gI q.1 1=k then q.2 else 0).sum=Rn (s+1) 0 k:=by
 have b:=sS s
 have:=nL (fun _=>k) (EC s) b.ks
 rw[this]
 have e2:sg (fun l=>((EC s).map fun q=>if q.1=[(l:Int),k] then q.2 else 0).sum) (s+1)=sg (fun l=>(fun r:Nat=>Rn s r k) (s+1 - 1 - l)) (s+1):=jY fun l hl=>by
  show _=Rn s ((s+1 - 1 - l:Nat):Int) k
  rw[yG _ b.nd,B9 s l _ (by omega),show((s+1 - 1 - l:Nat):Int)=(s:Int) - l by omega]
 rw[e2,yj (fun r:Nat=>Rn s r k) (s+1)]
 show _=sg (fun r=>Rn s r (k - lss r 0)) (s+1)
 refine jY fun r _=>?_
 have:lss r 0=0:=if_neg (by omega)
 rw[this,Int.sub_zero]
noncomputable def hpD (s:Nat) (L:CT):Hh:=((List.range (s+1)).map fun j=>O.dit (encC (EC j)))++[.dit (encC L)]
theorem F4 {s:Nat} {L:CT}:eh (hpD s L) s=some (encC (EC s)):=by
 unfold eh hpD
 rw[List.getElem?_append_left (by simp),List.getElem?_map,List.getElem?_range (by omega)];rfl
theorem BK {s:Nat} {L:CT}:eh (hpD s L) (s+1)=some (encC L):=by
 unfold eh hpD
 rw[List.getElem?_append_right (by simp)];simp
theorem Ee {s:Nat} {L M:CT}:(hpD s L).set (s+1) (.dit (encC M))=hpD s M:=by
 unfold hpD
 rw[List.set_append_right _ _ (by simp)];simp
noncomputable def HEC (s:Nat):Hh:=(List.range (s+1)).map fun j=>O.dit (encC (EC j))
theorem GZ (s:Nat):hpD s (EC (s+1))=HEC (s+1):=by
 unfold hpD HEC
 rw[List.range_succ (n:=s+1),List.map_append];rfl
noncomputable def CE8:ME:=(ai cG (ae (ag 7) (ae (av (bS az) (ag 6) (ai yt (ae (av dLe (ag 7) (ag 5)) ao))) ao)))
noncomputable def PLB:MS:=(aO (cb 8 CE8) (kL tj (ag 4) (ag 8) (av (bS az) (qt (ag 4) (ag 8) (cC (.int 0))) (av jP (ag 2) (ai cG (ae (ag 5) (ae (ag 6) ao)))))))
theorem HX {s l f p:Nat} {m:Int} {L:CT} {d0 d1 d3 y8:Option D} (hv:gi (EC s) [(l:Int),(f:Int)]=some m) (hL:L.length<=900000):∃z8,PLB [d0,d1,some (.ref s),d3,some (.ref (s+1)),some (.int l),some (.int f),some (.int p),y8] (hpD s L)=.ok (.nx [d0,d1,some (.ref s),d3,some (.ref (s+1)),some (.int l),some (.int f),some (.int p),z8]) (hpD s (stP ([(l:Int),(f:Int)],m) L p)):=by
 obtain⟨t,ht⟩:∃t:Int,(f:Int)+leI p l=t:=⟨_,rfl⟩
 refine⟨some (.tup [.int p,.int t]),?_⟩
 have es:stP ([(l:Int),(f:Int)],m) L p=Ao L [(p:Int),t] m:=by
  unfold stP
  have g0:gI [(l:Int),(f:Int)] 0=l:=rfl
  have g1:gI [(l:Int),(f:Int)] 1=f:=rfl
  dsimp only
  rw[g0,g1,ht]
 rw[es]
 have k8:CE8 [d0,d1,some (.ref s),d3,some (.ref (s+1)),some (.int l),some (.int f),some (.int p),y8] (hpD s L)=.ok (.tup [.int p,.int t]) (hpD s L):=by
  unfold leI at ht
  unfold CE8
  by_cases c:(p:Int)<=l
  ·rw[if_pos c] at ht
   have c':p<=l:=by omega
   simp[c',ht]
  ·rw[if_neg c] at ht
   have c':¬ p<=l:=by omega
   simp[c',ht]
 have ky:oZ (.tup [.int (p:Int),.int t])=some (eK [(p:Int),t]):=rg [(p:Int),t]
 have kl:oZ (.tup [.int (l:Int),.int (f:Int)])=some (eK [(l:Int),(f:Int)]):=rg [(l:Int),(f:Int)]
 have gt:qt (ag 4) (ag 8) (cC (.int 0)) [d0,d1,some (.ref s),d3,some (.ref (s+1)),some (.int l),some (.int f),some (.int p),some (.tup [.int p,.int t])] (hpD s L)=.ok (.int (gC L [(p:Int),t])) (hpD s L):=by
  unfold qt
  show(match eh (hpD s L) (s+1) with | some _=>_ | none=>R.bad)=_
  rw[BK]
  show ua (.ref (s+1)) (.tup [.int (p:Int),.int t]) (.int 0) (hpD s L)=_
  unfold ua
  rw[ky]
  dsimp only
  rw[BK]
  dsimp only
  rw[lQ]
  unfold gC
  cases gi L [(p:Int),t]<;>rfl
 have gl:jP (.ref s) (.tup [.int (l:Int),.int (f:Int)]) (hpD s L)=.ok (.int m) (hpD s L):=by
  unfold jP
  rw[kl]
  dsimp only
  rw[F4]
  dsimp only
  rw[lQ,hv]
  rfl
 have pu:tj (.ref (s+1)) (.tup [.int (p:Int),.int t]) (.int (gC L [(p:Int),t]+m)) (hpD s L)=.ok () (hpD s (Ao L [(p:Int),t] m)):=by
  unfold tj
  rw[ky]
  dsimp only
  rw[BK]
  dsimp only
  rw[if_pos (by unfold encC;rw[List.length_map];omega),DQ,Ee]
  rfl
 generalize gC L [(p:Int),t]=G at *
 generalize hpD s (Ao L [(p:Int),t] m)=H2 at *
 unfold PLB
 simp[k8,gt,gl,pu]
theorem zP {s l f:Nat} {m:Int} {d0 d1 d3:Option D} (hs:s<12) (hl:l<=s) (hf:f<=s) (hv:gi (EC s) [(l:Int),(f:Int)]=some m):∀(ps:List Nat) (L:CT) (y7 y8:Option D),(∀p∈ps,p<=s+1)->EOk (s+1) L->∃z7 z8,dw (gN 7) PLB (ps.map fun(p:Nat)=>D.int p) [d0,d1,some (.ref s),d3,some (.ref (s+1)),some (.int l),some (.int f),y7,y8] (hpD s L)=.ok (.nx [d0,d1,some (.ref s),d3,some (.ref (s+1)),some (.int l),some (.int f),z7,z8]) (hpD s (ps.foldl (stP ([(l:Int),(f:Int)],m)) L))
 | [],L,y7,y8,_,_=>⟨y7,y8,rfl⟩
 | p::ps,L,y7,y8,h,o=>by
  have ll:=o.IA (by omega)
  obtain⟨z8,e⟩:=HX (s:=s) (l:=l) (f:=f) (p:=p) (m:=m) (L:=L) (d0:=d0) (d1:=d1) (d3:=d3) (y8:=y8) hv (by omega)
  obtain⟨u7,u8,q⟩:=zP (d0:=d0) (d1:=d1) (d3:=d3) hs hl hf hv ps _ (some (.int p)) z8 (fun x hx=>h x (List.mem_cons_of_mem _ hx)) (o.put (q:=([(l:Int),(f:Int)],m)) ⟨l,f,rfl,hl,hf⟩ (h p List.mem_cons_self))
  refine⟨u7,u8,?_⟩
  rw[List.map_cons,fu]
  simp only[vW,bV,List.set,e,pZ,q]
  rfl
noncomputable def KB:MS:=(fO (kj m8 (ae (av (bS az) (ag 3) (cC (.int 1))) ao)) (gN 7) PLB)
theorem w_ {s:Nat} {d0 d1:Option D} (hs:s<12):∀(M L:CT) (y5 y6 y7 y8:Option D),(∀q∈M,q∈EC s)->EOk (s+1) L->∃z5 z6 z7 z8,dw (gT2 5 6) KB (M.map fun p=>D.tup (p.1.map D.int)) [d0,d1,some (.ref s),some (.int ((s:Int)+1)),some (.ref (s+1)),y5,y6,y7,y8] (hpD s L)=.ok (.nx [d0,d1,some (.ref s),some (.int ((s:Int)+1)),some (.ref (s+1)),z5,z6,z7,z8]) (hpD s (M.foldl (stQ (s+1)) L))
 | [],L,y5,y6,y7,y8,_,_=>⟨y5,y6,y7,y8,rfl⟩
 | p::M,L,y5,y6,y7,y8,hM,b=>by
  have bs:=sS s
  have hp:=hM p List.mem_cons_self
  obtain⟨l,f,e,hl,hf⟩:=bs.ks p hp
  have hv:=uM bs.nd p hp
  rw[e] at hv
  have pe:p=([(l:Int),(f:Int)],p.2):=by rw[<- e]
  obtain⟨z7,z8,q⟩:=zP (d0:=d0) (d1:=d1) (d3:=some (.int ((s:Int)+1))) hs hl hf hv (List.range (s+1+1)) L y7 y8 (fun x hx=>by have:=List.mem_range.mp hx;omega) b
  rw[<- pe] at q
  have q:dw (gN 7) PLB ((List.range (s+1+1)).map fun(p:Nat)=>D.int p) [d0,d1,some (.ref s),some (.int ((s:Int)+1)),some (.ref (s+1)),some (.int l),some (.int f),y7,y8] (hpD s L)=.ok (.nx [d0,d1,some (.ref s),some (.int ((s:Int)+1)),some (.ref (s+1)),some (.int l),some (.int f),z7,z8]) (hpD s (stQ (s+1) L p)):=q
  rw[<- tO] at q
  obtain⟨u5,u6,u7,u8,o⟩:=w_ (d0:=d0) (d1:=d1) hs M (stQ (s+1) L p) (some (.int l)) (some (.int f)) z7 z8 (fun x hx=>hM x (List.mem_cons_of_mem _ hx)) (Dq ⟨l,f,e,hl,hf⟩ b)
  refine⟨u5,u6,u7,u8,?_⟩
  rw[List.map_cons,fu,e]
  have g:gT2 5 6 (.tup (([(l:Int),(f:Int)]:List Int).map D.int)) [d0,d1,some (.ref s),some (.int ((s:Int)+1)),some (.ref (s+1)),y5,y6,y7,y8] (hpD s L)=.ok [d0,d1,some (.ref s),some (.int ((s:Int)+1)),some (.ref (s+1)),some (.int l),some (.int f),y7,y8] (hpD s L):=rfl
  have z1:((s:Int)+1+1).natAbs<=1000000:=by omega
  have z2:((s:Int)+1+1).toNat=s+1+1:=by omega
  have z3:s+1+1<=1000000:=by omega
  have kb:KB [d0,d1,some (.ref s),some (.int ((s:Int)+1)),some (.ref (s+1)),some (.int l),some (.int f),y7,y8] (hpD s L)=.ok (.nx [d0,d1,some (.ref s),some (.int ((s:Int)+1)),some (.ref (s+1)),some (.int l),some (.int f),z7,z8]) (hpD s (stQ (s+1) L p)):=by
   generalize hpD s (stQ (s+1) L p)=H2 at *
   generalize hpD s L=H1 at *
   simp[KB,z1,z2,z3,q]
  rw[g,bV,kb,bV]
  exact o
noncomputable def SZB:MS:=(aO (cb 4 zK) (aO (fO (eB (ai (iN az) (ae (ag 2) ao))) (gT2 5 6) KB) (cb 2 (ag 4))))
theorem wY {s:Nat} {H:Hh} {C:CT} (e:eh H s=some (encC C)):iN az [.ref s] H=.ok (.frl (C.map fun p=>D.tup (p.1.map D.int))) H:=by
 unfold iN
 dsimp only
 rw[e]
 dsimp only
 have:((encC C).map fun kv=>tupK kv.1)=C.map fun p=>D.tup (p.1.map D.int):=by
  unfold encC
  rw[List.map_map]
  exact List.map_congr_left fun p _=>DP p.1
 rw[this];rfl
theorem HC {s:Nat} {d0 d1 y4 y5 y6 y7 y8:Option D} (hs:s<12):∃z4 z5 z6 z7 z8,SZB [d0,d1,some (.ref s),some (.int ((s:Int)+1)),y4,y5,y6,y7,y8] (HEC s)=.ok (.nx [d0,d1,some (.ref (s+1)),some (.int ((s:Int)+1)),z4,z5,z6,z7,z8]) (HEC (s+1)):=by
 obtain⟨z5,z6,z7,z8,q⟩:=w_ (s:=s) (d0:=d0) (d1:=d1) hs (EC s) [] y5 y6 y7 y8 (fun p hp=>hp) ⟨by simp,fun p hp=>by cases hp⟩
 have eq:(EC s).foldl (stQ (s+1)) []=EC (s+1):=rfl
 rw[eq,GZ] at q
 refine⟨some (.ref (s+1)),z5,z6,z7,z8,?_⟩
 have tn:∀env:En,zK env (HEC s)=.ok (.ref (s+1)) (hpD s []):=fun env=>by
  have l:(HEC s).length=s+1:=by simp[HEC]
  show R.ok (D.ref (HEC s).length) (HEC s++[.dit []])=_
  rw[l];rfl
 have ks:=wY (F4 (s:=s) (L:=[]))
 have l1:((EC s).map fun p=>D.tup (p.1.map D.int)).length<=1000000:=by
  have:=(sS s).IA (by omega)
  rw[List.length_map];omega
 generalize HEC (s+1)=H2 at *
 generalize hpD s []=H1 at *
 generalize HEC s=H0 at *
 generalize ((EC s).map fun p=>D.tup (p.1.map D.int))=KS at *
 simp[SZB,tn,ks,l1,q]
theorem EV {n:Nat} {k:Int} {h:Hh} (h1:1<=n) (hn:n<=12):e9 [.int n,.int k] h=.ok (.int (Rn n 0 k)) h:=by
 obtain⟨s,lp,ei⟩:=DY (σ:=Nat × Option D × Option D × Option D × Option D × Option D × Option D) (tg:=gN 3) (body:=SZB) (fun(i:Nat)=>D.int (1+i)) (n - 1) (fun s=>[some (.int n),some (.int k),some (.ref s.1),s.2.1,s.2.2.1,s.2.2.2.1,s.2.2.2.2.1,s.2.2.2.2.2.1,s.2.2.2.2.2.2]) (fun s=>HEC s.1) (fun i s=>s.1=i) (fun i s hi hs=>by
  obtain⟨j,y3,y4,y5,y6,y7,y8⟩:=s
  dsimp only at hs
  subst hs
  obtain⟨z4,z5,z6,z7,z8,q⟩:=HC (s:=j) (d0:=some (.int n)) (d1:=some (.int k)) (y4:=y4) (y5:=y5) (y6:=y6) (y7:=y7) (y8:=y8) (by omega)
  exact⟨(j+1,some (.int (1+j)),z4,z5,z6,z7,z8),rfl,by simp only[vW,bV,List.set];rw[Int.add_comm 1 (j:Int)];exact q⟩) (n - 1) 0 (0,none,none,none,none,none,none) (by omega) rfl
 obtain⟨j,y3,y4,y5,y6,y7,y8⟩:=s
 dsimp only at lp ei
 subst ei
 have dn:eh (HEC (n - 1)) (n - 1)=some (encC (EC (n - 1))):=by
  unfold eh HEC
  rw[List.getElem?_map,List.getElem?_range (by omega)];rfl
 have ks:=wY dn
 have b:=sS (n - 1)
 have l1:((EC (n - 1)).map fun p=>D.tup (p.1.map D.int)).length<=1000000:=by
  have:=b.IA (by omega)
  rw[List.length_map];omega
 have qc:df (a_ asB (av dEq (av dIx (ag 0) (cC (.int 1))) (ag 2))) (av jP (ag 1) (ag 0)) (fun x=>[some x,some (.ref (n - 1)),some (.int k)]) ((EC (n - 1)).map fun p=>D.tup (p.1.map D.int)) (HEC (n - 1))=.ok (((EC (n - 1)).filter fun q=>decide (gI q.1 1=k)).map fun q=>D.int q.2) (HEC (n - 1)):=
  comp_map (fun p:List Int × Int=>D.tup (p.1.map D.int)) (fun q=>decide (gI q.1 1=k)) (fun q=>D.int q.2) (EC (n - 1)) fun p hp=>by
   obtain⟨l,f,e,hl,hf⟩:=b.ks p hp
   have hv:=uM b.nd p hp
   have gl:jP (.ref (n - 1)) (.tup (p.1.map D.int)) (HEC (n - 1))=.ok (.int p.2) (HEC (n - 1)):=by
    unfold jP
    rw[rg]
    dsimp only
    rw[dn]
    dsimp only
    rw[lQ,hv]
    rfl
   have i1:ixK (p.1.map D.int) 1 (HEC (n - 1))=.ok (.int (gI p.1 1)) (HEC (n - 1)):=vB (j:=1) rfl (by rw[e];simp)
   generalize p.1.map D.int=PK at *
   generalize HEC (n - 1)=H at *
   exact⟨by simp[i1];rfl,fun _=>by simp[gl]⟩
 have sm:(((EC (n - 1)).filter fun q=>decide (gI q.1 1=k)).map fun q=>q.2).sum=Rn n 0 k:=by
  have e:=HV (s:=n - 1) (k:=k)
  rw[show n - 1+1=n by omega] at e
  rw[<- e]
  generalize EC (n - 1)=M
  induction M with
  | nil=>rfl
  | cons q M ih=>
   rw[List.filter_cons,List.map_cons,List.sum_cons,<- ih]
   by_cases c:gI q.1 1=k
   ·rw[if_pos (by simpa using c),if_pos c,List.map_cons,List.sum_cons]
   ·rw[if_neg (by simpa using c),if_neg c];omega
 have em:(((EC (n - 1)).filter fun q=>decide (gI q.1 1=k)).map fun q=>D.int q.2)=(((EC (n - 1)).filter fun q=>decide (gI q.1 1=k)).map fun q=>q.2).map D.int:=by rw[List.map_map];rfl
 rw[em] at qc
 have ex:cJ [] (.int (Rn n 0 k)) (HEC (n - 1))=.ok (.int (Rn n 0 k)) []:=by
  have:=eV (h:=[]) (t:=HEC (n - 1)) (d:=.int (Rn n 0 k)) Wf.nil rfl
  simpa using this
 have dsp:∀env:En,p6 (ai cG (ae (cC (.int 0)) (ae (cC (.int 0)) ao))) (cC (.int 1)) env []=.ok (.ref 0) (HEC 0):=fun env=>rfl
 have lp:dw (gN 3) SZB (bT 1 (n - 1)) [some (.int n),some (.int k),some (.ref 0),none,none,none,none,none,none] (HEC 0)=.ok (.nx [some (.int n),some (.int k),some (.ref (n - 1)),y3,y4,y5,y6,y7,y8]) (HEC (n - 1)):=by
  rw[<- lp,<- List.range_eq_range'];rfl
 have z0:((n:Int) - 1).toNat=n - 1:=by omega
 have z1:(n:Int).natAbs<=1000000:=by omega
 have z2:n - 1<=1000000:=by omega
 have z3:n<=1000000:=by omega
 have e2:e9=zV (fun ds h=>((cH 9 (aO (cb 2 (p6 (ai cG (ae (cC (.int 0)) (ae (cC (.int 0)) ao))) (cC (.int 1)))) (aO (fO (kj t_ (ae (cC (.int 1)) (ae (ag 0) ao))) (gN 3) SZB) (bG (ai xW (ae (fB az (eB (ai (iN az) (ae (ag 2) ao))) [2,1] (a_ asB (av dEq (av dIx (ag 0) (cC (.int 1))) (ag 2))) (av jP (ag 1) (ag 0))) ao)))))) ds h).bind (cJ h)):=rfl
 rw[e2]
 have lo:b_ 0 [.int (n:Int),.int k]=true:=rfl
 generalize HEC 0=H0 at *
 generalize HEC (n - 1)=H1 at *
 generalize Rn n 0 k=V at *
 generalize ((EC (n - 1)).map fun p=>D.tup (p.1.map D.int))=KS at *
 generalize (((EC (n - 1)).filter fun q=>decide (gI q.1 1=k)).map fun q=>q.2)=W at *
 simp[zV,lo,bc,dsp,z0,z1,z2,z3,lp,ks,l1,qc,sm,ex,js]
theorem FR {n:Nat} {xs:List Int} (o:Ord n xs) (h2:n<=20):∀x∈xs,sml x=true:=fun x hx=>l_ (o.lo x hx) (by have:=o.hi x hx;omega)
theorem eL {X:Type} {xs:List X} {lo hi:Option Int} {x:X} (hx:x∈bx xs lo hi):x∈xs:=List.mem_of_mem_drop (List.mem_of_mem_take hx)
theorem zB {d:D} (i:itm d=true) (nt:∀ds,d≠.tup ds) (r:RX d):Th d:=⟨i,fun ds e=>absurd e (nt ds),r⟩
theorem mQ {a b i:Int} (h:¬ (a<=i/\i<=b)):inR a b (.int i)=false:=decide_eq_false h
theorem rG {a b i:Int} (h:a<=i/\i<=b):inR a b (.int i)=true:=decide_eq_true h
theorem F7 {a b:Int} (h1:-10<=a) (h2:a<=10) (h3:b<=1000) (h4:a - 1<=b):JG a b:=by
 intro d hd
 simp only[wF,List.mem_cons,List.not_mem_nil,or_false] at hd
 rcases hd with rfl | rfl | rfl | rfl | rfl | rfl | rfl | rfl | rfl | rfl | rfl<;>first | exact⟨rfl,rfl⟩ | exact⟨rfl,mQ (by omega)⟩
noncomputable def Bad (a b:Int) (d:D):Prop:=itm d=true/\inR a b d=false
noncomputable def Fit (a b:Int) (d:D):Prop:=itm d=true/\inR a b d=true
noncomputable abbrev XN:Xc:=⟨"NoNumber", []⟩
noncomputable abbrev XR:Xc:=⟨"NoRow", []⟩
noncomputable abbrev XO:Xc:=⟨"NoOrder", []⟩
theorem Ik {a b:Int} {d:D} {h:Hh} (c:Bad a b d):aY [d,.int a,.int b] h=.err XN h:=IZ c.1 c.2
theorem G0 {a b:Int} {d:D} {h:Hh} (c:Fit a b d):aY [d,.int a,.int b] h=.ok .non h:=Kn c.1 c.2
noncomputable def Cs (n k:D):Prop:=Bad 1 12 n\/(Fit 1 12 n/\Bad 0 12 k)
theorem LX {n k:D} {h:Hh} (c:Cs n k):aK [n,k] h=.err XN h:=by
 rcases c with c | ⟨c,d⟩
 ·simp[aK,bc,Ik c]
 ·simp[aK,bc,G0 c,Ik d]
theorem IV {n k:D} {h:Hh} (c:Fit 1 12 n) (d:Fit 0 12 k):aK [n,k] h=.ok .non h:=by
 simp[aK,bc,G0 c,G0 d]
theorem Jb {n:Nat} {k:Int} {h:Hh} (hn:n<=12):bt [.frl (rsD n),.int k,.tup []] h=.ok (.int (Rn n 0 k)) h:=by
 have lr:(rsD n).length=n+1:=uc n
 have r1:ixK (rsD n) (n:Int) h=.ok (f2 (fA n)) h:=GI rfl (Nat.le_refl _)
 have r2:dIx (f2 (fA n)) (.int 0) h=.ok (f1 (eS n 0)) h:=by
  show ixK ((fA n).map f1) 0 h=_
  refine fV (j:=0) rfl ?_
  rw[List.getElem?_map,fA,List.getElem?_map,List.getElem?_range (by omega)];rfl
 have lo:gv [.tup []] h=.ok (.int 0) h:=by kernel_rfl
 have fa:fF [.tup []] h=.ok (.tup []) h:=by kernel_rfl
 have ll:cp [f1 (eS n 0)] h=.ok (.int ((n:Int)+1)) h:=by
  show R.ok (D.int (((eS n 0).map D.int).length:Int)) h=_
  rw[List.length_map,jH];rfl
 have ix:0<=k->k<(n:Int)+1->dIx (f1 (eS n 0)) (.int k) h=.ok (.int (Rn n 0 k)) h:=fun a b=>by
  show ixK ((eS n 0).map D.int) k h=_
  rw[vB (j:=k.toNat) (by omega) (by rw[jH];omega),vg (by omega),show((k.toNat:Nat):Int)=k by omega]
 have out:¬ (0<=k/\k<(n:Int)+1)->Rn n 0 k=0:=fun z=>by
  by_cases z0:0<=k
  ·exact yw _ _ _ (by omega)
  ·exact xN _ _ _ (by omega)
 generalize rsD n=RS at *
 generalize f1 (eS n 0)=W at *
 generalize f2 (fA n)=V at *
 by_cases c0:0<=k
 ·by_cases c1:k<(n:Int)+1
  ·simp[bt,bc,lr,lo,r1,r2,fa,ll,c0,c1,ix c0 c1]
  ·rw[out (fun z=>c1 z.2)]
   simp[bt,bc,lr,lo,r1,r2,fa,ll,c0,c1]
 ·rw[out (fun z=>c0 z.1)]
  simp[bt,bc,lr,lo,r1,r2,fa,ll,c0]
theorem Aj {n:Nat} {k:Int} {h:Hh} (hn:n<=12) (w:Wf h):bj [.int n,.int k] h=.ok (.clo "begun_count" [.frl (rsD n),.int k]) h:=by
 have r:=C6 (n:=n) (h:=h) hn w
 delta bj EJ
 simp[r,yy]
theorem Kp {n:Nat} {k:Int} {env:En} {h:Hh} (hn:n<=12) (e:ag 3 env h=.ok (.clo "begun_count" [.frl (rsD n),.int k]) h):qM wR (ag 3) (ae (ai cG ao) ao) env h=.ok (.int (Rn n 0 k)) h:=by
 have b:=Jb (n:=n) (k:=k) (h:=h) hn
 unfold qM
 rw[e]
 simp[b]
theorem K3 {n:Nat} {k:Int} {x:D} {h:Hh} (w:Wf h) (h1:1<=n) (hn:n<=12) (k0:0<=k) (k1:k<=12) (c:Bad 0 (Rn n 0 k - 1) x):cM [.int n,.int k,x] h=.err XN h:=by
 have nk:=IV (n:=.int (n:Int)) (k:=.int k) (h:=h) ⟨rfl,rG (by omega)⟩ ⟨rfl,rG (by omega)⟩
 have ct:=Aj (n:=n) (k:=k) (h:=h) hn w
 have m0:=Kp (n:=n) (k:=k) (env:=[some (.int n),some (.int k),some x,some (.clo "begun_count" [.frl (rsD n),.int k])]) (h:=h) hn (by simp)
 have nx:=Ik (h:=h) c
 generalize Rn n 0 k=V at *
 generalize rsD n=RS at *
 simp[cM,bc,up,nk,ct,m0,nx]
noncomputable def BGB:MS:=eX (ft (a_ ju (ai bF (ae (ag 2) (ae (cC (.int 0)) (ae (av je (ag 0) (cC (.int 1))) ao)))))) (bG (cC (.bl false))) cw
theorem zg {n:Nat} {es:List D} {h:Hh}:∀(ds:List D) (s:Option D),(∀d∈ds,itm d=true)->∃s',(ds.all (inR 0 ((n:Int) - 1))=true->dw (gN 2) BGB ds [some (.int n),some (.tup es),s] h=.ok (.nx [some (.int n),some (.tup es),s']) h)/\(ds.all (inR 0 ((n:Int) - 1))=false->dw (gN 2) BGB ds [some (.int n),some (.tup es),s] h=.ok (.rt (.bl false)) h)
 | [],s,_=>⟨s,fun _=>rfl,fun z=>nomatch z⟩
 | d::ds,s,k=>by
  obtain⟨s',e1,e2⟩:=zg (n:=n) (es:=es) (h:=h) ds (some d) (fun x hx=>k x (List.mem_cons_of_mem _ hx))
  have w:=j7 (a:=0) (b:=(n:Int) - 1) (h:=h) (k d List.mem_cons_self)
  have b1:inR 0 ((n:Int) - 1) d=true->BGB [some (.int n),some (.tup es),some d] h=.ok (.nx [some (.int n),some (.tup es),some d]) h:=fun c=>by simp[BGB,w,c]
  have b2:inR 0 ((n:Int) - 1) d=false->BGB [some (.int n),some (.tup es),some d] h=.ok (.rt (.bl false)) h:=fun c=>by simp[BGB,w,c]
  refine⟨s',fun z=>?_,fun z=>?_⟩
  ·rw[List.all_cons,Bool.and_eq_true] at z
   rw[fu]
   simp only[vW,bV,List.set,b1 z.1,pZ,e1 z.2]
  ·rw[fu]
   simp only[vW,bV,List.set]
   cases c:inR 0 ((n:Int) - 1) d with
   | false=>rw[b2 c];simp
   | true=>
    rw[List.all_cons,c,Bool.true_and] at z
    simp only[b1 c,bV,pZ,e2 z]
noncomputable def yr (n:Nat):D->Prop
 | .tup ds=>(n:Int)<ds.length\/ds.all (inR 0 ((n:Int) - 1))=false\/(ds.length<=60/\¬ (unl (ds.map lP)).length=ds.length)
 | _=>True
theorem Jy:cR=fun ds h=>((cH 3 (aO (eX (vt (ft (a_ ju (cUn (oR "tuple") (ag 1)))) (a_ asB (av dGt (ai cp (ae (ag 1) ao)) (ag 0)))) (bG (cC (.bl false))) cw)
  (aO (fO (eB (ag 1)) (gN 2) BGB) (bG (av dEq (ai cp (ae (ai rN (ae (ag 1) ao)) ao)) (ai cp (ae (ag 1) ao))))))) ds h).bind (cJ h):=rfl
theorem Ju {n:Nat} {d:D} {h:Hh} (t:Th d) (w:Wf h) (nb:yr n d):cR [.int n,d] h=.ok (.bl false) h:=by
 have ex:∀t b,cJ h (.bl b) (h++t)=.ok (.bl b) h:=fun t b=>eV w rfl
 have ex0:∀b,cJ h (.bl b) h=.ok (.bl b) h:=fun b=>oh w rfl
 rw[Jy]
 by_cases nt:∀ds,d≠.tup ds
 ·have e1:=CU (h:=h) t.it nt
  simp[bc,e1,ex0]
 ·obtain⟨ds,rfl⟩:∃ds,d=.tup ds:=Classical.byContradiction fun z=>nt fun ds e=>z ⟨ds,e⟩
  obtain⟨k,_⟩:=t.its ds rfl
  obtain⟨s',q1,q2⟩:=zg (n:=n) (es:=ds) (h:=h) ds none k
  by_cases c:(n:Int)<ds.length
  ·have c':n<ds.length:=by omega
   simp[bc,c',ex0]
  ·have c':¬ n<ds.length:=by omega
   by_cases c2:ds.all (inR 0 ((n:Int) - 1))=true
   ·have q:=q1 c2
    have ei:=vm (ze c2)
    have nb:ds.length<=60/\¬ (unl (ds.map lP)).length=ds.length:=by
     rcases nb with z | z | z
     ·exact absurd z c
     ·rw[c2] at z;cases z
     ·exact z
    have c3:ds.length<=4000:=by omega
    have st:rN [.tup ds] h=.ok (.ref h.length) (h++[.set (unl (ds.map lP))]):=by
     have:=BC (h:=h) (ns:=ds.map lP)
     rw[<- ei] at this
     rw[this,List.length_map,if_pos c3]
    have nb2:=nb.2
    have nb3:¬ ((unl (ds.map lP)).length:Int)=(ds.length:Int):=by omega
    have c4:ds.length<=1000000:=by omega
    simp[bc,c',q,st,nb2,nb3,c4,ex]
   ·simp only[Bool.not_eq_true] at c2
    have q:=q2 c2
    have c4:ds.length<=1000000:=by have:=(t.its ds rfl).2;omega
    simp[bc,c',q,c4,ex0]
theorem K8 {n:Nat} {d:D} {h:Hh} (t:Th d) (w:Wf h) (nb:yr n d):bA [.int n,d] h=.err XR h:=by
 simp[bA,bc,Ju t w nb]
noncomputable def TB:MS:=(aO (eX (up (a_ asB (av dLt (ag 0) (cC (.int 3))))) (bG (k9 kr (up (av dIx (ai (cO az) (ae (cC (.fn "order_at")) (ae (cC (.fn "begun_many")) (ae (cC (.fn "next_numbers")) ao)))) (ag 0))) (ae (up (ag 1)) (ae (up (ag 2)) (ae (up (ag 3)) ao))))) cw)
  (bG (cIf (up (a_ asB (av dEq (ag 0) (cC (.int 3))))) (ai cX (ae (up (ag 1)) (ae (up (ag 2)) ao))) (k9 oE (up (av dIx (ai (cO az) (ae (cC (.fn "number_of")) (ae (cC (.fn "next_order")) ao))) (av je (ag 0) (cC (.int 4))))) (ae (up (ag 3)) ao)))))
theorem FD:aI=cH 5 (xI TB aR):=rfl
theorem iH {d0 d1 d2 d3:D} {h:Hh} {x:Xc} {r:D} (wf:Wf h) (e:TB [some d0,some d1,some d2,some d3,none] h=.err x h) (c:bq.contains x.cls=true) (q:aR [.exc x.cls x.fs] h=.ok r h):aI [d0,d1,d2,d3] h=.ok r h:=by
 have q:=Gq (mr:=aR) wf e c q
 rw[FD];simp[bc,q]
theorem Bj {d1 d2 d3:D} {h:Hh} (wf:Wf h) (e:cM [d1,d2,d3] h=.err XN h):aI [.int 0,d1,d2,d3] h=.ok TNm h:=
 iH (x:=XN) wf (by simp[TB,lG (tab:=kr) (x:="order_at") (m:=cM) (h1:=h),e]) (by decide) Ei
theorem DE {d1 d2 d3:D} {h:Hh} {x:Xc} {r:D} (wf:Wf h) (e:bW [d1,d2,d3] h=.err x h) (c:bq.contains x.cls=true) (q:aR [.exc x.cls x.fs] h=.ok r h):aI [.int 1,d1,d2,d3] h=.ok r h:=
 iH (x:=x) wf (by simp[TB,lG (tab:=kr) (x:="begun_many") (m:=bW) (h1:=h),e]) c q
theorem Bk {d1 d2 d3:D} {h:Hh} {x:Xc} {r:D} (wf:Wf h) (e:bu [d1,d2,d3] h=.err x h) (c:bq.contains x.cls=true) (q:aR [.exc x.cls x.fs] h=.ok r h):aI [.int 2,d1,d2,d3] h=.ok r h:=
 iH (x:=x) wf (by simp[TB,lG (tab:=kr) (x:="next_numbers") (m:=bu) (h1:=h),e]) c q
theorem G5 {d1 d2 d3:D} {h:Hh} (wf:Wf h) (e:cX [d1,d2] h=.err XN h):aI [.int 3,d1,d2,d3] h=.ok TNm h:=
 iH (x:=XN) wf (by simp[TB,e]) (by decide) Ei
theorem Ci {d1 d2 d3:D} {h:Hh} {x:Xc} {r:D} (wf:Wf h) (e:ba [d3] h=.err x h) (c:bq.contains x.cls=true) (q:aR [.exc x.cls x.fs] h=.ok r h):aI [.int 4,d1,d2,d3] h=.ok r h:=
 iH (x:=x) wf (by
  have:dG [d3] h=.err x h:=by simp[dG,bc,e]
  simp[TB,lG (tab:=oE) (x:="number_of") (m:=dG) (h1:=h),this]) c q
theorem Ck {d1 d2 d3:D} {h:Hh} {x:Xc} {r:D} (wf:Wf h) (e:ba [d3] h=.err x h) (c:bq.contains x.cls=true) (q:aR [.exc x.cls x.fs] h=.ok r h):aI [.int 5,d1,d2,d3] h=.ok r h:=
 iH (x:=x) wf (by
  have:cW [d3] h=.err x h:=by simp[cW,bc,e]
  simp[TB,lG (tab:=oE) (x:="next_order") (m:=cW) (h1:=h),this]) c q
theorem ln4:bT 0 4=[.int 0,.int 1,.int 2,.int 3]:=rfl
theorem four {n k x:D} {h:Hh} (wf:Wf h) (c:Cs n k):df tt1 (ai aI (ae (ag 0) (ae (ag 1) (ae (ag 2) (ae (ag 3) ao))))) (fun d=>[some d,some n,some k,some x]) (bT 0 4) h=.ok [TNm,TNm,TNm,TNm] h:=by
 have nk:=LX (h:=h) c
 have q0:=Bj (d3:=x) wf (show cM [n,k,x] h=.err XN h by simp[cM,bc,nk])
 have q1:=DE (x:=XN) wf (show bW [n,k,x] h=.err XN h by simp[bW,bc,nk]) (by decide) Ei
 have q2:=Bk (x:=XN) wf (show bu [n,k,x] h=.err XN h by simp[bu,bc,nk]) (by decide) Ei
 have q3:=G5 (d3:=x) wf (show cX [n,k] h=.err XN h by simp[cX,bc,nk])
 rw[ln4]
 simp[df,q0,q1,q2,q3]
theorem JJ {n:Nat} {k:Int} {x:D} {h:Hh} (wf:Wf h) (h1:1<=n) (hn:n<=12) (k0:0<=k) (k1:k<=12) (t:Th x) (nb:yr n x):df tt1 (ai aI (ae (ag 0) (ae (ag 1) (ae (ag 2) (ae (ag 3) ao))))) (fun d=>[some d,some (.int n),some (.int k),some x]) [.int 1,.int 2] h=.ok [TRw,TRw] h:=by
 have nk:=IV (n:=.int (n:Int)) (k:=.int k) (h:=h) ⟨rfl,rG (by omega)⟩ ⟨rfl,rG (by omega)⟩
 have bn:=K8 t wf nb
 have q1:=DE (x:=XR) wf (show bW [.int n,.int k,x] h=.err XR h by simp[bW,bc,nk,bn]) (by decide) JF
 have q2:=Bk (x:=XR) wf (show bu [.int n,.int k,x] h=.err XR h by simp[bu,bc,nk,bn]) (by decide) JF
 simp[df,q1,q2]
theorem JL {x:D} {h:Hh} (wf:Wf h) (t:Th x) (c:ogD x=false):df tt1 (ai aI (ae (ag 0) (ae (cC (.int 1)) (ae (cC (.int 0)) (ae (ag 1) ao))))) (fun d=>[some d,some x]) [.int 4,.int 5] h=.ok [TOr,TOr] h:=by
 have ln:ba [x] h=.err XO h:=by simp[ba,bc,HL t wf c]
 have q1:=fun d1 d2=>Ci (d1:=d1) (d2:=d2) (x:=XO) wf ln (by decide) IQ
 have q2:=fun d1 d2=>Ck (d1:=d1) (d2:=d2) (x:=XO) wf ln (by decide) IQ
 simp[df,q1,q2]
noncomputable abbrev TGr (V:Int):D:=.tup [.str "great", .int V,.int 12]
theorem Kb {h:Hh} {V:Int}:aR [.exc "TooGreat" [("many", V),("most", 12)]] h=.ok (TGr V) h:=by kernel_rfl
theorem JQ {n:Nat} {xs:List Int} {h:Hh} (wf:Wf h) (o:Ord n xs) (h1:13<=n) (h2:n<=20):df tt1 (ai aI (ae (ag 0) (ae (cC (.int 1)) (ae (cC (.int 0)) (ae (ag 1) ao))))) (fun d=>[some d,some (.tup (xs.map D.int))]) [.int 4,.int 5] h=.ok [TGr n,TGr n] h:=by
 have ol:=o.len
 have lX:(xs.map D.int).length=n:=by rw[List.length_map];exact ol
 have oe:=IC o (by omega) h2 wf
 generalize xs.map D.int=X at *
 have ri:pK "TooGreat" ["many", "most"] (ae (up (ai cp (ae (ag 0) ao))) (ae (up (cC (.int 12))) ao)) [some (.tup X)] h=.err ⟨"TooGreat", [("many", (n:Int)),("most", 12)]⟩ h:=by
  rw[<- lX];kernel_rfl
 have c':(12:Int)<n:=by omega
 have c2:12<n:=by omega
 have ln:ba [.tup X] h=.err ⟨"TooGreat", [("many", (n:Int)),("most", 12)]⟩ h:=by simp[ba,bc,oe,lX,c',c2,ri]
 have q1:=fun d1 d2=>Ci (d1:=d1) (d2:=d2) wf ln (show bq.contains "TooGreat" = true by decide) Kb
 have q2:=fun d1 d2=>Ck (d1:=d1) (d2:=d2) wf ln (show bq.contains "TooGreat" = true by decide) Kb
 simp[df,q1,q2]
theorem gu {h:Hh} {p:Pen} {m:Int} (hm:0<m/\m<=10 ^ 20):∃(v:Nat) (p':Pen),(v:Int)<m/\aB [.ref h.length,.int m] (h++[.lst (cF p)])=.ok (.int v) (h++[.lst (cF p')]):=by
 obtain⟨v,ev,bv⟩:=F9 p m hm.1
 have d:=Fh (p:=p) (h:=h) (t:=[]) (m:=m) hm
 rw[ev] at d
 exact⟨v,_,bv,d⟩
theorem Ez {A B:List Int} {v:Int} (hv:v∈A++B):(unl (A++v::B)).length<(A++v::B).length:=by
 have:=uX (unl (A++v::B)) (A++B) (CB _) fun x hx=>by
  have hx:=lK.mp hx
  rcases List.mem_append.mp hx with z | z
  ·exact List.mem_append_left _ z
  ·rcases List.mem_cons.mp z with z | z
   ·rw[z];exact hv
   ·exact List.mem_append_right _ z
 simp only[List.length_append,List.length_cons] at this ⊢
 omega
theorem zd {xs:List Int} {i:Nat} (h:i<xs.length):bx xs (some (i:Int)) (some ((i:Int)+1))=[gI xs i]:=by
 unfold bx
 rw[show(i:Int)+1=((i+1:Nat):Int) by omega,HT.pH,HT.pH,Nat.min_eq_left (by omega),Nat.min_eq_left (by omega),show i+1 - i=1 by omega,List.drop_eq_getElem_cons h,iF h]
 rfl
theorem EZ (xs:List Int):(xs.map D.int).map lP=xs:=by rw[List.map_map];exact(List.map_congr_left (fun _ _=>rfl)).trans (List.map_id xs)
noncomputable def ods (n:Int):List D:=[.int n,.int (-1),.bl true,.bl false,.non,.str "0", .frl [.int 0],.edic,.tup [.int 0],.int (10 ^ 30)]
theorem EA {n:Int} (h1:1<=n) (h2:n<=20):∀d∈ods n,uG d/\inR 0 (n - 1) d=false:=by
 intro d hd
 simp only[ods,List.mem_cons,List.not_mem_nil,or_false] at hd
 rcases hd with rfl | rfl | rfl | rfl | rfl | rfl | rfl | rfl | rfl | rfl
 ·exact⟨uw (l_ (by omega) (by omega)),mQ (by omega)⟩
 ·exact⟨uw (by decide +kernel),mQ (by omega)⟩
 ·exact⟨CV,rfl⟩
 ·exact⟨CV,rfl⟩
 ·exact⟨ES,rfl⟩
 ·exact⟨Cy,rfl⟩
 ·exact⟨wu,rfl⟩
 ·exact⟨Cd,rfl⟩
 ·exact⟨Bw,rfl⟩
 ·exact⟨uw (by decide +kernel),mQ (by omega)⟩
structure Prt (n:Nat) (ys:List Int):Prop where
 lo:∀x∈ys,0<=x
 hi:∀x∈ys,x<n
theorem JH {ys:List Int} {n:Nat} (o:Prt n ys) (hn:n<=20) {zs:List Int} (s:∀x∈zs,x∈ys) (hl:zs.length<=60):Th (.tup (zs.map D.int)):=pN (fun x hx=>l_ (o.lo x (s x hx)) (by have:=o.hi x (s x hx);omega)) hl
theorem BL {ys A B:List Int} {n:Nat} {v:Int} (o:Prt n ys) (hn:n<=20) (s:∀x∈A++v::B,x∈ys) (hl:(A++v::B).length<=60) (hv:v∈A++B):Th (.tup ((A++v::B).map D.int))/\yr n (.tup ((A++v::B).map D.int)):=by
 refine⟨JH o hn s hl,.inr (.inr ⟨by rw[List.length_map];exact hl,?_⟩)⟩
 have:=Ez hv
 rw[EZ,List.length_map];omega
theorem ix7 {a b c d e f g:D} {w:Nat} (hw:w<7):∃x,x∈[a,b,c,d,e,f,g]/\∀H:Hh,ixK [a,b,c,d,e,f,g] (w:Int) H=.ok x H:=
 ⟨[a,b,c,d,e,f,g][w],List.getElem_mem _,fun H=>fV rfl (List.getElem?_eq_getElem hw)⟩
theorem Fq {n:Nat} {p:Pen} {h:Hh} (w:Wf h) (h1:1<=n) (hn:n<=12):∃d p',cq [.ref h.length,.int n] (h++[.lst (cF p)])=.ok d (h++[.lst (cF p')])/\Th d/\yr n d:=by
 obtain⟨wy,p1,hw,d7⟩:=gu (h:=h) (p:=p) (m:=7) (by decide)
 obtain⟨b,p2,hb,dn⟩:=gu (h:=h) (p:=p1) (m:=n) (by omega)
 obtain⟨sz,hz⟩:∃sz:Nat,1+(b:Int)=sz:=⟨1+b,by omega⟩
 obtain⟨sp,p3,hs,ds⟩:=gu (h:=h) (p:=p2) (m:=sz) (by omega)
 obtain⟨u,p4,hu,d10⟩:=gu (h:=h) (p:=p3) (m:=10) (by decide)
 have hu':u<(ods n).length:=by show u<10;omega
 obtain⟨oo,oi⟩:=EA (n:=(n:Int)) (by omega) (by omega) _ (List.getElem_mem hu')
 have ix:∀H:Hh,ixK [.int (n:Int),.int (-1),.bl true,.bl false,.non,.str "0", .frl [.int 0],.edic,.tup [.int 0],.int (10 ^ 30)] (u:Int) H=.ok (ods n)[u] H:=fun H=>fV (ds:=ods n) rfl (List.getElem?_eq_getElem hu')
 generalize (ods n)[u]=od at *
 have o:=wX p4 n
 have eo:=vJ (p:=p4) (k:=n) w (by omega)
 generalize nq p4 n=os at o eo
 generalize oV p4 n=p5 at eo
 have ol:=o.len
 obtain⟨ys,hys⟩:∃ys,bx os none (some (sz:Int))=ys:=⟨_,rfl⟩
 have lys:ys.length=sz:=by rw[<- hys,pT,List.length_take];omega
 have pr:Prt n ys:=⟨fun x hx=>o.lo x (eL (by rw[hys];exact hx)),fun x hx=>o.hi x (eL (by rw[hys];exact hx))⟩
 have sm:∀x∈ys,sml x=true:=fun x hx=>l_ (pr.lo x hx) (by have:=pr.hi x hx;omega)
 have l1:(bx ys none (some (sp:Int))).length=sp:=by rw[pT,List.length_take];omega
 have cf:=tQ ys sp
 have l2:(bx ys (some (sp:Int)) none).length=sz - sp:=by rw[cf,List.length_drop,lys]
 have l3:(bx ys (some ((sp:Int)+1)) none).length<=sz:=by have:=iP ys (some ((sp:Int)+1)) none;omega
 have c1:=zd (xs:=ys) (i:=sp) (by omega)
 have c0:bx ys none (some 1)=[gI ys 0]:=by
  have:=pT ys 1
  rw[show((1:Nat):Int)=1 from rfl] at this
  rw[this]
  cases ys with
  | nil=>simp at lys;omega
  | cons x r=>rfl
 have gm:gI ys 0∈ys:=xT (by omega)
 have gs:gI ys sp∈ys:=xT (by omega)
 have gd:gI ys sp∈bx ys (some (sp:Int)) none:=by
  rw[cf,List.drop_eq_getElem_cons (by omega),iF (by omega)];exact List.mem_cons_self
 obtain⟨X,hx,ixw⟩:=ix7 (w:=wy) (a:=.tup ((bx ys none (some (sp:Int))).map D.int++od::(bx ys (some ((sp:Int)+1)) none).map D.int)) (b:=.tup ((bx ys none (some (sp:Int))).map D.int++od::(bx ys (some ((sp:Int)+1)) none).map D.int)) (c:=.frl (ys.map D.int)) (d:=.tup ((bx ys none (some (sp:Int))++gI ys sp::bx ys (some (sp:Int)) none).map D.int)) (e:=.tup ((gw 0 (n+1)).map D.int)) (f:=.non) (g:=.tup ((ys++gI ys 0::[]).map D.int)) (by omega)
 have good:Th X/\yr n X:=by
  have bent:Th (.tup ((bx ys none (some (sp:Int))).map D.int++od::(bx ys (some ((sp:Int)+1)) none).map D.int))/\yr n (.tup ((bx ys none (some (sp:Int))).map D.int++od::(bx ys (some ((sp:Int)+1)) none).map D.int)):=by
   refine⟨yW oo (fun x hx=>sm x (eL hx)) (fun x hx=>sm x (eL hx)) (by omega),.inr (.inl ?_)⟩
   cases z:((bx ys none (some (sp:Int))).map D.int++od::(bx ys (some ((sp:Int)+1)) none).map D.int).all (inR 0 ((n:Int) - 1)) with
   | false=>rfl
   | true=>
    have:=List.all_eq_true.mp z od (by simp)
    rw[oi] at this;cases this
  simp only[List.mem_cons,List.not_mem_nil,or_false] at hx
  rcases hx with rfl | rfl | rfl | rfl | rfl | rfl | rfl
  ·exact bent
  ·exact bent
  ·exact⟨CC sm (by omega),trivial⟩
  ·exact BL pr (by omega) (fun x hx=>by
    rcases List.mem_append.mp hx with z | z
    ·exact eL z
    ·rcases List.mem_cons.mp z with z | z
     ·rw[z];exact gs
     ·exact eL z) (by rw[List.length_append,List.length_cons,l1,l2];omega) (List.mem_append_right _ gd)
  ·have le:∀x∈gw 0 (n+1),sml x=true:=fun x hx=>by
    have a:=(iG (n+1)).lo x hx
    have b:=(iG (n+1)).hi x hx
    exact l_ a (by omega)
   exact⟨pN le (by rw[g6];omega),.inl (by rw[List.length_map,g6];omega)⟩
  ·exact⟨zB rfl (fun ds e=>by cases e) (fun h=>⟨_,rfl⟩),trivial⟩
  ·exact BL pr (by omega) (fun x hx=>by
    rcases List.mem_append.mp hx with z | z
    ·exact z
    ·simp at z;rw[z];exact gm) (by simp;omega) (List.mem_append_left _ gm)
 refine⟨X,p5,?_,good⟩
 have k0:cutD (os.map D.int) none (some (sz:Int))=ys.map D.int:=by rw[dY,hys]
 have k1:cutD (ys.map D.int) none (some (sp:Int))=(bx ys none (some (sp:Int))).map D.int:=dY _ _ _ _
 have k2:cutD (ys.map D.int) (some ((sp:Int)+1)) none=(bx ys (some ((sp:Int)+1)) none).map D.int:=dY _ _ _ _
 have k3:cutD (ys.map D.int) (some (sp:Int)) (some ((sp:Int)+1))=[.int (gI ys sp)]:=by rw[dY,c1];rfl
 have k4:cutD (ys.map D.int) (some (sp:Int)) none=(bx ys (some (sp:Int)) none).map D.int:=dY _ _ _ _
 have k5:cutD (ys.map D.int) none (some 1)=[.int (gI ys 0)]:=by rw[dY,c0];rfl
 have m1:((bx ys none (some (sp:Int))).map D.int).length=sp:=by rw[List.length_map,l1]
 have m2:((bx ys (some ((sp:Int)+1)) none).map D.int).length<=12:=by rw[List.length_map];omega
 have m3:((bx ys (some (sp:Int)) none).map D.int).length<=12:=by rw[List.length_map,l2];omega
 have m4:(ys.map D.int).length=sz:=by rw[List.length_map,lys]
 have s10:sml 10=true:=by decide +kernel
 have ir:bT 0 (n+1)=(gw 0 (n+1)).map D.int:=tZ _ _
 rw[List.map_append,List.map_cons,List.map_append,List.map_cons,List.map_nil] at ixw
 generalize hX:(10:Int) ^ 30=X30 at ix
 generalize (bx ys none (some (sp:Int))).map D.int=M1 at *
 generalize (bx ys (some ((sp:Int)+1)) none).map D.int=M2 at *
 generalize (bx ys (some (sp:Int)) none).map D.int=M3 at *
 generalize (gw 0 (n+1)).map D.int=M5 at *
 generalize ys.map D.int=YS at *
 generalize os.map D.int=OS at *
 have z1:sp+1<=1000000:=by omega
 have z2:sp+1+M2.length<=1000000:=by omega
 have z3:sp+1+M3.length<=1000000:=by omega
 have z4:sz+1<=1000000:=by omega
 have z5:sz<=1000000:=by omega
 have z6:((n:Int)+1).natAbs<=1000000:=by omega
 have z7:((n:Int)+1).toNat=n+1:=by omega
 simp[cq,bc,d7,dn,hz,ds,d10,s10,hX,ix,eo,k0,k1,k2,k3,k4,k5,m1,m4,z1,z2,z3,z4,z5,z6,z7,ir,ixw]
theorem ne4 {h:Hh}:dNe (.frl [TNm,TNm,TNm,TNm]) (.frl [TNm,TNm,TNm,TNm]) h=.ok (.bl false) h:=by kernel_rfl
theorem ne2 {h:Hh}:dNe (.frl [TRw,TRw]) (.frl [TRw,TRw]) h=.ok (.bl false) h:=by kernel_rfl
theorem eq2 {h:Hh}:dEq (.frl [TOr,TOr]) (.frl [TOr,TOr]) h=.ok (.bl true) h:=by kernel_rfl
theorem ne1 {h:Hh}:dNe TNm TNm h=.ok (.bl false) h:=by kernel_rfl
theorem neG {n:Nat} {h:Hh} (h1:13<=n) (h2:n<=20):dNe (.frl [TGr n,TGr n]) (.frl [TGr n,TGr n]) h=.ok (.bl false) h:=by
 match n,h1,h2 with
 | 13,_,_=>kernel_rfl
 | 14,_,_=>kernel_rfl
 | 15,_,_=>kernel_rfl
 | 16,_,_=>kernel_rfl
 | 17,_,_=>kernel_rfl
 | 18,_,_=>kernel_rfl
 | 19,_,_=>kernel_rfl
 | 20,_,_=>kernel_rfl
 | n+21,_,h2=>exact absurd h2 (by omega)
theorem L9 {l:List D} {w:Nat} (hw:w<l.length):∃x,x∈l/\∀H:Hh,ixK l (w:Int) H=.ok x H:=
 ⟨l[w],List.getElem_mem _,fun H=>fV rfl (List.getElem?_eq_getElem hw)⟩
theorem jz {ds:List D} (hl:ds.length<=5) (k:∀e∈ds,(∃i:Int,e=.int i/\sml i=true)\/∃b,e=.bl b):Th (.tup ds):=by
 refine⟨rfl,fun es e=>?_,GX (by omega) fun e he=>?_⟩
 ·cases e
  exact⟨fun e he=>by rcases k e he with⟨i,rfl,_⟩ | ⟨b,rfl⟩<;>rfl,by omega⟩
 ·rcases k e he with⟨i,rfl,s⟩ | ⟨b,rfl⟩
  ·exact qH s
  ·exact fun h=>⟨.bool b,rfl,by simp[PyData.bulk]⟩
theorem HU {n sp:Nat} {xs:List Int} (o:Ord n xs) (h1:13<=n) (h2:n<=20) (hs:sp<n):∀d∈[.tup ((bx xs none (some (sp:Int))).map D.int++.frl [.int 0]::(bx xs (some ((sp:Int)+1)) none).map D.int),.frl (xs.map D.int),.tup ((bx xs none (some (sp:Int))++gI xs sp::bx xs (some (sp:Int)) none).map D.int),.non,.tup [],.tup [.bl true],.tup [.int 1],.tup [.bl false],.tup [.int 0,.bl true],.tup (bT 0 21)],Th d/\ogD d=false:=by
 have hl:=o.len
 have sm:=FR o h2
 have l1:=iP xs none (some (sp:Int))
 have l3:=iP xs (some ((sp:Int)+1)) none
 have l2:(bx xs none (some (sp:Int))).length=sp:=by rw[pT,List.length_take];omega
 have l4:(bx xs (some (sp:Int)) none).length=n - sp:=by rw[tQ,List.length_drop,hl]
 have s0:sml 0=true:=by decide +kernel
 have s1:sml 1=true:=by decide +kernel
 intro d hd
 simp only[List.mem_cons,List.not_mem_nil,or_false] at hd
 rcases hd with rfl | rfl | rfl | rfl | rfl | rfl | rfl | rfl | rfl | rfl
 ·exact⟨yW wu (fun x hx=>sm x (eL hx)) (fun x hx=>sm x (eL hx)) (by omega),pQ (e:=.frl [.int 0]) (by simp) rfl⟩
 ·exact⟨CC sm (by omega),rfl⟩
 ·have mm:∀x∈bx xs none (some (sp:Int))++gI xs sp::bx xs (some (sp:Int)) none,x∈xs:=fun x hx=>by
   rcases List.mem_append.mp hx with z | z
   ·exact eL z
   ·rcases List.mem_cons.mp z with z | z
    ·rw[z];exact xT (by omega)
    ·exact eL z
  have len:(bx xs none (some (sp:Int))++gI xs sp::bx xs (some (sp:Int)) none).length=n+1:=by rw[List.length_append,List.length_cons,l2,l4];omega
  exact⟨pN (fun x hx=>sm x (mm x hx)) (by omega),EK (by omega) (k:=n) (by omega) (fun x hx=>by have:=o.hi x (mm x hx);omega)⟩
 ·exact⟨zB rfl (fun ds e=>by cases e) (fun h=>⟨_,rfl⟩),rfl⟩
 ·exact⟨jz (by simp) (by simp),rfl⟩
 ·exact⟨jz (by simp) (by simp),pQ (e:=.bl true) (by simp) rfl⟩
 ·exact⟨jz (by simp) (by simp[s1]),HW (e:=.int 1) (by simp) (fun k hk=>mQ (by simp at hk;omega))⟩
 ·exact⟨jz (by simp) (by simp),pQ (e:=.bl false) (by simp) rfl⟩
 ·exact⟨jz (by simp) (by simp[s0]),pQ (e:=.bl true) (by simp) rfl⟩
 ·refine⟨?_,ED (by decide)⟩
  rw[tZ]
  exact pN (by decide +kernel) (by decide)
theorem H_ {p:Pen} {h:Hh} (w:Wf h):∃p',bN [.ref h.length] (h++[.lst (cF p)])=.ok (.bl true) (h++[.lst (cF p')]):=by
 obtain⟨b,p1,hb,d8⟩:=gu (h:=h) (p:=p) (m:=8) (by decide)
 obtain⟨n,hn⟩:∃n:Nat,13+(b:Int)=n:=⟨13+b,by omega⟩
 have o:=wX p1 n
 have eo:=vJ (p:=p1) (k:=n) w (by omega)
 generalize nq p1 n=xs at o eo
 generalize oV p1 n=p2 at eo
 have ol:=o.len
 obtain⟨sp,p3,hs,ds⟩:=gu (h:=h) (p:=p2) (m:=n) (by omega)
 obtain⟨u,p4,hu,d10⟩:=gu (h:=h) (p:=p3) (m:=10) (by decide)
 have al:=HU o (by omega) (by omega) (sp:=sp) (by omega)
 obtain⟨X,hx,ixu⟩:=L9 (w:=u) (l:=[.tup ((bx xs none (some (sp:Int))).map D.int++.frl [.int 0]::(bx xs (some ((sp:Int)+1)) none).map D.int),.frl (xs.map D.int),.tup ((bx xs none (some (sp:Int))++gI xs sp::bx xs (some (sp:Int)) none).map D.int),.non,.tup [],.tup [.bl true],.tup [.int 1],.tup [.bl false],.tup [.int 0,.bl true],.tup (bT 0 21)]) (by show u<10;omega)
 obtain⟨tx,ox⟩:=al X hx
 clear al hx
 have wf:=uS w p4
 obtain⟨s,rx⟩:=tx.rx (h++[.lst (cF p4)])
 have g2:=JQ wf o (by omega) (by omega)
 have nG:=neG (n:=n) (h:=h++[.lst (cF p4)]) (by omega) (by omega)
 have o2:=JL wf tx ox
 refine⟨p4,?_⟩
 have k1:cutD (xs.map D.int) none (some (sp:Int))=(bx xs none (some (sp:Int))).map D.int:=dY _ _ _ _
 have k2:cutD (xs.map D.int) (some ((sp:Int)+1)) none=(bx xs (some ((sp:Int)+1)) none).map D.int:=dY _ _ _ _
 have k3:cutD (xs.map D.int) (some (sp:Int)) (some ((sp:Int)+1))=[.int (gI xs sp)]:=by rw[dY,zd (by omega)];rfl
 have k4:cutD (xs.map D.int) (some (sp:Int)) none=(bx xs (some (sp:Int)) none).map D.int:=dY _ _ _ _
 have l1:=iP xs none (some (sp:Int))
 have l3:=iP xs (some ((sp:Int)+1)) none
 have l4:=iP xs (some (sp:Int)) none
 have m1:((bx xs none (some (sp:Int))).map D.int).length<=20:=by rw[List.length_map];omega
 have m2:((bx xs (some ((sp:Int)+1)) none).map D.int).length<=20:=by rw[List.length_map];omega
 have m3:((bx xs (some (sp:Int)) none).map D.int).length<=20:=by rw[List.length_map];omega
 have m4:(xs.map D.int).length=n:=by rw[List.length_map,ol]
 rw[List.map_append,List.map_cons] at ixu
 generalize (bx xs none (some (sp:Int))).map D.int=M1 at *
 generalize (bx xs (some ((sp:Int)+1)) none).map D.int=M2 at *
 generalize (bx xs (some (sp:Int)) none).map D.int=M3 at *
 generalize hI21:bT 0 21=I21 at *
 generalize xs.map D.int=XS at *
 have z1:M1.length+1<=1000000:=by omega
 have z2:M1.length+1+M2.length<=1000000:=by omega
 have z3:M1.length+1+M3.length<=1000000:=by omega
 have z5:n<=1000000:=by omega
 simp[bN,bc,d8,hn,eo,m4,ds,d10,k1,k2,k3,k4,z1,z2,z3,z5,hI21,ixu,rx,g2,nG,o2,eq2]
noncomputable def B0:MS:=(eX (a_ asB (av dNe (fB az (kj m8 (ae (cC (.int 4)) ao)) [8,9,7] tt1 (ai aI (ae (ag 0) (ae (ag 1) (ae (ag 2) (ae (ag 3) ao)))))) (av (lH az) (ai (cO az) (ae (ai cG (ae (cC (.str "number")) ao)) ao)) (cC (.int 4))))) (bG (cC (.bl false))) cw)
noncomputable def B1:MS:=(eX (a_ asB (av dNe (ai aI (ae (cC (.int 0)) (ae (ag 5) (ae (ag 6) (ae (ag 12) ao))))) (ai cG (ae (cC (.str "number")) ao)))) (bG (cC (.bl false))) cw)
noncomputable def B2:MS:=(aO (cb 2 (ai di (ae (ag 1) ao))) (aO (BU 3 4 (ae (ai dP (ae (ag 2) (ae (cC (.int 1)) (ae (cC (.int 12)) ao)))) (ae (ai dP (ae (ag 2) (ae (cC (.int 0)) (ae (cC (.int 12)) ao)))) ao))) (aO (EI 5 6 (ai cG (ae (av (bS az) (cC (.int 1)) (ai aB (ae (ag 2) (ae (cC (.int 12)) ao)))) (ae (ai aB (ae (ag 2) (ae (cC (.int 13)) ao))) ao)))) (aO (cb 7 (ai cq (ae (ag 2) (ae (ag 5) ao)))) (aO (fO (eB (ai (cO az) (ae (ai cG (ae (ag 3) (ae (ag 6) ao))) (ae (ai cG (ae (ag 5) (ae (ag 4) ao))) (ae (ai cG (ae (ag 3) (ae (ag 4) ao))) ao))))) (gT2 8 9) B0) (aO (cb 10 (ai gb (ae (ag 7) ao))) (aO (eX (vt (a_ asB (av dNe (fB az (eB (ai cG (ae (cC (.int 1)) (ae (cC (.int 2)) ao)))) [5,6,7] tt1 (ai aI (ae (ag 0) (ae (ag 1) (ae (ag 2) (ae (ag 3) ao)))))) (av (lH az) (ai (cO az) (ae (ai cG (ae (cC (.str "row")) ao)) ao)) (cC (.int 2))))) (a_ asB (av dNe (ai gb (ae (ag 7) ao)) (ag 10)))) (bG (cC (.bl false))) cw) (aO (cb 11 (ai e9 (ae (ag 5) (ae (ag 6) ao)))) (aO (fO (eB (ai (cO az) (ae (ag 11) (ae (av (bS az) (ag 11) (cC (.int 1))) (ae (cUn oH (cC (.int 1))) (ae (cC (.bl true)) (ae (cC (.bl false)) (ae (cC .non) (ae (cC (.str "0")) (ae (ai (cO az) (ae (cC (.int 0)) ao)) (ae (ai cG (ae (cC (.int 0)) ao)) (ae (av vj (cC (.int 10)) (cC (.int 30))) ao)))))))))))) (gN 12) B1) (eX (ft (a_ ju (ai bN (ae (ag 2) ao)))) (bG (cC (.bl false))) cw))))))))))
theorem Cm:qm=fun ds h=>((cH 13 (aO (fO (eB (av (bS az) (ai (cO az) (ae (ai cy (ae (ag 0) (ae (cC (.int 0)) ao))) ao)) (dy az (ag 0) (eg (cC (.int 1))) (eg (cC (.int 4)))))) (gN 1) B2) (bG (cC (.bl true))))) ds h).bind (cJ h):=rfl
noncomputable def DL:Prop:=∀(ns:List Int) (c:Int) (y2 y3 y4 y5 y6 y7 y8 y9 y10 y11 y12:Option D) (h:Hh),Wf h->Ok (B2 [some (.scr (ns.map D.int)),some (.int c),y2,y3,y4,y5,y6,y7,y8,y9,y10,y11,y12] h) fun fl h2=>∃z2 z3 z4 z5 z6 z7 z8 z9 z10 z11 z12,fl=.nx [some (.scr (ns.map D.int)),some (.int c),z2,z3,z4,z5,z6,z7,z8,z9,z10,z11,z12]/\Wf h2
theorem Hm (step:DL) (ns:List Int) (hl:ns.length<=63):∃h,qm [.scr (ns.map D.int)] []=.ok (.bl true) h:=by
 have key:Ok (dw (gN 1) B2 (((ns.headD 0)::bx ns (some 1) (some 4)).map D.int) [some (.scr (ns.map D.int)),none,none,none,none,none,none,none,none,none,none,none,none] []) fun fl h2=>(∃e,fl=.nx e)/\Wf h2:=by
  refine u_ D.int (fun e h=>(∃y1 y2 y3 y4 y5 y6 y7 y8 y9 y10 y11 y12,e=[some (.scr (ns.map D.int)),y1,y2,y3,y4,y5,y6,y7,y8,y9,y10,y11,y12])/\Wf h) _ _ _ ⟨⟨_,_,_,_,_,_,_,_,_,_,_,_,rfl⟩,Wf.nil⟩ (fun x e h _ ⟨⟨y1,y2,y3,y4,y5,y6,y7,y8,y9,y10,y11,y12,e1⟩,w⟩=>?_) (fun e h ⟨_,w⟩=>⟨⟨_,rfl⟩,w⟩)
  subst e1
  simp only[vW,bV,List.set]
  refine(step ns x y2 y3 y4 y5 y6 y7 y8 y9 y10 y11 y12 h w).mono fun fl h2 ⟨z2,z3,z4,z5,z6,z7,z8,z9,z10,z11,z12,e2,w2⟩=>?_
  subst e2
  exact⟨⟨_,_,_,_,_,_,_,_,_,_,_,_,rfl⟩,w2⟩
 obtain⟨fl,h2,e,⟨e',rfl⟩,w⟩:=key
 have cl:=iP ns (some 1) (some 4)
 have c1:1+(bx ns (some 1) (some 4)).length<=1000000:=by omega
 have ex:cJ [] (.bl true) h2=.ok (.bl true) []:=by
  have:=eV (h:=[]) (t:=h2) (d:=.bl true) Wf.nil rfl
  simpa using this
 refine⟨[],?_⟩
 have e2:dw (gN 1) B2 (D.int (ns.headD 0)::(bx ns (some 1) (some 4)).map D.int) [some (.scr (ns.map D.int)),none,none,none,none,none,none,none,none,none,none,none,none] []=.ok (.nx e') h2:=e
 rw[Cm]
 simp[bc,AK,c1,e2,ex,-List.headD_eq_head?_getD]
theorem Ds {d0 d1 d2 d3 d4 d5 d6 d10 d11 d12:Option D} {n k x:D} {h:Hh} (wf:Wf h) (c:Cs n k):B0 [d0,d1,d2,d3,d4,d5,d6,some x,some n,some k,d10,d11,d12] h=.ok (.nx [d0,d1,d2,d3,d4,d5,d6,some x,some n,some k,d10,d11,d12]) h:=by
 have f:=four (x:=x) wf c
 have l4:(bT 0 4).length<=1000000:=by decide
 generalize hI:bT 0 4=I4 at *
 simp[B0,hI,f,l4,ne4]
theorem DO {n:Nat} {k:Int} {h:Hh} {d0 d1 d2 d3 d4 d7 d8 d9 d10 d11:Option D} (wf:Wf h) (h1:1<=n) (hn:n<=12) (k0:0<=k) (k1:k<=12):∀(l:List D) (d12:Option D),(∀d∈l,Bad 0 (Rn n 0 k - 1) d) →
  ∃z,dw (gN 12) B1 l [d0,d1,d2,d3,d4,some (.int n),some (.int k),d7,d8,d9,d10,d11,d12] h=.ok (.nx [d0,d1,d2,d3,d4,some (.int n),some (.int k),d7,d8,d9,d10,d11,z]) h
 | [],d12,_=>⟨d12,rfl⟩
 | d::l,d12,hl=>by
  obtain⟨z,e⟩:=DO (d0:=d0) (d1:=d1) (d2:=d2) (d3:=d3) (d4:=d4) (d7:=d7) (d8:=d8) (d9:=d9) (d10:=d10) (d11:=d11) wf h1 hn k0 k1 l (some d) (fun x hx=>hl x (List.mem_cons_of_mem _ hx))
  have t:=Bj wf (K3 (x:=d) wf h1 hn k0 k1 (hl d List.mem_cons_self))
  refine⟨z,?_⟩
  have b:B1 [d0,d1,d2,d3,d4,some (.int n),some (.int k),d7,d8,d9,d10,d11,some d] h=.ok (.nx [d0,d1,d2,d3,d4,some (.int n),some (.int k),d7,d8,d9,d10,d11,some d]) h:=by simp[B1,t,ne1]
  rw[fu]
  simp only[vW,bV,List.set,b,pZ,e]
theorem D6:DL:=by
 intro ns c y2 y3 y4 y5 y6 y7 y8 y9 y10 y11 y12 h w
 obtain⟨od,eo1,bo⟩:=Gg (p:=vM c) (h:=h) (F7 (a:=1) (b:=12) (by decide) (by decide) (by decide) (by decide))
 obtain⟨fr,ef1,bf⟩:=Gg (p:=g_ (vM c) 11) (h:=h) (F7 (a:=0) (b:=12) (by decide) (by decide) (by decide) (by decide))
 generalize g_ (g_ (vM c) 11) 11=P1 at *
 obtain⟨b,p2,hb,d12⟩:=gu (h:=h) (p:=P1) (m:=12) (by decide)
 obtain⟨n,hn⟩:∃n:Nat,1+(b:Int)=n:=⟨1+b,by omega⟩
 have h1:1<=n:=by omega
 have h2:n<=12:=by omega
 obtain⟨k,p3,hk,d13⟩:=gu (h:=h) (p:=p2) (m:=13) (by decide)
 obtain⟨X,p4,eb,tX,nX⟩:=Fq (n:=n) (p:=p3) w h1 h2
 have wf:=uS w p4
 have fn:Fit 1 12 (.int (n:Int)):=⟨rfl,rG (by omega)⟩
 have q1:=fun(d0 d1 d2 d3 d4 d5 d6 d10 d11 d12:Option D)=>Ds (d0:=d0) (d1:=d1) (d2:=d2) (d3:=d3) (d4:=d4) (d5:=d5) (d6:=d6) (d10:=d10) (d11:=d11) (d12:=d12) (n:=od) (k:=.int k) (x:=X) wf (.inl bo)
 have q2:=fun(d0 d1 d2 d3 d4 d5 d6 d10 d11 d12:Option D)=>Ds (d0:=d0) (d1:=d1) (d2:=d2) (d3:=d3) (d4:=d4) (d5:=d5) (d6:=d6) (d10:=d10) (d11:=d11) (d12:=d12) (n:=.int (n:Int)) (k:=fr) (x:=X) wf (.inr ⟨fn,bf⟩)
 have q3:=fun(d0 d1 d2 d3 d4 d5 d6 d10 d11 d12:Option D)=>Ds (d0:=d0) (d1:=d1) (d2:=d2) (d3:=d3) (d4:=d4) (d5:=d5) (d6:=d6) (d10:=d10) (d11:=d11) (d12:=d12) (n:=od) (k:=fr) (x:=X) wf (.inl bo)
 have f3:dw (gT2 8 9) B0 [.tup [od,.int (k:Int)],.tup [.int (n:Int),fr],.tup [od,fr]] [some (.scr (ns.map D.int)),some (.int c),some (.ref h.length),some od,some fr,some (.int n),some (.int k),some X,y8,y9,y10,y11,y12] (h++[.lst (cF p4)])=.ok (.nx [some (.scr (ns.map D.int)),some (.int c),some (.ref h.length),some od,some fr,some (.int n),some (.int k),some X,some od,some fr,y10,y11,y12]) (h++[.lst (cF p4)]):=by
  simp only[fu,FV,Kt,bV,List.set,q1,q2,q3,pZ]
 obtain⟨s,rx⟩:=tX.rx (h++[.lst (cF p4)])
 have r2:=JJ (k:=(k:Int)) wf h1 h2 (by omega) (by omega) tX nX
 have lm:=EV (n:=n) (k:=(k:Int)) (h:=h++[.lst (cF p4)]) h1 h2
 have v0:=(C5 n 0 (k:Int)).1
 have v1:=(C5 n 0 (k:Int)).2
 have v2:=G4 n (by omega)
 have bn:∀d∈[D.int (Rn n 0 k),.int (Rn n 0 k+1),.int (-1),.bl true,.bl false,.non,.str "0", .frl [.int 0],.tup [.int 0],.int (10 ^ 30)],Bad 0 (Rn n 0 k - 1) d:=by
  intro d hd
  simp only[List.mem_cons,List.not_mem_nil,or_false] at hd
  rcases hd with rfl | rfl | rfl | rfl | rfl | rfl | rfl | rfl | rfl | rfl<;>first | exact⟨rfl,rfl⟩ | exact⟨rfl,mQ (by omega)⟩
 obtain⟨z12,e12⟩:=DO (n:=n) (k:=(k:Int)) (h:=h++[.lst (cF p4)]) (d0:=some (.scr (ns.map D.int))) (d1:=some (.int c)) (d2:=some (.ref h.length)) (d3:=some od) (d4:=some fr) (d7:=some X) (d8:=some od) (d9:=some fr) (d10:=some (.str s)) (d11:=some (.int (Rn n 0 k))) wf h1 h2 (by omega) (by omega) _ y12 bn
 obtain⟨p5,og⟩:=H_ (p:=p4) w
 refine⟨_,_,?_,some (.ref h.length),some od,some fr,some (.int n),some (.int k),some X,some od,some fr,some (.str s),some (.int (Rn n 0 k)),z12,rfl,uS w p5⟩
 have s10:sml 10=true:=by decide +kernel
 generalize hX:(10:Int) ^ 30=X30 at e12
 generalize Rn n 0 k=V at *
 simp[B2,eo1,ef1,d12,hn,d13,eb,f3,rx,r2,ne2,lm,s10,hX,e12,og]
theorem Hg (ns:List Int) (hl:ns.length<=63):∃h,qm [.scr (ns.map D.int)] []=.ok (.bl true) h:=Hm D6 ns hl
end FC
open PySem PySem.W PyProof.Rows
local macro_rules | `(tactic| o_head $H)=>`(tactic| (refine holds_open (q:=FC.Q) (loose:=[]) (Xt:=(fun s=>xlAt FC.Q [] s&&recOk (RowW.records (OpenRow.toRowW (OpenLaw.row PySem.Challenge.rw_fallcounts_k24_listed_refused))) s)) (XP:=XL FC.Q []) (Yf:=Hook.obs $H) (Ya:=Hook.val $H) (YP:=Hook.says $H) (N:=6080) (L2.FE.zS (by decide) (by kernel_rfl) (fun _=>by kernel_rfl) FC.Jv FC.Jr (fun w os=>by kernel_rfl)) (Hook.of $H) (Hook.keeps $H) (fun s e=>xl_of s (Bool.and_eq_true_iff.mp e).1) XL.keeps (by rfl) (by rfl) (by rfl) (fun s e=>recFacts_of (Bool.and_eq_true_iff.mp e).2) (by rfl) (by first | assumption | decide +kernel) (by decide +kernel) ⟨rfl,rfl,rfl,rfl,rfl,by decide +kernel⟩ ?hw ?hc))
set_option maxRecDepth 100000 in
set_option maxHeartbeats 0 in
theorem PySem.Challenge.cw_fallcounts_k24_listed_refused_holds : PySem.Challenge.rw_fallcounts_k24_listed_refused.Holds := by
 w_on;o_law;k_head;w_witness2
 k_fill
 refine FC.walk (l:=PySem.Challenge.rw_fallcounts_k24_listed_refused) rfl rfl (fun w h Y=>by first | exact PySem.W.kIn_of Y | exact PySem.W.km_in_of Y) (fun w h Y=>PySem.W.km_tabs_of Y) (fun _=>by kernel_rfl) FC.Hg ?F
 case F=>
  intro w mg fa h KX G hmg
  refine FC.all_mk KX G hmg (by kernel_rfl) ?T
  case T=>
   refine' ⟨?gH,?iB,?jU,?j4,?kO,?jk,?fQ,?gZ,?gX,?kU,?jK,?gp,?fN,?h_,?lg,?iL,?iT,?kT,?h7,?kM,?fR,?eU,?iS,?gP,?iX,?jb,?gF,?gk,?jG,?iK,?jJ,?jX,?eC,?CK,?cls,?jV,?jd,?yJ,?jA,?Cp,?i7,?Di,?yb,?Cv,?uD,?xK,?C9,?Cn,?uU,?eF,?dW,?bj⟩
   (case gH=>refine' L2.FE.bp ?a ?l ?c ?k;(case a=>k_is);(case l=>k_is);(case c=>k_is);(case k=>k_is))
   (case iB=>refine' L2.FE.bp ?a ?l ?c ?k;(case a=>k_is);(case l=>k_is);(case c=>k_is);(case k=>k_is))
   (case jU=>refine' L2.FE.bp ?a ?l ?c ?k;(case a=>k_is);(case l=>k_is);(case c=>k_is);(case k=>k_is))
   (case j4=>refine' L2.FE.bp ?a ?l ?c ?k;(case a=>k_is);(case l=>k_is);(case c=>k_is);(case k=>k_is))
   (case kO=>refine' L2.FE.bp ?a ?l ?c ?k;(case a=>k_is);(case l=>k_is);(case c=>k_is);(case k=>k_is))
   (case jk=>refine' L2.FE.bp ?a ?l ?c ?k;(case a=>k_is);(case l=>k_is);(case c=>k_is);(case k=>k_is))
   (case fQ=>refine' L2.FE.bp ?a ?l ?c ?k;(case a=>k_is);(case l=>k_is);(case c=>k_is);(case k=>k_is))
   (case gZ=>refine' L2.FE.bp ?a ?l ?c ?k;(case a=>k_is);(case l=>k_is);(case c=>k_is);(case k=>k_is))
   (case gX=>refine' L2.FE.bp ?a ?l ?c ?k;(case a=>k_is);(case l=>k_is);(case c=>k_is);(case k=>k_is))
   (case kU=>refine' L2.FE.bp ?a ?l ?c ?k;(case a=>k_is);(case l=>k_is);(case c=>k_is);(case k=>k_is))
   (case jK=>refine' L2.FE.bp ?a ?l ?c ?k;(case a=>k_is);(case l=>k_is);(case c=>k_is);(case k=>k_is))
   (case gp=>refine' L2.FE.bp ?a ?l ?c ?k;(case a=>k_is);(case l=>k_is);(case c=>k_is);(case k=>k_is))
   (case fN=>refine' L2.FE.bp ?a ?l ?c ?k;(case a=>k_is);(case l=>k_is);(case c=>k_is);(case k=>k_is))
   (case h_=>refine' L2.FE.bp ?a ?l ?c ?k;(case a=>k_is);(case l=>k_is);(case c=>k_is);(case k=>k_is))
   (case lg=>refine' L2.FE.bp ?a ?l ?c ?k;(case a=>k_is);(case l=>k_is);(case c=>k_is);(case k=>k_is))
   (case iL=>refine' L2.FE.bp ?a ?l ?c ?k;(case a=>k_is);(case l=>k_is);(case c=>k_is);(case k=>k_is))
   (case iT=>refine' L2.FE.bp ?a ?l ?c ?k;(case a=>k_is);(case l=>k_is);(case c=>k_is);(case k=>k_is))
   (case kT=>refine' L2.FE.bp ?a ?l ?c ?k;(case a=>k_is);(case l=>k_is);(case c=>k_is);(case k=>k_is))
   (case h7=>refine' L2.FE.bp ?a ?l ?c ?k;(case a=>k_is);(case l=>k_is);(case c=>k_is);(case k=>k_is))
   (case kM=>refine' L2.FE.bp ?a ?l ?c ?k;(case a=>k_is);(case l=>k_is);(case c=>k_is);(case k=>k_is))
   (case fR=>refine' L2.FE.bp ?a ?l ?c ?k;(case a=>k_is);(case l=>k_is);(case c=>k_is);(case k=>k_is))
   (case eU=>refine' L2.FE.bp ?a ?l ?c ?k;(case a=>k_is);(case l=>k_is);(case c=>k_is);(case k=>k_is))
   (case iS=>refine' L2.FE.bp ?a ?l ?c ?k;(case a=>k_is);(case l=>k_is);(case c=>k_is);(case k=>k_is))
   (case gP=>refine' L2.FE.bp ?a ?l ?c ?k;(case a=>k_is);(case l=>k_is);(case c=>k_is);(case k=>k_is))
   (case iX=>refine' L2.FE.bp ?a ?l ?c ?k;(case a=>k_is);(case l=>k_is);(case c=>k_is);(case k=>k_is))
   (case jb=>refine' L2.FE.bp ?a ?l ?c ?k;(case a=>k_is);(case l=>k_is);(case c=>k_is);(case k=>k_is))
   (case gF=>refine' L2.FE.bp ?a ?l ?c ?k;(case a=>k_is);(case l=>k_is);(case c=>k_is);(case k=>k_is))
   (case gk=>refine' L2.FE.bp ?a ?l ?c ?k;(case a=>k_is);(case l=>k_is);(case c=>k_is);(case k=>k_is))
   (case jG=>refine' L2.FE.bp ?a ?l ?c ?k;(case a=>k_is);(case l=>k_is);(case c=>k_is);(case k=>k_is))
   (case iK=>refine' L2.FE.bp ?a ?l ?c ?k;(case a=>k_is);(case l=>k_is);(case c=>k_is);(case k=>k_is))
   (case jJ=>refine' L2.FE.bp ?a ?l ?c ?k;(case a=>k_is);(case l=>k_is);(case c=>k_is);(case k=>k_is))
   (case jX=>refine' L2.FE.bp ?a ?l ?c ?k;(case a=>k_is);(case l=>k_is);(case c=>k_is);(case k=>k_is))
   (case eC=>refine' L2.FE.bp ?a ?l ?c ?k;(case a=>k_is);(case l=>k_is);(case c=>k_is);(case k=>k_is))
   (case CK=>refine' L2.FE.bp ?a ?l ?c ?k;(case a=>k_is);(case l=>k_is);(case c=>k_is);(case k=>k_is))
   (case cls=>refine' L2.GH ?e0 ?e1 ?e2 ?e3 ?e4 ?e5 ?e6 ?e7 ?c;(case e0=>k_is);(case e1=>k_is);(case e2=>k_is);(case e3=>k_is);(case e4=>k_is);(case e5=>k_is);(case e6=>k_is);(case e7=>k_is);(case c=>kernel_rfl))
   (case jV=>refine' L2.FN ?a ?b ?l ?c ?k ?o FC.vz FC.rV FC.uI FC.uC (by decide);(case a=>k_is);(case b=>k_is);(case l=>k_is);(case c=>k_is);(case k=>k_is);(case o=>kernel_rfl))
   (case jd=>k_is)
   (case yJ=>k_is)
   (case jA=>k_is)
   (case Cp=>k_is)
   (case i7=>k_is)
   (case Di=>k_is)
   (case yb=>k_is)
   (case Cv=>k_is)
   (case uD=>k_is)
   (case xK=>k_is)
   (case C9=>k_is)
   (case Cn=>k_is)
   (case uU=>k_is)
   (case eF=>exact⟨_,rfl⟩)
   (case dW=>exact⟨_,rfl⟩)
   (case bj=>refine' L2.FE.Ja ?a ?l ?c ?k ?h1 ?h2 ?h3;(case a=>k_is);(case l=>k_is);(case c=>k_is);(case k=>k_is);(case h1=>kernel_rfl);(case h2=>kernel_rfl);(case h3=>kernel_rfl))
