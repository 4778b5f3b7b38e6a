import PyProof.Rows.All
import Wide.All
import OpenK.AllK
import Wide.FinOn
import Lean
import KE.KNestM
import PyProof.EqAt
import PyProof.EqKinds
import PyProof.TupleCall
import PyProof.EnumMake
import PyProof.Draws
import KE.KDictList
import KE.KTryMore
import KE.KEqDict
import PyProof.ExcInit
import PyProof.InstStoreFacts
import KE.KSortTup
import PySem.Challenge.RW_fallcounts_k72_orders_by_ends
set_option Elab.async false
set_option linter.all false
set_option maxRecDepth 100000
set_option maxHeartbeats 8000000
namespace L2.FE
open PySem PySem.W PySem.Calls
noncomputable def DN:List Obj->BT->Nat->Option BT
 | [],t,_=>some t
 | o::r,t,n=>match ((t.ins n o).get n).isSome with
  | true=>DN r (t.ins n o) (n+1)
  | false=>none
theorem vD {life:Life}:∀{r:List Obj} {t T:BT} {n:Nat} {a:Array Obj},DN r t n=some T->absHeap t n life=⟨a,life⟩->absHeap T (n+r.length) life=⟨a++r.toArray,life⟩
 | [],t,T,n,a,h,e=>by cases h;simpa using e
 | o::r,t,T,n,a,h,e=>by
  unfold DN at h
  cases g:((t.ins n o).get n).isSome with
  | false=>rw[g] at h;cases h
  | true=>
   rw[g] at h
   have x:absHeap (t.ins n o) (n+1) life=⟨a.push o,life⟩:=by rw[absHeap_ins g,e];rfl
   have:=vD h x
   rw[List.length_cons,show n+(r.length+1)=n+1+r.length by omega,this]
   simp
noncomputable def za (p:Program) (w:World) (n₀:Nat) (ann:Option Value):Nat->SharedT->Thread->Option SharedT
 | 0,_,_=>none
 | n+1,s,t=>match through t with
  | true=>some s
  | false=>match PySem.W.Fast.tw6613529449190102663 n₀ ann t with
   | false=>none
   | true=>match PySem.W.Fast.tw10156331382660048174 (PySem.W.Fast.tw11892475500146522536 PySem.W.Fast.tw14364793385576792824) p w s t with
    | some (s',t')=>za p w n₀ ann n s' t'
    | none=>none
theorem wg {p:Program} {w:World} {n₀:Nat} {ann:Option Value}:∀{n:Nat} {s r:SharedT} {t:Thread},za p w n₀ ann n s t=some r->topRun treeTable p w n₀ ann n s.abs t=some r.abs
 | 0,_,_,_,h=>by cases h
 | n+1,s,r,t,h=>by
  unfold za at h
  unfold topRun
  cases ht:through t with
  | true=>rw[ht] at h;cases h;rfl
  | false=>
   rw[ht,<- PySem.W.Fast.te6613529449190102663] at h
   cases hk:stepOk n₀ ann t with
   | false=>simp only[hk] at h;cases h
   | true=>
    simp only[hk] at h
    rw[<- PySem.W.Fast.te10156331382660048174,<- PySem.W.Fast.te11892475500146522536,<- PySem.W.Fast.te14364793385576792824] at h
    cases hs:stepT (denote treeTable) p w s t with
    | none=>rw[hs] at h;cases h
    | some x=>obtain⟨s₂,t₂⟩:=x;rw[hs] at h;rw[stepT_spec hs];exact wg h
noncomputable def rX (p:Program) (w:World) (N:Nat) (os:OsState):Option SharedT:=
 match (boot_heap w.params).isNs mainGlobals with
 | true=>(DN (boot_heap w.params).objs.toList .nil 0).bind fun T=>za p w (boot_heap w.params).objs.size ((boot_heap w.params).nsMap mainGlobals (Str.ofString "__annotations__")) N ⟨T,(boot_heap w.params).objs.size,(boot_heap w.params).life,#[],boot_drawn,boot_toks,os⟩ (topStub p)
 | false=>none
noncomputable def CO (p:Program) (w:World) (s₁:Shared):Bool:=staticsOk (PySem.W.Fast.tw5923862056798008813 p.main.body) (boot_heap w.params) s₁.heap&&namesBound p s₁.heap&&gensDone s₁&&laidKept (boot_heap w.params) s₁.heap
theorem zH {p q:Program} {loose:List Str} {Xt:Shared->Bool} {α:Type} {Yf:Shared->α} {Ya:World->α} {N:Nat} (hN:Nat.ble 600 N=true) (e:opening p=plainProg p.main.scope.names) (f:∀s,fenceModules? p s=some s)
  (h1:∀(w:World) (os:OsState),(rX p w N os).map (fun s=>CO p w s.abs)=some true)
  (h2:∀(w:World) (os:OsState),(rX p w N os).map (fun s=>PySem.W.Fast.tw4187177175401517315 q loose (PySem.W.Fast.tw5923862056798008813 p.main.body) Xt true s.abs)=some (openGood q loose))
  (h3:∀(w:World) (os:OsState),(rX p w N os).map (fun s=>Yf s.abs)=some (Ya w)):LeftO p q loose Xt Yf Ya N:=fun w=>by
 obtain⟨s,hs,e'⟩:=Option.map_eq_some_iff.mp (boot_open e hN f w)
 obtain⟨H,gs,d,k,os⟩:=s
 obtain⟨rfl,rfl,rfl,rfl⟩:H=boot_heap w.params/\gs=_/\d=boot_drawn/\k=boot_toks:=by simpa using e'
 obtain⟨r,hr,l1⟩:=Option.map_eq_some_iff.mp (h1 w os)
 obtain⟨r2,hr2,l2⟩:=Option.map_eq_some_iff.mp (h2 w os)
 obtain⟨r3,hr3,l3⟩:=Option.map_eq_some_iff.mp (h3 w os)
 obtain rfl:r=r2:=Option.some.inj (hr.symm.trans hr2)
 obtain rfl:r=r3:=Option.some.inj (hr.symm.trans hr3)
 unfold CO at l1
 rw[<- PySem.W.Fast.te5923862056798008813] at l1
 rw[<- PySem.W.Fast.te4187177175401517315,<- PySem.W.Fast.te5923862056798008813] at l2
 unfold rX at hr
 cases hn:(boot_heap w.params).isNs mainGlobals with
 | false=>rw[hn] at hr;cases hr
 | true=>
  rw[hn] at hr
  obtain⟨T,hT,hr⟩:=Option.bind_eq_some_iff.mp hr
  have z:=vD (life:=(boot_heap w.params).life) (n:=0) (a:=#[]) hT rfl
  have z':absHeap T (boot_heap w.params).objs.size (boot_heap w.params).life=boot_heap w.params:=by
   rw[Nat.zero_add,Array.length_toList] at z
   rw[z]
   simp
  have hr:=wg hr
  have st:(SharedT.mk T (boot_heap w.params).objs.size (boot_heap w.params).life #[] boot_drawn boot_toks os).abs=⟨boot_heap w.params,#[],boot_drawn,boot_toks,os⟩:=by
   show Shared.mk _ _ _ _ _=_
   rw[z']
  rw[st] at hr
  unfold openEnds
  rw[hs]
  show Option.map _ (topFrom treeTable p w N _)=_
  have t:topFrom treeTable p w N ⟨boot_heap w.params,#[],boot_drawn,boot_toks,os⟩=some r.abs:=by
   unfold topFrom
   dsimp only
   rw[hn]
   rw[hr]
   show(match staticsOk (importedModules p.main.body) (boot_heap w.params) r.abs.heap&&namesBound p r.abs.heap&&gensDone r.abs&&laidKept (boot_heap w.params) r.abs.heap with | true=>_ | false=>_)=_
   rw[l1]
  rw[t]
  show some (openSeen q loose (importedModules p.main.body) Xt true r.abs,Yf r.abs)=_
  rw[l2,l3]
noncomputable def viewOf (p:Program) (keep:List Nat):Program:={ p with main:={ p.main with body:=keep.filterMap fun i=>p.main.body[i]? } }
end L2.FE
section
open PySem PySem.W PyProof.Rows
noncomputable def FC.Q:Program:=L2.FE.viewOf PySem.Challenge.pw_fallcounts_k72_orders_by_ends [1,2,3,4,5,6,7,8,10,11,12,14,16,17,18,19,20,21,22,23,25,26,27,28,29,30,32,33,34,35,36,37,38,39,40,41,42,43,44,45,46]
theorem FC.Jo:∀(w:World) (os:OsState),(L2.FE.rX PySem.Challenge.pw_fallcounts_k72_orders_by_ends w 5588 os).map (fun s=>L2.FE.CO PySem.Challenge.pw_fallcounts_k72_orders_by_ends w s.abs)=some true:=fun w os=>by kernel_rfl
theorem FC.IT:∀(w:World) (os:OsState),(L2.FE.rX PySem.Challenge.pw_fallcounts_k72_orders_by_ends w 5588 os).map (fun s=>PySem.W.Fast.tw4187177175401517315 FC.Q [] (PySem.W.Fast.tw5923862056798008813 PySem.Challenge.pw_fallcounts_k72_orders_by_ends.main.body) (fun s=>xlAt FC.Q [] s&&recOk (RowW.records (OpenRow.toRowW (OpenLaw.row PySem.Challenge.rw_fallcounts_k72_orders_by_ends))) s) true s.abs)=some (openGood FC.Q []):=fun w os=>by kernel_rfl
end
namespace L2
open PySem PySem.Spec PyProof.Rows
noncomputable abbrev Key:=Sum Int Str
noncomputable def sy:Key->Value->Bool
 | .inl k,v=>Value.isInt k v
 | .inr x,v=>Value.isStrOf x v
noncomputable def K4 (w:World):Key->Int
 | .inl k=>hashInt k
 | .inr x=>hashStr w x
theorem cg:∀{k:Key} {v:Value},sy k v=true->(∃i t,k=Sum.inl i/\v=Value.int i t)\/(∃x t,k=Sum.inr x/\v=Value.str x t)
 | .inl i,v,h=>by
  obtain⟨t,e⟩:=Value.isInt_shape (k:=i) (v:=v) h
  exact .inl ⟨i,t,rfl,e⟩
 | .inr x,v,h=>by
  obtain⟨t,e⟩:=Value.isStrOf_shape (x:=x) (v:=v) h
  exact .inr ⟨x,t,rfl,e⟩
theorem AA (i:Int) (t:Tok):sy (.inl i) (.int i t)=true:=by simp[sy,Value.isInt]
theorem zU (x:Str) (t:Tok):sy (.inr x) (.str x t)=true:=by simp[sy,Value.isStrOf]
theorem G4 (a b:Int):decide ((Sum.inl a:Key)=Sum.inl b)=(a == b):=by
 by_cases e:a=b
 ·subst e;simp
 ·have h:¬ (Sum.inl a:Key)=Sum.inl b:=fun q=>e (Sum.inl.inj q)
  rw[decide_eq_false h]
  exact(beq_eq_false_iff_ne.mpr e).symm
theorem GI (a b:Str):decide ((Sum.inr a:Key)=Sum.inr b)=decide (a=b):=by
 by_cases e:a=b
 ·subst e;simp
 ·have h:¬ (Sum.inr a:Key)=Sum.inr b:=fun q=>e (Sum.inr.inj q)
  rw[decide_eq_false h,decide_eq_false e]
theorem GU (a:Int) (b:Str):decide ((Sum.inl a:Key)=Sum.inr b)=false:=decide_eq_false (fun q=>nomatch q)
theorem FO (a:Str) (b:Int):decide ((Sum.inr a:Key)=Sum.inl b)=false:=decide_eq_false (fun q=>nomatch q)
noncomputable def cO (prog:Program) (w:World):PySem.KeyKind prog w Key where
 is:=sy
 hash:=K4 w
 inj:=fun v a b ha hb=>by
  rcases cg ha with⟨i,t,rfl,rfl⟩ | ⟨x,t,rfl,rfl⟩
  ·rcases cg hb with⟨j,u,rfl,e⟩ | ⟨y,u,rfl,e⟩
   ·injection e with e1 _;rw[e1]
   ·exact nomatch e
  ·rcases cg hb with⟨j,u,rfl,e⟩ | ⟨y,u,rfl,e⟩
   ·exact nomatch e
   ·injection e with e1 _;rw[e1]
 byValue:=fun k v h=>by
   rcases cg h with⟨i,t,rfl,rfl⟩ | ⟨x,t,rfl,rfl⟩<;>rfl
 pyHash:=fun hv h=>by
  rcases cg hv with⟨i,t,rfl,rfl⟩ | ⟨x,t,rfl,rfl⟩
  ·exact wpAny_pyHash_int h
  ·exact wpAny_pyHash_str h
 eqBool:=fun hu hv h=>by
  rcases cg hu with⟨i,t,rfl,rfl⟩ | ⟨x,t,rfl,rfl⟩
  ·rcases cg hv with⟨j,u,rfl,rfl⟩ | ⟨y,u,rfl,rfl⟩
   ·rw[G4] at h;exact wpAny_eqBool_int h
   ·rw[GU] at h;exact SeqAt.EqAt.int_str i t y u _ _ _ _ h
  ·rcases cg hv with⟨j,u,rfl,rfl⟩ | ⟨y,u,rfl,rfl⟩
   ·rw[FO] at h;exact SeqAt.EqAt.str_int x t j u _ _ _ _ h
   ·rw[GI] at h;exact wpAny_eqBool_str h
 «strs»:=fun k x t v h=>by
  rcases cg h with⟨i,u,rfl,e⟩ | ⟨y,u,rfl,e⟩
  ·exact nomatch e
  ·injection e with e1 _
   subst e1
   cases v<;>rfl
theorem vL (prog:Program) (w:World) (i:Int) (t:Tok):(cO prog w).is (.inl i) (.int i t)=true:=AA i t
theorem uV (prog:Program) (w:World) (x:Str) (t:Tok):(cO prog w).is (.inr x) (.str x t)=true:=zU x t
inductive V where
 | non | bl (b:Bool) | int (i:Int) | str (x:Str) | byt (b:Array UInt8) | flt (b:UInt64) | ref (a:Addr) | ty (n:String)
 deriving DecidableEq
noncomputable def RelV:V->Value->Prop
 | .non,u=>u=Value.none
 | .bl b,u=>u=Value.bool b
 | .int i,u=>∃t,u=Value.int i t
 | .str x,u=>∃t,u=Value.str x t
 | .byt b,u=>∃t,u=Value.bytes b t
 | .flt b,u=>∃t,u=Value.float b t
 | .ref a,u=>u=Value.ref a
 | .ty n,u=>u=Value.type n
noncomputable abbrev Vals:List V->List Value->Prop:=Paired RelV
theorem Vals.length {xs:List V} {us:List Value} (r:Vals xs us):xs.length=us.length:=Paired.length r
theorem Vals.get:∀{xs:List V} {us:List Value} {i:Nat} {x:V},Vals xs us->xs[i]?=some x->∃u,us[i]?=some u/\RelV x u
 | _,_,_,_,.nil,e=>by simp at e
 | _,_,0,_,.cons r _,e=>by simp at e;subst e;exact⟨_,rfl,r⟩
 | _,_,i+1,x,.cons _ t,e=>by
  obtain⟨u,h1,h2⟩:=Vals.get (i:=i) (x:=x) t (by simpa using e)
  exact⟨u,by simpa using h1,h2⟩
theorem Vals.set {x:V} {u:Value} (r:RelV x u):∀{xs:List V} {us:List Value} (i:Nat),Vals xs us->Vals (xs.set i x) (us.set i u)
 | _,_,_,.nil=>.nil
 | _,_,0,.cons _ t=>.cons r t
 | _,_,i+1,.cons q t=>.cons q (Vals.set r i t)
theorem Vals.append:∀{xs ys:List V} {us ws:List Value},Vals xs us->Vals ys ws->Vals (xs++ys) (us++ws)
 | _,_,_,_,.nil,s=>s
 | _,_,_,_,.cons r t,s=>.cons r (Vals.append t s)
theorem Vals.take:∀{xs:List V} {us:List Value} (n:Nat),Vals xs us->Vals (xs.take n) (us.take n)
 | _,_,0,_=>.nil
 | _,_,_+1,.nil=>.nil
 | _,_,n+1,.cons r t=>.cons r (Vals.take n t)
theorem Vals.drop:∀{xs:List V} {us:List Value} (n:Nat),Vals xs us->Vals (xs.drop n) (us.drop n)
 | _,_,0,r=>r
 | _,_,_+1,.nil=>.nil
 | _,_,n+1,.cons _ t=>Vals.drop n t
noncomputable def my:Option V->Option Value->Prop
 | some v,some u=>RelV v u
 | none,none=>True
 | _,_=>False
noncomputable def KV {κ:Type}:List (κ × V)->List (κ × Value)->Prop:=Paired fun(p:κ × V) (q:κ × Value)=>p.1=q.1/\RelV p.2 q.2
noncomputable def kV:Key->V
 | .inl i=>.int i
 | .inr x=>.str x
inductive HO where
 | lst (xs:List V)
 | tup (xs:List V)
 | dK (kvs:List (Key × V)) | dT (kvs:List (List Key × V))
 | set (S:Int->Bool) (n:Nat)
 | ins (C dx:Addr) (fs:List (Str × V))
 | own (x:Addr)
 | xd (fs:List (Str × V))
 | met (f x:Addr)
 | rng (lo hi:Int)
 | frz (o:Obj) (u:HO)
 | tbl (ps:Array Value)
 | ext (φ:Heap->Prop)
noncomputable abbrev Hp:=Addr->Option HO
noncomputable def upd (H:Hp) (a:Addr) (o:HO):Hp:=fun b=>if b=a then some o else H b
theorem a8 {H:Hp} {a:Addr} {o:HO}:upd H a o a=some o:=by unfold upd;rw[if_pos rfl]
theorem aA {H:Hp} {a b:Addr} {o:HO} (h:b≠a):upd H a o b=H b:=by unfold upd;rw[if_neg h]
theorem IZ {H:Hp} {a b:Addr} {o u:HO} (h:H a=some o) (h':H b=some u) (d:o≠u):a≠b:=by
 intro e;subst e;rw[h] at h';exact d (Option.some.inj h')
theorem aK {H:Hp} {a b:Addr} {o:HO} (h:H a=some o) (h':H b=none):a≠b:=by
 intro e;subst e;rw[h] at h';cases h'
noncomputable def qq (h:Heap) (a:Addr) (its:Array Value):Prop:=∃o,h.get? a=some o/\(o.cls=.type "tuple" /\ ∃n,o.data=.seq its n)/\o.dict=none
theorem qq.tup {h:Heap} {a:Addr} {its:Array Value} (x:qq h a its):IsTup h a its:=let ⟨o,e,⟨c,n,d⟩,_⟩:=x;⟨o,e,c,n,d⟩
theorem qq.new (h:Heap) (its:Array Value):qq (h.push { cls:=.type "tuple", data:=.seq its }) h.objs.size its:=⟨_,Heap.get?_push_size _ rfl,⟨rfl,_,rfl⟩,rfl⟩
section
variable (P:Program) (w:World)
noncomputable def bI (H:Hp) (h:Heap) (a:Addr):HO->Prop
 | .lst xs=>xs.length<=sizeLine/\∃(its:List Value) (n:Nat),Vals xs its/\h.get? a=some { cls:=.type "list", data:=.seq its.toArray n }
 | .tup xs=>xs.length<=sizeLine/\∃its:List Value,Vals xs its/\qq h a its.toArray
 | .dK kvs=>kvs.length<=sizeLine/\(a == sysModules)=false/\∃vs,KV kvs vs/\h.DictOf (cO P w) a vs
 | .dT kvs=>kvs.length<=sizeLine/\(a == sysModules)=false/\∃xs:List (List Key × Addr × Value),
   Paired (fun(p:List Key × V) (q:List Key × Addr × Value)=>p.1=q.1/\H q.2.1=some (.tup (p.1.map kV))/\RelV p.2 q.2.2) kvs xs ∧
   ∃o es ep,h.get? a=some o/\o.ExactDict/\o.data=.dict es ep/\es.toList=xs.map (entryOfKey (tupleKind (cO P w)))/\(xs.map (·.1)).Nodup
 | .set S n=>h.SetOf (intKind P w) a S n
 | .ins C dx fs=>H dx=some (.own a)/\fs.length<=1000/\dx≠a/\h.get? a=some (PySem.W.instObj C dx) ∧
   ∃mA,h.Ns1 dx mA/\(∀f,my (fs.lookup f) (mA f))/\PySem.Within mA (fs.map (·.1))
 | .own _=>∃o,h.get? a=some o
 | .xd fs=>∃mA,h.Ns1 a mA/\∀f,my (fs.lookup f) (mA f)
 | .rng lo hi=>∃t u v,h.get? a=some { cls:=.type "range", data:=.fields #[.int lo t,.int hi u,.int 1 v] }
 | .frz o u=>h.get? a=some o/\bI H h a u
 | .tbl ps=>h.get? a=some { cls:=.none,data:=.fields ps }
 | .met f x=>h.get? a=some (PySem.W.methodObj (.ref f) (.ref x))
 | .ext φ=>φ h/\(∃o,h.get? a=some o)/\∀h1 h2:Heap,φ h1->(∀o,h1.get? a=some o->h2.get? a=some o)->φ h2
noncomputable def HOk (H:Hp) (h:Heap):Prop:=∀a o,H a=some o->bI P w H h a o
end
section
variable {P:Program} {w:World} {H H':Hp} {h h':Heap} {a:Addr} {o:HO}
theorem bI.lt (x:bI P w H h a o):a<h.objs.size:=by
 cases o with
 | lst xs=>obtain⟨_,_,_,_,e⟩:=x;exact Heap.lt_size e
 | tup xs=>obtain⟨_,_,_,_,e,_⟩:=x;exact Heap.lt_size e
 | dK kvs=>obtain⟨_,_,_,_,o,_,_,e,_⟩:=x;exact Heap.lt_size e
 | dT kvs=>obtain⟨_,_,_,_,o,_,_,e,_⟩:=x;exact Heap.lt_size e
 | set S n=>obtain⟨o,_,_,_,e,_⟩:=x;exact Heap.lt_size e
 | ins C dx fs=>obtain⟨_,_,_,e,_⟩:=x;exact Heap.lt_size e
 | own y=>obtain⟨_,e⟩:=x;exact Heap.lt_size e
 | xd fs=>obtain⟨_,⟨_,_,_,e,_⟩,_⟩:=x;exact Heap.lt_size e
 | rng lo hi=>obtain⟨_,_,_,e⟩:=x;exact Heap.lt_size e
 | frz ob u=>obtain⟨e,_⟩:=x;exact Heap.lt_size e
 | tbl ps=>exact Heap.lt_size (show h.get? a=some _ from x)
 | met f y=>exact Heap.lt_size (show h.get? a=some _ from x)
 | ext φ=>obtain⟨_,⟨_,e⟩,_⟩:=x;exact Heap.lt_size e
theorem Paired.qS {α β:Type} {F G:α->β->Prop}:∀{l₁:List α} {l₂:List β},Paired F l₁ l₂->(∀a b,F a b->G a b)->Paired G l₁ l₂
 | _,_,.nil,_=>.nil
 | _,_,.cons r t,f=>.cons (f _ _ r) (Paired.qS t f)
theorem bI.jU (x:bI P w H h a o) (k:∀b u,(b=a\/H b=some (.own a))->h.get? b=some u->h'.get? b=some u)
  (ho:∀b,H b=some (.own a)->H' b=some (.own a)) (ht:∀b xs,H b=some (.tup xs)->H' b=some (.tup xs)):bI P w H' h' a o:=by
 induction o with
 | lst xs=>obtain⟨z,its,n,r,e⟩:=x;exact⟨z,its,n,r,k _ _ (.inl rfl) e⟩
 | tup xs=>obtain⟨z,its,r,ob,e,c⟩:=x;exact⟨z,its,r,ob,k _ _ (.inl rfl) e,c⟩
 | dK kvs=>obtain⟨z,y,vs,r,ob,es,ep,e,c⟩:=x;exact⟨z,y,vs,r,ob,es,ep,k _ _ (.inl rfl) e,c⟩
 | dT kvs=>
  obtain⟨z,y,xs,r,ob,es,ep,e,c⟩:=x
  exact⟨z,y,xs,Paired.qS r fun p q z=>⟨z.1,ht _ _ z.2.1,z.2.2⟩,ob,es,ep,k _ _ (.inl rfl) e,c⟩
 | set S n=>obtain⟨ob,es,ep,t,e,c⟩:=x;exact⟨ob,es,ep,t,k _ _ (.inl rfl) e,c⟩
 | ins C dx fs=>
  obtain⟨d,z,ne,e,mA,⟨od,es,ep,e2,c⟩,r⟩:=x
  exact⟨ho _ d,z,ne,k _ _ (.inl rfl) e,mA,⟨od,es,ep,k _ _ (.inr d) e2,c⟩,r⟩
 | own y=>obtain⟨ob,e⟩:=x;exact⟨ob,k _ _ (.inl rfl) e⟩
 | xd fs=>obtain⟨mA,⟨od,es,ep,e,c⟩,r⟩:=x;exact⟨mA,⟨od,es,ep,k _ _ (.inl rfl) e,c⟩,r⟩
 | rng lo hi=>obtain⟨t,u,v,e⟩:=x;exact⟨t,u,v,k _ _ (.inl rfl) e⟩
 | frz ob u ih=>obtain⟨e,q⟩:=x;exact⟨k _ _ (.inl rfl) e,ih q⟩
 | tbl ps=>
  have e:h.get? a=some { cls:=.none,data:=.fields ps }:=x
  show h'.get? a=some { cls:=.none,data:=.fields ps }
  exact k a _ (.inl rfl) e
 | met f y=>
  have e:h.get? a=some (PySem.W.methodObj (.ref f) (.ref y)):=x
  show h'.get? a=some (PySem.W.methodObj (.ref f) (.ref y))
  exact k a _ (.inl rfl) e
 | ext φ=>obtain⟨p,⟨o,e⟩,st⟩:=x;exact⟨st _ _ p fun o q=>k _ _ (.inl rfl) q,⟨o,k _ _ (.inl rfl) e⟩,st⟩
theorem HOk.lt (x:HOk P w H h) (e:H a=some o):a<h.objs.size:=(x a o e).lt
theorem HOk.fresh (x:HOk P w H h) (e:h.objs.size<=a):H a=none:=by
 cases q:H a with
 | none=>rfl
 | some u=>exact absurd (Nat.lt_of_lt_of_le (x.lt q) e) (Nat.lt_irrefl _)
theorem HOk.kept (x:HOk P w H h) (k:∀b u,h.get? b=some u->h'.get? b=some u):HOk P w H h':=fun a o e=>
 (x a o e).jU (fun b u _ q=>k b u q) (fun _ q=>q) fun _ _ q=>q
theorem HOk.laid (x:HOk P w H h) (k:∀b u,h.get? b=some u->h'.get? b=some u) (hp:h.objs.size<=a) (new:bI P w (upd H a o) h' a o):HOk P w (upd H a o) h':=fun b u e=>by
 have hn:=x.fresh hp
 by_cases hb:b=a
 ·subst hb;rw[a8] at e;cases e;exact new
 ·rw[aA hb] at e
  exact(x b u e).jU (fun c v _ q=>k c v q) (fun c q=>by rw[aA (aK q hn)];exact q) fun c xs q=>by rw[aA (aK q hn)];exact q
end
noncomputable def Rd (H:Hp) (a:Addr) (u:HO):Prop:=H a=some u\/∃o,H a=some (.frz o u)
theorem Rd.ok {P:Program} {w:World} {H:Hp} {h:Heap} {a:Addr} {u:HO} (r:Rd H a u) (x:HOk P w H h):bI P w H h a u:=by
 rcases r with r | ⟨o,r⟩
 ·exact x a u r
 ·obtain⟨_,q⟩:=x a _ r
  exact q
noncomputable def Mut:Option HO->Prop
 | some (.lst _)=>True
 | some (.dK _)=>True
 | some (.dT _)=>True
 | some (.set _ _)=>True
 | some (.ins _ _ _)=>True
 | some (.ext _)=>True
 | _=>False
section
variable {P:Program} {w:World} {H:Hp} {h h':Heap} {x e:Addr} {o':HO}
theorem HOk.write (ok:HOk P w H h) (mu:Mut (H x)) (he:e=x\/H e=some (.own x)) (k:∀b u,b≠e->h.get? b=some u->h'.get? b=some u) (heo:∃u,h'.get? e=some u)
  (new:bI P w (upd H x o') h' x o'):HOk P w (upd H x o') h':=fun b u q=>by
 have nown:∀c y,H c=some (.own y)->c≠x:=fun c y r z=>by subst z;rw[r] at mu;exact mu
 have ntup:∀c xs,H c=some (.tup xs)->c≠x:=fun c xs r z=>by subst z;rw[r] at mu;exact mu
 by_cases hb:b=x
 ·subst hb;rw[a8] at q;cases q;exact new
 ·rw[aA hb] at q
  by_cases hbe:b=e
  ·have q':H b=some (.own x):=by
    rcases he with z | z
    ·exact absurd (hbe.trans z) hb
    ·rw[hbe];exact z
   rw[q] at q';cases q'
   obtain⟨v,hv⟩:=heo
   exact⟨v,by rw[hbe];exact hv⟩
  ·refine(ok b u q).jU (fun c v hc r=>k c v ?_ r) (fun c r=>by rw[aA (nown c b r)];exact r) fun c xs r=>by rw[aA (ntup c xs r)];exact r
   rcases hc with rfl | hc
   ·exact hbe
   ·rintro rfl
    rcases he with z | z
    ·exact nown c b hc z
    ·rw[hc] at z;cases z;exact hb rfl
end
structure Un (fs ex:List Addr) (H H':Hp) (h h':Heap):Prop where
 keep:∀b o,h.get? b=some o->H b=none->b∉fs->b∉ex->h'.get? b=some o
 slot:∀b o,h.get? b=some o->H b=none->b∈fs->b∉ex->∃sl,h'.get? b=some { o with slots:=sl }
 free:∀b o,h.get? b=some o->H b=none->b∉ex->H' b=none
 there:∀b o,h.get? b=some o->b∉ex->∃o',h'.get? b=some o'
 ku:∀b xs,H b=some (.tup xs)->H' b=some (.tup xs)
 jT:∀b o u,H b=some (.frz o u)->H' b=some (.frz o u)
 kB:∀b ps,H b=some (.tbl ps)->∃more,H' b=some (.tbl (ps++more))
section
variable {fs fs' ex ex':List Addr} {H H1 H2:Hp} {h h1 h2 h':Heap} {a x e:Addr} {o:HO}
theorem Un.any (u:Un fs ex H H1 h h1) {b:Addr} {ob:Obj} (q:h.get? b=some ob) (n:H b=none) (hx:b∉ex):∃sl,h1.get? b=some { ob with slots:=sl }:=by
 by_cases hb:b∈fs
 ·exact u.slot b ob q n hb hx
 ·exact⟨ob.slots,u.keep b ob q n hb hx⟩
theorem Un.kept (k:∀b u,h.get? b=some u->h'.get? b=some u):Un fs ex H H h h':=
 ⟨fun b ob q _ _ _=>k b ob q,fun b ob q _ _ _=>⟨ob.slots,k b ob q⟩,fun _ _ _ n _=>n,fun b ob q _=>⟨ob,k b ob q⟩,fun _ _ q=>q,fun _ _ _ q=>q,fun _ ps q=>⟨#[],by rw[q];simp⟩⟩
theorem Un.refl:Un fs ex H H h h:=Un.kept fun _ _ q=>q
theorem Un.laid (k:∀b u,h.get? b=some u->h'.get? b=some u) (hp:h.objs.size<=a) (hn:H a=none):Un fs ex H (upd H a o) h h' where
 keep:=fun b u q _ _ _=>k b u q
 slot:=fun b u q _ _ _=>⟨u.slots,k b u q⟩
 free:=fun b u q n _=>by rw[aA (Nat.ne_of_lt (Nat.lt_of_lt_of_le (Heap.lt_size q) hp))];exact n
 there:=fun b u q _=>⟨u,k b u q⟩
 ku:=fun b xs q=>by rw[aA (aK q hn)];exact q
 jT:=fun b u xs q=>by rw[aA (aK q hn)];exact q
 kB:=fun b ps q=>⟨#[],by rw[aA (aK q hn),q];simp⟩
theorem Un.write (mu:Mut (H x)) (he:e=x\/H e=some (.own x)) (k:∀b u,b≠e->h.get? b=some u->h'.get? b=some u) (heo:∃u,h'.get? e=some u):Un fs ex H (upd H x o) h h':=by
 have hx:∀b,H b=none->b≠x:=fun b n z=>by subst z;rw[n] at mu;exact mu
 have hb:∀b,H b=none->b≠e:=fun b n z=>by
  subst z
  rcases he with r | r
  ·exact hx b n r
  ·rw[n] at r;cases r
 have hm:∀b u,H b=some u->¬ Mut (some u)->b≠x:=fun b u q nm z=>by subst z;rw[q] at mu;exact nm mu
 refine⟨fun b u q n _ _=>k b u (hb b n) q,fun b u q n _ _=>⟨u.slots,k b u (hb b n) q⟩,fun b u q n _=>by rw[aA (hx b n)];exact n,fun b u q _=>?_,
  fun b xs q=>by rw[aA (hm b _ q fun z=>z)];exact q,fun b u xs q=>by rw[aA (hm b _ q fun z=>z)];exact q,fun b ps q=>⟨#[],by rw[aA (hm b _ q fun z=>z),q];simp⟩⟩
 by_cases hbe:b=e
 ·subst hbe;exact heo
 ·exact⟨u,k b u hbe q⟩
end
noncomputable def trk (h:Heap) (H:Hp):List Addr:=(List.range h.objs.size).filter fun a=>(H a).isSome
noncomputable def rh (h:Heap) (H:Hp):Heap:=PySem.W.hideAll h (trk h H)
theorem zQ (h:Heap) (H:Hp):(rh h H).objs.size=h.objs.size:=PySem.W.hideAll_size _ _
theorem Cn {h:Heap} {H:Hp} {b:Addr} {o:Obj} (e:h.get? b=some o) (n:H b=none):(rh h H).get? b=some o:=
 PySem.W.hideAll_get _ e fun hm=>by
  have q:(H b).isSome=true:=(List.mem_filter.mp hm).2
  rw[n] at q;simp at q
theorem Er {h:Heap} {H:Hp} {b:Addr} {o:Obj} (e:(rh h H).get? b=some o):h.get? b=some o/\H b=none:=by
 have e':h.get? b=some o:=PySem.W.of_hideAll (trk h H) e
 refine⟨e',?_⟩
 cases q:H b with
 | none=>rfl
 | some x=>
  have hm:b∈trk h H:=List.mem_filter.mpr ⟨List.mem_range.mpr (Heap.lt_size e'),by simp[q]⟩
  have z:(rh h H).get? b=none:=PySem.W.hideAll_none (trk h H) hm
  rw[z] at e;cases e
structure Mod (K:PySem.W.Frag) (mg:Str->Option Value) (base:Heap):Prop where
 kin:K.In base
 glob:base.Ns mainGlobals mg
 blt:∃mb,base.Ns builtinsNs mb/\∀x:Str,x≠"__name__" -> mb x=bootBuiltins x
 nolimit:base.NoLimit
structure Cx where
 prog:Program
 w:World
 K:PySem.W.Frag
 mg:Str->Option Value
 base:Heap
 A:Around
 N:List Str
 az:Shared
 aG:Hp
 env:Env
 outer:List Env
 stack:List Env
 ex:List Addr
 fn:Str->Bool
 calm:Bool
 pn:List (Addr × Obj)
 xe:Value->Shared->Prop
noncomputable def frs (l:List Env):List Addr:=l.filterMap (·.frame)
noncomputable abbrev Cx.fs (X:Cx):List Addr:=frs X.outer
noncomputable def Vis (sc:Scope) (x:Str):Prop:=sc.names.lookup x=some .local\/sc.names.lookup x=some .cell\/sc.names.lookup x=some .free
noncomputable def Loc (sc:Scope) (x:Str):Prop:=sc.names.lookup x=some .local\/sc.names.lookup x=some .cell
noncomputable def Look (env:Env) (h:Heap) (m:Str->Option Value) (x:Str) (u:Value):Prop:=
 (env.kindOf x=some .local/\m x=some u)\/((env.kindOf x=some .cell\/env.kindOf x=some .free)/\∃c,env.cells.lookup x=some c/\h.IsCell c (some u))
structure Cx.Ok (X:Cx):Prop where
 mod:Mod X.K X.mg X.base
 kind:X.env.scope.kind=.function
 glob:X.env.globals=mainGlobals
 blt:X.env.builtins=builtinsNs
 above:X.az.heap.objs.size<=X.env.locals
 inj:∀x y c,X.env.cells.lookup x=some c->X.env.cells.lookup y=some c->x=y
 has:∀x,(X.env.kindOf x=some .cell\/X.env.kindOf x=some .free)->∃c,X.env.cells.lookup x=some c
 cab:∀x c,X.fn x=true->X.env.cells.lookup x=some c->X.az.heap.objs.size<=c
 hd:X.calm=true->X.A.handled=none
 frames:X.A.frames=some X.stack
 stk:X.stack=X.outer\/(X.stack=X.env::X.outer/\X.env.frame=some X.env.locals)
 exf:∀b∈X.ex,b≠X.env.locals/\∀x c,X.env.cells.lookup x=some c->c≠b
 bs:∀b o,X.base.get? b=some o->X.az.heap.get? b=some o/\X.aG b=none
 bsz:X.base.objs.size<=X.az.heap.objs.size
 qv:∀b o,X.base.get? b=some o->b∉X.ex
 vV:∀b∈X.ex,b∉X.fs
 i5:X.az.heap.FunFrames X.base X.outer
 frf:∀b∈X.fs,X.aG b=none
structure Inv (X:Cx) (pins:List (Addr × Obj)) (σ:List (Option V)) (H:Hp) (s:Shared):Prop where
 ok:X.Ok
 os:s.os=X.az.os
 bare:AllBare s.gens
 base:Un X.fs X.ex X.aG H X.az.heap s.heap
 loc:∃m,s.heap.Ns X.env.locals m/\∀(i:Nat) (x:Str) (v:V),X.N[i]?=some x->σ[i]?=some (some v)->Vis X.env.scope x->∃u,RelV v u/\Look X.env s.heap m x u
 cell:∀x c,X.env.cells.lookup x=some c->∃v,s.heap.IsCell c v
 free:H X.env.locals=none
 di:∀x c,X.env.cells.lookup x=some c->H c=none
 pin:∀p∈X.pn++pins,s.heap.get? p.1=some p.2/\H p.1=none/\p.1≠X.env.locals/\p.1∉X.fs/\∀v,p.2.data≠.cell v
 hok:HOk X.prog X.w H s.heap
 len:σ.length=X.N.length
section
variable {X:Cx} {pins:List (Addr × Obj)} {σ:List (Option V)} {H H':Hp} {s:Shared} {h':Heap}
theorem Cx.Ok.Kj (ok:X.Ok) {b:Addr} {o:Obj} (e:X.base.get? b=some o):b∉X.fs:=fun hb=>by
 have:=(ok.i5.mem hb).1
 rw[e] at this;cases this
theorem Inv.bs (I:Inv X pins σ H s):∀b o,X.base.get? b=some o->s.heap.get? b=some o/\H b=none:=fun b o e=>
 ⟨I.base.keep b o (I.ok.bs b o e).1 (I.ok.bs b o e).2 (I.ok.Kj e) (I.ok.qv b o e),I.base.free b o (I.ok.bs b o e).1 (I.ok.bs b o e).2 (I.ok.qv b o e)⟩
theorem Inv.bk (I:Inv X pins σ H s):∀b o,X.base.get? b=some o->s.heap.get? b=some o:=fun b o e=>(I.bs b o e).1
theorem Inv.mod (I:Inv X pins σ H s):Mod X.K X.mg X.base:=I.ok.mod
theorem Inv.kIn (I:Inv X pins σ H s):X.K.In s.heap:=I.ok.mod.kin.keeps I.bk
theorem Inv.nolimit (I:Inv X pins σ H s):s.heap.NoLimit:=I.ok.mod.nolimit.keeps I.bk
theorem Inv.lt (I:Inv X pins σ H s):X.env.locals<s.heap.objs.size:=let ⟨_,hn,_⟩:=I.loc;hn.lt
theorem Inv.sz (I:Inv X pins σ H s):X.az.heap.objs.size<=s.heap.objs.size:=Nat.le_trans I.ok.above (Nat.le_of_lt I.lt)
theorem Inv.Ho (I:Inv X pins σ H s) {a:Addr} (h:s.heap.objs.size<=a):a∉X.fs:=fun hb=>by
 obtain⟨_,o,ho,_⟩:=I.ok.i5.mem hb
 exact absurd (Nat.lt_of_lt_of_le (Heap.lt_size ho) (Nat.le_trans I.sz h)) (Nat.lt_irrefl _)
theorem Inv.cne (I:Inv X pins σ H s):∀x c,X.env.cells.lookup x=some c->c≠X.env.locals:=fun x c e z=>by
 obtain⟨v,o,ho,hd⟩:=I.cell x c e
 obtain⟨m,⟨o',es,ep,ho',hd',_⟩,_⟩:=I.loc
 rw[z,ho'] at ho;cases ho;rw[hd'] at hd;cases hd
theorem Inv.i5 (I:Inv X pins σ H s):s.heap.FunFrames X.base X.outer:=by
 have all:∀(l:List Env),(∀b∈frs l,b∈X.fs)->X.az.heap.FunFrames X.base l->s.heap.FunFrames X.base l:=by
  intro l
  induction l with
  | nil=>intro _ _;trivial
  | cons env r ih=>
   intro hs hl
   obtain⟨hk,⟨L,o,hf,hn,ho,hd⟩,hr⟩:=hl
   have hL:L∈X.fs:=hs L (by unfold frs;rw[List.filterMap_cons,hf];exact List.mem_cons_self)
   obtain⟨sl,e⟩:=I.base.slot L o ho (I.ok.frf L hL) hL fun z=>I.ok.vV L z hL
   exact⟨hk,⟨L,_,hf,hn,e,hd⟩,ih (fun b hb=>hs b (by unfold frs;rw[List.filterMap_cons,hf];exact List.mem_cons_of_mem _ hb)) hr⟩
 exact all X.outer (fun _ hb=>hb) I.ok.i5
theorem Inv.stack (I:Inv X pins σ H s):s.heap.FunFrames X.base X.stack:=by
 rcases I.ok.stk with e | ⟨e,hf⟩
 ·rw[e];exact I.i5
 ·rw[e]
  obtain⟨m,hn,_⟩:=I.loc
  refine .cons (by rw[I.ok.kind];decide) hf hn ?_ I.i5
  exact Heap.get?_none_of_le (Nat.le_trans I.ok.bsz I.ok.above)
theorem Inv.eX (I:Inv X pins σ H s):∀b∈frs X.stack,b∈X.env.locals::X.fs:=fun b hb=>by
 rcases I.ok.stk with e | ⟨e,hf⟩
 ·rw[e] at hb;exact List.mem_cons_of_mem _ hb
 ·rw[e] at hb
  unfold frs at hb
  rw[List.filterMap_cons,hf] at hb
  exact hb
theorem Inv.jM (I:Inv X pins σ H s):∀b∈frs X.stack,H b=none:=fun b hb=>by
 rcases List.mem_cons.mp (I.eX b hb) with e | hb
 ·rw[e];exact I.free
 ·obtain⟨_,o,ho,_⟩:=I.ok.i5.mem hb
  exact I.base.free b o ho (I.ok.frf b hb) fun z=>I.ok.vV b z hb
theorem Inv.step {g':Array GenState} {t':Nat} {d':Drawn} {ch:List Addr} (I:Inv X pins σ H s)
  (hch:∀b∈ch,(b∈X.ex\/X.az.heap.objs.size<=b)/\b≠X.env.locals/\(∀x c,X.env.cells.lookup x=some c->c≠b)/\∀p∈X.pn++pins,p.1≠b)
  (keep:∀b o,b≠X.env.locals->b∉X.fs->b∉ch->s.heap.get? b=some o->H b=none->h'.get? b=some o)
  (slot:∀b o,b≠X.env.locals->b∈X.fs->b∉ch->s.heap.get? b=some o->H b=none->∃sl,h'.get? b=some { o with slots:=sl }) (free:∀b o,b∉ch->s.heap.get? b=some o->H b=none->H' b=none)
  (there:∀b o,b∉ch->s.heap.get? b=some o->∃o',h'.get? b=some o')
  (ku:∀b xs,H b=some (.tup xs)->H' b=some (.tup xs)) (jT:∀b o u,H b=some (.frz o u)->H' b=some (.frz o u)) (kB:∀b ps,H b=some (.tbl ps)->∃more,H' b=some (.tbl (ps++more)))
  (ns:∀m,s.heap.Ns X.env.locals m->h'.Ns X.env.locals m) (hok:HOk X.prog X.w H' h') (hg:AllBare g') :
  Inv X pins σ H' { s with heap:=h',gens:=g',drawn:=d',toks:=t' }:=by
 have neL:∀b o,X.az.heap.get? b=some o->b≠X.env.locals:=fun b o e=>Nat.ne_of_lt (Nat.lt_of_lt_of_le (Heap.lt_size e) I.ok.above)
 have neC:∀b o,X.az.heap.get? b=some o->b∉X.ex->b∉ch:=fun b o e hx hb=>by
  rcases(hch b hb).1 with z | z
  ·exact hx z
  ·exact absurd (Nat.lt_of_lt_of_le (Heap.lt_size e) z) (Nat.lt_irrefl _)
 have cellK:∀x c,X.env.cells.lookup x=some c->∀v,s.heap.IsCell c v->h'.IsCell c v:=fun x c e v ⟨o,ho,hd⟩=>by
  have nch:c∉ch:=fun z=>(hch c z).2.2.1 x c e rfl
  by_cases hc:c∈X.fs
  ·obtain⟨sl,q⟩:=slot c o (I.cne x c e) hc nch ho (I.di x c e)
   exact⟨_,q,hd⟩
  ·exact⟨o,keep c o (I.cne x c e) hc nch ho (I.di x c e),hd⟩
 refine⟨I.ok,I.os,hg,⟨fun b o e n hb hx=>?_,fun b o e n hb hx=>?_,fun b o e n hx=>?_,fun b o e hx=>?_,fun b xs e=>ku b xs (I.base.ku b xs e),fun b o xs e=>jT b o xs (I.base.jT b o xs e),fun b ps e=>?_⟩,?_,fun x c e=>?_,?_,fun x c e=>?_,fun p hp=>?_,hok,I.len⟩
 ·exact keep b o (neL b o e) hb (neC b o e hx) (I.base.keep b o e n hb hx) (I.base.free b o e n hx)
 ·obtain⟨sl,e1⟩:=I.base.slot b o e n hb hx
  obtain⟨sl',e2⟩:=slot b _ (neL b o e) hb (neC b o e hx) e1 (I.base.free b o e n hx)
  exact⟨sl',e2⟩
 ·obtain⟨o',e1⟩:=I.base.there b o e hx
  exact free b o' (neC b o e hx) e1 (I.base.free b o e n hx)
 ·obtain⟨o',e1⟩:=I.base.there b o e hx
  exact there b o' (neC b o e hx) e1
 ·obtain⟨m1,e1⟩:=I.base.kB b ps e
  obtain⟨m2,e2⟩:=kB b _ e1
  exact⟨m1++m2,by rw[e2,Array.append_assoc]⟩
 ·obtain⟨m,hn,hl⟩:=I.loc
  refine⟨m,ns m hn,fun i x v e1 e2 e3=>?_⟩
  obtain⟨u,r,l⟩:=hl i x v e1 e2 e3
  refine⟨u,r,?_⟩
  rcases l with l | ⟨k,c,e,z⟩
  ·exact .inl l
  ·exact .inr ⟨k,c,e,cellK x c e _ z⟩
 ·obtain⟨v,z⟩:=I.cell x c e
  exact⟨v,cellK x c e v z⟩
 ·obtain⟨m,⟨o,_,_,ho,_⟩,_⟩:=I.loc
  exact free _ o (fun z=>(hch _ z).2.1 rfl) ho I.free
 ·obtain⟨v,o,ho,hd⟩:=I.cell x c e
  exact free c o (fun z=>(hch c z).2.2.1 x c e rfl) ho (I.di x c e)
 ·obtain⟨e,n,ne,nf,d⟩:=I.pin p hp
  have nch:p.1∉ch:=fun z=>(hch p.1 z).2.2.2 p hp rfl
  exact⟨keep p.1 p.2 ne nf nch e n,free p.1 p.2 nch e n,ne,nf,d⟩
theorem Inv.un {t':Nat} (I:Inv X pins σ H s) (u:Un X.fs [] H H' s.heap h') (hok:HOk X.prog X.w H' h'):Inv X pins σ H' { s with heap:=h',toks:=t' }:=by
 obtain⟨m,⟨o,es,ep,ho,r⟩,_⟩:=id I.loc
 obtain⟨sl,hL⟩:=u.any ho I.free (by simp)
 exact I.step (g':=s.gens) (d':=s.drawn) (ch:=[]) (fun _ z=>nomatch z) (fun b o _ hb _ e n=>u.keep b o e n hb (by simp)) (fun b o _ hb _ e n=>u.slot b o e n hb (by simp)) (fun b o _ e n=>u.free b o e n (by simp)) (fun b o _ e=>u.there b o e (by simp)) u.ku u.jT u.kB (fun m' hm=>by
  obtain⟨o',es',ep',ho',r'⟩:=hm
  rw[ho] at ho';cases ho'
  exact⟨_,es',ep',hL,r'⟩) hok I.bare
theorem Inv.call {g':Array GenState} {t':Nat} {d':Drawn} {ch:List Addr} (I:Inv X pins σ H s) (u:Un (frs X.stack) ch H H' s.heap h') (hok:HOk X.prog X.w H' h') (hg:AllBare g')
  (hch:∀b∈ch,(b∈X.ex\/X.az.heap.objs.size<=b)/\b≠X.env.locals/\(∀x c,X.env.cells.lookup x=some c->c≠b)/\∀p∈X.pn++pins,p.1≠b) :
  Inv X pins σ H' { s with heap:=h',gens:=g',drawn:=d',toks:=t' }:=by
 obtain⟨m,⟨o,es,ep,ho,r⟩,_⟩:=id I.loc
 obtain⟨sl,hL⟩:=u.any ho I.free fun z=>(hch _ z).2.1 rfl
 exact I.step (ch:=ch) hch (fun b o hL hb hc e n=>u.keep b o e n (fun z=>(List.mem_cons.mp (I.eX b z)).elim hL hb) hc) (fun b o _ _ hc e n=>u.any e n hc) (fun b o hc e n=>u.free b o e n hc) (fun b o hc e=>u.there b o e hc) u.ku u.jT u.kB (fun m' hm=>by
  obtain⟨o',es',ep',ho',r'⟩:=hm
  rw[ho] at ho';cases ho'
  exact⟨_,es',ep',hL,r'⟩) hok hg
theorem Inv.turned {t':Nat} {it:Addr} (I:Inv X pins σ H s) (k:∀b o,b≠it->s.heap.get? b=some o->h'.get? b=some o) (hn:H it=none) (hL:it≠X.env.locals)
  (h1:it∈X.ex\/X.az.heap.objs.size<=it) (h2:∀x c,X.env.cells.lookup x=some c->c≠it) (h3:∀p∈X.pn++pins,p.1≠it):Inv X pins σ H { s with heap:=h',toks:=t' }:=by
 have nit:∀b u,H b=some u->b≠it:=fun b u e z=>by rw[z,hn] at e;cases e
 refine I.step (g':=s.gens) (d':=s.drawn) (ch:=[it]) (fun b hb=>?_) (fun b o _ _ hc e _=>k b o (fun z=>hc (by simp[z])) e) (fun b o _ _ hc e _=>⟨o.slots,k b o (fun z=>hc (by simp[z])) e⟩) (fun _ _ _ _ n=>n)
  (fun b o hc e=>⟨o,k b o (fun z=>hc (by simp[z])) e⟩) (fun _ _ e=>e) (fun _ _ _ e=>e) (fun b ps e=>⟨#[],by rw[e];simp⟩) (fun m hm=>?_) (fun b u e=>?_) I.bare
 ·have e:b=it:=by simpa using hb
  subst e
  exact⟨h1,hL,h2,h3⟩
 ·obtain⟨o,es,ep,ho,r⟩:=hm
  exact⟨o,es,ep,k _ o (Ne.symm hL) ho,r⟩
 ·refine(I.hok b u e).jU (fun c v hc q=>k c v ?_ q) (fun _ q=>q) fun _ _ q=>q
  rcases hc with z | z
  ·rw[z];exact nit b u e
  ·exact nit c _ z
theorem Inv.tok (I:Inv X pins σ H s) (t:Nat):Inv X pins σ H { s with toks:=t }:=I.un (h':=s.heap) (t':=t) Un.refl I.hok
theorem Inv.kept {t':Nat} (I:Inv X pins σ H s) (k:∀b u,s.heap.get? b=some u->h'.get? b=some u):Inv X pins σ H { s with heap:=h',toks:=t' }:=I.un (Un.kept k) (I.hok.kept k)
theorem Inv.laid {a:Addr} {o:HO} {t':Nat} (I:Inv X pins σ H s) (k:∀b u,s.heap.get? b=some u->h'.get? b=some u) (hp:s.heap.objs.size<=a) (new:bI X.prog X.w (upd H a o) h' a o) :
  Inv X pins σ (upd H a o) { s with heap:=h',toks:=t' }:=I.un (Un.laid k hp (I.hok.fresh hp)) (I.hok.laid k hp new)
theorem Inv.write {x e:Addr} {o:HO} {t':Nat} (I:Inv X pins σ H s) (mu:Mut (H x)) (he:e=x\/H e=some (.own x)) (k:∀b u,b≠e->s.heap.get? b=some u->h'.get? b=some u) (heo:∃u,h'.get? e=some u)
  (new:bI X.prog X.w (upd H x o) h' x o):Inv X pins σ (upd H x o) { s with heap:=h',toks:=t' }:=I.un (Un.write mu he k heo) (I.hok.write mu he k heo new)
theorem Inv.kQ {pins':List (Addr × Obj)} (I:Inv X pins σ H s) (h:∀p∈pins',s.heap.get? p.1=some p.2/\H p.1=none/\p.1≠X.env.locals/\p.1∉X.fs/\∀v,p.2.data≠.cell v):Inv X pins' σ H s:=
 ⟨I.ok,I.os,I.bare,I.base,I.loc,I.cell,I.free,I.di,fun p hp=>(List.mem_append.mp hp).elim (fun z=>I.pin p (List.mem_append_left _ z)) (h p),I.hok,I.len⟩
theorem wu {N:List Str} (hN:N.Nodup) {i j:Nat} {x:Str} (a:N[i]?=some x) (b:N[j]?=some x):i=j:=by
 obtain⟨h1,e1⟩:=List.getElem?_eq_some_iff.mp a
 obtain⟨h2,e2⟩:=List.getElem?_eq_some_iff.mp b
 exact(List.getElem_inj hN).mp (e1.trans e2.symm)
theorem zk {M:Model} {A:Around} {E:Value->Shared->Prop} {i:Nat} {x:Str} {v:V} {u:Value} {Q:Unit->Shared->Prop} (I:Inv X pins σ H s) (hN:X.N.Nodup) (hi:X.N[i]?=some x) (hx:Loc X.env.scope x) (r:RelV v u)
  (h:∀s',Inv X pins (σ.set i (some v)) H s'->(∃a,Heap.SameBut a s.heap s'.heap/\(a=X.env.locals\/X.env.cells.lookup x=some a))->Q () s') (hf:X.fn x=true\/X.env.scope.names.lookup x=some .local:=by first | exact .inl rfl | exact .inr rfl | assumption):wpAny M A (storeName X.env x u) Q E s:=by
 obtain⟨m,hn,hl⟩:=id I.loc
 have hcls:(X.env.scope.kind == .class || (X.env.scope.kind == .module&&X.env.locals != X.env.globals))=false:=by rw[I.ok.kind];rfl
 have hiσ:i<σ.length:=by rw[I.len];exact(List.getElem?_eq_some_iff.mp hi).1
 have cne:=I.cne
 have tracked:∀{a:Addr} {h':Heap},(∃o,s.heap.get? a=some o/\H a=none)->Heap.SameBut a s.heap h'->HOk X.prog X.w H h':=fun{a h'} ha hs b ob e=>by
  obtain⟨_,_,hfree⟩:=ha
  refine(I.hok b ob e).jU (fun c w' hc q=>(hs.2 c ?_).trans q) (fun _ q=>q) fun _ _ q=>q
  rintro rfl
  rcases hc with rfl | hc
  ·rw[hfree] at e;cases e
  ·rw[hfree] at hc;cases hc
 rcases hx with hk | hk
 ·refine wpAny_storeName_local hk hn (fun h' hn' hs=>?_) hcls
  obtain⟨oL,_,_,hoL,_⟩:=id hn
  refine h _ ⟨I.ok,I.os,I.bare,⟨fun b o e n hb hx=>?_,fun b o e n hb hx=>?_,I.base.free,fun b o e hx=>?_,I.base.ku,I.base.jT,I.base.kB⟩,⟨_,hn',fun j y v' e1 e2 e3=>?_⟩,fun y c e=>?_,I.free,I.di,fun p hp=>?_,tracked ⟨oL,hoL,I.free⟩ hs,by simpa using I.len⟩ ⟨_,hs,.inl rfl⟩
  ·exact(hs.2 b (Nat.ne_of_lt (Nat.lt_of_lt_of_le (Heap.lt_size e) I.ok.above))).trans (I.base.keep b o e n hb hx)
  ·obtain⟨sl,e1⟩:=I.base.slot b o e n hb hx
   exact⟨sl,(hs.2 b (Nat.ne_of_lt (Nat.lt_of_lt_of_le (Heap.lt_size e) I.ok.above))).trans e1⟩
  ·obtain⟨o',e1⟩:=I.base.there b o e hx
   exact⟨o',(hs.2 b (Nat.ne_of_lt (Nat.lt_of_lt_of_le (Heap.lt_size e) I.ok.above))).trans e1⟩
  ·by_cases hj:j=i
   ·subst hj
    rw[hi] at e1;cases e1
    rw[List.getElem?_set_self hiσ] at e2
    cases e2
    exact⟨u,r,.inl ⟨hk,by simp⟩⟩
   ·rw[List.getElem?_set_ne (Ne.symm hj)] at e2
    obtain⟨u',r',q⟩:=hl j y v' e1 e2 e3
    refine⟨u',r',?_⟩
    rcases q with⟨k,e⟩ | ⟨k,c,e,z⟩
    ·refine .inl ⟨k,?_⟩
     have:y≠x:=fun e=>hj (wu hN e1 (e ▸ hi))
     simp[this,e]
    ·exact .inr ⟨k,c,e,z.sameBut hs (cne y c e)⟩
  ·obtain⟨w',z⟩:=I.cell y c e
   exact⟨w',z.sameBut hs (cne y c e)⟩
  ·obtain⟨e,n,ne,nf,d⟩:=I.pin p hp
   exact⟨(hs.2 p.1 ne).trans e,n,ne,nf,d⟩
 ·have hfn:X.fn x=true:=by
   rcases hf with z | z
   ·exact z
   ·rw[z] at hk;cases hk
  obtain⟨c,hc⟩:=I.ok.has x (.inl hk)
  obtain⟨w',z⟩:=I.cell x c hc
  refine wpAny_storeName_cell I.ok.kind hk hc z (fun h' hc' hs=>?_)
  obtain⟨oc,hoc,hocd⟩:=id z
  refine h { s with heap:=h' } ⟨I.ok,I.os,I.bare,⟨fun b o e n hb hx=>?_,fun b o e n hb hx=>?_,I.base.free,fun b o e hx=>?_,I.base.ku,I.base.jT,I.base.kB⟩,⟨m,hn.sameBut hs (Ne.symm (cne x c hc)),fun j y v' e1 e2 e3=>?_⟩,fun y c' e=>?_,I.free,I.di,fun p hp=>?_,tracked ⟨oc,hoc,I.di x c hc⟩ hs,by simpa using I.len⟩ ⟨c,hs,.inr hc⟩
  ·exact(hs.2 b (Nat.ne_of_lt (Nat.lt_of_lt_of_le (Heap.lt_size e) (I.ok.cab x c hfn hc)))).trans (I.base.keep b o e n hb hx)
  ·obtain⟨sl,e1⟩:=I.base.slot b o e n hb hx
   exact⟨sl,(hs.2 b (Nat.ne_of_lt (Nat.lt_of_lt_of_le (Heap.lt_size e) (I.ok.cab x c hfn hc)))).trans e1⟩
  ·obtain⟨o',e1⟩:=I.base.there b o e hx
   exact⟨o',(hs.2 b (Nat.ne_of_lt (Nat.lt_of_lt_of_le (Heap.lt_size e) (I.ok.cab x c hfn hc)))).trans e1⟩
  ·by_cases hj:j=i
   ·subst hj
    rw[hi] at e1;cases e1
    rw[List.getElem?_set_self hiσ] at e2
    cases e2
    exact⟨u,r,.inr ⟨.inl hk,c,hc,hc'⟩⟩
   ·rw[List.getElem?_set_ne (Ne.symm hj)] at e2
    obtain⟨u',r',q⟩:=hl j y v' e1 e2 e3
    refine⟨u',r',?_⟩
    rcases q with q | ⟨k,c',e,z'⟩
    ·exact .inl q
    ·refine .inr ⟨k,c',e,z'.sameBut hs ?_⟩
     rintro rfl
     exact hj (wu hN e1 (I.ok.inj _ _ _ e hc ▸ hi))
  ·by_cases hcc:c'=c
   ·subst hcc;exact⟨_,hc'⟩
   ·obtain⟨w2,z2⟩:=I.cell y c' e
    exact⟨w2,z2.sameBut hs hcc⟩
  ·obtain⟨e,n,ne,nf,d⟩:=I.pin p hp
   refine⟨(hs.2 p.1 ?_).trans e,n,ne,nf,d⟩
   intro q
   rw[q,hoc] at e
   have q':oc=p.2:=Option.some.inj e
   exact d w' (by rw[<- q'];exact hocd)
theorem fY {M:Model} {A:Around} {E:Value->Shared->Prop} {i:Nat} {x:Str} {v:V} {u:Value} {Q:Unit->Shared->Prop} (I:Inv X pins σ H s) (hN:X.N.Nodup) (hi:X.N[i]?=some x) (hx:Loc X.env.scope x) (r:RelV v u)
  (h:∀s',Inv X pins (σ.set i (some v)) H s'->Q () s') (hf:X.fn x=true\/X.env.scope.names.lookup x=some .local:=by first | exact .inl rfl | exact .inr rfl | assumption):wpAny M A (storeName X.env x u) Q E s:=
 zk I hN hi hx r (fun s' I' _=>h s' I') hf
theorem Inv.sD {s':Shared} {ch:List Addr} (I:Inv X pins σ H s) (ho:s'.os=s.os) (u:Un (frs X.stack) ch H H' s.heap s'.heap) (hok:HOk X.prog X.w H' s'.heap) (hg:AllBare s'.gens)
  (hch:∀b∈ch,(b∈X.ex\/X.az.heap.objs.size<=b)/\b≠X.env.locals/\(∀x c,X.env.cells.lookup x=some c->c≠b)/\∀p∈X.pn++pins,p.1≠b):Inv X pins σ H' s':=by
 obtain⟨h',g',d',t',o'⟩:=s'
 have e:o'=s.os:=ho
 subst e
 exact I.call (g':=g') (t':=t') (d':=d') u hok hg hch
end
noncomputable abbrev XK:=Value->Option Addr->Hp->Prop
noncomputable abbrev St:=List (Option V)
noncomputable abbrev VK:=V->Hp->Prop
noncomputable abbrev TE:=St->Hp->VK->Prop
noncomputable abbrev TT:=St->Hp->(Bool->Hp->Prop)->Prop
noncomputable abbrev TA:=St->Hp->(List V->Hp->Prop)->Prop
structure Ends where
 nx:St->Hp->Prop
 rt:VK
 bk:St->Hp->Prop:=fun _ _=>False
 ct:St->Hp->Prop:=fun _ _=>False
noncomputable abbrev TS:=Ends->St->Hp->Prop
noncomputable def EP (X:Cx) (pins:List (Addr × Obj)) (σ:St) (Q:VK) (u:Value) (s':Shared):Prop:=∃v H',Inv X pins σ H' s'/\RelV v u/\Q v H'
noncomputable def TP (X:Cx) (pins:List (Addr × Obj)) (σ:St) (Q:Bool->Hp->Prop) (b:Bool) (s':Shared):Prop:=∃H',Inv X pins σ H' s'/\Q b H'
noncomputable def AP (X:Cx) (pins:List (Addr × Obj)) (σ:St) (Q:List V->Hp->Prop) (us:List Value) (s':Shared):Prop:=∃vs H',Inv X pins σ H' s'/\Vals vs us/\Q vs H'
noncomputable def SP (X:Cx) (pins:List (Addr × Obj)) (D:Ends) (f:Flow) (s':Shared):Prop:=
 match f with
 | .next=>∃σ' H',Inv X pins σ' H' s'/\D.nx σ' H'
 | .brk=>∃σ' H',Inv X pins σ' H' s'/\D.bk σ' H'
 | .cont=>∃σ' H',Inv X pins σ' H' s'/\D.ct σ' H'
 | .ret u=>∃v σ' H',Inv X pins σ' H' s'/\RelV v u/\D.rt v H'
noncomputable def PE (X:Cx) (e:Expr) (t:TE):Prop:=
 ∀(pins:List (Addr × Obj)) (s:Shared) (σ:St) (H:Hp) (Q:VK),Inv X pins σ H s->t σ H Q->wpAny (model X.prog X.w) X.A (eval e X.env) (EP X pins σ Q) X.xe s
noncomputable def PT (X:Cx) (e:Expr) (t:TT):Prop:=
 ∀(pins:List (Addr × Obj)) (s:Shared) (σ:St) (H:Hp) (Q:Bool->Hp->Prop),Inv X pins σ H s->t σ H Q->wpAny (model X.prog X.w) X.A (isTrue e X.env (eval e X.env)) (TP X pins σ Q) X.xe s
noncomputable def PW (X:Cx) (e:Expr) (t:TT):Prop:=
 ∀(whole:Sem Value) (pins:List (Addr × Obj)) (s:Shared) (σ:St) (H:Hp) (Q:Bool->Hp->Prop),Inv X pins σ H s->t σ H Q->wpAny (model X.prog X.w) X.A (isTrue e X.env whole) (TP X pins σ Q) X.xe s
theorem PW.pt {X:Cx} {e:Expr} {t:TT} (h:PW X e t):PT X e t:=h _
noncomputable def PA (X:Cx) (es:List Expr) (t:TA):Prop:=
 ∀(pos:Pos) (pins:List (Addr × Obj)) (s:Shared) (σ:St) (H:Hp) (Q:List V->Hp->Prop),Inv X pins σ H s->t σ H Q->wpAny (model X.prog X.w) X.A (spliced (backTo pos (starEach es X.env))) (AP X pins σ Q) X.xe s
noncomputable def PS (X:Cx) (st:Stmt) (t:TS):Prop:=
 ∀(pins:List (Addr × Obj)) (s:Shared) (σ:St) (H:Hp) (D:Ends),Inv X pins σ H s->t D σ H->wpAny (model X.prog X.w) X.A (exec st X.env) (SP X pins D) X.xe s
noncomputable def PSs (X:Cx) (st:List Stmt) (t:TS):Prop:=
 ∀(pins:List (Addr × Obj)) (s:Shared) (σ:St) (H:Hp) (D:Ends),Inv X pins σ H s->t D σ H->wpAny (model X.prog X.w) X.A (execs st X.env) (SP X pins D) X.xe s
theorem thn {α:Type} {t:Sem α} {Q Q':α->Shared->Prop} {M:Model} {A:Around} {E:Value->Shared->Prop} {s:Shared} (h:wpAny M A t Q E s) (hQ:∀a s,Q a s->Q' a s):wpAny M A t Q' E s:=wpAny_mono h hQ fun _ _ x=>x
section
variable {X:Cx}
noncomputable def KN (i:Nat):TE:=fun σ H Q=>∃v,σ[i]?=some (some v)/\Q v H
noncomputable def tC (v:V):TE:=fun _ H Q=>Q v H
theorem xW {i:Nat} {x:Str} {pos:Pos} (hN:X.N[i]?=some x) (hv:Vis X.env.scope x) (hd:(x == ("__debug__" : Str))=false:=by decide) (hcd:(x == ("__classdict__" : Str))=false:=by decide):PE X (.Name x pos) (KN i):=by
 intro pins s σ H Q I h
 obtain⟨v,e,h⟩:=h
 obtain⟨m,hn,hl⟩:=I.loc
 obtain⟨u,r,l⟩:=hl i x v hN e hv
 have fin:EP X pins σ Q u s:=⟨v,H,I,r,h⟩
 rcases l with⟨hk,hm⟩ | ⟨hk,c,hc,hcell⟩
 ·exact wpAny_Name (wpAny_loadName_local I.ok.kind hk hn hm fin) hd
 ·rcases hk with hk | hk
  ·exact wpAny_Name (wpAny_loadName_cell I.ok.kind hk hc hcell fin) hd
  ·exact wpAny_Name (wpAny_loadName_free I.ok.kind hk hc hcell fin hcd) hd
theorem G7 {i j pos}:PE X (.Constant (.int i) j pos) (tC (.int i)):=fun _ _ _ H _ I h=>wpAny_Constant_int ⟨.int i,H,I.tok _,⟨_,rfl⟩,h⟩
theorem IP {b j pos}:PE X (.Constant (.bool b) j pos) (tC (.bl b)):=fun _ _ _ H _ I h=>Constant_bool ⟨.bl b,H,I,rfl,h⟩
theorem GA {x j pos}:PE X (.Constant (.str x) j pos) (tC (.str x)):=fun _ _ _ H _ I h=>Calls.Constant_str ⟨.str x,H,I.tok _,⟨_,rfl⟩,h⟩
noncomputable def Gl (X:Cx) (x:Str):Prop:=X.env.kindOf x=some .globalImplicit
theorem iw {E:Value->Shared->Prop} {pins:List (Addr × Obj)} {s:Shared} {σ:St} {H:Hp} {x:Str} {u:Value} {pos:Pos} {Q:Value->Shared->Prop} (I:Inv X pins σ H s) (hg:Gl X x) (hm:X.mg x=some u) (h:Q u s)
  (hd:(x == ("__debug__" : Str))=false:=by decide):wpAny (model X.prog X.w) X.A (eval (.Name x pos) X.env) Q E s:=
 Calls.Name_function_global I.ok.kind hg (Calls.loadGlobal_global (by rw[I.ok.glob];exact I.mod.glob.keeps I.bk) hm h) hd
theorem mD {E:Value->Shared->Prop} {pins:List (Addr × Obj)} {s:Shared} {σ:St} {H:Hp} {x:Str} {u:Value} {pos:Pos} {Q:Value->Shared->Prop} (I:Inv X pins σ H s) (hg:Gl X x) (hm:X.mg x=none) (hv:bootBuiltins x=some u) (h:Q u s)
  (hn:x≠"__name__" := by decide) (hd:(x == ("__debug__" : Str))=false:=by decide):wpAny (model X.prog X.w) X.A (eval (.Name x pos) X.env) Q E s:=by
 obtain⟨mb,h1,h2⟩:=I.mod.blt
 exact Calls.Name_function_global I.ok.kind hg (Calls.loadGlobal_builtin (by rw[I.ok.glob];exact I.mod.glob.keeps I.bk) hm (by rw[I.ok.blt];exact h1.keeps I.bk) ((h2 x hn).trans hv) h) hd
theorem EG {x:Str} {v:V} {u:Value} {pos:Pos} (hg:Gl X x) (hm:X.mg x=some u) (r:RelV v u) (hd:(x == ("__debug__" : Str))=false:=by decide):PE X (.Name x pos) (tC v):=
 fun _ _ _ H _ I h=>iw I hg hm ⟨v,H,I,r,h⟩ hd
theorem yR {x:Str} {v:V} {u:Value} {pos:Pos} (hg:Gl X x) (hm:X.mg x=none) (hv:bootBuiltins x=some u) (r:RelV v u) (hn:x≠"__name__" := by decide) (hd:(x == ("__debug__" : Str))=false:=by decide):PE X (.Name x pos) (tC v):=
 fun _ _ _ H _ I h=>mD I hg hm hv ⟨v,H,I,r,h⟩ hn hd
variable {a b:Expr} {ta tb:TE} {pos:Pos}
variable {tA tB':TT} {rest:List Expr}
noncomputable def Lf (t u:TT):TT:=fun σ H Q=>t σ H fun c H1=>if c=true then u σ H1 Q else Q false H1
noncomputable def tOr (t u:TT):TT:=fun σ H Q=>t σ H fun c H1=>if c=true then Q true H1 else u σ H1 Q
noncomputable def Lh (t:TT):TT:=fun σ H Q=>t σ H fun c H1=>Q (!c) H1
theorem pw_and1 (ha:PT X a tA):PW X (.BoolOp .And [a] pos) tA:=by
 intro wh pins s σ H Q I h
 refine isTrue_and (thn (ha pins s σ H Q I h) fun c s1 e=>?_)
 cases c with
 | true=>exact isTrue_and_nil e
 | false=>exact e
theorem pw_or1 (ha:PT X a tA):PW X (.BoolOp .Or [a] pos) tA:=by
 intro wh pins s σ H Q I h
 refine isTrue_or (thn (ha pins s σ H Q I h) fun c s1 e=>?_)
 cases c with
 | false=>exact isTrue_or_nil e
 | true=>exact e
theorem pw_and (ha:PT X a tA) (hb:PW X (.BoolOp .And (b::rest) pos) tB'):PW X (.BoolOp .And (a::b::rest) pos) (Lf tA tB'):=by
 intro wh pins s σ H Q I h
 refine isTrue_and (thn (ha pins s σ H _ I h) fun c s1 ⟨H1,I1,q1⟩=>?_)
 cases c with
 | true=>exact hb wh pins s1 σ H1 Q I1 q1
 | false=>exact⟨H1,I1,q1⟩
theorem pw_or (ha:PT X a tA) (hb:PW X (.BoolOp .Or (b::rest) pos) tB'):PW X (.BoolOp .Or (a::b::rest) pos) (tOr tA tB'):=by
 intro wh pins s σ H Q I h
 refine isTrue_or (thn (ha pins s σ H _ I h) fun c s1 ⟨H1,I1,q1⟩=>?_)
 cases c with
 | true=>exact⟨H1,I1,q1⟩
 | false=>exact hb wh pins s1 σ H1 Q I1 q1
theorem Gp (ha:PT X a tA):PT X (.UnaryOp .Not a pos) (Lh tA):=by
 intro pins s σ H Q I h
 exact isTrue_not (ha pins s σ H (fun c H1=>Q (!c) H1) I h)
noncomputable def Iy (ta tb:TE):TE:=fun σ H Q=>ta σ H fun x H1=>∃c,x=.bl c/\if c=true then tb σ H1 Q else Q (.bl false) H1
noncomputable def IC (ta:TE):TE:=fun σ H Q=>ta σ H fun x H1=>∃c,x=.bl c/\Q (.bl (!c)) H1
theorem HF {op} {t:TE} (h:PE X a t):PE X (.BoolOp op [a] pos) t:=fun pins s σ H Q I hw=>BoolOp_one (h pins s σ H Q I hw)
theorem HD (ha:PE X a ta) (hb:PE X (.BoolOp .And (b::rest) pos) tb):PE X (.BoolOp .And (a::b::rest) pos) (Iy ta tb):=by
 intro pins s σ H Q I h
 refine BoolOp_and (thn (ha pins s σ H _ I h) fun v s1 ⟨x,H1,I1,r1,q1⟩=>?_)
 obtain⟨c,rfl,q1⟩:=q1
 cases r1
 refine wpAny_truthy_bool ?_
 cases c with
 | true=>exact hb pins s1 σ H1 Q I1 q1
 | false=>exact⟨.bl false,H1,I1,rfl,q1⟩
theorem F7 (ha:PE X a ta):PE X (.UnaryOp .Not a pos) (IC ta):=by
 intro pins s σ H Q I h
 refine UnaryOp_ (thn (ha pins s σ H _ I h) fun v s1 ⟨x,H1,I1,r1,q1⟩=>?_)
 obtain⟨c,rfl,q1⟩:=q1
 cases r1
 exact not_of (wpAny_truthy_bool ⟨.bl (!c),H1,I1,rfl,q1⟩)
noncomputable def tIf (t:TT) (ta tb:TE):TE:=fun σ H Q=>t σ H fun c H1=>if c=true then ta σ H1 Q else tb σ H1 Q
theorem A3 {c:Expr} (hc:PT X c tA) (ha:PE X a ta) (hb:PE X b tb):PE X (.IfExp c a b pos) (tIf tA ta tb):=by
 intro pins s σ H Q I h
 refine wpAny_IfExp (thn (hc pins s σ H _ I h) fun d s1 ⟨H1,I1,q1⟩=>?_)
 cases d with
 | true=>exact ha pins s1 σ H1 Q I1 q1
 | false=>exact hb pins s1 σ H1 Q I1 q1
end
noncomputable def SqL (K:PySem.W.Frag) (H:Hp) (a:Addr) (xs:List V):Prop:=
 Rd H a (.lst xs) ∨
  ∃(o:Obj) (its:Array Value) (n:Nat),K.lookup a=some o/\o.cls=.type "list" /\ o.dict=none/\o.data=.seq its n/\its.size<=sizeLine/\Vals xs its.toList
noncomputable def SqT (K:PySem.W.Frag) (H:Hp) (a:Addr) (xs:List V):Prop:=
 Rd H a (.tup xs) ∨
  ∃(o:Obj) (its:Array Value) (n:Nat),K.lookup a=some o/\o.cls=.type "tuple" /\ o.data=.seq its n/\its.size<=sizeLine/\Vals xs its.toList
noncomputable def Ka:Value->Option V
 | .none=>some .non
 | .bool b=>some (.bl b)
 | .int i _=>some (.int i)
 | .str x _=>some (.str x)
 | .bytes b _=>some (.byt b)
 | .float b _=>some (.flt b)
 | .ref a=>some (.ref a)
 | .type n=>some (.ty n)
 | _=>none
theorem RelV.abs {x:V} {u:Value} (r:RelV x u):Ka u=some x:=by
 cases x with
 | non=>cases r;rfl
 | bl _=>cases r;rfl
 | int _=>obtain⟨t,rfl⟩:=r;rfl
 | str _=>obtain⟨t,rfl⟩:=r;rfl
 | byt _=>obtain⟨t,rfl⟩:=r;rfl
 | flt _=>obtain⟨t,rfl⟩:=r;rfl
 | ref _=>cases r;rfl
 | ty _=>cases r;rfl
theorem RelV.inj {x y:V} {u:Value} (r:RelV x u) (q:RelV y u):x=y:=Option.some.inj (r.abs.symm.trans q.abs)
theorem Vals.inj:∀{xs ys:List V} {us:List Value},Vals xs us->Vals ys us->xs=ys
 | _,_,_,.nil,.nil=>rfl
 | _,_,_,.cons r t,.cons r' t'=>by rw[r.inj r',Vals.inj t t']
section
variable {X:Cx} {pins:List (Addr × Obj)} {σ:St} {H:Hp} {s:Shared} {a:Addr} {xs ys:List V}
theorem SqL.of {K:PySem.W.Frag} (h:H a=some (.lst xs)):SqL K H a xs:=.inl (.inl h)
theorem SqT.of {K:PySem.W.Frag} (h:H a=some (.tup xs)):SqT K H a xs:=.inl (.inl h)
theorem Inv.list (I:Inv X pins σ H s) (h:SqL X.K H a xs):∃its:List Value,Vals xs its/\PlainL s.heap a its.toArray/\xs.length<=sizeLine:=by
 rcases h with h | ⟨o,its,n,hk,hc,hd,hs,hz,r⟩
 ·obtain⟨z,its,n,r,e⟩:=h.ok I.hok
  exact⟨its,r,⟨_,n,e,rfl,rfl,rfl⟩,z⟩
 ·refine⟨its.toList,r,⟨o,n,I.kIn a o hk,hc,hd,by simpa using hs⟩,?_⟩
  have e:=r.length
  simp only[Array.length_toList] at e
  omega
theorem Inv.tuple (I:Inv X pins σ H s) (h:SqT X.K H a xs):∃its:List Value,Vals xs its/\IsTup s.heap a its.toArray/\xs.length<=sizeLine:=by
 rcases h with h | ⟨o,its,n,hk,hc,hs,hz,r⟩
 ·obtain⟨z,its,r,p⟩:=h.ok I.hok
  exact⟨its,r,p.tup,z⟩
 ·refine⟨its.toList,r,⟨o,I.kIn a o hk,hc,n,by simpa using hs⟩,?_⟩
  have e:=r.length
  simp only[Array.length_toList] at e
  omega
theorem Inv.oW (I:Inv X pins σ H s) (h:SqL X.K H a xs) (h':SqL X.K H a ys):xs=ys:=by
 obtain⟨its,r,⟨o,n,e,_,_,d⟩,_⟩:=I.list h
 obtain⟨its',r',⟨o',n',e',_,_,d'⟩,_⟩:=I.list h'
 rw[e] at e';cases e'
 rw[d] at d'
 injection d' with d1 _
 have:its=its':=by simpa using congrArg Array.toList d1
 subst this
 exact r.inj r'
theorem Inv.lW (I:Inv X pins σ H s) (h:SqT X.K H a xs) (h':SqT X.K H a ys):xs=ys:=by
 obtain⟨its,r,⟨o,e,_,n,d⟩,_⟩:=I.tuple h
 obtain⟨its',r',⟨o',e',_,n',d'⟩,_⟩:=I.tuple h'
 rw[e] at e';cases e'
 rw[d] at d'
 injection d' with d1 _
 have:its=its':=by simpa using congrArg Array.toList d1
 subst this
 exact r.inj r'
end
noncomputable abbrev Cx.mJ (X:Cx) (E:Value->Shared->Prop):Cx:={ X with xe:=E }
noncomputable abbrev Cx.nox (X:Cx):Cx:=X.mJ fun _ _=>False
theorem Cx.Ok.mJ {X:Cx} (ok:X.Ok) (E:Value->Shared->Prop):(X.mJ E).Ok:=
 ⟨ok.mod,ok.kind,ok.glob,ok.blt,ok.above,ok.inj,ok.has,ok.cab,ok.hd,ok.frames,ok.stk,ok.exf,ok.bs,ok.bsz,ok.qv,ok.vV,ok.i5,ok.frf⟩
theorem Cx.Ok.fV {X:Cx} {E:Value->Shared->Prop} (ok:(X.mJ E).Ok):X.Ok:=
 ⟨ok.mod,ok.kind,ok.glob,ok.blt,ok.above,ok.inj,ok.has,ok.cab,ok.hd,ok.frames,ok.stk,ok.exf,ok.bs,ok.bsz,ok.qv,ok.vV,ok.i5,ok.frf⟩
section
variable {X:Cx} {pins:List (Addr × Obj)} {σ:St} {H:Hp} {s:Shared} {E:Value->Shared->Prop}
theorem Inv.mJ (I:Inv X pins σ H s) (E:Value->Shared->Prop):Inv (X.mJ E) pins σ H s:=⟨I.ok.mJ E,I.os,I.bare,I.base,I.loc,I.cell,I.free,I.di,I.pin,I.hok,I.len⟩
theorem Inv.fV (I:Inv (X.mJ E) pins σ H s):Inv X pins σ H s:=⟨I.ok.fV,I.os,I.bare,I.base,I.loc,I.cell,I.free,I.di,I.pin,I.hok,I.len⟩
theorem SP.fV {D:Ends} {f:Flow} {s':Shared} (h:SP (X.mJ E) pins D f s'):SP X pins D f s':=by
 cases f with
 | next=>obtain⟨σ',H',I,q⟩:=h;exact⟨σ',H',I.fV,q⟩
 | brk=>obtain⟨σ',H',I,q⟩:=h;exact⟨σ',H',I.fV,q⟩
 | cont=>obtain⟨σ',H',I,q⟩:=h;exact⟨σ',H',I.fV,q⟩
 | ret u=>obtain⟨v,σ',H',I,r,q⟩:=h;exact⟨v,σ',H',I.fV,r,q⟩
theorem PE.nox {e:Expr} {t:TE} (h:PE X.nox e t):PE X e t:=fun pins s σ H Q I hw=>
 wpAny_mono (h pins s σ H Q (I.mJ _) hw) (fun _ _ ⟨v,H',I',r,q⟩=>⟨v,H',I'.fV,r,q⟩) fun _ _ z=>False.elim z
theorem PT.nox {e:Expr} {t:TT} (h:PT X.nox e t):PT X e t:=fun pins s σ H Q I hw=>
 wpAny_mono (h pins s σ H Q (I.mJ _) hw) (fun _ _ ⟨H',I',q⟩=>⟨H',I'.fV,q⟩) fun _ _ z=>False.elim z
theorem PSs.nox {st:List Stmt} {t:TS} (h:PSs X.nox st t):PSs X st t:=fun pins s σ H D I hw=>
 wpAny_mono (h pins s σ H D (I.mJ _) hw) (fun _ _ q=>q.fV) fun _ _ z=>False.elim z
end
section
variable {X:Cx} {st:Stmt} {rest:List Stmt} {t u:TS} {e:Expr} {te:TE} {pos:Pos}
noncomputable def Ij:TS:=fun D σ H=>D.nx σ H
noncomputable def KC (t u:TS):TS:=fun D σ H=>t { D with nx:=u D } σ H
theorem Ds:PSs X [] Ij:=fun _ _ σ H _ I h=>wpAny_execs_nil ⟨σ,H,I,h⟩
theorem CD (h1:PS X st t) (h2:PSs X rest u):PSs X (st::rest) (KC t u):=by
 intro pins s σ H D I h
 refine wpAny_execs_cons (thn (h1 pins s σ H { D with nx:=u D } I h) fun f s1 q=>?_)
 cases f with
 | next=>
  obtain⟨σ',H',I',q⟩:=q
  exact h2 pins s1 σ' H' D I' q
 | ret v=>exact q
 | brk=>exact q
 | cont=>exact q
theorem yU (h1:PS X st t):PSs X [st] t:=by
 intro pins s σ H D I h
 refine wpAny_execs_cons (thn (h1 pins s σ H D I h) fun f s1 q=>?_)
 cases f with
 | next=>exact wpAny_execs_nil q
 | ret v=>exact q
 | brk=>exact q
 | cont=>exact q
theorem Inv.quiet {pins:List (Addr × Obj)} {σ:St} {H:Hp} {s:Shared} (I:Inv X pins σ H s):interactive X.env=false:=by simp[interactive,I.ok.kind]
noncomputable def Je (te:TE):TS:=fun D σ H=>te σ H fun _ H1=>D.nx σ H1
theorem DA (he:PE X e te) (hs:swapsWith e none pos.line X.env=pure false:=by rfl):PS X (.Expr e pos) (Je te):=by
 intro pins s σ H D I h
 exact wpAny_Expr_any (thn (he pins s σ H _ I h) fun v s1 ⟨x,H1,I1,r1,q1⟩=>⟨σ,H1,I1,q1⟩) I.quiet hs
noncomputable def Lr (te:TE):TS:=fun D σ H=>te σ H D.rt
theorem Bl (he:PE X e te):PS X (.Return (some e) pos) (Lr te):=by
 intro pins s σ H D I h
 exact wpAny_Return_some (thn (he pins s σ H _ I h) fun v s1 ⟨x,H1,I1,r1,q1⟩=>⟨x,σ,H1,I1,r1,q1⟩)
noncomputable def Kd (c:TT) (t u:TS):TS:=fun D σ H=>c σ H fun b H1=>if b=true then t D σ H1 else u D σ H1
theorem IA {c:Expr} {a b:List Stmt} {tc:TT} (hc:PT X c tc) (ha:PSs X a t) (hb:PSs X b u):PS X (.If c a b pos) (Kd tc t u):=by
 intro pins s σ H D I h
 refine wpAny_If (thn (hc pins s σ H _ I h) fun d s1 ⟨H1,I1,q1⟩=>?_)
 cases d with
 | true=>exact ha pins s1 σ H1 D I1 q1
 | false=>exact hb pins s1 σ H1 D I1 q1
end
noncomputable abbrev TG:=V->St->Hp->(St->Hp->Prop)->Prop
noncomputable abbrev TGs:=List V->St->Hp->(St->Hp->Prop)->Prop
noncomputable def PG (X:Cx) (target:Expr) (t:TG):Prop:=
 ∀(pins:List (Addr × Obj)) (s:Shared) (σ:St) (H:Hp) (v:V) (u:Value) (Q:St->Hp->Prop),Inv X pins σ H s->RelV v u->t v σ H Q →
  wpAny (model X.prog X.w) X.A (assign target X.env u) (fun _ s'=>∃σ' H',Inv X pins σ' H' s'/\Q σ' H') X.xe s
noncomputable def PGs (X:Cx) (ts:List Expr) (t:TGs):Prop:=
 ∀(pins:List (Addr × Obj)) (s:Shared) (σ:St) (H:Hp) (vs:List V) (us:List Value) (Q:St->Hp->Prop),Inv X pins σ H s->Vals vs us->t vs σ H Q →
  wpAny (model X.prog X.w) X.A (assignInOrder ((assignEach ts X.env).map (·.2)) us) (fun _ s'=>∃σ' H',Inv X pins σ' H' s'/\Q σ' H') X.xe s
noncomputable abbrev wK:=V->V->V->Hp->(Hp->Prop)->Prop
noncomputable def Ep (X:Cx) (t:wK):Prop:=
 ∀(pins:List (Addr × Obj)) (s:Shared) (σ:St) (H:Hp) (o i v:V) (ov iv u:Value) (Q:Hp->Prop),Inv X pins σ H s->RelV o ov->RelV i iv->RelV v u->t o i v H Q →
  wpAny (model X.prog X.w) X.A (setItem ov iv u) (fun _ s'=>∃H',Inv X pins σ H' s'/\Q H') X.xe s
noncomputable abbrev TIp:=V->V->Hp->VK->Prop
noncomputable def PIp (X:Cx) (op:Operator) (t:TIp):Prop:=
 ∀(pins:List (Addr × Obj)) (s:Shared) (σ:St) (H:Hp) (x y:V) (v u:Value) (Q:VK),Inv X pins σ H s->RelV x v->RelV y u->t x y H Q →
  wpAny (model X.prog X.w) X.A (inplaceOp op v u) (EP X pins σ Q) X.xe s
section
variable {X:Cx} {pos:Pos}
noncomputable def fj (i:Nat):TG:=fun v σ H Q=>Q (σ.set i (some v)) H
theorem bC {i:Nat} {x:Str} (hN:X.N.Nodup) (hi:X.N[i]?=some x) (hx:Loc X.env.scope x) (hf:X.fn x=true\/X.env.scope.names.lookup x=some .local:=by first | exact .inl rfl | exact .inr rfl | assumption):PG X (.Name x pos) (fj i):=by
 intro pins s σ H v u Q I r h
 exact wpAny_assign_Name (fY I hN hi hx r (fun s' I'=>⟨_,H,I',h⟩) hf)
noncomputable def F6:TGs:=fun vs σ H Q=>vs=[]/\Q σ H
noncomputable def r8 (t:TG) (u:TGs):TGs:=fun vs σ H Q=>∃v r,vs=v::r/\t v σ H fun σ' H'=>u r σ' H' Q
theorem lE:PGs X [] F6:=by
 intro pins s σ H vs us Q I r h
 obtain⟨e,h⟩:=h
 subst e
 cases r
 exact assignInOrder_nil ⟨σ,H,I,h⟩
theorem cX {e:Expr} {es:List Expr} {t:TG} {u:TGs} (h1:PG X e t) (h2:PGs X es u)
  (hs:(assignEach (e::es) X.env).map (·.2)=assign e X.env::(assignEach es X.env).map (·.2):=by rfl):PGs X (e::es) (r8 t u):=by
 intro pins s σ H vs us Q I r h
 obtain⟨v,vr,e1,h⟩:=h
 subst e1
 cases r with
 | cons r rr=>
  rw[hs]
  refine assignInOrder_cons (thn (h1 pins s σ H _ _ _ I r h) fun _ s1 ⟨σ1,H1,I1,q1⟩=>?_)
  exact h2 pins s1 σ1 H1 _ _ Q I1 rr q1
noncomputable def Hw (K:PySem.W.Frag) (n:Nat) (t:TGs):TG:=fun v σ H Q=>∃a xs,v=.ref a/\SqT K H a xs/\xs.length=n/\t xs σ H Q
theorem pI {es:List Expr} {k:Nat} {t:TGs} {n:Nat} (hc:X.calm=true) (h:PGs X es t)
  (hn:(assignEach es X.env).length=n:=by rfl) (hst:(assignEach es X.env).findIdx? (·.1)=none:=by rfl):PG X (.Tuple es k pos) (Hw X.K n t):=by
 intro pins s σ H v u Q I r hw
 obtain⟨a,xs,e1,hq,hl,hw⟩:=hw
 subst e1
 cases r
 obtain⟨its,rv,ht,hz⟩:=I.tuple hq
 refine assign_Tuple_tuple (I.ok.hd hc) ht (by simp[hn,<- hl,rv.length]) hst fun h' hx=>?_
 have I1:Inv X pins σ H { s with heap:=h' }:=I.kept (t':=s.toks) fun b o e=>hx b o (Nat.ne_of_lt (Heap.lt_size e)) e
 exact h pins _ σ H xs _ Q I1 (by simpa using rv) hw
noncomputable def J_ (to ti:TE) (t:wK):TG:=fun v σ H Q=>to σ H fun o H1=>ti σ H1 fun i H2=>t o i v H2 fun H3=>Q σ H3
theorem FR {o i:Expr} {to ti:TE} {t:wK} (ho:PE X o to) (hi:PE X i ti) (hs:Ep X t)
  (ha:∀v,assign (.Subscript o i pos) X.env v=(do
   let ov ← holding [v] (eval o X.env)
   let iv ← holding [v,ov] (eval i X.env)
   standAt pos
   holding [v,ov,iv] (setItem ov iv v)
   release [v,ov,iv] []):=by intro _;rfl):PG X (.Subscript o i pos) (J_ to ti t):=by
 intro pins s σ H v u Q I r h
 rw[ha]
 refine wpAny_bind (wpAny_holding (thn (ho pins s σ H _ I h) fun ov s1 ⟨x,H1,I1,r1,q1⟩=>?_))
 refine wpAny_bind (wpAny_holding (thn (hi pins s1 σ H1 _ I1 q1) fun iv s2 ⟨y,H2,I2,r2,q2⟩=>?_))
 refine wpAny_bind (wpAny_standAt (wpAny_bind (wpAny_holding (thn (hs pins s2 σ H2 x y v ov iv u _ I2 r1 r2 r q2) fun _ s3 ⟨H3,I3,q3⟩=>?_))))
 exact wpAny_release ⟨σ,H3,I3,q3⟩
noncomputable def DT (te:TE) (g:TG):TS:=fun D σ H=>te σ H fun x H1=>g x σ H1 D.nx
theorem wI {tg e:Expr} {te:TE} {g:TG} (he:PE X e te) (hg:PG X tg g) (hs:swapsWithSole [tg] e pos.line X.env=pure false:=by rfl) (hw:swappedStores [tg] e X.env=pure none:=by rfl)
  (h1:(assignEach [tg] X.env).map (·.2)=[assign tg X.env]:=by rfl):PS X (.Assign [tg] e pos) (DT te g):=by
 intro pins s σ H D I h
 refine wpAny_Assign_stores (thn (he pins s σ H _ I h) fun v s1 ⟨x,H1,I1,r1,q1⟩=>?_) hs hw
 rw[h1]
 exact thn (hg pins s1 σ H1 x v _ I1 r1 q1) fun _ s2 q=>q
theorem HL {i:Nat} {x:Str} {e:Expr} {te:TE} {pos':Pos} (hN:X.N.Nodup) (hi:X.N[i]?=some x) (hx:Loc X.env.scope x) (he:PE X e te) (hs:swapsWith e (some (.Name x pos')) pos.line X.env=pure false:=by rfl) (hf:X.fn x=true\/X.env.scope.names.lookup x=some .local:=by first | exact .inl rfl | exact .inr rfl | assumption) :
  PS X (.Assign [.Name x pos'] e pos) (DT te (fj i)):=by
 intro pins s σ H D I h
 refine wpAny_Assign_Name (thn (he pins s σ H _ I h) fun v s1 ⟨y,H1,I1,r1,q1⟩=>?_) hs
 exact fY I1 hN hi hx r1 (fun s2 I2=>⟨_,H1,I2,q1⟩) hf
noncomputable def KH (i j:Nat) (ta:TA):TS:=fun D σ H=>ta σ H fun vs H1=>∃v w,vs=[v,w]/\D.nx ((σ.set i (some v)).set j (some w)) H1
theorem GC {i j:Nat} {x y:Str} {a b:Expr} {ta:TA} {px py pt:Pos} {kt k2 pt2} (hc:X.calm=true) (hN:X.N.Nodup) (hi:X.N[i]?=some x) (hj:X.N[j]?=some y) (hij:i≠j)
  (hx:X.env.scope.names.lookup x=some .local) (hy:X.env.scope.names.lookup y=some .local) (ha:PA X [a,b] ta)
  (hw:swappedStores [.Tuple [.Name x px,.Name y py] kt pt] (.Tuple [a,b] k2 pt2) X.env=pure (some [x,y]))
  (hs:swapsWithSole [.Tuple [.Name x px,.Name y py] kt pt] (.Tuple [a,b] k2 pt2) pos.line X.env=pure false:=by rfl) :
  PS X (.Assign [.Tuple [.Name x px,.Name y py] kt pt] (.Tuple [a,b] k2 pt2) pos) (KH i j ta):=by
 intro pins s σ H D I h
 rw[exec_Assign_arm]
 refine wpAny_bind (wpAny_standAt ?_)
 rw[hs]
 refine wpAny_bind (wpAny_pure ?_)
 rw[if_neg (by decide)]
 refine wpAny_bind (Tuple_ (thn (ha _ pins s σ H _ I h) fun us s1 ⟨vs,H1,I1,r1,q1⟩=>?_))
 obtain⟨v,w,e1,q1⟩:=q1
 subst e1
 obtain⟨u1,u2,rfl,rv,rw'⟩:∃u1 u2,us=[u1,u2]/\RelV v u1/\RelV w u2:=by
  cases r1 with
  | cons p q=>
   cases q with
   | cons p' q'=>
    cases q'
    exact⟨_,_,rfl,p,p'⟩
 refine wpAny_newObj_type ?_ (by show 2<=sizeLine;decide)
 have I2:Inv X pins σ H1 { s1 with heap:=s1.heap.push { cls:=.type "tuple", data:=.seq [u1,u2].toArray } }:=I1.kept (t':=s1.toks) fun b o e=>Heap.get?_push_of_some _ e
 rw[hw]
 refine wpAny_bind (wpAny_pure ?_)
 show wpAny (model X.prog X.w) X.A (do rule "assign.swapped-stores"; let items ← unpackItems (.ref s1.heap.objs.size) 2 none;assignInOrder [fun v=>bindName X.env y v,fun v=>bindName X.env x v] items.reverse;pure Flow.next) _ _ _
 refine wpAny_bind (wpAny_rule (wpAny_bind (unpackItems_tuple (items:=#[u1,u2]) (I.ok.hd hc) (IsTup.new s1.heap _) fun h' hx'=>?_)))
 have I3:=I2.kept (h':=h') (t':=s1.toks) fun b o e=>hx' b o (Nat.ne_of_lt (Heap.lt_size e)) e
 show wpAny _ _ (assignInOrder [fun v=>bindName X.env y v,fun v=>bindName X.env x v] [u2,u1] >>= fun _=>pure Flow.next) _ _ _
 refine wpAny_bind (assignInOrder_cons (wpAny_bindName (fY I3 hN hj (.inl hy) rw' (fun s2 I4=>?_) (.inr hy))))
 refine assignInOrder_cons (wpAny_bindName (fY I4 hN hi (.inl hx) rv (fun s3 I5=>assignInOrder_nil (wpAny_pure ?_)) (.inr hx)))
 rw[List.set_comm _ _ (Ne.symm hij)] at I5
 exact⟨_,H1,I5,q1⟩
noncomputable def JB (to ti te:TE) (tget:V->V->Hp->VK->Prop) (tip:TIp) (tset:wK):TS:=fun D σ H=>to σ H fun o H1=>ti σ H1 fun i H2=>tget o i H2 fun x H3=>te σ H3 fun y H4=>tip x y H4 fun z H5=>tset o i z H5 fun H6=>D.nx σ H6
noncomputable def IK (X:Cx) (t:V->V->Hp->VK->Prop):Prop:=
 ∀(pins:List (Addr × Obj)) (s:Shared) (σ:St) (H:Hp) (o i:V) (ov iv:Value) (Q:VK),Inv X pins σ H s->RelV o ov->RelV i iv->t o i H Q →
  wpAny (model X.prog X.w) X.A (getItem ov iv) (EP X pins σ Q) X.xe s
theorem EN {o i e:Expr} {to ti te:TE} {tget:V->V->Hp->VK->Prop} {tip:TIp} {tset:wK} {op:Operator} {tpos:Pos} (ho:PE X o to) (hi:PE X i ti) (hg:IK X tget) (he:PE X e te) (hp:PIp X op tip) (hs:Ep X tset)
  (ha:∀ov iv new,augStore i ov iv new=(do holding [new,ov,iv] (setItem ov iv new);release [new,ov,iv] [];pure .next):=by intros;rfl):PS X (.AugAssign (.Subscript o i tpos) op e pos) (JB to ti te tget tip tset):=by
 intro pins s σ H D I h
 refine wpAny_AugAssign_SubscriptAny (thn (ho pins s σ H _ I h) fun ov s1 ⟨x1,H1,I1,r1,q1⟩=>?_) ha
 refine thn (hi pins s1 σ H1 _ I1 q1) fun iv s2 ⟨x2,H2,I2,r2,q2⟩=>?_
 refine thn (hg pins s2 σ H2 x1 x2 ov iv _ I2 r1 r2 q2) fun old s3 ⟨x3,H3,I3,r3,q3⟩=>?_
 refine thn (he pins s3 σ H3 _ I3 q3) fun v s4 ⟨x4,H4,I4,r4,q4⟩=>?_
 refine thn (hp pins s4 σ H4 x3 x4 old v _ I4 r3 r4 q4) fun new s5 ⟨x5,H5,I5,r5,q5⟩=>?_
 exact thn (hs pins s5 σ H5 x1 x2 x5 ov iv new _ I5 r1 r2 r5 q5) fun _ s6 ⟨H6,I6,q6⟩=>⟨σ,H6,I6,q6⟩
noncomputable def ipI (f:Int->Int->Int):TIp:=fun x y H Q=>∃i j,x=.int i/\y=.int j/\Q (.int (f i j)) H
theorem Hk:PIp X .Add (ipI fun i j=>i+j):=by
 intro pins s σ H x y v u Q I r1 r2 h
 obtain⟨i,j,e1,e2,q⟩:=h
 subst e1;subst e2
 obtain⟨t,rfl⟩:=r1
 obtain⟨t',rfl⟩:=r2
 exact iadd_int ⟨.int _,H,I.tok _,⟨_,rfl⟩,q⟩
end
structure It where
 go:Nat->Hp->Prop
 yld:Nat->Hp->V->Hp->Prop
 stop:Nat->Hp->Prop
noncomputable def nL (X:Cx) (pins:List (Addr × Obj)) (H:Hp) (b:Addr):Prop:=
 H b=none/\b≠X.env.locals/\b∉X.fs/\(b∈X.ex\/X.az.heap.objs.size<=b)/\(∀x c,X.env.cells.lookup x=some c->c≠b)/\∀p∈X.pn++pins,p.1≠b
theorem Inv.E2 {X:Cx} {pins:List (Addr × Obj)} {σ:St} {H H':Hp} {s:Shared} {b:Addr} (I:Inv X pins σ H s) (hb:s.heap.objs.size<=b) (hn:H' b=none):nL X pins H' b:=by
 refine⟨hn,Nat.ne_of_gt (Nat.lt_of_lt_of_le I.lt hb),I.Ho hb,.inr (Nat.le_trans I.sz hb),fun x c e z=>?_,fun p hp z=>?_⟩
 ·obtain⟨v,q⟩:=I.cell x c e
  exact absurd (Nat.lt_of_lt_of_le q.lt (by rw[z];exact hb)) (Nat.lt_irrefl _)
 ·exact absurd (Nat.lt_of_lt_of_le (Heap.lt_size (I.pin p hp).1) (by rw[z];exact hb)) (Nat.lt_irrefl _)
structure Turn (P:Program) (w:World) (K:PySem.W.Frag) (tg:Expr) (J:It) (fp:List Addr) (it:Addr) (tn:Nat->Heap->Prop):Prop where
 mem:it∈fp
 obj:∀i h,tn i h->∀b∈fp,∃o,h.get? b=some o/\∀v,o.data≠.cell v
 keep:∀i h h',tn i h->(∀b∈fp,∀o,h.get? b=some o->h'.get? b=some o)->tn i h'
 item:∀(X:Cx),X.prog=P->X.w=w->X.K=K->X.calm=true->∀(i:Nat) (pins:List (Addr × Obj)) (s:Shared) (σ:St) (H:Hp) (E:Value->Shared->Prop),Inv X pins σ H s->(∀b∈fp,nL X pins H b)->tn i s.heap->J.go i H →
  wpAny (model P w) X.A (pyNext (.ref it)) (fun r s1=>∃u,r=some u ∧
   wpAny (model P w) X.A (letOwnedTupleGo tg (.ref it) u) (fun _ s2=>∃x H',Inv X pins σ H' s2/\RelV x u/\J.yld i H x H'/\tn (i+1) s2.heap/\∀b∈fp,H' b=none) E s1) E s
 done:∀(X:Cx),X.prog=P->X.w=w->X.K=K->X.calm=true->∀(i:Nat) (pins:List (Addr × Obj)) (s:Shared) (σ:St) (H:Hp) (E:Value->Shared->Prop),Inv X pins σ H s->(∀b∈fp,nL X pins H b)->tn i s.heap->J.stop i H →
  wpAny (model P w) X.A (pyNext (.ref it)) (fun r s1=>r=none/\Inv X pins σ H s1) E s
 self:∀(A:Around) (i:Nat) (s:Shared) (Q:Value->Shared->Prop) (E:Value->Shared->Prop),tn i s.heap->Q (.ref it) s->wpAny (model P w) A (pyIter (.ref it)) Q E s
noncomputable abbrev TI:=St->Hp->(It->Hp->Prop)->Prop
noncomputable def PIE (X:Cx) (pins:List (Addr × Obj)) (σ:St) (tg:Expr) (R:It->Hp->Prop) (itv:Value) (s2:Shared):Prop:=
 ∃(it:Addr) (fp:List Addr) (tn:Nat->Heap->Prop) (J:It) (H':Hp),itv=.ref it/\Inv X pins σ H' s2/\Turn X.prog X.w X.K tg J fp it tn/\tn 0 s2.heap/\(∀b∈fp,nL X pins H' b)/\R J H'
noncomputable def PI (X:Cx) (tg iter:Expr) (wi:TI):Prop:=
 ∀(pins:List (Addr × Obj)) (s:Shared) (σ:St) (H:Hp) (R:It->Hp->Prop),Inv X pins σ H s->wi σ H R →
  wpAny (model X.prog X.w) X.A (eval iter X.env) (fun v s1=>wpAny (model X.prog X.w) X.A (pyIter v) (PIE X pins σ tg R) X.xe s1) X.xe s
theorem Cf {M:Model} {A:Around} {E:Value->Shared->Prop} {s:Shared} {tg:Expr} {it:Addr} {u:Value} {o:Obj} {n:String} {vs:Array Value} {Q:Unit->Shared->Prop} (ho:s.heap.get? it=some o) (hc:o.cls=.type n) (hd:o.data=.fields vs)
  (hn:["enumerate", "zip", "dict_itemiterator", "dict_reverseitemiterator", "odict_iterator", "itertools.zip_longest", "itertools.pairwise"].contains n=false) (hQ:Q () s):wpAny M A (letOwnedTupleGo tg (.ref it) u) Q E s:=by
 unfold letOwnedTupleGo
 cases tg<;>first
  | exact wpAny_pure hQ
  | (cases u<;>first
    | exact wpAny_pure hQ
    | (refine wpAny_bind (wpAny_load ho ?_)
       rw[hc,hd]
       show wpAny M A (if (["enumerate", "zip", "dict_itemiterator", "dict_reverseitemiterator", "odict_iterator", "itertools.zip_longest", "itertools.pairwise"].contains n&&vs[0]? == some (rawInt _))=true then _ else _) Q E s
       rw[if_neg (by intro h;rw[hn,Bool.false_and] at h;cases h)]
       exact wpAny_pure hQ))
noncomputable def Itl (K:PySem.W.Frag) (a:Addr):It:=
 ⟨fun i H=>∃xs x,SqL K H a xs/\xs[i]?=some x,fun i H x H'=>H'=H/\∀xs,SqL K H a xs->xs[i]?=some x,fun i H=>∃xs,SqL K H a xs/\xs.length<=i⟩
noncomputable def Itt (K:PySem.W.Frag) (a:Addr):It:=
 ⟨fun i H=>∃xs x,SqT K H a xs/\xs[i]?=some x,fun i H x H'=>H'=H/\∀xs,SqT K H a xs->xs[i]?=some x,fun i H=>∃xs,SqT K H a xs/\xs.length<=i⟩
noncomputable def Itr (lo:Int) (n:Nat):It:=⟨fun i _=>i<n,fun i H x H'=>H'=H/\x=.int (lo+i),fun i _=>n<=i⟩
theorem zp {P:Program} {w:World} {K:PySem.W.Frag} {tg:Expr} (a it:Addr):Turn P w K tg (Itl K a) [it] it (fun i h=>h.IsListIter it a i) where
 mem:=by simp
 obj:=fun i h st b hb=>by
  have e:b=it:=by simpa using hb
  subst e
  obtain⟨o,e,c,d⟩:=st
  exact⟨o,e,fun v z=>by rw[d] at z;cases z⟩
 keep:=fun i h h' st k=>st.at fun o e=>k it (by simp) o e
 item:=by
  intro X hP hw hK hc i pins s σ H E I hf st hg
  subst hP hw hK
  obtain⟨xs,x,hq,hx⟩:=hg
  obtain⟨its,rv,p,hz⟩:=I.list hq
  obtain⟨u,hu,ru⟩:=rv.get hx
  obtain⟨f0,f1,f2,f3,f4,f5⟩:=hf it (by simp)
  refine wpAny_pyNext_list_item st p.isList (x:=u) (by simpa using hu) fun h' st' sb=>?_
  have I1:Inv X pins σ H { s with heap:=h' }:=I.turned (t':=s.toks) (fun b o hb e=>(sb.2 b hb).trans e) f0 f1 f3 f4 f5
  obtain⟨o,e,c,d⟩:=id st'
  exact⟨u,rfl,Cf (s:={ s with heap:=h' }) e c d (by decide) ⟨x,H,I1,ru,⟨rfl,fun ys hy=>by rw[I.oW hy hq];exact hx⟩,st',fun b hb=>(hf b hb).1⟩⟩
 done:=by
  intro X hP hw hK hc i pins s σ H E I hf st hg
  subst hP hw hK
  obtain⟨xs,hq,hx⟩:=hg
  obtain⟨its,rv,p,hz⟩:=I.list hq
  obtain⟨f0,f1,f2,f3,f4,f5⟩:=hf it (by simp)
  have hl:=rv.length
  exact wpAny_pyNext_list_end (I.ok.hd hc) st p.isList (by simp;omega) fun h' eb=>⟨rfl,I.turned (t':=s.toks) (fun b o hb e=>eb b o hb e) f0 f1 f3 f4 f5⟩
 self:=fun _ _ _ _ _ st h=>wpAny_pyIter_listiter st h
theorem wO {P:Program} {w:World} {K:PySem.W.Frag} {tg:Expr} (a it:Addr):Turn P w K tg (Itt K a) [it] it (fun i h=>h.IsTupleIter it a i) where
 mem:=by simp
 obj:=fun i h st b hb=>by
  have e:b=it:=by simpa using hb
  subst e
  obtain⟨o,e,c,d⟩:=st
  exact⟨o,e,fun v z=>by rw[d] at z;cases z⟩
 keep:=fun i h h' st k=>st.at fun o e=>k it (by simp) o e
 item:=by
  intro X hP hw hK hc i pins s σ H E I hf st hg
  subst hP hw hK
  obtain⟨xs,x,hq,hx⟩:=hg
  obtain⟨its,rv,p,hz⟩:=I.tuple hq
  obtain⟨u,hu,ru⟩:=rv.get hx
  obtain⟨f0,f1,f2,f3,f4,f5⟩:=hf it (by simp)
  refine wpAny_pyNext_tuple_item st (show s.heap.IsTuple a its.toArray from p) (x:=u) (by simpa using hu) fun h' st' sb=>?_
  have I1:Inv X pins σ H { s with heap:=h' }:=I.turned (t':=s.toks) (fun b o hb e=>(sb.2 b hb).trans e) f0 f1 f3 f4 f5
  obtain⟨o,e,c,d⟩:=id st'
  exact⟨u,rfl,Cf (s:={ s with heap:=h' }) e c d (by decide) ⟨x,H,I1,ru,⟨rfl,fun ys hy=>by rw[I.lW hy hq];exact hx⟩,st',fun b hb=>(hf b hb).1⟩⟩
 done:=by
  intro X hP hw hK hc i pins s σ H E I hf st hg
  subst hP hw hK
  obtain⟨xs,hq,hx⟩:=hg
  obtain⟨its,rv,p,hz⟩:=I.tuple hq
  obtain⟨f0,f1,f2,f3,f4,f5⟩:=hf it (by simp)
  have hl:=rv.length
  exact wpAny_pyNext_tuple_end (I.ok.hd hc) st (show s.heap.IsTuple a its.toArray from p) (by simp;omega) fun h' eb=>⟨rfl,I.turned (t':=s.toks) (fun b o hb e=>eb b o hb e) f0 f1 f3 f4 f5⟩
 self:=fun _ _ _ _ _ st h=>wpAny_pyIter_tupleiter st h
theorem wM {P:Program} {w:World} {K:PySem.W.Frag} {tg:Expr} (it:Addr) (lo:Int) (n:Nat):Turn P w K tg (Itr lo n) [it] it (fun i h=>IsRangeIter h it (lo+(i:Nat)*1) ((n:Int) - (i:Nat)) 1) where
 mem:=by simp
 obj:=fun i h st b hb=>by
  have e:b=it:=by simpa using hb
  subst e
  exact⟨_,st,fun v z=>by
   have z':Data.fields _=Data.cell v:=z
   cases z'⟩
 keep:=fun i h h' st k=>k it (by simp) _ st
 item:=by
  intro X hP hw hK hc i pins s σ H E I hf st hg
  subst hP hw hK
  obtain⟨f0,f1,f2,f3,f4,f5⟩:=hf it (by simp)
  have W:=Walks.range (prog:=X.prog) (w:=X.w) (I.ok.hd hc) it lo 1 n
  refine W.item i s _ _ hg st fun v h' tk hv st' kk=>?_
  obtain⟨t,rfl⟩:=hv
  have I1:Inv X pins σ H { s with heap:=h',toks:=tk }:=I.turned (fun b o hb e=>kk b o (by simpa using hb) e) f0 f1 f3 f4 f5
  refine⟨_,rfl,Cf (s:={ s with heap:=h',toks:=tk }) (n:="range_iterator") st' rfl rfl (by decide) ⟨.int (lo+i),H,I1,⟨t,?_⟩,⟨rfl,rfl⟩,st',fun b hb=>(hf b hb).1⟩⟩
  rw[Int.mul_one]
 done:=by
  intro X hP hw hK hc i pins s σ H E I hf st hg
  subst hP hw hK
  obtain⟨f0,f1,f2,f3,f4,f5⟩:=hf it (by simp)
  exact wpAny_pyNext_range_end (I.ok.hd hc) st (by have:n<=i:=hg;omega) fun h' eb=>⟨rfl,I.turned (t':=s.toks) (fun b o hb e=>eb b o hb e) f0 f1 f3 f4 f5⟩
 self:=fun _ _ _ _ _ st h=>wpAny_pyIter_rangeiter st h
section
variable {X:Cx} {tg:Expr}
theorem uS {pins:List (Addr × Obj)} {σ:St} {H:Hp} {s:Shared} {R:It->Hp->Prop} {E:Value->Shared->Prop} {lo hi:Int} {t u v:Tok} {tk:Nat} (I:Inv X pins σ H s) (h1:-(2 ^ 62)<=lo) (h2:lo<2 ^ 62) (h3:-(2 ^ 62)<=hi) (h4:hi<2 ^ 62)
  (q:R (Itr lo (hi - lo).toNat) H):wpAny (model X.prog X.w) X.A (pyIter (.ref s.heap.objs.size)) (PIE X pins σ tg R) E { s with heap:=s.heap.push { cls:=.type "range", data:=.fields #[.int lo t,.int hi u,.int 1 v] },toks:=tk }:=by
 refine wpAny_pyIter_range (IsRange.new ..) (small_one h1 h2 h3 h4) ?_
 have I1:Inv X pins σ H { s with heap:=s.heap.push { cls:=.type "range", data:=.fields #[.int lo t,.int hi u,.int 1 v] },toks:=tk }:=I.kept fun b o e=>Heap.get?_push_of_some _ e
 refine⟨(s.heap.push { cls:=.type "range", data:=.fields #[.int lo t,.int hi u,.int 1 v] }).objs.size,[(s.heap.push { cls:=.type "range", data:=.fields #[.int lo t,.int hi u,.int 1 v] }).objs.size],_,_,H,rfl,
  I1.kept (t':=tk) fun b o e=>Heap.get?_push_of_some _ e,wM _ lo (hi - lo).toNat,?_,fun b hb=>?_,q⟩
 ·have e1:lo+((0:Nat):Int)*1=lo:=by simp
  have e2:(((hi - lo).toNat:Nat):Int) - ((0:Nat):Int)=Builtin.Range.rangeSize lo hi 1:=by rw[rangeSize_one];split<;>omega
  show IsRangeIter _ _ (lo+((0:Nat):Int)*1) ((((hi - lo).toNat:Nat):Int) - ((0:Nat):Int)) 1
  rw[e1,e2]
  exact Heap.get?_push_size _ rfl
 ·have e:b=(s.heap.push { cls:=.type "range", data:=.fields #[.int lo t,.int hi u,.int 1 v] }).objs.size:=by simpa using hb
  subst e
  exact I1.E2 (Nat.le_refl _) (I1.hok.fresh (Nat.le_refl _))
noncomputable def Jn (ta:TA):TI:=fun σ H R=>ta σ H fun vs H1=>∃j:Int,vs=[.int j]/\-(2 ^ 62)<=j/\j<2 ^ 62/\R (Itr 0 j.toNat) H1
noncomputable def IE (ta:TA):TI:=fun σ H R=>ta σ H fun vs H1=>∃i j:Int,vs=[.int i,.int j]/\(-(2 ^ 62)<=i/\i<2 ^ 62/\-(2 ^ 62)<=j/\j<2 ^ 62)/\R (Itr i (j - i).toNat) H1
theorem zq {a:Expr} {ta:TA} {p pos:Pos} (hg:Gl X "range") (hm:X.mg "range" = none) (ha:PA X [a] ta) (hs:starEach [a] X.env=[(false,eval a X.env)]:=by rfl):PI X tg (.Call (.Name "range" p) [a] [] pos) (Jn ta):=by
 intro pins s σ H R I h
 refine Call_ (mD I hg hm boot_range (PyProof.Rows.callWith_type1 (thn (ha pos pins s σ H _ I h) fun us s1 ⟨vs,H1,I1,r1,q1⟩=>?_) hs rfl))
 obtain⟨j,e,q1,q2,q⟩:=q1
 subst e
 cases r1 with
 | cons r rr=>
  cases rr
  obtain⟨t,rfl⟩:=r
  exact call_range_1 (uS I1 (by omega) (by omega) q1 q2 (by simpa using q))
theorem Ab {a b:Expr} {ta:TA} {p pos:Pos} (hg:Gl X "range") (hm:X.mg "range" = none) (ha:PA X [a,b] ta) (hs:starEach [a,b] X.env=[(false,eval a X.env),(false,eval b X.env)]:=by rfl) (hs2:starEach [b] X.env=[(false,eval b X.env)]:=by rfl) :
  PI X tg (.Call (.Name "range" p) [a,b] [] pos) (IE ta):=by
 intro pins s σ H R I h
 refine Call_ (mD I hg hm boot_range (PyProof.Rows.callWith_type1 (thn (ha pos pins s σ H _ I h) fun us s1 ⟨vs,H1,I1,r1,q1⟩=>?_) (by rw[hs,hs2]) (by rw[hs2];rfl)))
 obtain⟨i,j,e,⟨q1,q2,q3,q4⟩,q⟩:=q1
 subst e
 cases r1 with
 | cons r rr=>
  cases rr with
  | cons r' rr=>
   cases rr
   obtain⟨t,rfl⟩:=r
   obtain⟨t',rfl⟩:=r'
   exact call_range_2 (uS I1 q1 q2 q3 q4 q)
noncomputable def K9 (wi:TI) (g:TG) (tb:TS):TS:=fun D σ H=>wi σ H fun J H1=>∃W:Nat->Nat->St->Hp->Prop,(∃m,W 0 m σ H1)/\∀i m σ H,W i m σ H →
 (J.stop i H/\D.nx σ H)\/(J.go i H/\∃N:St->Hp->Prop,(∀σ' H',N σ' H'->∃m',m'<m/\W (i+1) m' σ' H')/\∀x H',J.yld i H x H'->g x σ H' fun σ2 H2=>tb { D with nx:=N,ct:=N,bk:=D.nx } σ2 H2)
noncomputable def jr (fp:List Addr) (h:Heap):List (Addr × Obj):=fp.filterMap fun b=>(h.get? b).map fun o=>(b,o)
theorem cU {fp:List Addr} {h:Heap} {b:Addr} {o:Obj} (hb:b∈fp) (e:h.get? b=some o):(b,o)∈jr fp h:=List.mem_filterMap.mpr ⟨b,hb,by rw[e];rfl⟩
theorem zO {fp:List Addr} {h:Heap} {p:Addr × Obj} (hp:p∈jr fp h):p.1∈fp/\h.get? p.1=some p.2:=by
 obtain⟨b,hb,e⟩:=List.mem_filterMap.mp hp
 cases q:h.get? b with
 | none=>rw[q] at e;cases e
 | some o=>
  rw[q] at e
  have e':(b,o)=p:=Option.some.inj e
  subst e'
  exact⟨hb,q⟩
theorem Inv.pinned {pins:List (Addr × Obj)} {σ:St} {H:Hp} {s:Shared} {fp:List Addr} (I:Inv X pins σ H s) (hf:∀b∈fp,nL X pins H b) (ho:∀b∈fp,∃o,s.heap.get? b=some o/\∀v,o.data≠.cell v):Inv X (pins++jr fp s.heap) σ H s:=
 I.kQ fun p hp=>(List.mem_append.mp hp).elim (fun z=>I.pin p (List.mem_append_right _ z)) fun z=>by
  obtain⟨hb,e⟩:=zO z
  obtain⟨f0,f1,f2,_⟩:=hf p.1 hb
  obtain⟨o,e',d⟩:=ho p.1 hb
  rw[e] at e';cases e'
  exact⟨e,f0,f1,f2,d⟩
theorem Inv.hX {pins pl:List (Addr × Obj)} {σ:St} {H:Hp} {s:Shared} (I:Inv X (pins++pl) σ H s):Inv X pins σ H s:=I.kQ fun p hp=>I.pin p (List.mem_append_right _ (List.mem_append_left _ hp))
theorem G1 {iter:Expr} {body:List Stmt} {wi:TI} {g:TG} {tb:TS} {pos:Pos} (hp:PassesOwn (model X.prog X.w) X.A X.env X.xe) (hc:X.calm=true) (hi:PI X tg iter wi) (hg:PG X tg g) (hb:PSs X body tb)
  (hs:∀x,foldedSetIterable iter X.env x=pure x:=by intro _;rfl):PS X (.For tg iter body [] pos) (K9 wi g tb):=by
 intro pins s σ H D I h
 refine wpAny_For (thn (hi pins s σ H _ I h) fun v s1 h1=>thn h1 fun itv s2 h2=>?_) hs
 obtain⟨it,fp,tn,J,H2,e,I2,T,st2,f2,W,⟨m0,w0⟩,turn⟩:=h2
 subst e
 -- what stays true of the iterator's objects through the loop
 have stat:∀{H':Hp},(∀b∈fp,H' b=none)->∀b∈fp,nL X pins H' b:=fun hn b hb=>⟨hn b hb,(f2 b hb).2⟩
 refine codeAny_forLoop_any (fun n s'=>∃i σ' H',Inv X pins σ' H' s'/\tn i s'.heap/\(∀b∈fp,H' b=none)/\W i n σ' H') ?_ m0 ⟨0,σ,H2,I2,st2,fun b hb=>(f2 b hb).1,w0⟩
 rintro n s3 ⟨i,σ3,H3,I3,st3,fr3,w3⟩
 rcases turn i n σ3 H3 w3 with⟨stop,qn⟩ | ⟨go,N,hN,step⟩
 ·refine wpAny_passesOwn hp (thn (T.done X rfl rfl rfl hc i pins s3 σ3 H3 X.xe I3 (stat fr3) st3 stop) fun r s4 ⟨hr,I4⟩=>?_)
  subst hr
  exact wpAny_execs_nil ⟨σ3,H3,I4,qn⟩
 ·refine wpAny_passesOwn hp (thn (T.item X rfl rfl rfl hc i pins s3 σ3 H3 X.xe I3 (stat fr3) st3 go) fun r s4 ⟨u,hr,h4⟩=>?_)
  subst hr
  refine wpAny_passesOwn hp (thn h4 fun _ s5 ⟨x,H5,I5,r5,y5,st5,fr5⟩=>?_)
  have I5':=I5.pinned (stat fr5) (T.obj _ _ st5)
  refine wpAny_passesOwn hp (thn (hg _ s5 σ3 H5 x u _ I5' r5 (step x H5 y5)) fun _ s6 ⟨σ6,H6,I6,q6⟩=>?_)
  refine wpAny_passesOwn hp (thn (hb _ s6 σ6 H6 _ I6 q6) fun f s7 q7=>?_)
  have again:∀{σ7:St} {H7:Hp},Inv X (pins++jr fp s5.heap) σ7 H7 s7->N σ7 H7->∃m,m<n/\∃i σ' H',Inv X pins σ' H' s7/\tn i s7.heap/\(∀b∈fp,H' b=none)/\W i m σ' H':=fun{σ7 H7} I7 n7=>by
   obtain⟨m',hm,w7⟩:=hN σ7 H7 n7
   refine⟨m',hm,i+1,σ7,H7,I7.hX,T.keep _ _ _ st5 fun b hb o e=>(I7.pin (b,o) (List.mem_append_right _ (List.mem_append_right _ (cU hb e)))).1,fun b hb=>?_,w7⟩
   obtain⟨o,e,d⟩:=T.obj _ _ st5 b hb
   exact(I7.pin (b,o) (List.mem_append_right _ (List.mem_append_right _ (cU hb e)))).2.1
  cases f with
  | next=>obtain⟨σ7,H7,I7,n7⟩:=q7;exact again I7 n7
  | cont=>obtain⟨σ7,H7,I7,n7⟩:=q7;exact again I7 n7
  | brk=>obtain⟨σ7,H7,I7,q7⟩:=q7;exact⟨σ7,H7,I7.hX,q7⟩
  | ret v=>obtain⟨x7,σ7,H7,I7,r7,q7⟩:=q7;exact⟨x7,σ7,H7,I7.hX,r7,q7⟩
end
noncomputable abbrev R2:=V->V->Hp->VK->Prop
noncomputable def OpR (X:Cx) (f:Value->Value->Sem Value) (r:R2):Prop:=
 ∀(pins:List (Addr × Obj)) (s:Shared) (σ:St) (H:Hp) (x y:V) (v u:Value) (Q:VK),Inv X pins σ H s->RelV x v->RelV y u->r x y H Q →
  wpAny (model X.prog X.w) X.A (f v u) (EP X pins σ Q) X.xe s
noncomputable def UnR (X:Cx) (f:Value->Sem Value) (r:V->Hp->VK->Prop):Prop:=
 ∀(pins:List (Addr × Obj)) (s:Shared) (σ:St) (H:Hp) (x:V) (v:Value) (Q:VK),Inv X pins σ H s->RelV x v->r x H Q →
  wpAny (model X.prog X.w) X.A (f v) (EP X pins σ Q) X.xe s
noncomputable def cP (X:Cx) (f:Value) (r:List V->Hp->VK->Prop):Prop:=
 ∀(pins:List (Addr × Obj)) (s:Shared) (σ:St) (H:Hp) (xs:List V) (us:List Value) (Q:VK),Inv X pins σ H s->Vals xs us->r xs H Q →
  wpAny (model X.prog X.w) X.A (call f us) (EP X pins σ Q) X.xe s
noncomputable def Lg (X:Cx) (r:V->Hp->(Bool->Hp->Prop)->Prop):Prop:=
 ∀(pins:List (Addr × Obj)) (s:Shared) (σ:St) (H:Hp) (x:V) (v:Value) (Q:Bool->Hp->Prop),Inv X pins σ H s->RelV x v->r x H Q →
  wpAny (model X.prog X.w) X.A (truthy v) (TP X pins σ Q) X.xe s
noncomputable def tOp (r:R2) (ta tb:TE):TE:=fun σ H Q=>ta σ H fun x H1=>tb σ H1 fun y H2=>r x y H2 Q
noncomputable def tUn (r:V->Hp->VK->Prop) (ta:TE):TE:=fun σ H Q=>ta σ H fun x H1=>r x H1 Q
noncomputable def rI (C:Int->Int->Prop) (g:Int->Int->V):R2:=fun x y H Q=>∃i j,x=.int i/\y=.int j/\C i j/\Q (g i j) H
noncomputable def rI0 (g:Int->Int->V):R2:=fun x y H Q=>∃i j,x=.int i/\y=.int j/\Q (g i j) H
noncomputable def rU (g:Int->V):V->Hp->VK->Prop:=fun x H Q=>∃i,x=.int i/\Q (g i) H
section
variable {X:Cx} {a b c:Expr} {ta tb tc:TE} {pos:Pos}
theorem Gh (ha:PE X a ta) (hb:PE X b tb) {pins:List (Addr × Obj)} {s:Shared} {σ:St} {H:Hp} {R:V->V->Hp->Prop} (I:Inv X pins σ H s)
  (h:ta σ H fun x H1=>tb σ H1 fun y H2=>R x y H2) {Q:Value->Shared->Prop} {f:Value->Value->Sem Value}
  (hf:∀v u s2 x y H2,Inv X pins σ H2 s2->RelV x v->RelV y u->R x y H2->wpAny (model X.prog X.w) X.A (f v u) Q X.xe s2) :
  wpAny (model X.prog X.w) X.A (eval a X.env) (fun v s₁=>wpAny (model X.prog X.w) X.A (eval b X.env) (fun u s₂=>wpAny (model X.prog X.w) X.A (f v u) Q X.xe s₂) X.xe s₁) X.xe s:=by
 refine thn (ha pins s σ H _ I h) fun v s1 ⟨x,H1,I1,r1,q1⟩=>?_
 refine thn (hb pins s1 σ H1 _ I1 q1) fun u s2 ⟨y,H2,I2,r2,q2⟩=>?_
 exact hf v u s2 x y H2 I2 r1 r2 q2
theorem Iz {op:Operator} {r:R2} (ho:OpR X (binaryOp op) r) (ha:PE X a ta) (hb:PE X b tb):PE X (.BinOp a op b pos) (tOp r ta tb):=by
 intro pins s σ H Q I h
 exact wpAny_BinOp (Gh ha hb I h fun v u s2 x y H2 I2 rx ry q=>ho pins s2 σ H2 x y v u Q I2 rx ry q)
theorem Ia {op:UnaryOp} {r:V->Hp->VK->Prop} (ho:UnR X (unaryOp op) r) (ha:PE X a ta):PE X (.UnaryOp op a pos) (tUn r ta):=by
 intro pins s σ H Q I h
 exact UnaryOp_ (thn (ha pins s σ H _ I h) fun v s1 ⟨x,H1,I1,r1,q1⟩=>ho pins s1 σ H1 x v Q I1 r1 q1)
theorem opI {f:Value->Value->Sem Value} {C:Int->Int->Prop} {g:Int->Int->Int}
  (rule:∀(i j:Int) (t u:Tok) (s:Shared) (Q:Value->Shared->Prop) (E:Value->Shared->Prop),C i j->Q (.int (g i j) s.toks) { s with toks:=s.toks+1 }->wpAny (model X.prog X.w) X.A (f (.int i t) (.int j u)) Q E s) :
  OpR X f (rI C fun i j=>.int (g i j)):=by
 intro pins s σ H x y v u Q I rx ry h
 obtain⟨i,j,rfl,rfl,hc,q⟩:=h
 obtain⟨t,rfl⟩:=rx
 obtain⟨t',rfl⟩:=ry
 exact rule i j t t' s _ _ hc ⟨.int (g i j),H,I.tok _,⟨_,rfl⟩,q⟩
theorem HW {f:Value->Value->Sem Value} {g:Int->Int->Int}
  (rule:∀(i j:Int) (t u:Tok) (s:Shared) (Q:Value->Shared->Prop) (E:Value->Shared->Prop),Q (.int (g i j) s.toks) { s with toks:=s.toks+1 }->wpAny (model X.prog X.w) X.A (f (.int i t) (.int j u)) Q E s) :
  OpR X f (rI0 fun i j=>.int (g i j)):=by
 intro pins s σ H x y v u Q I rx ry h
 obtain⟨i,j,rfl,rfl,q⟩:=h
 obtain⟨t,rfl⟩:=rx
 obtain⟨t',rfl⟩:=ry
 exact rule i j t t' s _ _ ⟨.int (g i j),H,I.tok _,⟨_,rfl⟩,q⟩
theorem DV {f:Value->Value->Sem Value} {g:Int->Int->Bool}
  (rule:∀(i j:Int) (t u:Tok) (s:Shared) (Q:Value->Shared->Prop) (E:Value->Shared->Prop),Q (.bool (g i j)) s->wpAny (model X.prog X.w) X.A (f (.int i t) (.int j u)) Q E s) :
  OpR X f (rI0 fun i j=>.bl (g i j)):=by
 intro pins s σ H x y v u Q I rx ry h
 obtain⟨i,j,rfl,rfl,q⟩:=h
 obtain⟨t,rfl⟩:=rx
 obtain⟨t',rfl⟩:=ry
 exact rule i j t t' s _ _ ⟨.bl (g i j),H,I,rfl,q⟩
theorem FZ:OpR X (binaryOp .Add) (rI0 fun i j=>.int (i+j)):=HW fun _ _ _ _ _ _ _ q=>add_int q
theorem cD:OpR X (binaryOp .Sub) (rI0 fun i j=>.int (i - j)):=HW fun _ _ _ _ _ _ _ q=>sub_int q
theorem l8:OpR X (binaryOp .Mod) (rI (fun _ j=>0<j) fun i j=>.int (i % j)):=opI fun i j _ _ _ _ _ hc q=>by
 have h1:(0:Int)<j:=hc
 exact mod_int' (by omega) (by rw[Int.fmod_eq_emod_of_nonneg i (by omega)];exact q)
theorem unI {f:Value->Sem Value} {g:Int->Int}
  (rule:∀(i:Int) (t:Tok) (s:Shared) (Q:Value->Shared->Prop) (E:Value->Shared->Prop),Q (.int (g i) s.toks) { s with toks:=s.toks+1 }->wpAny (model X.prog X.w) X.A (f (.int i t)) Q E s) :
  UnR X f (rU fun i=>.int (g i)):=by
 intro pins s σ H x v Q I rx h
 obtain⟨i,rfl,q⟩:=h
 obtain⟨t,rfl⟩:=rx
 exact rule i t s _ _ ⟨.int (g i),H,I.tok _,⟨_,rfl⟩,q⟩
theorem kr:UnR X (unaryOp .USub) (rU fun i=>.int (-i)):=unI fun _ _ _ _ _ q=>neg_int q
end
section
variable {X:Cx} {a b c:Expr} {ta tb tc:TE} {pos:Pos}
theorem lj:OpR X (compareOp .Lt) (rI0 fun i j=>.bl (decide (i<j))):=DV fun _ _ _ _ _ _ _ q=>lt_int q
theorem AW:OpR X (compareOp .LtE) (rI0 fun i j=>.bl (decide (i<=j))):=DV fun _ _ _ _ _ _ _ q=>le_int q
theorem p9:OpR X (compareOp .Gt) (rI0 fun i j=>.bl (decide (j<i))):=DV fun _ _ _ _ _ _ _ q=>gt_int q
theorem JK:OpR X (compareOp .GtE) (rI0 fun i j=>.bl (decide (j<=i))):=DV fun _ _ _ _ _ _ _ q=>ge_int q
theorem aY (b:Expr) {op:CmpOp} (h:op≠.In:=by decide) (h2:op≠.NotIn:=by decide):behindInMarks op b=false:=by
 have e1:(op == CmpOp.In)=false:=by cases op<;>first | rfl | exact absurd rfl h
 have e2:(op == CmpOp.NotIn)=false:=by cases op<;>first | rfl | exact absurd rfl h2
 cases b<;>simp[behindInMarks,e1,e2]
theorem EO {op:CmpOp} {r:R2} (ho:OpR X (compareOp op) r) (ha:PE X a ta) (hb:PE X b tb) (hm:behindInMarks op b=false):PE X (.Compare a [op] [b] pos) (tOp r ta tb):=by
 intro pins s σ H Q I h
 exact wpAny_Compare1 (Gh ha hb I h fun v u s2 x y H2 I2 rx ry q=>ho pins s2 σ H2 x y v u Q I2 rx ry q) hm
noncomputable def CK (t:TE):TT:=fun σ H Q=>t σ H fun x H'=>∃k,x=.bl k/\Q k H'
theorem EV {op:CmpOp} {r:R2} (ho:OpR X (compareOp op) r) (ha:PE X a ta) (hb:PE X b tb) (hm:behindInMarks op b=false):PT X (.Compare a [op] [b] pos) (CK (tOp r ta tb)):=by
 intro pins s σ H Q I h
 refine wpAny_isTrue_Compare1 (thn (ha pins s σ H _ I h) fun v s1 ⟨x,H1,I1,r1,q1⟩=>thn (hb pins s1 σ H1 _ I1 q1) fun u s2 ⟨y,H2,I2,r2,q2⟩=>
  thn (ho pins s2 σ H2 x y v u _ I2 r1 r2 q2) fun c s3 ⟨z,H3,I3,r3,k,e,q3⟩=>?_) hm
 subst e
 cases r3
 exact wpAny_truthy_bool ⟨H3,I3,q3⟩
noncomputable def xD (r r':R2) (ta tb tc:TE):TE:=fun σ H Q=>ta σ H fun x H1=>tb σ H1 fun y H2=>r x y H2 fun z H3=>∃k,z=.bl k ∧
 (if k=true then tc σ H3 fun w' H4=>r' y w' H4 Q else Q (.bl false) H3)
theorem BH {op op':CmpOp} {r r':R2} (ho:OpR X (compareOp op) r) (ho':OpR X (compareOp op') r') (ha:PE X a ta) (hb:PE X b tb) (hc:PE X c tc)
  (hm:lastMarks [op,op'] [b,c]=false:=by with_unfolding_all rfl):PE X (.Compare a [op,op'] [b,c] pos) (xD r r' ta tb tc):=by
 intro pins s σ H Q I h
 refine Compare_chain (thn (ha pins s σ H _ I h) fun v s1 ⟨x,H1,I1,r1,q1⟩=>chain_link (thn (hb pins s1 σ H1 _ I1 q1) fun u s2 ⟨y,H2,I2,r2,q2⟩=>
  thn (ho pins s2 σ H2 x y v u _ I2 r1 r2 q2) fun d s3 ⟨z,H3,I3,r3,k,e,q3⟩=>?_)) hm
 subst e
 cases r3
 refine wpAny_truthy_bool ?_
 cases k with
 | false=>exact ite_ff ⟨.bl false,H3,I3,rfl,q3⟩
 | true=>exact ite_tt (chain_last (thn (hc pins s3 σ H3 _ I3 q3) fun w' s4 ⟨z',H4,I4,r4,q4⟩=>ho' pins s4 σ H4 y z' u w' Q I4 r2 r4 q4))
theorem BL {op op':CmpOp} {r r':R2} (ho:OpR X (compareOp op) r) (ho':OpR X (compareOp op') r') (ha:PE X a ta) (hb:PE X b tb) (hc:PE X c tc)
  (hm:lastMarks [op,op'] [b,c]=false:=by with_unfolding_all rfl):PT X (.Compare a [op,op'] [b,c] pos) (CK (xD r r' ta tb tc)):=by
 intro pins s σ H Q I h
 refine isTrue_chain (thn (ha pins s σ H _ I h) fun v s1 ⟨x,H1,I1,r1,q1⟩=>test_link (thn (hb pins s1 σ H1 _ I1 q1) fun u s2 ⟨y,H2,I2,r2,q2⟩=>
  thn (ho pins s2 σ H2 x y v u _ I2 r1 r2 q2) fun d s3 ⟨z,H3,I3,r3,k,e,q3⟩=>?_)) hm
 subst e
 cases r3
 refine wpAny_truthy_bool ?_
 cases k with
 | false=>
  obtain⟨k',e',q'⟩:=q3
  cases e'
  exact ite_ff ⟨H3,I3,q'⟩
 | true=>
  refine ite_tt (test_last (thn (hc pins s3 σ H3 _ I3 q3) fun w' s4 ⟨z',H4,I4,r4,q4⟩=>thn (ho' pins s4 σ H4 y z' u w' _ I4 r2 r4 q4) fun d' s5 ⟨z2,H5,I5,r5,k2,e2,q5⟩=>?_))
  subst e2
  cases r5
  exact wpAny_truthy_bool ⟨H5,I5,q5⟩
noncomputable def Eo (K:PySem.W.Frag) (x:V) (H:Hp) (k:Bool):Prop:=
 match x with
 | .non=>k=false
 | .bl b=>k=b
 | .int i=>k=(i != 0)
 | .str y=>y.length<=sizeLine/\k=((y.length:Int) != 0)
 | .byt y=>y.size<=sizeLine/\k=((y.size:Int) != 0)
 | .ref p=>(∃xs,SqL K H p xs/\k = !xs.isEmpty)\/(∃xs,SqT K H p xs/\k = !xs.isEmpty)\/∃kvs,H p=some (.dK kvs)/\k = !kvs.isEmpty
 | _=>False
theorem xP {κ:Type} {kvs:List (κ × V)} {vs:List (κ × Value)} (r:KV kvs vs):(!vs.isEmpty) = !kvs.isEmpty:=by
 cases r<;>rfl
theorem ow {xs:List V} {its:List Value} (r:Vals xs its):(!its.toArray.isEmpty) = !xs.isEmpty:=by
 cases r<;>simp
theorem jb:(sizeLine:Nat)<2 ^ 63:=by rw[sizeLine_eq];decide
theorem Hm:Lg X (fun x H Q=>∃k,Eo X.K x H k/\Q k H):=by
 intro pins s σ H x v Q I rx h
 obtain⟨k,e,q⟩:=h
 have hl:=jb
 have hs:sizeLine=16777216:=sizeLine_eq
 cases x with
 | non=>
  cases rx
  have e':k=false:=e
  subst e'
  exact truthy_none ⟨H,I,q⟩
 | bl b=>
  cases rx
  have e':k=b:=e
  subst e'
  exact wpAny_truthy_bool ⟨H,I,q⟩
 | int i=>
  obtain⟨t,rfl⟩:=rx
  have e':k=(i != 0):=e
  subst e'
  exact PySem.P.truthy_int ⟨H,I,q⟩
 | str y=>
  obtain⟨t,rfl⟩:=rx
  obtain⟨hy,e'⟩:y.length<=sizeLine/\k=((y.length:Int) != 0):=e
  subst e'
  exact PySem.P.truthy_str (by omega) ⟨H,I.tok _,q⟩
 | byt y=>
  obtain⟨t,rfl⟩:=rx
  obtain⟨hy,e'⟩:y.size<=sizeLine/\k=((y.size:Int) != 0):=e
  subst e'
  exact PySem.W.truthy_bytes (by omega) ⟨H,I.tok _,q⟩
 | ref p=>
  cases rx
  have e':(∃xs,SqL X.K H p xs/\k = !xs.isEmpty)\/(∃xs,SqT X.K H p xs/\k = !xs.isEmpty)\/∃kvs,H p=some (.dK kvs)/\k = !kvs.isEmpty:=e
  rcases e' with⟨xs,hx,e'⟩ | ⟨xs,hx,e'⟩ | ⟨kvs,hx,e'⟩
  ·subst e'
   obtain⟨its,r,pl,hz⟩:=I.list hx
   have hlen:=r.length
   exact wpAny_truthy_list pl.isList (by simp only[List.size_toArray];omega) ⟨H,I.tok _,by rw[ow r];exact q⟩
  ·subst e'
   obtain⟨its,r,pl,hz⟩:=I.tuple hx
   have hlen:=r.length
   exact truthy_tuple pl (by simp only[List.size_toArray];omega) ⟨H,I.tok _,by rw[ow r];exact q⟩
  ·subst e'
   obtain⟨hz,hS,vs,r,m⟩:kvs.length<=sizeLine/\(p == sysModules)=false/\∃vs,KV kvs vs/\s.heap.DictOf (cO X.prog X.w) p vs:=I.hok p _ hx
   have hlen:kvs.length=vs.length:=Paired.length r
   exact wpAny_truthy_dict hS m (by omega) ⟨H,I.tok _,by rw[xP r];exact q⟩
 | _=>exact(show False from e).elim
theorem C1 (ha:PE X a ta) (he:∀whole,isTrue a X.env whole=(do let v ← whole;standAt a.pos;holding [v] (truthy v))) :
  PT X a (fun σ H Q=>ta σ H fun x H'=>∃k,Eo X.K x H' k/\Q k H'):=by
 intro pins s σ H Q I h
 exact isTrue_plain (thn (ha pins s σ H _ I h) fun v s1 ⟨x,H1,I1,r1,q1⟩=>Hm pins s1 σ H1 x v Q I1 r1 q1) (he _)
theorem xQ:OpR X (binaryOp .Add) (fun x y H Q=>∃i j,x=.str i/\y=.str j/\i.length+j.length<=sizeLine/\Q (.str (i++j)) H):=by
 intro pins s σ H x y v u Q I rx ry h
 obtain⟨i,j,rfl,rfl,hz,q⟩:=h
 obtain⟨t,rfl⟩:=rx
 obtain⟨t',rfl⟩:=ry
 exact add_str (fun t' tk=>⟨.str (i++j),H,I.tok _,⟨_,rfl⟩,q⟩) hz
theorem vals1 {x:V} {us:List Value} (r:Vals [x] us):∃u,us=[u]/\RelV x u:=by
 cases r with
 | cons r1 r2=>cases r2;exact⟨_,rfl,r1⟩
theorem vals2 {x y:V} {us:List Value} (r:Vals [x,y] us):∃u w',us=[u,w']/\RelV x u/\RelV y w':=by
 cases r with
 | cons r1 r2=>
  cases r2 with
  | cons r3 r4=>cases r4;exact⟨_,_,rfl,r1,r3⟩
theorem rF (hc:X.calm=true):cP X (.builtin "max") (fun xs H Q=>∃i j,xs=[.int i,.int j]/\Q (.int (if j > i then j else i)) H):=by
 intro pins s σ H xs us Q I r h
 obtain⟨i,j,rfl,q⟩:=h
 obtain⟨u,w',rfl,⟨t,rfl⟩,⟨t',rfl⟩⟩:=vals2 r
 refine max_two_ints (I.ok.hd hc) fun h' tk k=>⟨_,H,I.kept k,?_,q⟩
 by_cases hj:j > i
 ·rw[if_pos hj,if_pos hj];exact⟨_,rfl⟩
 ·rw[if_neg hj,if_neg hj];exact⟨_,rfl⟩
theorem g_:cP X (.type "int") (fun xs H Q=>(∃i,xs=[.int i]/\Q (.int i) H)\/∃k,xs=[.bl k]/\Q (.int (if k then 1 else 0)) H):=by
 intro pins s σ H xs us Q I r h
 rcases h with⟨i,rfl,q⟩ | ⟨k,rfl,q⟩
 ·obtain⟨u,rfl,t,rfl⟩:=vals1 r
  exact call_int_int ⟨.int i,H,I,⟨_,rfl⟩,q⟩
 ·obtain⟨u,rfl,r1⟩:=vals1 r
  cases r1
  exact call_int_bool ⟨.int (if k then 1 else 0),H,I.tok _,⟨_,rfl⟩,q⟩
end
structure Gi (h:Heap) (x dx C:Addr) (mA:Str->Option Value):Prop where
 obj:h.get? x=some (PySem.W.instObj C dx)
 ns:h.Ns1 dx mA
 ne:dx≠x
theorem zE {h:Heap} {dx:Addr} {mA:Str->Option Value} (n:h.Ns1 dx mA):∃od,h.get? dx=some od/\∀name,PySem.W.lookIn name od=some (mA name):=by
 obtain⟨o,es,ep,ho,hd,hk,_,hm⟩:=n
 refine⟨o,ho,fun name=>?_⟩
 have e:=hm name
 unfold nsFind findBy at e
 rw[<- Array.find?_toList] at e
 unfold PySem.W.lookIn
 rw[hd]
 dsimp only
 split
 ·rename_i y q
  rw[q] at e
  exact congrArg some e
 ·rename_i q
  rw[q] at e
  have a:es.toList.any (·.refKey)=false:=by
   rw[List.any_eq_false]
   intro y hy
   obtain⟨z,t,hkey⟩:=hk y (Array.mem_toList_iff.mp hy)
   simp[DictEntry.refKey,hkey]
  have a':¬ es.toList.any (·.refKey)=true:=by rw[a];exact Bool.false_ne_true
  rw[if_neg a']
  exact congrArg some e
theorem Gi.look {h:Heap} {x dx C:Addr} {mA:Str->Option Value} (I:Gi h x dx C mA):∃od,PySem.W.InstAt h x (PySem.W.instObj C dx) C (some od)/\∀name,PySem.W.lookIn name od=some (mA name):=
 let ⟨od,ho,hl⟩:=zE I.ns
 ⟨od,⟨I.obj,rfl,rfl,ho⟩,hl⟩
theorem my.some_of {v:V} {o:Option Value} (r:my (some v) o):∃u,o=some u/\RelV v u:=by
 cases o with
 | none=>exact(show False from r).elim
 | some u=>exact⟨u,rfl,r⟩
section
variable {P:Program} {w:World} {H H':Hp} {h h':Heap} {a C dx:Addr} {fs fs':List (Str × V)}
theorem Ew (hok:HOk P w H h) (e:H a=some (.ins C dx fs)):∃mA,Gi h a dx C mA/\(∀f,my (fs.lookup f) (mA f))/\PySem.Within mA (fs.map (·.1))/\fs.length<=1000/\H dx=some (.own a):=by
 obtain⟨d,z,ne,ob,mA,n,r,q⟩:=(show bI P w H h a (.ins C dx fs) from hok a _ e)
 exact⟨mA,⟨ob,n,ne⟩,r,q,z,d⟩
end
structure Cls (K:PySem.W.Frag) (C:Addr):Prop where
 pg:PySem.W.plainGet K C Str.empty=true
 hd:PySem.W.hasDictIn K C=true
 po:PySem.W.plainOver K C=true
 sa:PySem.W.findIn K (.ref C) "__setattr__" = some (some (.builtin "object.__setattr__"))
theorem Cls.get {K:PySem.W.Frag} {C:Addr} (c:Cls K C) (f:Str):PySem.W.plainGet K C f=true:=c.pg
section
variable {X:Cx} {pins:List (Addr × Obj)} {σ:St} {H:Hp} {s:Shared} {a C dx:Addr} {fs:List (Str × V)} {f:Str} {v:V} {A:Around} {E:Value->Shared->Prop}
theorem EL {prog:Program} {w:World} {env:Env} {e:Expr} {f:Str} {pos:Pos} {s:Shared} {Q:Value->Shared->Prop} (hb:attributeBase e f env (eval e env)=eval e env)
  (h:wpAny (model prog w) A (eval e env) (fun o s₁=>wpAny (model prog w) A (getAttr o f true) Q E s₁) E s):wpAny (model prog w) A (eval (.Attribute e f pos) env) Q E s:=
 Attribute_any_ h (by rw[arm_eval_Attribute,hb])
end
section
variable {X:Cx} {pins:List (Addr × Obj)} {σ:St} {H:Hp} {s:Shared} {A:Around} {E:Value->Shared->Prop} {Q:Value->Shared->Prop} {c:Value} {b:Bool}
inductive kI (K:PySem.W.Frag) (H:Hp):V->Value->Prop where
 | non:kI K H .non (.type "NoneType")
 | bl (x:Bool):kI K H (.bl x) (.type "bool")
 | int (i:Int):kI K H (.int i) (.type "int")
 | str (x:Str):kI K H (.str x) (.type "str")
 | flt (x:UInt64):kI K H (.flt x) (.type "float")
 | lst {a:Addr} {xs:List V} (e:H a=some (.lst xs)):kI K H (.ref a) (.type "list")
 | frz {a:Addr} {o:Obj} {xs:List V} (e:H a=some (.frz o (.lst xs))):kI K H (.ref a) (.type "list")
 | tup {a:Addr} {xs:List V} (e:H a=some (.tup xs)):kI K H (.ref a) (.type "tuple")
 | eV {a:Addr} {o:Obj} {kvs:List (Key × V)} (e:H a=some (.frz o (.dK kvs))):kI K H (.ref a) (.type "dict")
 | dK {a:Addr} {kvs:List (Key × V)} (e:H a=some (.dK kvs)):kI K H (.ref a) (.type "dict")
 | dT {a:Addr} {kvs:List (List Key × V)} (e:H a=some (.dT kvs)):kI K H (.ref a) (.type "dict")
 | ins {a C dx:Addr} {fs:List (Str × V)} (e:H a=some (.ins C dx fs)) (cl:Cls K C) (ha:PySem.W.findIn K (.ref C) "__class__" = some (some (.builtin "object.__class__")))
   (hn:PySem.W.specialIn K (.builtin "object.__class__") "__get__" = some (some (.builtin "getset_descriptor.__get__"))) (htk:PySem.W.takesIn K (.builtin "object.__class__")=some true)
   (hm:PySem.W.mroIn K C (.type "object")=some true):kI K H (.ref a) (.ref C)
theorem Am {x:V} {u t:Value} (I:Inv X pins σ H s) (rx:RelV x u) (ty:kI X.K H x t) (e:PySem.W.kitOne X.K t c=some b) (h:∀tk,Q (.bool b) { s with toks:=tk }) :
  wpAny (model X.prog X.w) A (call (.builtin "isinstance") [u,c]) Q E s:=by
 cases ty with
 | non=>cases (show u=Value.none from rx);exact PySem.W.kia_one PySem.W.kitx_none I.kIn True.intro e (fun z=>nomatch z) h
 | bl y=>cases (show u=Value.bool y from rx);exact PySem.W.kia_one PySem.W.kitx_bool I.kIn True.intro e (fun z=>nomatch z) h
 | int i=>obtain⟨t,q⟩:=(show ∃t,u=Value.int i t from rx);cases q;exact PySem.W.kia_one PySem.W.kitx_int I.kIn True.intro e (fun z=>nomatch z) h
 | str y=>obtain⟨t,q⟩:=(show ∃t,u=Value.str y t from rx);cases q;exact PySem.W.kia_one PySem.W.kitx_str I.kIn True.intro e (fun z=>nomatch z) h
 | flt y=>obtain⟨t,q⟩:=(show ∃t,u=Value.float y t from rx);cases q;exact PySem.W.kia_one PySem.W.kitx_float I.kIn True.intro e (fun z=>nomatch z) h
 | @lst a xs ea=>
  cases (show u=Value.ref a from rx)
  obtain⟨_,_,n,_,h1⟩:=(show bI X.prog X.w H s.heap a (.lst xs) from I.hok a _ ea)
  exact PySem.W.kia_one PySem.W.kitx_list I.kIn ⟨_,h1,rfl⟩ e (fun z=>nomatch z) h
 | @frz a ob xs ea=>
  cases (show u=Value.ref a from rx)
  obtain⟨_,_,_,n,_,h1⟩:=(show bI X.prog X.w H s.heap a (.frz ob (.lst xs)) from I.hok a _ ea)
  exact PySem.W.kia_one PySem.W.kitx_list I.kIn ⟨_,h1,rfl⟩ e (fun z=>nomatch z) h
 | @tup a xs ea=>
  cases (show u=Value.ref a from rx)
  obtain⟨_,_,_,p⟩:=(show bI X.prog X.w H s.heap a (.tup xs) from I.hok a _ ea)
  obtain⟨o,h1,⟨h2,_⟩,_⟩:=p
  exact PySem.W.kia_one PySem.W.kitx_tuple I.kIn ⟨o,h1,h2⟩ e (fun z=>nomatch z) h
 | @eV a ob kvs ea=>
  cases (show u=Value.ref a from rx)
  obtain⟨_,_,_,vs,_,p⟩:=(show bI X.prog X.w H s.heap a (.frz ob (.dK kvs)) from I.hok a _ ea)
  obtain⟨o,es,ep,h1,h2,_⟩:=p
  exact PySem.W.kia_one PySem.W.kitx_dict I.kIn ⟨o,h1,h2.1⟩ e (fun z=>nomatch z) h
 | @dK a kvs ea=>
  cases (show u=Value.ref a from rx)
  obtain⟨_,_,vs,_,p⟩:=(show bI X.prog X.w H s.heap a (.dK kvs) from I.hok a _ ea)
  obtain⟨o,es,ep,h1,h2,_⟩:=p
  exact PySem.W.kia_one PySem.W.kitx_dict I.kIn ⟨o,h1,h2.1⟩ e (fun z=>nomatch z) h
 | @dT a kvs ea=>
  cases (show u=Value.ref a from rx)
  obtain⟨_,_,xs,_,o,es,ep,h1,h2,_⟩:=(show bI X.prog X.w H s.heap a (.dT kvs) from I.hok a _ ea)
  exact PySem.W.kia_one PySem.W.kitx_dict I.kIn ⟨o,h1,h2.1⟩ e (fun z=>nomatch z) h
 | @ins a C dx fs ea cl ha hn htk hm=>
  cases (show u=Value.ref a from rx)
  obtain⟨mA,O,_⟩:=Ew I.hok ea
  obtain⟨od,J,_⟩:=O.look
  exact PySem.W.kia_one (PySem.W.kitx_own (cl.get _) cl.hd ha hn htk hm) I.kIn J e (fun z=>nomatch z) h
end
structure cB (k:Nat) (A:Around):Prop where
 hd:A.handled=none
 dp:A.depth+3*k+5<recursionLimit
 un:A.units+16*k+200<cLine
 gd:A.guards=some []
theorem cB.mono {j k:Nat} {A:Around} (r:cB k A) (h:j<=k):cB j A:=⟨r.hd,by have:=r.dp;omega,by have:=r.un;omega,r.gd⟩
theorem cB.deeper {k:Nat} {A:Around} (r:cB (k+1) A) (env:Env):cB k (A.deeper env):=
 ⟨r.hd,by have:=r.dp;show A.depth+1+3*k+5<_;omega,by have:=r.un;show A.units+3+16*k+200<_;omega,r.gd⟩
theorem xo {A:Around} {C:Addr} {us:List Value} {kw:List (Str × Value)}:(A.under (.builtin "type.__call__" ⟨.ref C::us,kw⟩)).depth=A.depth+1:=by
 first | rfl | simp[Around.under,Code.weight,Code.isCreation,Code.isGuard,Code.isCaller,Code.frames,Code.isFrame,guardIds]
theorem xO {A:Around} {C:Addr} {us:List Value} {kw:List (Str × Value)}:(A.under (.builtin "type.__call__" ⟨.ref C::us,kw⟩)).units=A.units+1:=by
 first | rfl | simp[Around.under,Code.cUnits,Code.frames,Code.isFrame]
theorem cB.make {k:Nat} {A:Around} (r:cB (k+1) A) (C:Addr) (us:List Value) (kw:List (Str × Value)):cB k (A.under (.builtin "type.__call__" ⟨.ref C::us,kw⟩)):=
 ⟨r.hd,by have:=r.dp;rw[xo];omega,by have:=r.un;rw[xO];omega,by first | exact r.gd | (simpa [Around.under,Code.envs,Code.isFrame,Code.isGuard,guardIds] using r.gd)⟩
theorem cB.depth {k:Nat} {A:Around} (r:cB k A):A.depth<recursionLimit:=by have:=r.dp;omega
theorem cB.units {k:Nat} {A:Around} (r:cB k A):A.units+64<cLine:=by have:=r.un;omega
noncomputable def Jk:TA:=fun _ H Q=>Q [] H
noncomputable def FK (ta:TE) (tr:TA):TA:=fun σ H Q=>ta σ H fun x H1=>tr σ H1 fun xs H2=>Q (x::xs) H2
section
variable {X:Cx} {e:Expr} {es:List Expr} {te:TE} {t:TA} {pos:Pos}
theorem l6:PA X [] Jk:=fun _ _ _ _ H Q I h=>Calls.spliced_nil ⟨[],H,I,.nil,h⟩
theorem fM (ha:PE X e te) (hr:PA X es t) (hs:starEach (e::es) X.env=(false,eval e X.env)::starEach es X.env:=by rfl):PA X (e::es) (FK te t):=by
 intro pos pins s σ H Q I h
 rw[hs]
 show wpAny _ _ (spliced ((false,eval e X.env)::backTo pos (starEach es X.env))) _ _ s
 refine Calls.spliced_cons (thn (ha pins s σ H _ I h) fun u s1 ⟨x,H1,I1,r1,q1⟩=>?_)
 exact thn (hr pos pins s1 σ H1 _ I1 q1) fun us s2 ⟨xs,H2,I2,r2,q2⟩=>⟨x::xs,H2,I2,.cons r1 r2,q2⟩
noncomputable def Kb (t:TA):TE:=fun σ H Q=>t σ H fun xs H1=>xs.length<=sizeLine/\∀p,H1 p=none->Q (.ref p) (upd H1 p (.tup xs))
noncomputable def KW (t:TA):TE:=fun σ H Q=>t σ H fun xs H1=>xs.length<=sizeLine/\∀p,H1 p=none->Q (.ref p) (upd H1 p (.lst xs))
theorem Hv {x1} (h:PA X es t):PE X (.Tuple es x1 pos) (Kb t):=by
 intro pins s σ H Q I hq
 refine wpAny_Tuple_spliced (thn (h pos pins s σ H _ I hq) fun us s1 ⟨xs,H1,I1,r,z,q⟩=>⟨by rw[<- r.length];exact z,?_⟩)
 have hf:H1 s1.heap.objs.size=none:=I1.hok.fresh (Nat.le_refl _)
 refine⟨.ref s1.heap.objs.size,upd H1 s1.heap.objs.size (.tup xs),I1.laid (t':=s1.toks) (fun b u e=>Heap.get?_push_of_some _ e) (Nat.le_refl _) ?_,rfl,q _ hf⟩
 exact⟨z,us,r,⟨_,Heap.get?_push_size _ rfl,⟨rfl,_,rfl⟩,rfl⟩⟩
theorem Gb (h:PA X es t):PE X (.List es pos) (KW t):=by
 intro pins s σ H Q I hq
 refine wpAny_List_spliced (thn (h pos pins s σ H _ I hq) fun us s1 ⟨xs,H1,I1,r,z,q⟩=>⟨by rw[<- r.length];exact z,?_⟩)
 have hf:H1 s1.heap.objs.size=none:=I1.hok.fresh (Nat.le_refl _)
 refine⟨.ref s1.heap.objs.size,upd H1 s1.heap.objs.size (.lst xs),I1.laid (t':=s1.toks) (fun b u e=>Heap.get?_push_of_some _ e) (Nat.le_refl _) ?_,rfl,q _ hf⟩
 exact⟨z,us,0,r,Heap.get?_push_size _ rfl⟩
end
noncomputable abbrev Sp:=List V->Hp->VK->XK->Prop
noncomputable abbrev CXT:=List Env->Hp->Shared->XK->Value->Shared->Prop
structure vm (P:Program) (w:World) (K:PySem.W.Frag) (mg:Str->Option Value) (base:Heap) (A:Around) (outer:List Env) (s:Shared) (H:Hp):Prop where
 frames:A.frames=some outer
 mod:Mod K mg base
 bs:∀b o,base.get? b=some o->s.heap.get? b=some o/\H b=none
 bsz:base.objs.size<=s.heap.objs.size
 i5:s.heap.FunFrames base outer
 frf:∀b∈frs outer,H b=none
 hok:HOk P w H s.heap
 bare:AllBare s.gens
noncomputable def CE (outer:List Env) (P:Program) (w:World) (H:Hp) (s:Shared) (Q:VK) (u:Value) (s':Shared):Prop:=
 ∃v H',s'.os=s.os/\AllBare s'.gens/\Un (frs outer) [] H H' s.heap s'.heap/\HOk P w H' s'.heap/\RelV v u/\Q v H'
noncomputable def CR (CX:CXT) (outer:List Env) (P:Program) (w:World) (H:Hp) (s:Shared) (Q:VK) (E:XK) (r:Result) (s':Shared):Prop:=
 match r with
 | .ok (.ret u)=>CE outer P w H s Q u s'
 | .ok _=>False
 | .error e=>CX outer H s E e s'
structure cQ (P:Program) (w:World) (K:PySem.W.Frag) (mg:Str->Option Value) (base:Heap) (CX:CXT) (k:Nat) (f:Addr) (fd:FuncData) (ps:List Str) (sp:Sp):Prop where
 len:∀vs H Q E,sp vs H Q E->vs.length=ps.length
 run:∀(A:Around) (outer:List Env) (s:Shared) (H:Hp) (args:Args) (us:List Value) (vs:List V) (Q:VK) (E:XK),cB k A->vm P w K mg base A outer s H->BindsTo s fd args (ps.zip us)->Vals vs us->sp vs H Q E →
  codeAny (model P w) A (.call (.ref f) args) (CR CX outer P w H s Q E) s
theorem cQ.mono {P:Program} {w:World} {K:PySem.W.Frag} {mg:Str->Option Value} {base:Heap} {CX:CXT} {j k:Nat} {f:Addr} {fd:FuncData} {ps:List Str} {sp:Sp} (F:cQ P w K mg base CX j f fd ps sp) (h:j<=k) :
  cQ P w K mg base CX k f fd ps sp:=⟨F.len,fun A outer s H args us vs Q E hr=>F.run A outer s H args us vs Q E (hr.mono h)⟩
theorem cQ.imp {P:Program} {w:World} {K:PySem.W.Frag} {mg:Str->Option Value} {base:Heap} {CX:CXT} {k:Nat} {f:Addr} {fd:FuncData} {ps:List Str} {sp sp':Sp} (F:cQ P w K mg base CX k f fd ps sp)
  (h:∀vs H Q E,sp' vs H Q E->sp vs H Q E):cQ P w K mg base CX k f fd ps sp':=
 ⟨fun vs H Q E q=>F.len vs H Q E (h _ _ _ _ q),fun A outer s H args us vs Q E hr he hb hv hs=>F.run A outer s H args us vs Q E hr he hb hv (h _ _ _ _ hs)⟩
section
variable {X:Cx} {pins:List (Addr × Obj)} {σ:St} {H:Hp} {s s':Shared}
theorem Inv.HN (I:Inv X pins σ H s):vm X.prog X.w X.K X.mg X.base X.A X.stack s H:=
 ⟨I.ok.frames,I.ok.mod,I.bs,Nat.le_trans I.ok.bsz I.sz,I.stack,I.jM,I.hok,I.bare⟩
theorem Inv.after {Q:VK} {u:Value} (I:Inv X pins σ H s) (h:CE X.stack X.prog X.w H s Q u s'):EP X pins σ Q u s':=by
 obtain⟨v,H',os,bare,un,hok,r,q⟩:=h
 obtain⟨hh,g,d,t,os'⟩:=s'
 obtain rfl:os'=s.os:=os
 exact⟨v,H',I.call (h':=hh) (g':=g) (d':=d) (t':=t) (ch:=[]) un hok bare (fun b z=>absurd z (by simp)),r,q⟩
end
noncomputable def Fq (sp:Sp) (dvs:List V) (E:XK) (t:TA):TE:=fun σ H Q=>t σ H fun vs H1=>sp (vs++dvs) H1 Q E
noncomputable def Binds (K:PySem.W.Frag) (fd:FuncData) (ps:List Str) (ds:List Value):Prop:=
 ∀(s:Shared) (us:List Value),K.In s.heap->(us++ds).length=ps.length->BindsTo s fd ⟨us,[]⟩ (ps.zip (us++ds))
theorem Binds.all {K:PySem.W.Frag} {fd:FuncData} {ps:List Str} (h:∀us:List Value,us.length=ps.length->bindArgs fd ⟨us,[]⟩=pure (ps.zip us)):Binds K fd ps []:=fun s us _ hl=>by
 rw[List.append_nil] at hl ⊢
 exact .of_eq (h us hl)
noncomputable def Passes (CX:CXT) (X:Cx) (E:XK):Prop:=∀(pins:List (Addr × Obj)) (σ:St) (H:Hp) (s:Shared) (e:Value) (s':Shared),Inv X pins σ H s->CX X.stack H s E e s'->X.xe e s'
section
variable {X:Cx} {CX:CXT} {k:Nat} {f C:Addr} {fd:FuncData} {ps:List Str} {sp:Sp} {dvs:List V} {ds:List Value} {E:XK} {x m:Str} {p pos apos:Pos} {e o:Expr} {es:List Expr} {ta:TE} {t:TA}
theorem Hz {pins:List (Addr × Obj)} {σ:St} {H:Hp} {s:Shared} {Q:VK} {us:List Value} {vs:List V} (F:cQ X.prog X.w X.K X.mg X.base CX k f fd ps sp) (hr:cB k X.A) (hb:Binds X.K fd ps ds) (hd:Vals dvs ds) (hx:Passes CX X E)
  (I:Inv X pins σ H s) (r:Vals vs us) (h:sp (vs++dvs) H Q E):wpAny (model X.prog X.w) X.A (call (.ref f) us) (EP X pins σ Q) X.xe s:=by
 have r2:Vals (vs++dvs) (us++ds):=r.append hd
 have hl:(us++ds).length=ps.length:=by rw[<- r2.length];exact F.len _ _ _ _ h
 refine wpAny_call (codeAny_mono (F.run X.A X.stack s H ⟨us,[]⟩ (us++ds) (vs++dvs) Q E hr I.HN (hb s us I.kIn hl) r2 h) fun r s' hq=>?_)
 cases r with
 | error e=>exact hx pins σ H s e s' I hq
 | ok fl=>
  cases fl with
  | ret u=>exact I.after hq
  | next=>exact False.elim hq
  | brk=>exact False.elim hq
  | cont=>exact False.elim hq
theorem yb (F:cQ X.prog X.w X.K X.mg X.base CX k f fd ps sp) (hr:cB k X.A) (hg:Gl X x) (hm:X.mg x=some (.ref f)) (hk:PySem.W.keepIn X.K (.ref f)=true) (hb:Binds X.K fd ps ds) (hd:Vals dvs ds) (hx:Passes CX X E)
  (ha:PA X (e::es) t) (hdb:(x == ("__debug__" : Str))=false:=by decide) (he:starEach (e::es) X.env=(false,eval e X.env)::starEach es X.env:=by rfl) (hpl:(backTo pos (starEach es X.env)).any (·.1)=false:=by rfl) :
  PE X (.Call (.Name x p) (e::es) [] pos) (Fq sp dvs E t):=by
 intro pins s σ H Q I h
 refine wpAny_Call_Name_kw (iw I hg hm ?_ hdb)
 refine PySem.W.callWith_K (h₀:=X.base) I.ok.mod.kin hk (thn (ha pos pins s σ H _ I h) fun us s1 ⟨vs,H1,I1,r,q⟩=>⟨I1.kIn,?_⟩) he hpl
 exact Hz F hr hb hd hx I1 r q
end
structure aH (N P:List Str) (sc:Scope):Prop where
 kind:sc.kind=.function
 co:sc.isCoroutine=false
 gen:sc.isGenerator=false
 nd:N.Nodup
 pre:N.take P.length=P
 par:∀x∈P,sc.names.lookup x=some .local\/sc.names.lookup x=some .cell
 FX:∀y∈sc.names,y.2≠.free
theorem rW {kindOf:Str->Option NameKind} {x:Str}:∀{binds:List (Str × Value)} {m:Str->Option Value},(∀v,(x,v)∉binds)->bindL kindOf binds m x=m x
 | [],_,_=>rfl
 | (n,v)::r,m,h=>by
  unfold bindL
  rw[rW fun w hw=>h w (List.mem_cons_of_mem _ hw)]
  split
  ·have:x≠n:=by rintro rfl;exact h v List.mem_cons_self
   simp[this]
  ·rfl
theorem sd {kindOf:Str->Option NameKind} {x:Str}:∀{binds:List (Str × Value)} {m:Str->Option Value},(∀v,(x,v)∉binds)->bindC kindOf binds m x=m x
 | [],_,_=>rfl
 | (n,v)::r,m,h=>by
  unfold bindC
  rw[sd fun w hw=>h w (List.mem_cons_of_mem _ hw)]
  split
  ·rfl
  ·have:x≠n:=by rintro rfl;exact h v List.mem_cons_self
   simp[this]
theorem jN {kindOf:Str->Option NameKind} {x:Str} {v:Value}:∀{P:List Str} {vs:List Value} {i:Nat} {m:Str->Option Value},P.Nodup->P[i]?=some x->vs[i]?=some v->kindOf x=some .local →
  bindL kindOf (P.zip vs) m x=some v
 | [],_,_,_,_,h,_,_=>by simp at h
 | _::_,[],_,_,_,_,h,_=>by simp at h
 | p::P,w::vs,0,m,nd,h1,h2,hk=>by
  simp at h1 h2;subst h1;subst h2
  show bindL kindOf ((p,w)::P.zip vs) m p=_
  unfold bindL
  rw[rW fun v hv=>(List.nodup_cons.mp nd).1 (List.of_mem_zip hv).1,if_pos hk]
  simp
 | p::P,w::vs,i+1,m,nd,h1,h2,hk=>by
  show bindL kindOf ((p,w)::P.zip vs) m x=_
  unfold bindL
  exact jN (i:=i) (List.nodup_cons.mp nd).2 (by simpa using h1) (by simpa using h2) hk
theorem rK {kindOf:Str->Option NameKind} {x:Str} {v:Value}:∀{P:List Str} {vs:List Value} {i:Nat} {m:Str->Option Value},P.Nodup->P[i]?=some x->vs[i]?=some v->kindOf x≠some .local →
  bindC kindOf (P.zip vs) m x=some v
 | [],_,_,_,_,h,_,_=>by simp at h
 | _::_,[],_,_,_,_,h,_=>by simp at h
 | p::P,w::vs,0,m,nd,h1,h2,hk=>by
  simp at h1 h2;subst h1;subst h2
  show bindC kindOf ((p,w)::P.zip vs) m p=_
  unfold bindC
  rw[sd fun v hv=>(List.nodup_cons.mp nd).1 (List.of_mem_zip hv).1,if_neg hk]
  simp
 | p::P,w::vs,i+1,m,nd,h1,h2,hk=>by
  show bindC kindOf ((p,w)::P.zip vs) m x=_
  unfold bindC
  exact rK (i:=i) (List.nodup_cons.mp nd).2 (by simpa using h1) (by simpa using h2) hk
noncomputable def start (N:List Str) (vs:List V):St:=vs.map some++List.replicate (N.length - vs.length) none
noncomputable def dE (CX:CXT) (P:Program) (w:World) (K:PySem.W.Frag) (mg:Str->Option Value) (base:Heap) (N:List Str) (qual:Str) (scope:Scope) (f:Addr) (cd:Value) (A:Around) (outer:List Env) (s:Shared) (H:Hp) (E:XK):Cx where
 prog:=P
 w:=w
 K:=K
 mg:=mg
 base:=base
 A:=A.deeper (envOfC qual scope s.heap.objs.size f cd)
 N:=N
 az:=s
 aG:=H
 env:=envOfC qual scope s.heap.objs.size f cd
 outer:=outer
 stack:=envOfC qual scope s.heap.objs.size f cd::outer
 ex:=[]
 calm:=true
 fn:=fun _=>true
 pn:=[]
 xe:=fun e s'=>wpAny (model P w) (A.deeper (envOfC qual scope s.heap.objs.size f cd)) (leaving (envOfC qual scope s.heap.objs.size f cd) e) (fun _ s''=>CX outer H s E e s'') (fun e' s''=>CX outer H s E e' s'') s'
theorem wd {sc:Scope} {n:Nat} {x:Str} (h:sc.names.lookup x=some .cell):∃c,(cellsFrom n sc.names []).lookup x=some c:=by
 have q:=PySem.W.cellsFrom_some sc.names n [] (.inl h)
 exact Option.isSome_iff_exists.mp q
theorem mE {CX:CXT} {P:Program} {w:World} {K:PySem.W.Frag} {mg:Str->Option Value} {base:Heap} {N ps:List Str} {qual:Str} {scope:Scope} {f:Addr} {cd:Value} {A:Around} {outer:List Env} {s s1:Shared} {H:Hp} {E:XK} {us:List Value} {vs:List V}
  (S:aH N ps scope) (hd:A.handled=none) (e0:vm P w K mg base A outer s H) (hl:vs.length=ps.length) (r:Vals vs us)
  (x:InCallC s s.heap.objs.size (bindL (envOfC qual scope s.heap.objs.size f cd).kindOf (ps.zip us) fun _=>none) (cellsFrom (s.heap.objs.size+1) scope.names []) (bindC (envOfC qual scope s.heap.objs.size f cd).kindOf (ps.zip us) fun _=>none) s1) :
  Inv (dE CX P w K mg base N qual scope f cd A outer s H E) [] (start N vs) H s1:=by
 have hpl:ps.length<=N.length:=by have:=congrArg List.length S.pre;rw[List.length_take] at this;omega
 obtain⟨h1,tk,rfl,hk⟩:=x.done
 have noA:∀b:Addr,b∉(dE CX P w K mg base N qual scope f cd A outer s H E).ex:=fun b z=>absurd (show b∈([]:List Addr) from z) (by simp)
 refine⟨⟨e0.mod,S.kind,rfl,rfl,Nat.le_refl _,fun y z c h1 h2=>?_,fun y hy=>?_,fun y c _ h=>?_,fun _=>hd,Around.frames_deeper e0.frames,.inr ⟨rfl,rfl⟩,fun b z=>absurd z (noA b),e0.bs,e0.bsz,fun b _ _=>noA b,fun b z=>absurd z (noA b),e0.i5,e0.frf⟩,
  rfl,e0.bare,Un.kept hk,⟨_,x.toInCall.ns,fun i y v h1 h2 h3=>?_⟩,fun y c h=>⟨_,x.cell y c h⟩,e0.hok.fresh (Nat.le_refl _),fun y c h=>?_,fun p hp=>absurd (show p∈([]:List (Addr × Obj)) from hp) (by simp),e0.hok.kept hk,?_⟩
 ·exact name_of_addr x.apart (PySem.mem_of_lookup h1) (PySem.mem_of_lookup h2)
 ·have hy:scope.names.lookup y=some .cell\/scope.names.lookup y=some .free:=hy
  rcases hy with hy | hy
  ·exact wd hy
  ·exact absurd rfl (S.FX _ (PySem.mem_of_lookup hy))
 ·exact Nat.le_of_lt (x.above y c (PySem.mem_of_lookup h))
 ·have hi:i<vs.length:=by
   unfold start at h2
   by_cases hi:i<vs.length
   ·exact hi
   ·rw[List.getElem?_append_right (by simpa using hi)] at h2
    rw[List.getElem?_replicate] at h2
    split at h2<;>cases h2
  have ha:vs[i]?=some v:=by
   unfold start at h2
   rw[List.getElem?_append_left (by simpa using hi),List.getElem?_map] at h2
   cases e:vs[i]? with
   | none=>rw[e] at h2;cases h2
   | some a=>rw[e] at h2;cases h2;rfl
  obtain⟨u,hu,rv⟩:=r.get ha
  have hp:ps[i]?=some y:=by
   rw[<- S.pre,List.getElem?_take_of_lt (by omega)];exact h1
  have ndP:ps.Nodup:=by rw[<- S.pre];exact S.nd.sublist (List.take_sublist _ _)
  refine⟨u,rv,?_⟩
  rcases S.par y (List.mem_of_getElem? hp) with k | k
  ·exact .inl ⟨k,jN ndP hp hu k⟩
  ·obtain⟨c,e⟩:=wd (n:=s.heap.objs.size+1) k
   refine .inr ⟨.inl k,c,e,?_⟩
   have q:=x.cell y c e
   rw[rK ndP hp hu (by show scope.names.lookup y≠_;rw[k];decide)] at q
   exact q
 ·exact e0.hok.fresh (Nat.le_of_lt (x.above y c (PySem.mem_of_lookup h)))
 ·unfold start
  show _=N.length
  rw[List.length_append,List.length_map,List.length_replicate]
  omega
theorem Fg {CX:CXT} {P:Program} {w:World} {K:PySem.W.Frag} {mg:Str->Option Value} {base:Heap} {k:Nat} {f:Addr} {name qual:Str} {params:Arguments} {body:List Stmt} {scope:Scope} {dV kV doc pm cdv ct oc:Value} {an od:Option Addr}
  {osl:Array (Option Value)} {N ps:List Str} {sp:Sp} (lk:K.lookup f=some ⟨oc,od,.func (PySem.W.fnOf name qual params body scope dV kV doc pm an cdv ct),osl⟩) (hcd:PySem.W.codeIn K cdv qual=true) (S:aH N ps scope)
  (len:∀vs H Q E,sp vs H Q E->vs.length=ps.length)
  (hbody:∀(A:Around) (outer:List Env) (s:Shared) (H:Hp) (vs:List V) (Q:VK) (E:XK),cB k (A.deeper (envOfC qual scope s.heap.objs.size f cdv))->sp vs H Q E →
   ∃t,PSs (dE CX P w K mg base N qual scope f cdv A outer s H E) body t/\t { nx:=fun _ H'=>Q .non H',rt:=Q } (start N vs) H) :
  cQ P w K mg base CX (k+1) f (PySem.W.fnOf name qual params body scope dV kV doc pm an cdv ct) ps sp:=by
 refine⟨len,fun A outer s H args us vs Q E hr e0 hb r hsp=>?_⟩
 have hl:=len _ _ _ _ hsp
 have KX:K.In s.heap:=e0.mod.kin.keeps fun b o e=>(e0.bs b o e).1
 have lim:s.heap.NoLimit:=e0.mod.nolimit.keeps fun b o e=>(e0.bs b o e).1
 have hkind:∀y∈ps.zip us,scope.names.lookup y.1=some .local\/(scope.names.lookup y.1=some .cell/\((cellsFrom (s.heap.objs.size+1) scope.names []).lookup y.1).isSome=true):=fun⟨n,v⟩ hy=>by
  rcases S.par n (List.of_mem_zip hy).1 with q | q
  ·exact .inl q
  ·exact .inr ⟨q,PySem.W.cellsFrom_some _ _ _ (.inl q)⟩
 refine codeAny_call_function hr.depth (KX _ _ lk) rfl S.co S.gen rfl (PySem.W.codeRec_of KX hcd) (hb _ _ _ _ ?_)
 refine wpAny_newFunctionEnv_cells S.kind hkind fun env he s1 x=>?_
 subst he
 refine⟨lim.keeps x.toInCall.keep,codeAny_func ?_⟩
 obtain⟨t,ht,hq⟩:=hbody A outer s H vs Q E (hr.deeper _) hsp
 have I:Inv (dE CX P w K mg base N qual scope f cdv A outer s H E) [] (start N vs) H s1:=mE S hr.hd e0 hl r x
 refine wpAny_mono (ht [] s1 (start N vs) H _ I hq) (fun fl s' hs=>?_) fun e s' hs=>hs
 have fin:∀{σ':St} {H':Hp} {v:V} {u:Value},Inv (dE CX P w K mg base N qual scope f cdv A outer s H E) [] σ' H' s'->RelV v u->Q v H'->CE outer P w H s Q u s':=
  fun{σ' H' v u} J rv q=>⟨v,H',J.os,J.bare,J.base,J.hok,rv,q⟩
 cases fl with
 | ret u=>
  obtain⟨v,σ',H',J,rv,q⟩:=hs
  exact fin J rv q
 | next=>
  obtain⟨σ',H',J,q⟩:=hs
  exact fin (v:=V.non) (u:=Value.none) J rfl q
 | brk=>
  obtain⟨_,_,_,q⟩:=hs
  exact False.elim q
 | cont=>
  obtain⟨_,_,_,q⟩:=hs
  exact False.elim q
section
variable {X:Cx} {x:Str} {p pos:Pos} {e:Expr} {es:List Expr} {t:TA} {id T:String} {r:List V->Hp->VK->Prop}
noncomputable def tCB (r:List V->Hp->VK->Prop) (t:TA):TE:=fun σ H Q=>t σ H fun vs H1=>r vs H1 Q
theorem lC (hc:cP X (.builtin id) r) (hg:Gl X x) (hm:X.mg x=none) (hv:bootBuiltins x=some (.builtin id)) (ha:PA X (e::es) t) (hn:x≠"__name__" := by decide) (hdb:(x == ("__debug__" : Str))=false:=by decide)
  (he:starEach (e::es) X.env=(false,eval e X.env)::starEach es X.env:=by rfl) (hpl:(backTo pos (starEach es X.env)).any (·.1)=false:=by rfl):PE X (.Call (.Name x p) (e::es) [] pos) (tCB r t):=by
 intro pins s σ H Q I h
 refine wpAny_Call_Name_kw (mD I hg hm hv ?_ hn hdb)
 exact PyProof.Rows.callWith_builtin1 (thn (ha pos pins s σ H _ I h) fun us s1 ⟨vs,H1,I1,r1,q1⟩=>hc pins s1 σ H1 vs us Q I1 r1 q1) he hpl
theorem Ax (hc:cP X (.type T) r) (hg:Gl X x) (hm:X.mg x=none) (hv:bootBuiltins x=some (.type T)) (ha:PA X (e::es) t) (hn:x≠"__name__" := by decide) (hdb:(x == ("__debug__" : Str))=false:=by decide)
  (he:starEach (e::es) X.env=(false,eval e X.env)::starEach es X.env:=by rfl) (hpl:(backTo pos (starEach es X.env)).any (·.1)=false:=by rfl):PE X (.Call (.Name x p) (e::es) [] pos) (tCB r t):=by
 intro pins s σ H Q I h
 refine wpAny_Call_Name_kw (mD I hg hm hv ?_ hn hdb)
 exact PyProof.Rows.callWith_type1 (thn (ha pos pins s σ H _ I h) fun us s1 ⟨vs,H1,I1,r1,q1⟩=>hc pins s1 σ H1 vs us Q I1 r1 q1) he hpl
end
end L2
namespace HT
open PySem PyProof.Rows
section
variable {prog:Program} {w:World} {A:Around} {E:Value->Shared->Prop} {s:Shared}
theorem DS {t b:Addr} {vs ws:List Value} {Q:Value->Shared->Prop} (ht:IsTup s.heap t vs.toArray) (hb:IsTup s.heap b ws.toArray) (hv:vs≠[])
  (h1:ws=[]->Q (.ref t) s) (h2:ws≠[]->Q (.ref s.heap.objs.size) { s with heap:=s.heap.push { cls:=.type "tuple", data:=.seq (vs++ws).toArray } })
  (hsz:vs.length+ws.length<=sizeLine):wpAny (model prog w) A (binaryOp .Add (.ref t) (.ref b)) Q E s:=by
 obtain⟨⟨cls,dd,data,sl⟩,ho,hc,n,hd⟩:=id ht
 obtain⟨⟨cls2,dd2,data2,sl2⟩,ho2,hc2,n2,hd2⟩:=id hb
 simp only at hc hd hc2 hd2
 subst hc hd hc2 hd2
 have e:vs.toArray++ws.toArray=(vs++ws).toArray:=by simp
 by_cases hw:ws=[]
 ·exact concat_meets ⟨_,ho,rfl⟩ ⟨_,ho2,rfl⟩ noFill_tuple_add seq_tuple_add PySem.F.slot_tuple_add PySem.F.entry_tuple_add (PySem.F.args_tuple_add_2 _ _)
   (tuple_addW1 t b vs.toArray ws.toArray n n2 dd dd2 sl sl2 (by simpa using hv) (by simp[hw])) ⟨ho,ho2,h1 hw⟩
 ·refine concat_meets ⟨_,ho,rfl⟩ ⟨_,ho2,rfl⟩ noFill_tuple_add seq_tuple_add PySem.F.slot_tuple_add PySem.F.entry_tuple_add (PySem.F.args_tuple_add_2 _ _)
   (tuple_addW2 t b vs.toArray ws.toArray n n2 dd dd2 sl sl2 (by simpa using hv) (by simpa using hw) (by rw[List.size_toArray,List.size_toArray];exact hsz)) ⟨ho,ho2,?_⟩
  rw[e]
  exact h2 hw
noncomputable def sIx (n d:Nat):Option Int->Nat
 | none=>d
 | some v=>if v<0 then (v+(n:Int)).toNat else min v.toNat n
theorem Gg (n d:Nat) (hd:d<=n) (o:Option Int):sIx n d o<=n:=by
 cases o with
 | none=>exact hd
 | some v=>
  show(if v<0 then (v+(n:Int)).toNat else min v.toNat n)<=n
  by_cases hv:v<0
  ·rw[if_pos hv];omega
  ·rw[if_neg hv];exact Nat.min_le_right _ _
theorem yW (v:Int) (n d:Nat):(if v<0 then max (v+(n:Int)) 0 else min v (n:Int))=((sIx n d (some v):Nat):Int):=by
 show(if v<0 then max (v+(n:Int)) 0 else min v (n:Int))=(((if v<0 then (v+(n:Int)).toNat else min v.toNat n):Nat):Int)
 by_cases hv:v<0
 ·simp only[if_pos hv];omega
 ·simp only[if_neg hv];omega
theorem xF (lo hi:Option Int) (n:Nat):Builtin.Slice.sliceAdjust lo hi 1 (n:Int)=(((sIx n 0 lo:Nat):Int),((sIx n n hi:Nat):Int)):=by
 have h1:¬ ((1:Int)<0):=by omega
 unfold Builtin.Slice.sliceAdjust
 simp only[h1,if_false]
 refine Prod.ext ?_ ?_
 ·cases lo with
  | none=>rfl
  | some v=>exact yW v n 0
 ·cases hi with
  | none=>rfl
  | some v=>exact yW v n n
theorem xv (i j:Nat):Builtin.Slice.slicePlaces (i:Int) (j:Int) 1=j - i:=by
 unfold Builtin.Slice.slicePlaces
 have h1:(1:Int) > 0:=by omega
 simp only[h1,if_true,Int.ediv_one]
 split<;>omega
theorem pk {v:Value} {o:Option Int} {Q:Option Int->Shared->Prop} (p:IsPart v o) (h:Q o s):wpAny (model prog w) A (Builtin.Slice.slicePartIndex v) Q E s:=by
 cases p with
 | none=>exact slicePart_none h
 | int i t=>exact slicePart_int h
theorem hG {sl:Addr} {vl vu:Value} {lo hi:Option Int} {n:Nat} {Q:Int × Int × Nat->Shared->Prop} (hs:s.heap.IsSliceOf sl vl vu .none) (pl:IsPart vl lo) (pu:IsPart vu hi)
  (h:Q (((sIx n 0 lo:Nat):Int),1,sIx n n hi - sIx n 0 lo) s):wpAny (model prog w) A (Builtin.Slice.sliceApplied (.ref sl) (pure (n:Int))) Q E s:=by
 obtain⟨os,hos,hcs,hds⟩:=id hs
 unfold Builtin.Slice.sliceApplied Builtin.Slice.sliceFields
 refine wpAny_bind (wpAny_bind (wpAny_field hos hds (x:=vl) rfl (wpAny_bind (wpAny_field hos hds (x:=vu) rfl (wpAny_bind (wpAny_field hos hds (x:=.none) rfl (wpAny_pure ?_)))))))
 refine wpAny_bind (slicePart_none ?_)
 show wpAny _ _ (if ((1:Int) == 0)=true then _ else _) _ _ s
 rw[if_neg (by decide)]
 refine wpAny_bind (pk pl (wpAny_bind (pk pu (wpAny_bind (wpAny_pure ?_)))))
 show wpAny _ _ (match Builtin.Slice.sliceAdjust lo hi 1 (n:Int) with | (lo,hi)=>pure (lo,(1:Int),Builtin.Slice.slicePlaces lo hi 1)) _ _ s
 rw[xF lo hi n]
 show wpAny _ _ (pure (((sIx n 0 lo:Nat):Int),(1:Int),Builtin.Slice.slicePlaces ((sIx n 0 lo:Nat):Int) ((sIx n n hi:Nat):Int) 1)) _ _ s
 rw[xv]
 exact wpAny_pure h
theorem Bc (xs:Array Value) (i k:Nat):((List.range k).filterMap fun(m:Nat)=>xs[((i:Int)+(m:Int)*1).toNat]?).toArray=((xs.toList.drop i).take k).toArray:=by
 have e:(fun(m:Nat)=>xs[((i:Int)+(m:Int)*1).toNat]?)=fun m=>xs[i+m]?:=by
  funext m
  have:((i:Int)+(m:Int)*1).toNat=i+m:=by omega
  rw[this]
 rw[e]
 have:=pick_run xs i k
 rw[List.filterMap_map] at this
 have e2:((fun x=>xs[x]?) ∘ fun x=>i+x)=fun m=>xs[i+m]?:=rfl
 rw[e2] at this
 rw[this]
theorem lJ {t sl:Addr} {items:Array Value} {vl vu:Value} {lo hi:Option Int} {Q:Value->Shared->Prop} (ht:IsTup s.heap t items) (hs:s.heap.IsSliceOf sl vl vu .none) (pl:IsPart vl lo) (pu:IsPart vu hi)
  (hw:¬ (sIx items.size 0 lo=0/\sIx items.size items.size hi=items.size))
  (h:Q (.ref s.heap.objs.size) { s with heap:=s.heap.push { cls:=.type "tuple", data:=.seq ((items.toList.drop (sIx items.size 0 lo)).take (sIx items.size items.size hi - sIx items.size 0 lo)).toArray } })
  (hsz:items.size<=sizeLine):wpAny (model prog w) A (getItem (.ref t) (.ref sl)) Q E s:=by
 have htake:sizeOk (.seq ((items.toList.drop (sIx items.size 0 lo)).take (sIx items.size items.size hi - sIx items.size 0 lo)).toArray):=by
  show((items.toList.drop (sIx items.size 0 lo)).take (sIx items.size items.size hi - sIx items.size 0 lo)).toArray.size<=sizeLine
  rw[List.size_toArray,List.length_take,List.length_drop,Array.length_toList]
  omega
 have hj:sIx items.size items.size hi<=items.size:=Gg _ _ (Nat.le_refl _) hi
 obtain⟨os,hos,hcs,hds⟩:=id hs
 have hTs:s.TypeIs (.ref sl) "slice" := ⟨os,hos,hcs⟩
 unfold getItem
 try with_reducible refine wpAny_holding ?_
 first | refine wpAny_bind (wpAny_pure ?_) | skip
 refine wpAny_bind (wpAny_sequenceKey ht.typeIs (by decide) ?_)
 refine wpAny_bind (wpAny_callSpecial?_slot (name:=Str.ofString "__getitem__") ht.typeIs PyProof.Rows.slot_tuple_getitem
  (wpAny_call_entry PyProof.Rows.slot_tuple_getitem ht.typeIs entry_tuple_getitem ?_ (args_tuple_getitem _ _)))
 show wpAny _ _ (Builtin.Tuple.tupleItemsOf (.ref t) >>= _) _ _ s
 refine wpAny_bind (tupleItemsOf_ ht ?_)
 refine wpAny_bind (wpAny_typeOf hTs ?_)
 rw[if_pos (by decide)]
 refine wpAny_bind (hG hs pl pu ?_)
 have hno:¬ ((((sIx items.size 0 lo:Nat):Int) == 0&&(1:Int) == 1&&(sIx items.size items.size hi - sIx items.size 0 lo) == items.size)=true):=by
  intro q
  rw[Bool.and_eq_true,Bool.and_eq_true] at q
  have q1:((sIx items.size 0 lo:Nat):Int)=0:=eq_of_beq q.1.1
  have q2:sIx items.size items.size hi - sIx items.size 0 lo=items.size:=eq_of_beq q.2
  exact hw ⟨by omega,by omega⟩
 show wpAny _ _ (if (((sIx items.size 0 lo:Nat):Int) == 0&&(1:Int) == 1&&(sIx items.size items.size hi - sIx items.size 0 lo) == items.size)=true then _ else _) _ _ s
 rw[if_neg hno,Bc]
 first
  | exact wpAny_bind (m:=Builtin.Tuple.tupleExact _) (wpAny_newObj_type (wpAny_pure ⟨_,rfl,wpAny_pure h⟩) htake)
  | exact wpAny_bind (m:=Builtin.Tuple.tupleExact _) (wpAny_newObj_type (wpAny_bind (wpAny_pure (wpAny_pure ⟨_,rfl,wpAny_pure h⟩))) htake)
  | exact wpAny_bind (wpAny_bind (m:=Builtin.Tuple.tupleExact _) (wpAny_newObj_type (wpAny_pure (wpAny_pure ⟨_,rfl,wpAny_pure h⟩)) htake))
  | exact wpAny_bind (wpAny_bind (m:=Builtin.Tuple.tupleExact _) (wpAny_newObj_type (wpAny_pure ⟨_,rfl,wpAny_pure h⟩) htake))
end
end HT
namespace L2
open PySem PySem.Spec PyProof.Rows
noncomputable abbrev TO:=St->Hp->(Option Int->Hp->Prop)->Prop
noncomputable def PO (X:Cx) (e:Option Expr) (t:TO):Prop:=
 ∀(pins:List (Addr × Obj)) (s:Shared) (σ:St) (H:Hp) (Q:Option Int->Hp->Prop),Inv X pins σ H s->t σ H Q →
  wpAny (model X.prog X.w) X.A (evalPart e X.env) (fun u s'=>∃o H',Inv X pins σ H' s'/\IsPart u o/\Q o H') X.xe s
noncomputable def EB:TO:=fun _ H Q=>Q none H
noncomputable def Ir (t:TE):TO:=fun σ H Q=>t σ H fun x H1=>∃i,x=.int i/\Q (some i) H1
section
variable {X:Cx} {e:Expr} {te:TE} {lo hi:Option Expr} {tl th:TO} {pos p2:Pos}
theorem Eh:PO X none EB:=by
 intro pins s σ H Q I h
 rw[evalPart_none]
 exact wpAny_pure ⟨none,H,I,.none,h⟩
theorem Eg (h:PE X e te):PO X (some e) (Ir te):=by
 intro pins s σ H Q I hw
 rw[evalPart_some]
 refine thn (h pins s σ H _ I hw) fun u s1 ⟨x,H1,I1,r1,q1⟩=>?_
 obtain⟨i,rfl,q⟩:=q1
 obtain⟨t,rfl⟩:=r1
 exact⟨some i,H1,I1,.int i t,q⟩
noncomputable def SlR (X:Cx) (r:V->Option Int->Option Int->Hp->VK->Prop):Prop:=
 ∀(pins:List (Addr × Obj)) (s:Shared) (σ:St) (H:Hp) (x:V) (v vl vu:Value) (lo hi:Option Int) (sl:Addr) (Q:VK),Inv X pins σ H s->RelV x v->s.heap.IsSliceOf sl vl vu .none->IsPart vl lo->IsPart vu hi->r x lo hi H Q →
  ∃T id,typeLookup (.type T) "__getitem__" = pure (some (.builtin id))/\s.TypeIs v T/\wpAny (model X.prog X.w) X.A (getItem v (.ref sl)) (EP X pins σ Q) X.xe s
theorem SlR.or {r r':V->Option Int->Option Int->Hp->VK->Prop} (h:SlR X r) (h':SlR X r'):SlR X (fun x lo hi H Q=>r x lo hi H Q\/r' x lo hi H Q):=by
 intro pins s σ H x v vl vu lo hi sl Q I rx hs pl pu q
 rcases q with q | q
 ·exact h pins s σ H x v vl vu lo hi sl Q I rx hs pl pu q
 ·exact h' pins s σ H x v vl vu lo hi sl Q I rx hs pl pu q
noncomputable def tSl (r:V->Option Int->Option Int->Hp->VK->Prop) (te:TE) (tl th:TO):TE:=fun σ H Q=>te σ H fun x H1=>tl σ H1 fun l H2=>th σ H2 fun u H3=>r x l u H3 Q
theorem Bo {r:V->Option Int->Option Int->Hp->VK->Prop} (hr:SlR X r) (he:PE X e te) (hl:PO X lo tl) (hu:PO X hi th):PE X (.Subscript e (.Slice lo hi none p2) pos) (tSl r te tl th):=by
 intro pins s σ H Q I h
 refine Subscript_ (thn (he pins s σ H _ I h) fun v s1 ⟨x,H1,I1,r1,q1⟩=>?_)
 refine wpAny_Slice (thn (hl pins s1 σ H1 _ I1 q1) fun vl s2 ⟨l,H2,I2,pl,q2⟩=>thn (hu pins s2 σ H2 _ I2 q2) fun vu s3 ⟨u,H3,I3,pu,q3⟩=>?_)
 rw[evalPart_none]
 refine wpAny_pure ?_
 have I4:Inv X pins σ H3 { s3 with heap:=s3.heap.push { cls:=.type "slice", data:=.fields #[vl,vu,.none] } }:=I3.kept (t':=s3.toks) fun b ob q=>Heap.get?_push_of_some _ q
 obtain⟨T,id,hT,ht,hg⟩:=hr pins { s3 with heap:=s3.heap.push { cls:=.type "slice", data:=.fields #[vl,vu,.none] } } σ H3 x v vl vu l u s3.heap.objs.size Q I4 r1 (Heap.IsSliceOf.new ..) pl pu q3
 show wpAny (model X.prog X.w) X.A (subscriptTail e (.Slice lo hi none p2) v (.ref s3.heap.objs.size)) (EP X pins σ Q) X.xe { s3 with heap:=s3.heap.push { cls:=.type "slice", data:=.fields #[vl,vu,.none] } }
 exact tail_any (ops:=[.ref s3.heap.objs.size,v]) ht hT hg (by with_unfolding_all rfl)
noncomputable def rz (xs:List V) (lo hi:Option Int):List V:=(xs.drop (HT.sIx xs.length 0 lo)).take (HT.sIx xs.length xs.length hi - HT.sIx xs.length 0 lo)
theorem mV (xs:List V) (lo hi:Option Int):(rz xs lo hi).length<=xs.length:=by
 unfold rz
 rw[List.length_take,List.length_drop]
 omega
noncomputable def Lc (K:PySem.W.Frag):V->Option Int->Option Int->Hp->VK->Prop:=fun x lo hi H Q=>∃a xs,x=.ref a/\SqT K H a xs ∧
 ¬ (HT.sIx xs.length 0 lo=0/\HT.sIx xs.length xs.length hi=xs.length)/\∀p,H p=none->Q (.ref p) (upd H p (.tup (rz xs lo hi)))
theorem HG:SlR X (Lc X.K):=by
 intro pins s σ H x v vl vu lo hi sl Q I rx hs pl pu h
 obtain⟨a,xs,rfl,hx,hw,q⟩:=h
 cases rx
 obtain⟨its,r,ht,hz⟩:=I.tuple hx
 have hlen:its.toArray.size=xs.length:=by rw[List.size_toArray];exact r.length.symm
 refine⟨"tuple", _,PyProof.Rows.slot_tuple_getitem.lookup,ht.typeIs,?_⟩
 refine HT.lJ ht hs pl pu (by rw[hlen];exact hw) ?_ (by rw[hlen];exact hz)
 rw[hlen]
 refine⟨.ref s.heap.objs.size,_,I.laid (t':=s.toks) (o:=.tup (rz xs lo hi)) (fun b ob q=>Heap.get?_push_of_some _ q) (Nat.le_refl _) ?_,rfl,q _ (I.hok.fresh (Nat.le_refl _))⟩
 exact⟨Nat.le_trans (mV xs lo hi) hz,_,(r.drop (HT.sIx xs.length 0 lo)).take (HT.sIx xs.length xs.length hi - HT.sIx xs.length 0 lo),qq.new _ _⟩
noncomputable def Fw (K:PySem.W.Frag):R2:=fun x y H Q=>∃a b xs ys,x=.ref a/\y=.ref b/\SqT K H a xs/\SqT K H b ys/\xs≠[]/\xs.length+ys.length<=sizeLine ∧
 (ys=[]->Q (.ref a) H)/\(ys≠[]->∀p,H p=none->Q (.ref p) (upd H p (.tup (xs++ys))))
theorem Vals.tw {xs:List V} {us:List Value} (r:Vals xs us):us=[]↔xs=[]:=by
 cases r with
 | nil=>simp
 | cons _ _=>simp
theorem E6:OpR X (binaryOp .Add) (Fw X.K):=by
 intro pins s σ H x y v u Q I rx ry h
 obtain⟨a,b,xs,ys,rfl,rfl,ha,hb,hx,hz,q1,q2⟩:=h
 cases rx
 cases ry
 obtain⟨its,r1,p1,_⟩:=I.tuple ha
 obtain⟨its2,r2,p2,_⟩:=I.tuple hb
 refine HT.DS p1 p2 (fun z=>hx (r1.tw.mp z)) (fun z=>⟨.ref a,H,I,rfl,q1 (r2.tw.mp z)⟩) (fun z=>?_) (by rw[<- r1.length,<- r2.length];exact hz)
 refine⟨.ref s.heap.objs.size,_,I.laid (t':=s.toks) (o:=.tup (xs++ys)) (fun b ob q=>Heap.get?_push_of_some _ q) (Nat.le_refl _) ?_,rfl,q2 (fun w=>z (r2.tw.mpr w)) _ (I.hok.fresh (Nat.le_refl _))⟩
 exact⟨by rw[List.length_append];exact hz,_,r1.append r2,qq.new _ _⟩
end
noncomputable def ixN (n:Nat) (i:Int):Option Nat:=if 0<=i then (if i<n then some i.toNat else none) else if -(n:Int)<=i then some (i+n).toNat else none
noncomputable def atI {α:Type} (xs:List α) (i:Int):Option α:=(ixN xs.length i).bind fun j=>xs[j]?
theorem yG {n:Nat} {i:Int} {j:Nat} (h:ixN n i=some j):seqIndex? i n=some j/\j<n/\-(n:Int)<=i/\i<n:=by
 unfold ixN at h
 by_cases h0:0<=i
 ·rw[if_pos h0] at h
  by_cases h1:i<n
  ·rw[if_pos h1] at h
   have e:i.toNat=j:=Option.some.inj h
   exact⟨by rw[seqIndex_of h0 h1,e],by omega,by omega,h1⟩
  ·rw[if_neg h1] at h;cases h
 ·rw[if_neg h0] at h
  by_cases h1:-(n:Int)<=i
  ·rw[if_pos h1] at h
   have e:(i+n).toNat=j:=Option.some.inj h
   exact⟨by rw[seqIndex_neg (by omega) h1,e],by omega,h1,by omega⟩
  ·rw[if_neg h1] at h;cases h
theorem n8 {α:Type} {xs:List α} {i:Int} {v:α} (h:atI xs i=some v):∃j,seqIndex? i xs.length=some j/\xs[j]?=some v/\j<xs.length/\-(xs.length:Int)<=i/\i<xs.length:=by
 unfold atI at h
 cases e:ixN xs.length i with
 | none=>rw[e] at h;cases h
 | some j=>
  rw[e] at h
  obtain⟨h1,h2,h3,h4⟩:=yG e
  exact⟨j,h1,h,h2,h3,h4⟩
theorem DL {α:Type} {xs:List α} {j:Nat} {v:α} (h:xs[j]?=some v):atI xs (j:Int)=some v:=by
 have hj:j<xs.length:=(List.getElem?_eq_some_iff.mp h).1
 have e:ixN xs.length (j:Int)=some j:=by
  unfold ixN
  rw[if_pos (by omega),if_pos (by omega)];simp
 unfold atI;rw[e];exact h
noncomputable def yC (b:Expr):Prop:=∀o i,subscripted b false o i=operate [o,i] (getItem o i)
noncomputable def IxR (X:Cx) (r:R2):Prop:=
 ∀(value slice:Expr) (pins:List (Addr × Obj)) (s:Shared) (σ:St) (H:Hp) (x y:V) (v u:Value) (Q:VK),Inv X pins σ H s->RelV x v->RelV y u->r x y H Q →
  subscripted slice false v u=operate [v,u] (getItem v u)->wpAny (model X.prog X.w) X.A (subscriptTail value slice v u) (EP X pins σ Q) X.xe s
noncomputable def MtR (X:Cx) (id:String) (r:V->List V->Hp->VK->Prop):Prop:=
 ∀(pins:List (Addr × Obj)) (s:Shared) (σ:St) (H:Hp) (x:V) (xs:List V) (v:Value) (us:List Value) (Q:VK),Inv X pins σ H s->RelV x v->Vals xs us->r x xs H Q →
  wpAny (model X.prog X.w) X.A (call (.builtin id) (v::us)) (EP X pins σ Q) X.xe s
section
variable {X:Cx} {a b:Expr} {ta tb:TE} {pos:Pos}
theorem IxR.or {r r':R2} (h:IxR X r) (h':IxR X r'):IxR X (fun x y H Q=>r x y H Q\/r' x y H Q):=by
 intro value slice pins s σ H x y v u Q I rx ry q hs
 rcases q with q | q
 ·exact h value slice pins s σ H x y v u Q I rx ry q hs
 ·exact h' value slice pins s σ H x y v u Q I rx ry q hs
theorem JN {r:R2} (hr:IxR X r) (ha:PE X a ta) (hb:PE X b tb) (hs:yC b):PE X (.Subscript a b pos) (tOp r ta tb):=by
 intro pins s σ H Q I h
 exact Subscript_ (Gh ha hb I h fun v u s2 x y H2 I2 rx ry q=>hr a b pins s2 σ H2 x y v u Q I2 rx ry q (hs _ _))
noncomputable def Hg (K:PySem.W.Frag):R2:=fun x y H Q=>∃p xs i v,x=.ref p/\y=.int i/\SqL K H p xs/\atI xs i=some v/\Q v H
noncomputable def JA (K:PySem.W.Frag):R2:=fun x y H Q=>∃p xs i v,x=.ref p/\y=.int i/\SqT K H p xs/\atI xs i=some v/\Q v H
noncomputable def Iq:R2:=fun x y H Q=>∃z i c,x=.str z/\y=.int i/\z.length<=sizeLine/\atI z.cps.toList i=some c/\Q (.str ⟨#[c]⟩) H
theorem ED:IxR X (Hg X.K):=by
 intro value slice pins s σ H x y v u Q I rx ry h hs
 obtain⟨p,xs,i,z,rfl,rfl,hq,he,q⟩:=h
 cases rx
 obtain⟨t,rfl⟩:=ry
 obtain⟨its,r,pl,hz⟩:=I.list hq
 obtain⟨j,h1,h2,h3,h4,h5⟩:=n8 he
 obtain⟨w,ew,rw'⟩:=r.get h2
 have hl:=r.length
 have hn:=jb
 have fin:EP X pins σ Q w s:=⟨z,H,I,rw',q⟩
 by_cases h0:0<=i
 ·have hj:i.toNat=j:=by
   rw[seqIndex_of h0 h5] at h1
   exact Option.some.inj h1
  exact item_listR pl.isList h0 (by omega) (by rw[hj];simpa using ew) fin hs
 ·have hj:(i+(its.toArray.size:Int)).toNat=j:=by
   rw[seqIndex_neg (by omega) h4] at h1
   rw[List.size_toArray,<- hl]
   exact Option.some.inj h1
  exact subscriptTail_builtinR (x:=w) pl.isList.typeIs slot_list_getitem.lookup
   (wpAny_getItem_list_neg (Q:=fun r s'=>r=w/\EP X pins σ Q r s') pl.isList (by omega) (by rw[List.size_toArray]<;>omega) (by omega) (by rw[hj];simpa using ew) ⟨rfl,fin⟩) hs
theorem Ga:IxR X (JA X.K):=by
 intro value slice pins s σ H x y v u Q I rx ry h hs
 obtain⟨p,xs,i,z,rfl,rfl,hq,he,q⟩:=h
 cases rx
 obtain⟨t,rfl⟩:=ry
 obtain⟨its,r,pl,hz⟩:=I.tuple hq
 obtain⟨j,h1,h2,h3,h4,h5⟩:=n8 he
 obtain⟨w,ew,rw'⟩:=r.get h2
 have hl:=r.length
 have hn:=jb
 have fin:EP X pins σ Q w s:=⟨z,H,I,rw',q⟩
 exact subscriptTail_builtinR (x:=w) pl.typeIs slot_tuple_getitem.lookup
  (getItem_tuple (j:=j) (Q:=fun r s'=>r=w/\EP X pins σ Q r s') pl (by omega) (by omega) (by rw[List.size_toArray,<- hl];exact h1) (by simpa using ew) ⟨rfl,fin⟩) hs
theorem Hc:IxR X Iq:=by
 intro value slice pins s σ H x y v u Q I rx ry h hs
 obtain⟨z,i,c,rfl,rfl,hz,he,q⟩:=h
 obtain⟨t,rfl⟩:=rx
 obtain⟨t',rfl⟩:=ry
 obtain⟨j,h1,h2,h3,h4,h5⟩:=n8 he
 have hl:z.cps.toList.length=z.length:=by simp[Str.length]
 rw[hl] at h1 h4 h5
 have hn:=jb
 exact tail_any (typeIs_str s z t) slot_str_getitem.lookup (getItem_str (c:=c) (by
  have e1:decide (i < -(2 ^ 63:Int))=false:=decide_eq_false (by omega)
  have e2:decide (i ≥ 2 ^ 63)=false:=decide_eq_false (by omega)
  rw[e1,e2,Bool.or_false]) (by rw[h1];simpa using h2) ⟨.str ⟨#[c]⟩,H,I.tok _,⟨_,rfl⟩,q⟩) hs
noncomputable def rIx (K:PySem.W.Frag):R2:=fun x y H Q=>Hg K x y H Q\/JA K x y H Q\/Iq x y H Q
theorem bW:IxR X (rIx X.K):=ED.or (Ga.or Hc)
theorem wZ (its:List Value) (n j:Nat) (u:Value):Obj.mapSeq (·.setIfInBounds j u) { cls:=.type "list", data:=.seq its.toArray n }={ cls:=.type "list", data:=.seq (its.set j u).toArray n }:=by
 simp[Obj.mapSeq]
theorem Inv.lst {pins:List (Addr × Obj)} {σ:St} {H:Hp} {s:Shared} {p:Addr} {xs:List V} (I:Inv X pins σ H s) (h:H p=some (.lst xs)) :
  ∃(its:List Value) (n:Nat),Vals xs its/\s.heap.get? p=some { cls:=.type "list", data:=.seq its.toArray n }/\xs.length<=sizeLine:=by
 obtain⟨z,its,n,r,e⟩:=I.hok p _ h
 exact⟨its,n,r,e,z⟩
theorem Inv.F3 {pins:List (Addr × Obj)} {σ:St} {H:Hp} {s:Shared} {p:Addr} {xs ys:List V} {its its':List Value} {n n':Nat} {f:Obj->Obj} (I:Inv X pins σ H s) (h:H p=some (.lst xs))
  (ho:s.heap.get? p=some { cls:=.type "list", data:=.seq its.toArray n }) (hf:f { cls:=.type "list", data:=.seq its.toArray n }={ cls:=.type "list", data:=.seq its'.toArray n' }) (r:Vals ys its') (hz:ys.length<=sizeLine) (t:Nat) :
  Inv X pins σ (upd H p (.lst ys)) { s with heap:=s.heap.update p f,toks:=t }:=by
 have e:(s.heap.update p f).get? p=some { cls:=.type "list", data:=.seq its'.toArray n' }:=by
  rw[Heap.get?_update_self f ho (by rw[hf]<;>rfl),hf]
 refine I.write (x:=p) (e:=p) (by rw[h];trivial) (.inl rfl) (fun b u hb q=>(Heap.get?_update_other _ _ (Ne.symm hb)).trans q) ⟨_,e⟩ ?_
 exact⟨hz,its',n',r,e⟩
noncomputable def FI:V->V->V->Hp->(Hp->Prop)->Prop:=fun o i v H Q=>∃p xs k j,o=.ref p/\i=.int k/\H p=some (.lst xs)/\ixN xs.length k=some j/\Q (upd H p (.lst (xs.set j v)))
theorem set_list:Ep X FI:=by
 intro pins s σ H o i v ov iv u Q I ro ri rv h
 obtain⟨p,xs,k,j,rfl,rfl,hp,hj,q⟩:=h
 cases ro
 obtain⟨t,rfl⟩:=ri
 obtain⟨its,n,r,ho,hz⟩:=I.lst hp
 obtain⟨h1,h2,h3,h4⟩:=yG hj
 have hl:=r.length
 have hn:=jb
 have I':Inv X pins σ (upd H p (.lst (xs.set j v))) { s with heap:=s.heap.update p (Obj.mapSeq (·.setIfInBounds j u)) }:=
  I.F3 hp ho (wZ its n j u) (r.set rv j) (by rw[List.length_set];exact hz) s.toks
 by_cases h0:0<=k
 ·have hk:k.toNat=j:=by
   rw[seqIndex_of h0 h4] at h1
   exact Option.some.inj h1
  exact PySem.W.ki_setAt ho h0 (by omega) (by rw[List.size_toArray,<- hl];exact h4) (by rw[hk];exact⟨_,I',q⟩)
 ·have hk:(k+(its.toArray.size:Int)).toNat=j:=by
   rw[seqIndex_neg (by omega) h3] at h1
   rw[List.size_toArray,<- hl]
   exact Option.some.inj h1
  exact PySem.W.ki_setBack ho (by omega) (by rw[List.size_toArray,<- hl];exact h3) (by omega) (by rw[hk];exact⟨_,I',q⟩)
theorem tX (lo hi:Option Int) (n:Nat):(sliceBounds lo hi none n).1=((HT.sIx n 0 lo:Nat):Int)/\(sliceBounds lo hi none n).2.1=((HT.sIx n n hi:Nat):Int)/\(sliceBounds lo hi none n).2.2=1:=by
 refine⟨?_,?_,rfl⟩
 ·cases lo with
  | none=>simp[sliceBounds,HT.sIx]
  | some i=>
   simp only[sliceBounds,HT.sIx,Option.getD_none,show(1:Int) > 0 by decide,if_true]
   by_cases h:i<0
   ·simp only[h,if_true]<;>omega
   ·simp only[h,if_false]<;>omega
 ·cases hi with
  | none=>simp[sliceBounds,HT.sIx]
  | some i=>
   simp only[sliceBounds,HT.sIx,Option.getD_none,show(1:Int) > 0 by decide,if_true]
   by_cases h:i<0
   ·simp only[h,if_true]<;>omega
   ·simp only[h,if_false]<;>omega
theorem rf (its:List Value) (lo hi:Option Int):slicePick its.toArray lo hi none=((its.drop (HT.sIx its.length 0 lo)).take (HT.sIx its.length its.length hi - HT.sIx its.length 0 lo)).toArray:=by
 obtain⟨h1,h2,h3⟩:=tX lo hi its.toArray.size
 unfold slicePick
 rw[h1,h2,h3]
 simp only[sliceRange_one,pick_run,List.size_toArray]<;>rfl
noncomputable def Kq (K:PySem.W.Frag):V->Option Int->Option Int->Hp->VK->Prop:=fun x lo hi H Q=>∃a xs,x=.ref a/\SqL K H a xs/\∀p,H p=none->Q (.ref p) (upd H p (.lst (rz xs lo hi)))
theorem Dz:SlR X (Kq X.K):=by
 intro pins s σ H x v vl vu lo hi sl Q I rx hs pl pu h
 obtain⟨a,xs,rfl,hx,q⟩:=h
 cases rx
 obtain⟨its,r,ht,hz⟩:=I.list hx
 have hlen:=r.length
 refine⟨"list", _,slot_list_getitem.lookup,ht.isList.typeIs,?_⟩
 refine wpAny_getItem_list_slice ht.isList hs pl pu .none (by simp) ?_ (by rw[List.size_toArray]<;>omega)
 rw[rf,<- hlen]
 refine⟨.ref s.heap.objs.size,_,I.laid (t':=s.toks) (o:=.lst (rz xs lo hi)) (fun b ob q=>Heap.get?_push_of_some _ q) (Nat.le_refl _) ?_,rfl,q _ (I.hok.fresh (Nat.le_refl _))⟩
 exact⟨Nat.le_trans (mV xs lo hi) hz,_,0,(r.drop (HT.sIx xs.length 0 lo)).take (HT.sIx xs.length xs.length hi - HT.sIx xs.length 0 lo),Heap.get?_push_size _ rfl⟩
noncomputable def j_:V->Bool
 | .non=>true
 | .bl _=>true
 | .int _=>true
 | .str _=>true
 | _=>false
noncomputable def eqV:V->V->Bool
 | .non,.non=>true
 | .bl a,.bl b=>a == b
 | .bl a,.int b=>(if a then 1 else 0) == b
 | .int a,.bl b=>a == (if b then 1 else 0)
 | .int a,.int b=>a == b
 | .str a,.str b=>a == b
 | _,_=>false
theorem GP {A:Around} {s:Shared} {y x:V} {u v:Value} (ry:RelV y u) (rx:RelV x v) (fy:j_ y=true) (fx:j_ x=true):SeqAt.EqAt A s u v (eqV y x):=by
 cases y with
 | non=>
  cases ry
  cases x with
  | non=>cases rx;exact SeqAt.EqAt.same _
  | bl b=>cases rx;exact SeqAt.EqAt.none_bool b
  | int b=>obtain⟨t,rfl⟩:=rx;exact SeqAt.EqAt.none_int b t
  | str b=>obtain⟨t,rfl⟩:=rx;exact SeqAt.EqAt.none_str b t
  | _=>exact absurd (show false=true from fx) Bool.false_ne_true
 | bl a=>
  cases ry
  cases x with
  | non=>cases rx;exact SeqAt.EqAt.bool_none a
  | bl b=>cases rx;exact SeqAt.EqAt.bool_bool a b
  | int b=>obtain⟨t,rfl⟩:=rx;exact SeqAt.EqAt.bool_int a b t
  | str b=>obtain⟨t,rfl⟩:=rx;exact SeqAt.EqAt.bool_str a b t
  | _=>exact absurd (show false=true from fx) Bool.false_ne_true
 | int a=>
  obtain⟨t',rfl⟩:=ry
  cases x with
  | non=>cases rx;exact SeqAt.EqAt.int_none a t'
  | bl b=>cases rx;exact SeqAt.EqAt.int_bool a t' b
  | int b=>obtain⟨t,rfl⟩:=rx;exact SeqAt.EqAt.int_int a t' b t
  | str b=>obtain⟨t,rfl⟩:=rx;exact SeqAt.EqAt.int_str a t' b t
  | _=>exact absurd (show false=true from fx) Bool.false_ne_true
 | str a=>
  obtain⟨t',rfl⟩:=ry
  cases x with
  | non=>cases rx;exact SeqAt.EqAt.str_none a t'
  | bl b=>cases rx;exact SeqAt.EqAt.str_bool a t' b
  | int b=>obtain⟨t,rfl⟩:=rx;exact SeqAt.EqAt.str_int a t' b t
  | str b=>obtain⟨t,rfl⟩:=rx;exact SeqAt.EqAt.str_str a t' b t
  | _=>exact absurd (show false=true from fx) Bool.false_ne_true
 | _=>exact absurd (show false=true from fy) Bool.false_ne_true
noncomputable def eqU (x:V) (u:Value):Bool:=match u with
 | .none=>eqV .non x
 | .bool b=>eqV (.bl b) x
 | .int i _=>eqV (.int i) x
 | .str z _=>eqV (.str z) x
 | _=>false
theorem C_ {x y:V} {u:Value} (r:RelV y u) (f:j_ y=true):eqU x u=eqV y x:=by
 cases y with
 | non=>cases r;rfl
 | bl b=>cases r;rfl
 | int i=>obtain⟨t,rfl⟩:=r;rfl
 | str z=>obtain⟨t,rfl⟩:=r;rfl
 | _=>exact absurd (show false=true from f) Bool.false_ne_true
theorem kL {x:V}:∀{xs:List V} {us:List Value},Vals xs us->xs.all j_=true->us.any (eqU x)=xs.any fun y=>eqV y x
 | _,_,.nil,_=>rfl
 | y::xs,u::us,.cons r t,f=>by
  rw[List.all_cons,Bool.and_eq_true] at f
  rw[List.any_cons,List.any_cons,C_ r f.1,kL t f.2]
theorem jf {A:Around} {s:Shared} {x:V} {v:Value} (rx:RelV x v) (fx:j_ x=true):∀{xs:List V} {us:List Value},Vals xs us->xs.all j_=true->∀u∈us,SeqAt.EqAt A s u v (eqU x u)
 | _,_,.nil,_=>fun u hu=>by cases hu
 | y::xs,u::us,.cons r t,f=>fun u' hu=>by
  rw[List.all_cons,Bool.and_eq_true] at f
  rcases List.mem_cons.mp hu with rfl | hu
  ·rw[C_ r f.1];exact GP r rx f.1 fx
  ·exact jf rx fx t f.2 u' hu
noncomputable def inV (x:V) (xs:List V):Bool:=xs.any fun y=>eqV y x
noncomputable def rIn (K:PySem.W.Frag) (neg:Bool):R2:=fun x y H Q=>∃p xs,y=.ref p/\(SqL K H p xs\/SqT K H p xs)/\j_ x=true/\xs.all j_=true/\Q (.bl (if neg then !inV x xs else inV x xs)) H
theorem sG:OpR X (compareOp .In) (rIn X.K false):=by
 intro pins s σ H x y v u Q I rx ry h
 obtain⟨p,xs,rfl,hq,fx,fs,q⟩:=h
 cases ry
 rcases hq with hq | hq
 ·obtain⟨its,r,pl,hz⟩:=I.list hq
  refine SeqAt.in_listAt (eqU x) pl.isList (fun w hw=>jf rx fx r fs w (by simpa using hw)) ⟨.bl _,H,I,rfl,?_⟩
  rw[show its.toArray.any (eqU x)=its.any (eqU x) by simp,kL r fs]
  exact q
 ·obtain⟨its,r,pl,hz⟩:=I.tuple hq
  refine SeqAt.in_tupleAt (eqU x) pl (fun w hw=>jf rx fx r fs w (by simpa using hw)) ⟨.bl _,H,I,rfl,?_⟩
  rw[show its.toArray.any (eqU x)=its.any (eqU x) by simp,kL r fs]
  exact q
theorem fO:OpR X (compareOp .NotIn) (rIn X.K true):=by
 intro pins s σ H x y v u Q I rx ry h
 obtain⟨p,xs,rfl,hq,fx,fs,q⟩:=h
 cases ry
 rcases hq with hq | hq
 ·obtain⟨its,r,pl,hz⟩:=I.list hq
  refine SeqAt.notIn_listAt (eqU x) pl.isList (fun w hw=>jf rx fx r fs w (by simpa using hw)) ⟨.bl _,H,I,rfl,?_⟩
  rw[show its.toArray.any (eqU x)=its.any (eqU x) by simp,kL r fs]
  exact q
 ·obtain⟨its,r,pl,hz⟩:=I.tuple hq
  refine SeqAt.notIn_tupleAt (eqU x) pl (fun w hw=>jf rx fx r fs w (by simpa using hw)) ⟨.bl _,H,I,rfl,?_⟩
  rw[show its.toArray.any (eqU x)=its.any (eqU x) by simp,kL r fs]
  exact q
theorem ur:cP X (.builtin "len") (fun xs H Q=>∃p ys,xs=[.ref p]/\(SqL X.K H p ys\/SqT X.K H p ys)/\Q (.int ys.length) H):=by
 intro pins s σ H xs us Q I r h
 obtain⟨p,ys,rfl,hq,q⟩:=h
 obtain⟨u,rfl,rx⟩:=vals1 r
 cases rx
 have hn:=jb
 rcases hq with hq | hq
 ·obtain⟨its,r',pl,hz⟩:=I.list hq
  have hlen:=r'.length
  exact Calls.call_len_list pl.isList (by simp only[List.size_toArray]<;>omega) ⟨.int ys.length,H,I.tok _,⟨s.toks+1,by rw[List.size_toArray,hlen]⟩,q⟩
 ·obtain⟨its,r',pl,hz⟩:=I.tuple hq
  have hlen:=r'.length
  exact len_tuple pl (by simp only[List.size_toArray]<;>omega) ⟨.int ys.length,H,I.tok _,⟨s.toks+1,by rw[List.size_toArray,hlen]⟩,q⟩
theorem tW:cP X (.builtin "len") (fun xs H Q=>∃z,xs=[.str z]/\z.length<=sizeLine/\Q (.int z.length) H):=by
 intro pins s σ H xs us Q I r h
 obtain⟨z,rfl,hz,q⟩:=h
 obtain⟨u,rfl,t,rfl⟩:=vals1 r
 have hn:=jb
 exact len_str (by omega) ⟨.int z.length,H,I.tok _,⟨_,rfl⟩,q⟩
theorem cP.or {f:Value} {r r':List V->Hp->VK->Prop} (h:cP X f r) (h':cP X f r'):cP X f (fun xs H Q=>r xs H Q\/r' xs H Q):=by
 intro pins s σ H xs us Q I rs q
 rcases q with q | q
 ·exact h pins s σ H xs us Q I rs q
 ·exact h' pins s σ H xs us Q I rs q
theorem j7:cP X (.type "tuple") (fun xs H Q=>∃p ys,xs=[.ref p]/\((SqL X.K H p ys/\∀l,H l=none->Q (.ref l) (upd H l (.tup ys)))\/(SqT X.K H p ys/\Q (.ref p) H))):=by
 intro pins s σ H xs us Q I r h
 obtain⟨p,ys,rfl,h⟩:=h
 obtain⟨u,rfl,rx⟩:=vals1 r
 cases rx
 rcases h with⟨hq,q⟩ | ⟨hq,q⟩
 ·obtain⟨its,r',pl,hz⟩:=I.list hq
  have hlen:=r'.length
  refine call_tuple_list pl.isList (fun h' kp=>?_) (by simp only[List.size_toArray]<;>omega)
  have I1:Inv X pins σ H { s with heap:=h' }:=I.kept (t':=s.toks) kp
  have I2:Inv X pins σ (upd H h'.objs.size (.tup ys)) { s with heap:=h'.push { cls:=.type "tuple", data:=.seq its.toArray } }:=
   I1.laid (t':=s.toks) (fun b o e=>Heap.get?_push_of_some _ e) (Nat.le_refl _) (show bI X.prog X.w _ _ _ (.tup ys) from⟨hz,its,r',qq.new _ _⟩)
  exact⟨.ref h'.objs.size,_,I2,rfl,q _ (I1.hok.fresh (Nat.le_refl _))⟩
 ·obtain⟨its,r',pl,hz⟩:=I.tuple hq
  exact call_tuple_same pl ⟨.ref p,H,I,rfl,q⟩
noncomputable def tyV (K:PySem.W.Frag) (T:String) (x:V) (H:Hp):Prop:=match x with
 | .str _=>T="str"
 | .int _=>T="int"
 | .ref p=>(T="list" /\ ∃xs,SqL K H p xs)\/(T="tuple" /\ ∃o,K.lookup p=some o/\o.cls=.type "tuple" /\ o.dict=none) ∨
   (T="dict" /\ ((∃kvs,H p=some (.dK kvs))\/∃kvs,H p=some (.dT kvs)))\/(T="set" /\ ∃S n,H p=some (.set S n))\/(T="tuple" /\ ∃xs,H p=some (.tup xs))
 | _=>False
theorem Gz {pins:List (Addr × Obj)} {σ:St} {H:Hp} {s:Shared} {T:String} {x:V} {v:Value} (I:Inv X pins σ H s) (r:RelV x v) (ty:tyV X.K T x H) :
  s.TypeIs v T/\∀a,v=.ref a->∃ob,s.heap.get? a=some ob/\ob.dict=none:=by
 cases x with
 | str z=>
  obtain⟨t,rfl⟩:=r
  cases (show T="str" from ty)
  exact⟨typeIs_str s z t,fun _ e=>nomatch e⟩
 | int i=>
  obtain⟨t,rfl⟩:=r
  cases (show T="int" from ty)
  exact⟨typeIs_int s i t,fun _ e=>nomatch e⟩
 | ref p=>
  cases r
  rcases ty with⟨rfl,xs,hq⟩ | ⟨rfl,o,hk,hc,hd⟩ | ⟨rfl,hk⟩ | ⟨rfl,S,n,hk⟩ | ⟨rfl,xs,hk⟩
  ·obtain⟨its,_,pl,_⟩:=I.list hq
   refine⟨pl.isList.typeIs,fun a e=>?_⟩
   cases e
   obtain⟨o,n,e,c,hd,_⟩:=pl
   exact⟨o,e,hd⟩
  ·refine⟨⟨o,I.kIn p o hk,hc⟩,fun a e=>?_⟩
   cases e
   exact⟨o,I.kIn _ o hk,hd⟩
  ·have z:∃o,s.heap.get? p=some o/\o.ExactDict:=by
    rcases hk with⟨kvs,hk⟩ | ⟨kvs,hk⟩
    ·obtain⟨_,_,_,_,o,_,_,e,ex,_⟩:=I.hok p _ hk
     exact⟨o,e,ex⟩
    ·obtain⟨_,_,_,_,o,_,_,e,ex,_⟩:=I.hok p _ hk
     exact⟨o,e,ex⟩
   obtain⟨o,e,ex⟩:=z
   refine⟨⟨o,e,ex.1⟩,fun a e2=>?_⟩
   cases e2
   exact⟨o,e,ex.2.1⟩
  ·obtain⟨o,_,_,_,e,ex,_⟩:=I.hok p _ hk
   refine⟨⟨o,e,ex.1⟩,fun a e2=>?_⟩
   cases e2
   exact⟨o,e,ex.2.1⟩
  ·obtain⟨_,_,_,o,e,⟨c,_⟩,hd⟩:=I.hok p _ hk
   refine⟨⟨o,e,c⟩,fun a e2=>?_⟩
   cases e2
   exact⟨o,e,hd⟩
 | _=>exact False.elim ty
noncomputable def tBM (K:PySem.W.Frag) (T:String) (r:V->List V->Hp->VK->Prop) (to:TE) (t:TA):TE:=fun σ H Q=>to σ H fun x H1=>tyV K T x H1/\t σ H1 fun xs H2=>r x xs H2 Q
variable {o e:Expr} {es:List Expr} {to:TE} {t:TA} {name:Str} {apos cpos:Pos} {T id:String} {r:V->List V->Hp->VK->Prop}
theorem IY (pa:PlainAttrs T) (slot:Slot T name id) (hty:typeOf (.builtin id)=pure (.type "method_descriptor")) (hm:MtR X id r) (ho:PE X o to) (ha:PA X (e::es) t)
  (hbase:attributeBase o name X.env (eval o X.env)=eval o X.env:=by rfl)
  (hfew:((backTo cpos (starEach (e::es) X.env)).all (fun x=>!x.1)&&(backToKw cpos (keywordEach [] X.env)).all (fun x=>x.1.isSome)
   && decide ((e::es).length+([]:List Keyword).length+(if ([]:List Keyword).isEmpty then 0 else 1)<30))=true:=by rfl)
  (hline:(apos.endLine == cpos.line)=true:=by rfl) (hs:starEach (e::es) X.env=(false,eval e X.env)::starEach es X.env:=by rfl) (hplain:(backTo cpos (starEach es X.env)).any (·.1)=false:=by rfl) :
  PE X (.Call (.Attribute o name apos) (e::es) [] cpos) (tBM X.K T r to t):=by
 intro pins s σ H Q I h
 refine wpAny_Call_method_late hbase hfew hline rfl (thn (ho pins s σ H _ I h) fun v s1 ⟨x,H1,I1,r1,ty,q1⟩=>?_)
 obtain⟨h1,h2⟩:=Gz I1 r1 ty
 refine⟨T,id,pa,slot,hty,h1,h2,?_⟩
 have hA:=ha cpos pins s1 σ H1 _ I1 q1
 rw[hs] at hA ⊢
 refine Calls.callWith_builtin (by show(false || (backTo cpos (starEach es X.env)).any (·.1))=false;rw[hplain]<;>rfl) (Calls.evalArgs_plain ?_)
 exact thn hA fun us s2 ⟨vs,H2,I2,r2,q2⟩=>hm pins s2 σ H2 x vs v us Q I2 r1 r2 q2
/- xs.append(e),list.index on a module's tuple .. are MtR facts of 06m -/
end
noncomputable def MtM (X:Cx) (id:String) (r:V->List V->Hp->VK->Prop):Prop:=
 ∀(pins:List (Addr × Obj)) (s:Shared) (σ:St) (H:Hp) (x:V) (xs:List V) (v:Value) (us:List Value) (Q:VK),Inv X pins σ H s->RelV x v->Vals xs us->r x xs H Q →
  wpAny (model X.prog X.w) X.A (call (.builtin id) (v::us)) (EP X pins σ Q) X.xe s
theorem Vals.one:∀{x:V} {us:List Value},Vals [x] us->∃u,us=[u]/\RelV x u
 | _,_,.cons r .nil=>⟨_,rfl,r⟩
theorem Vals.rep {xs:List V} {us:List Value} (h:Vals xs us):∀k:Nat,Vals (List.replicate k xs).flatten (List.replicate k us).flatten
 | 0=>.nil
 | k+1=>by
  rw[List.replicate_succ,List.replicate_succ,List.flatten_cons,List.flatten_cons]
  exact Vals.append h (Vals.rep h k)
theorem foldl_rep (its:List Value):∀(k:Nat) (acc:List Value),
  List.foldl (fun x1 x2=>x1++x2) acc.toArray (List.replicate k its.toArray)=(acc++(List.replicate k its).flatten).toArray
 | 0,acc=>by simp
 | k+1,acc=>by
  have e:acc.toArray++its.toArray=(acc++its).toArray:=by simp
  have e2:(acc++its)++(List.replicate k its).flatten=acc++(List.replicate (k+1) its).flatten:=by
   rw[List.replicate_succ,List.flatten_cons,List.append_assoc]
  rw[<- e2,<- foldl_rep its k (acc++its),<- e,List.replicate_succ,List.foldl_cons]
section
variable {X:Cx} {pins:List (Addr × Obj)} {σ:St} {H:Hp} {s:Shared} {l b:Addr} {xs ys zs:List V}
theorem Inv.JL {its its':List Value} {n:Nat} {f:Array Value->Array Value} {t':Nat} (I:Inv X pins σ H s) (hH:H l=some (.lst xs))
  (e:s.heap.get? l=some { cls:=.type "list", data:=.seq its.toArray n }) (hf:f its.toArray=its'.toArray) (hv:Vals ys its') (hz:ys.length<=sizeLine) :
  Inv X pins σ (upd H l (.lst ys)) { s with heap:=s.heap.update l (Obj.mapSeq f),toks:=t' }:=by
 have q:=PySem.IsL.update e f
 rw[hf] at q
 refine I.write (x:=l) (e:=l) (by rw[hH];exact trivial) (.inl rfl) (fun b' u hb hu=>(Heap.get?_update_other s.heap (Obj.mapSeq f) (Ne.symm hb)).trans hu) ⟨_,q⟩ ?_
 exact⟨hz,its',_,hv,q⟩
theorem Inv.Ek {its:List Value} {t':Nat} (I:Inv X pins σ H s) (hv:Vals ys its) (hz:ys.length<=sizeLine) :
  Inv X pins σ (upd H s.heap.objs.size (.lst ys)) { s with heap:=s.heap.push { cls:=.type "list", data:=.seq its.toArray },toks:=t' }:=
 I.laid (fun _ _ q=>Heap.get?_push_of_some _ q) (Nat.le_refl _) ⟨hz,its,0,hv,Heap.get?_push_size _ rfl⟩
theorem Inv.fresh (I:Inv X pins σ H s):H s.heap.objs.size=none:=I.hok.fresh (Nat.le_refl _)
theorem Inv.Jy (I:Inv X pins σ H s) (hH:H l=some (.lst xs)):xs.length<=sizeLine/\∃(its:List Value) (n:Nat),Vals xs its/\xs.length=its.length/\s.heap.get? l=some { cls:=.type "list", data:=.seq its.toArray n }:=by
 obtain⟨z,its,n,r,e⟩:=I.hok l _ hH
 exact⟨z,its,n,r,r.length,e⟩
theorem vj {n:Nat} (h:n<=sizeLine):Builtin.List.listTooLong n=false:=by
 unfold Builtin.List.listTooLong
 exact decide_eq_false (by omega)
end
section
variable {X:Cx}
noncomputable def yY:V->List V->Hp->VK->Prop:=fun x vs H Q=>∃l xs y,x=.ref l/\vs=[y]/\H l=some (.lst xs)/\xs.length<sizeLine/\Q .non (upd H l (.lst (xs++[y])))
theorem jL:MtM X "list.append" yY:=by
 intro pins s σ H x vs v us Q I rx rv h
 obtain⟨l,xs,y,rfl,rfl,hH,hz,q⟩:=h
 cases rx
 obtain⟨u,rfl,ru⟩:=rv.one
 obtain⟨z,its,n,r,hl,e⟩:=I.Jy hH
 refine call_meets F.slot_list_append ⟨_,e,rfl⟩ F.entry_list_append (F.args_list_append_2 _ _) (PySem.list_append l its.toArray n u (by rw[List.size_toArray];omega)) ⟨e,?_⟩
 refine⟨.non,_,I.JL (its':=its++[u]) hH e (by simp) (r.append (.cons ru .nil)) ?_,rfl,q⟩
 rw[List.length_append,List.length_singleton]
 omega
theorem len_rep {α:Type} (xs:List α) (k:Nat):(List.replicate k xs).flatten.length=k*xs.length:=by
 induction k with
 | zero=>simp
 | succ k ih=>rw[List.replicate_succ,List.flatten_cons,List.length_append,ih,Nat.succ_mul,Nat.add_comm]
end
end L2
namespace Att
open PySem PySem.W PySem.Calls PyProof.Rows
theorem m_ {P:Params} {h:Heap}:∀(ns:List Int) (vs:List Value),WellAll P h vs (ns.map WData.int)->IntsAre vs ns:=by
 intro ns
 induction ns with
 | nil=>
  intro vs w
  rw[List.map_nil] at w
  cases w
  exact .nil
 | cons n ns ih=>
  intro vs w
  rw[List.map_cons] at w
  cases w with
  | cons a b=>
   cases a
   exact .cons _ _ (ih _ b)
theorem Ac {l:OpenLaw} {n:Nat} (hn:l.most=some n) {P:Params} {h:Heap} {args:List WData} {vals:List Value}
  (hpre:l.row.toRowW.claim.pre args=true) (hwl:WellAll P h vals args) :
  ∃a vs ns,vals=[Value.ref a]/\args=[WData.list (ns.map WData.int)]/\h.get? a=some { cls:=.type "list", data:=.seq vs.toArray }/\IntsAre vs ns/\ns.length<=n:=by
 have hsh:WShape.hasAll [] args [.list .int]=true:=(pre_splitW hpre).1
 have hc:l.pre.holds [] { args:=args }=true:=(pre_splitW hpre).2
 obtain⟨d,r,rfl,h1,h2⟩:=hasAllW_cons hsh
 obtain rfl:=hasAllW_nil h2
 obtain⟨xs,rfl,h3⟩:=hasW_list h1
 obtain⟨ns,rfl⟩:=items_int h3
 have hlen:ns.length<=n:=by
  unfold OpenLaw.pre at hc
  have h4:(WTm.not (.lt (.lit (.int (n:Int))) (.len (.arg 0)))).holds [] { args:=[.list (ns.map .int)] }=true:=by
   have h4:=(holds_andW hc).1
   rw[hn] at h4
   exact h4
  have h5:=condW_of h4 (w_not (w_lt w_lit (w_len_list (w_arg rfl))))
  rw[List.length_map] at h5
  refine Nat.le_of_not_lt fun q=>?_
  have q':(n:Int)<((ns.length:Nat):Int):=by omega
  first
   | (rw[decide_eq_true q'] at h5;exact absurd h5 (by decide))
   | (simp at h5;omega)
 cases hwl with
 | cons w1 w2=>
  cases w2
  cases w1 with
  | list ho hall=>exact⟨_,_,ns,rfl,rfl,ho,m_ ns _ hall,hlen⟩
theorem zP (l:OpenLaw) (args:List WData):l.row.toRowW.claim.post args (.bool true) args=true:=
 postW_of (r:=l.row.toRowW) (X:=(true == true))
  (show WShape.has [] (.bool true) .bool=true by first | rfl | decide | simp[WShape.has,WShape.arms,WShape.armsAll])
  (show(WTm.eq .res (.lit (.bool true))).value [] { args:=args,res:=some (.bool true),after:=args }=some (.bool (true == true)) from w_eq_bool (w_res rfl) w_lit) rfl
theorem vh {l:OpenLaw} {n:Nat} {q:Program} {loose:List Str} {XP:(Str->Option Value)->Heap->Prop} {YP:World->Heap->Prop} {d:DefRec}
  (hn:l.most=some n) (hdf:d.params.defaults=[])
  (call:∀(w:World) (az s₁:Shared) (mg mb:Str->Option Value) (fa:Addr) (o:Obj) (pm cd doc:Value) (a:Addr) (vs:List Value) (ns:List Int),
   Ground q loose [] XP w az mg mb s₁.heap->YP w s₁.heap →
   s₁.heap.get? fa=some o->o.data=.func (docDef d.name d.params d.body d.scope pm cd doc)->s₁.heap.CodeRec cd d.name->mg d.name=some (.ref fa) →
   s₁.heap.get? a=some { cls:=.type "list", data:=.seq vs.toArray }->IntsAre vs ns->ns.length<=n->s₁.gens = #[] →
   codeAny (model l.prog w) callerA (.call (.ref fa) ⟨[.ref a],[]⟩) (fun r s'=>r=.ok (.ret (.bool true))/\OldK s₁.heap s'.heap/\s'.os=s₁.os/\AllBare s'.gens) s₁) :
  WalkO q loose XP YP l.row.toRowW d [] (fun f vs=>PySem.call f vs):=by
 intro w az s₁ mg mb G Y fa o pm cd doc dV kV ho hd hcd hD hmg hg args vals as hpre hlay hrd hwl hlo
 obtain rfl:dV=.none:=Dflts.none hD hdf
 obtain rfl:kV=.none:=Dflts.noKw hD
 obtain⟨a,vs,ns,rfl,rfl,hobj,hints,hlen⟩:=Ac hn hpre hwl
 refine enter_call (codeAny_mono (call w az s₁ mg mb fa o pm cd doc a vs ns G Y ho (fd_plain hd) hcd hmg hobj hints hlen hg) fun r s' hq=>?_)
 obtain⟨rfl,h2,h3,h4⟩:=hq
 exact⟨.inl ⟨.bool true,.bool true,[],rfl,fun _=>rfl,.bool true,zP l _,fun _=>⟨List.Pairwise.nil,fun _ hm=>(nomatch hm)⟩⟩,h2,h3,h4⟩
end Att
namespace L2
open PySem PySem.Spec PyProof.Rows
theorem rZ:∀{vs:List Value} {ns:List Int},IntsAre vs ns->Vals (ns.map V.int) vs
 | _,_,.nil=>.nil
 | _,_,.cons n t h=>.cons ⟨t,rfl⟩ (rZ h)
noncomputable def K7 (H:Hp):Prop:=∀b,H b=none\/∃o xs,H b=some (.frz o (.lst xs))
end L2
/- THE LAST THEOREM (shape;LID,My.* are yours):
  My.Adr: a structure of the addresses that your layer names (classes,functions);My.Txt K t: a structure (Prop) of the equations over K;
  My.txt_mk:{K} {implicit addresses ..} (e1:nsIn K mainGlobals "law" = some (some (.ref f))) (e2:K.lookup f=some ⟨oc,od,.func (fnOf "law" "law" params body scope dV kV doc pm an cdv ct),sl⟩) (e3:codeIn K cdv "law" = true) .. : ∃t,My.Txt K t
(the tactic k_is has no namespace: write k_is) -/
namespace L2
open PySem PySem.Spec PyProof.Rows
noncomputable def dU (s:Stmt):Arguments:=match s with
 | .FunctionDef _ a _ _ _ _ _ _ _ _=>a
 | _=>{ posonlyargs:=[],args:=[],vararg:=none,kwonlyargs:=[],kw_defaults:=[],kwarg:=none,defaults:=[] }
noncomputable def bu (s:Stmt):List Stmt:=match s with
 | .FunctionDef _ _ b _ _ _ _ _ _ _=>b
 | _=>[]
noncomputable def ai (s:Stmt):Scope:=match s with
 | .FunctionDef _ _ _ _ _ _ sc _ _ _=>sc
 | _=>{ kind:=.function,names:=[],isGenerator:=false,isCoroutine:=false }
noncomputable abbrev CX0:CXT:=fun _ _ _ _ _ _=>False
noncomputable abbrev E0:XK:=fun _ _ _=>False
theorem HS {X:Cx}:Passes CX0 X E0:=fun _ _ _ _ _ _ _ h=>h.elim
structure Fun (K:PySem.W.Frag) (x qual:Str) (st:Stmt) (f:Addr) (fd:FuncData):Prop where
 ex:∃(oc:Value) (od:Option Addr) (kV doc pm:Value) (an:Option Addr) (cdv ct:Value) (osl:Array (Option Value)),
  fd=PySem.W.fnOf x qual (dU st) (bu st) (ai st) .none kV doc pm an cdv ct/\K.lookup f=some ⟨oc,od,.func fd,osl⟩/\PySem.W.codeIn K cdv qual=true
 kp:PySem.W.keepIn K (.ref f)=true
section
variable {P:Program} {w:World} {K:PySem.W.Frag} {mg:Str->Option Value} {base:Heap}
theorem Fun.ok {x qual:Str} {st:Stmt} {f:Addr} {fd:FuncData} {N ps:List Str} {k:Nat} {sp:Sp} (F:Fun K x qual st f fd) (S:aH N ps (ai st)) (len:∀vs H Q E,sp vs H Q E->vs.length=ps.length)
  (hbody:∀(cdv:Value) (A:Around) (outer:List Env) (s:Shared) (H:Hp) (vs:List V) (Q:VK) (E:XK),cB k (A.deeper (envOfC qual (ai st) s.heap.objs.size f cdv))->sp vs H Q E →
   ∃t,PSs (dE CX0 P w K mg base N qual (ai st) f cdv A outer s H E).nox (bu st) t/\t { nx:=fun _ H'=>Q .non H',rt:=Q } (start N vs) H):cQ P w K mg base CX0 (k+1) f fd ps sp:=by
 obtain⟨oc,od,kV,doc,pm,an,cdv,ct,osl,rfl,lk,hcd⟩:=F.ex
 refine Fg lk hcd S len fun A outer s H vs Q E hr hsp=>?_
 obtain⟨t,h,q⟩:=hbody cdv A outer s H vs Q E hr hsp
 exact⟨t,h.nox,q⟩
theorem Fun.binds {x qual:Str} {st:Stmt} {f:Addr} {fd:FuncData} {ps:List Str} (F:Fun K x qual st f fd)
  (h:∀(kV doc pm:Value) (an:Option Addr) (cdv ct:Value) (us:List Value),us.length=ps.length->bindArgs (PySem.W.fnOf x qual (dU st) (bu st) (ai st) .none kV doc pm an cdv ct) ⟨us,[]⟩=pure (ps.zip us)):Binds K fd ps []:=by
 obtain⟨oc,od,kV,doc,pm,an,cdv,ct,osl,rfl,lk,hcd⟩:=F.ex
 exact .all (h kV doc pm an cdv ct)
theorem xx {x qual:Str} {st:Stmt} {f:Addr} {oc:Value} {od an:Option Addr} {osl:Array (Option Value)} {kV doc pm cdv ct:Value} (l:K.lookup f=some ⟨oc,od,.func (PySem.W.fnOf x qual (dU st) (bu st) (ai st) .none kV doc pm an cdv ct),osl⟩)
  (c:PySem.W.codeIn K cdv qual=true) (k:PySem.W.keepIn K (.ref f)=true):Fun K x qual st f (PySem.W.fnOf x qual (dU st) (bu st) (ai st) .none kV doc pm an cdv ct):=⟨⟨oc,od,kV,doc,pm,an,cdv,ct,osl,rfl,l,c⟩,k⟩
end
noncomputable def PTs (X:Cx) (ifs:List Expr) (t:TT):Prop:=
 ∀(pins:List (Addr × Obj)) (s:Shared) (σ:St) (H:Hp) (Q:Bool->Hp->Prop),Inv X pins σ H s->t σ H Q →
  wpAny (model X.prog X.w) X.A (forIn ifs true fun c r=>if r=true then do let ok ← isTrue c X.env (eval c X.env);pure (ForInStep.yield ok) else pure (ForInStep.yield r)) (TP X pins σ Q) X.xe s
noncomputable def Jz:TT:=fun _ H Q=>Q true H
theorem DM {X:Cx}:PTs X [] Jz:=fun _ _ _ H _ I h=>wpAny_tests_nil ⟨H,I,h⟩
theorem E4 {X:Cx} {c:Expr} {t:TT} (h:PT X c t):PTs X [c] t:=fun pins s σ H Q I q=>wpAny_tests_one (h pins s σ H Q I q)
theorem uP {prog:Program} {w:World} {A:Around} {R:Result->Shared->Prop} {s:Shared} {elt target iter:Expr} {ifs:List Expr} {scope:Scope} {pos:Pos} {it acc:Value} {env:Env} (I:Nat->Shared->Prop)
  (turn:∀n s,I n s->wpAny (model prog w) A (pyNext it) (fun r s₁=>match r with
   | none=>R (.ok .next) s₁
   | some v=>wpAny (model prog w) A (letOwnedTupleGo target it v) (fun _ s₁=>wpAny (model prog w) A (assign target env v) (fun _ s₂=>
     wpAny (model prog w) A (forIn ifs true fun c r=>if r=true then do let ok ← isTrue c env (eval c env);pure (ForInStep.yield ok) else pure (ForInStep.yield r)) (fun ok s₃=>
      if ok=true then wpAny (model prog w) A (eval elt env) (fun x s₄=>
       wpAny (model prog w) A (call (.builtin "list.append") [acc,x]) (fun _ s₅=>∃m,m<n/\I m s₅) (fun _ _=>False) s₄) (fun _ _=>False) s₃
      else ∃m,m<n/\I m s₃) (fun _ _=>False) s₂) (fun _ _=>False) s₁) (fun _ _=>False) s₁) (fun _ _=>False) s)
  (n:Nat) (h:I n s) :
  codeAny (model prog w) A (.compLoop (.ListComp elt [⟨target,iter,ifs,0⟩] scope pos) 0 it acc env) R s:=by
 refine codeAny_loop rfl I (fun n s hI=>?_) n h
 show wpAny _ A ((compTurn (.ListComp elt [⟨target,iter,ifs,0⟩] scope pos) 0 it acc env).onRaise (fun x=>do noteFrame x env;theTreesLotGoes x)) _ _ s
 refine wpAny_noted ?_
 rw[compTurn_list]
 refine wpAny_noRaise ?_
 refine wpAny_bind (wpAny_standAt (wpAny_bind (wpAny_mono (turn n s hI) (fun r s₁ h₁=>?_) fun _ _ h'=>h')))
 cases r with
 | none=>exact wpAny_pure h₁
 | some v=>
  refine wpAny_bind (wpAny_mono h₁ (fun _ s₁' h₁'=>?_) fun _ _ h'=>h')
  refine wpAny_bind (wpAny_mono h₁' (fun _ s₂ h₂=>wpAny_bind (wpAny_mono h₂ (fun ok s₃ h₃=>?_) fun _ _ h'=>h')) fun _ _ h'=>h')
  cases ok with
  | false=>exact wpAny_pure ⟨rfl,h₃⟩
  | true=>
   exact wpAny_bind (wpAny_bind (wpAny_mono h₃ (fun x s₄ h₄=>wpAny_bind (wpAny_mono h₄ (fun _ s₅ h₅=>wpAny_pure (wpAny_pure ⟨rfl,h₅⟩)) fun _ _ h'=>h')) fun _ _ h'=>h'))
noncomputable def bf (X:Cx) (scope:Scope) (cl:List (Str × Addr)) (C:Addr) (az:Shared) (aG:Hp) (fp:List Addr) (N':List Str):Cx:=
 { X with N:=N',az:=az,aG:=aG,env:=compEnvC scope cl C X.env,outer:=X.stack,ex:=fp,fn:=fun _=>false,pn:=[] }
theorem ka {env:Env}:∀(names:List (Str × NameKind)) (cs:List (Str × Addr)),(∀y∈names,y.2=.free->∃a,env.cells.lookup y.1=some a)->(∀x c,cs.lookup x=some c->env.cells.lookup x=some c) →
  ∃cl:List (Str × Addr),(forIn names cs fun(y:Str × NameKind) (r:List (Str × Addr))=>if (y.2 == NameKind.free)=true then do let a ← cellOf env y.1;pure (ForInStep.yield ((y.1,a)::r)) else pure (ForInStep.yield r):Sem (List (Str × Addr)))=pure cl ∧
   (∀x c,cl.lookup x=some c->env.cells.lookup x=some c)/\(∀x,((x,NameKind.free)∈names\/∃c,cs.lookup x=some c)->∃c,cl.lookup x=some c)
 | [],cs,_,h=>⟨cs,rfl,h,fun x hx=>by
   rcases hx with z | z
   ·cases z
   ·exact z⟩
 | (n,k)::r,cs,hf,h=>by
  by_cases hk:k=.free
  ·subst hk
   obtain⟨a,ha⟩:=hf (n,.free) (by simp) rfl
   obtain⟨cl,e,h1,h2⟩:=ka r ((n,a)::cs) (fun y hy=>hf y (List.mem_cons_of_mem _ hy)) (fun x c q=>by
    rw[List.lookup_cons] at q
    cases hx:x == n with
    | true=>
     rw[hx] at q
     have:x=n:=by simpa using hx
     subst this
     cases q;exact ha
    | false=>rw[hx] at q;exact h x c q)
   refine⟨cl,?_,h1,fun x hx=>?_⟩
   ·rw[List.forIn_cons]
    have e0:cellOf env n=pure a:=by unfold cellOf;rw[ha]
    simp only[beq_self_eq_true,if_true,e0]
    exact e
   ·have hc:∀z c,cs.lookup z=some c->∃c,((n,a)::cs).lookup z=some c:=fun z c q=>by
     rw[List.lookup_cons]
     cases z == n with
     | true=>exact⟨a,rfl⟩
     | false=>exact⟨c,q⟩
    rcases hx with z | ⟨c,z⟩
    ·rcases List.mem_cons.mp z with q | q
     ·cases q
      exact h2 n (.inr ⟨a,by simp[List.lookup_cons]⟩)
     ·exact h2 x (.inl q)
    ·exact h2 x (.inr (hc x c z))
  ·obtain⟨cl,e,h1,h2⟩:=ka r cs (fun y hy=>hf y (List.mem_cons_of_mem _ hy)) h
   have hb:(k == NameKind.free)=false:=by simpa using hk
   refine⟨cl,?_,h1,fun x hx=>?_⟩
   ·rw[List.forIn_cons]
    simp only[hb,Bool.false_eq_true,if_false]
    exact e
   ·rcases hx with z | z
    ·rcases List.mem_cons.mp z with q | q
     ·cases q;exact absurd rfl hk
     ·exact h2 x (.inl q)
    ·exact h2 x (.inr z)
theorem j6 {env:Env} {scope:Scope} (h:∀y∈scope.names,y.2=.free->∃a,env.cells.lookup y.1=some a) :
  ∃cl:List (Str × Addr),closureFor scope env=pure cl/\(∀x c,cl.lookup x=some c->env.cells.lookup x=some c)/\(∀x,(x,NameKind.free)∈scope.names->∃c,cl.lookup x=some c):=by
 obtain⟨cl,e,h1,h2⟩:=ka (env:=env) scope.names [] h (fun x c q=>by cases q)
 refine⟨cl,?_,h1,fun x hx=>h2 x (.inl hx)⟩
 exact Eq.trans (congrArg (fun t:Sem (List (Str × Addr))=>t >>= fun cs=>pure cs) e) rfl
theorem lookup_mem {x:Str} {k:NameKind}:∀{names:List (Str × NameKind)},names.lookup x=some k->(x,k)∈names
 | [],h=>by cases h
 | (n,j)::r,h=>by
  rw[List.lookup_cons] at h
  cases hx:x == n with
  | true=>
   rw[hx] at h
   have:x=n:=by simpa using hx
   subst this
   cases h;simp
  | false=>rw[hx] at h;exact List.mem_cons_of_mem _ (lookup_mem h)
theorem dj {env:Env} (hf:env.scope.kind=.function):∀{names:List (Str × NameKind)} {x:Str},names.lookup x=some .free->env.kindOf x=some .cell →
  (names.map fun(n,k)=>if (k == NameKind.free&&env.scope.kind == .function&&env.kindOf n == some .cell) then (n,NameKind.cell) else (n,k)).lookup x=some .cell
 | [],_,h,_=>by cases h
 | (n,k)::r,x,h,hc=>by
  have ih:=@dj env hf r x
  show List.lookup x ((if (k == NameKind.free&&env.scope.kind == .function&&env.kindOf n == some .cell)=true then (n,NameKind.cell) else (n,k))::_)=_
  cases hx:x == n with
  | true=>
   have:x=n:=by simpa using hx
   subst this
   simp only[List.lookup_cons,hx] at h
   cases h
   rw[if_pos (by simp[hf,hc])]
   simp[List.lookup_cons]
  | false=>
   simp only[List.lookup_cons,hx] at h
   by_cases hq:(k == NameKind.free&&env.scope.kind == .function&&env.kindOf n == some .cell)=true
   ·rw[if_pos hq];simp only[List.lookup_cons,hx];exact ih h hc
   ·rw[if_neg hq];simp only[List.lookup_cons,hx];exact ih h hc
theorem dY {env:Env}:∀{names:List (Str × NameKind)} {x:Str} {k:NameKind},(names.map fun(n,k)=>if (k == NameKind.free&&env.scope.kind == .function&&env.kindOf n == some .cell) then (n,NameKind.cell) else (n,k)).lookup x=some k →
  names.lookup x=some k\/(names.lookup x=some .free/\k=.cell)
 | [],_,_,h=>by cases h
 | (n,j)::r,x,k,h=>by
  have ih:=@dY env r x k
  have h':List.lookup x ((if (j == NameKind.free&&env.scope.kind == .function&&env.kindOf n == some .cell)=true then (n,NameKind.cell) else (n,j))::(r.map fun(n,k)=>if (k == NameKind.free&&env.scope.kind == .function&&env.kindOf n == some .cell) then (n,NameKind.cell) else (n,k)))=some k:=h
  by_cases hq:(j == NameKind.free&&env.scope.kind == .function&&env.kindOf n == some .cell)=true
  ·rw[if_pos hq] at h'
   have hj:j=.free:=by
    have:=Bool.and_eq_true_iff.mp (Bool.and_eq_true_iff.mp hq).1
    simpa using this.1
   simp only[List.lookup_cons] at h' ⊢
   cases hx:x == n with
   | true=>rw[hx] at h';cases h';exact .inr ⟨by rw[hj],rfl⟩
   | false=>rw[hx] at h';exact ih h'
  ·rw[if_neg hq] at h'
   simp only[List.lookup_cons] at h' ⊢
   cases hx:x == n with
   | true=>rw[hx] at h';cases h';exact .inl rfl
   | false=>rw[hx] at h';exact ih h'
noncomputable def rY (ix:List Nat) (σ:St):St:=none::ix.map fun i=>(σ[i]?).join
noncomputable abbrev IB (J:It) (tt:TT) (te:TE) (σ':V->St) (acc:Addr) (H1:Hp) (Q:VK):Prop:=
 ∃W:Nat->Nat->List V->Hp->Prop,(∃m,W 0 m [] (upd H1 acc (.lst [])))/\∀i m ys H,W i m ys H →
  (J.stop i H/\Q (.ref acc) H)\/(J.go i H/\∀x H',J.yld i H x H'->tt (σ' x) H' fun b H2=>if b=true then te (σ' x) H2 fun y H3=>
    H3 acc=some (.lst ys)/\ys.length<sizeLine/\∃m',m'<m/\W (i+1) m' (ys++[y]) (upd H3 acc (.lst (ys++[y])))
   else ∃m',m'<m/\W (i+1) m' ys H2)
noncomputable def Ft (wi:TI) (ix:List Nat) (tt:TT) (te:TE):TE:=fun σ H Q=>wi σ H fun J H1=>∀acc,H1 acc=none->IB J tt te (fun x=>(rY ix σ).set 0 (some x)) acc H1 Q
theorem HOk.sameBut {P:Program} {w:World} {H:Hp} {h h':Heap} {C:Addr} (x:HOk P w H h) (hn:H C=none) (k:∀b u,b≠C->h.get? b=some u->h'.get? b=some u):HOk P w H h':=fun b u e=>by
 have nC:∀b u,H b=some u->b≠C:=fun b u e z=>by rw[z,hn] at e;cases e
 refine(x b u e).jU (fun c v hc q=>k c v ?_ q) (fun _ q=>q) fun _ _ q=>q
 rcases hc with z | z
 ·rw[z];exact nC b u e
 ·exact nC c _ z
section
variable {X:Cx}
theorem vC:cP X (.builtin "isinstance") (fun vs H Q=>∃x t n b,vs=[x,.ty n]/\kI X.K H x t/\PySem.W.kitOne X.K t (.type n)=some b/\Q (.bl b) H):=by
 intro pins s σ H xs us Q I r h
 obtain⟨x,t,n,b,rfl,ty,e,q⟩:=h
 obtain⟨u,w',rfl,r1,r2⟩:=vals2 r
 cases r2
 exact Am I r1 ty e fun tk=>⟨.bl b,H,I.tok tk,rfl,q⟩
theorem qX:cP X (.builtin "len") (fun vs H Q=>∃p S n,vs=[.ref p]/\H p=some (.set S n)/\Q (.int n) H):=by
 intro pins s σ H xs us Q I r h
 obtain⟨p,S,n,rfl,hH,q⟩:=h
 obtain⟨u,rfl,rx⟩:=vals1 r
 cases rx
 obtain⟨o,es,ep,tb,ho,hex,hd,hel,hmem,hsz,hfit,rfl⟩:=(show s.heap.SetOf (intKind X.prog X.w) p S n from I.hok p _ hH)
 have hb:(es.size:Int)<2 ^ 63:=by unfold scanBound at hsz;omega
 exact PySem.call_len_set ho hex hd hfit hb ⟨.int es.size,H,I.tok _,⟨_,rfl⟩,q⟩
theorem jR {prog:Program} {w:World} {A:Around} {E:Value->Shared->Prop} {s:Shared} {t sl:Addr} {items:Array Value} {vl vu:Value} {lo hi:Option Int} {Q:Value->Shared->Prop} (ht:IsTup s.heap t items) (hs:s.heap.IsSliceOf sl vl vu .none) (pl:IsPart vl lo) (pu:IsPart vu hi)
  (h1:HT.sIx items.size 0 lo=0) (h2:HT.sIx items.size items.size hi=items.size) (h:Q (.ref t) s):wpAny (model prog w) A (getItem (.ref t) (.ref sl)) Q E s:=by
 obtain⟨os,hos,hcs,hds⟩:=id hs
 have hTs:s.TypeIs (.ref sl) "slice" := ⟨os,hos,hcs⟩
 unfold getItem
 try with_reducible refine wpAny_holding ?_
 first | refine wpAny_bind (wpAny_pure ?_) | skip
 refine wpAny_bind (wpAny_sequenceKey ht.typeIs (by decide) ?_)
 refine wpAny_bind (wpAny_callSpecial?_slot (name:=Str.ofString "__getitem__") ht.typeIs PyProof.Rows.slot_tuple_getitem (wpAny_call_entry PyProof.Rows.slot_tuple_getitem ht.typeIs entry_tuple_getitem ?_ (args_tuple_getitem _ _)))
 show wpAny _ _ (Builtin.Tuple.tupleItemsOf (.ref t) >>= _) _ _ s
 refine wpAny_bind (tupleItemsOf_ ht (wpAny_bind (wpAny_typeOf hTs ?_)))
 rw[if_pos (by decide)]
 refine wpAny_bind (HT.hG hs pl pu ?_)
 rw[h1,h2]
 show wpAny _ _ (if (((0:Nat):Int) == 0&&(1:Int) == 1&&(items.size - 0) == items.size)=true then _ else _) _ _ s
 rw[if_pos (by simp)]
 show wpAny _ _ (Builtin.Tuple.tupleIsExact (.ref t) >>= _) _ _ s
 unfold Builtin.Tuple.tupleIsExact
 refine wpAny_bind (wpAny_bind (wpAny_typeOf ht.typeIs (wpAny_pure ?_)))
 show wpAny _ _ (if (Value.type "tuple" == Value.type "tuple")=true then _ else _) _ _ s
 rw[if_pos (by decide)]
 refine wpAny_bind (wpAny_rule ?_)
 first
  | exact wpAny_pure ⟨_,rfl,wpAny_pure h⟩
  | exact wpAny_bind (wpAny_pure (wpAny_pure ⟨_,rfl,wpAny_pure h⟩))
noncomputable def Jf (K:PySem.W.Frag):V->Option Int->Option Int->Hp->VK->Prop:=fun x lo hi H Q=>∃a xs,x=.ref a/\SqT K H a xs/\HT.sIx xs.length 0 lo=0/\HT.sIx xs.length xs.length hi=xs.length/\Q (.ref a) H
theorem DZ:SlR X (Jf X.K):=by
 intro pins s σ H x v vl vu lo hi sl Q I rx hs pl pu h
 obtain⟨a,xs,rfl,hx,h1,h2,q⟩:=h
 cases rx
 obtain⟨its,r,ht,hz⟩:=I.tuple hx
 have hlen:its.toArray.size=xs.length:=by rw[List.size_toArray];exact r.length.symm
 refine⟨"tuple", _,PyProof.Rows.slot_tuple_getitem.lookup,ht.typeIs,?_⟩
 exact jR ht hs pl pu (by rw[hlen];exact h1) (by rw[hlen];exact h2) ⟨.ref a,H,I,rfl,q⟩
noncomputable def Bh (K:PySem.W.Frag):R2:=fun x y H Q=>∃a b ys,x=.ref a/\y=.ref b/\SqT K H a []/\SqT K H b ys/\Q (.ref b) H
theorem Co:OpR X (binaryOp .Add) (Bh X.K):=by
 intro pins s σ H x y v u Q I rx ry h
 obtain⟨a,b,ys,rfl,rfl,ha,hb,q⟩:=h
 cases rx
 cases ry
 obtain⟨its,r1,p1,_⟩:=I.tuple ha
 obtain⟨its2,r2,p2,_⟩:=I.tuple hb
 cases r1
 obtain⟨⟨cls,dd,data,sl⟩,ho,hc,n,hd⟩:=id p1
 obtain⟨⟨cls2,dd2,data2,sl2⟩,ho2,hc2,n2,hd2⟩:=id p2
 simp only at hc hd hc2 hd2
 subst hc hd hc2 hd2
 exact concat_meets ⟨_,ho,rfl⟩ ⟨_,ho2,rfl⟩ noFill_tuple_add seq_tuple_add PySem.F.slot_tuple_add PySem.F.entry_tuple_add (PySem.F.args_tuple_add_2 _ _)
  (tuple_addW0 a b _ _ n n2 dd dd2 sl sl2 (by simp)) ⟨ho,ho2,⟨.ref b,H,I,rfl,q⟩⟩
end
open AutoSeq1 (wpAny_loadPart')
section
variable {X:Cx}
inductive RdD (K:PySem.W.Frag) (H:Hp):V->PyData->Prop
 | non:RdD K H .non .none
 | bl (b:Bool):RdD K H (.bl b) (.bool b)
 | int (i:Int):RdD K H (.int i) (.int i)
 | str (x:Str):RdD K H (.str x) (.str x)
 | tup {a:Addr} {xs:List V} {ds:List PyData} (h:SqT K H a xs) (hl:xs.length=ds.length) (hx:∀(i:Nat) x d,xs[i]?=some x->ds[i]?=some d->RdD K H x d):RdD K H (.ref a) (.tuple ds)
 | lst {a:Addr} {xs:List V} {ds:List PyData} (h:SqL K H a xs) (hl:xs.length=ds.length) (hx:∀(i:Nat) x d,xs[i]?=some x->ds[i]?=some d->RdD K H x d):RdD K H (.ref a) (.list ds)
theorem i_ {h:Heap}:∀{us:List Value} {ds:List PyData},us.length=ds.length->(∀(i:Nat) u d,us[i]?=some u->ds[i]?=some d->∃as,Reads h u d as)->∃as,ReadsAll h us ds as
 | [],[],_,_=>⟨_,.nil⟩
 | [],_::_,hl,_=>by simp at hl
 | _::_,[],hl,_=>by simp at hl
 | u::us,d::ds,hl,hx=>by
  obtain⟨as,h1⟩:=hx 0 u d rfl rfl
  obtain⟨bs,h2⟩:=i_ (us:=us) (ds:=ds) (by simpa using hl) fun i u d e1 e2=>hx (i+1) u d (by simpa using e1) (by simpa using e2)
  exact⟨_,.cons h1 h2⟩
theorem Vals.get' {xs:List V} {us:List Value} {i:Nat} {u:Value} (r:Vals xs us) (h:us[i]?=some u):∃x,xs[i]?=some x/\RelV x u:=by
 have hl:=r.length
 have hi:i<xs.length:=by rw[hl];exact(List.getElem?_eq_some_iff.mp h).1
 obtain⟨u',e1,e2⟩:=r.get (List.getElem?_eq_getElem hi)
 rw[h] at e1;cases e1
 exact⟨_,List.getElem?_eq_getElem hi,e2⟩
theorem Inv.reads {pins:List (Addr × Obj)} {σ:St} {H:Hp} {s:Shared} (I:Inv X pins σ H s) {x:V} {d:PyData} (r:RdD X.K H x d):∀u,RelV x u->∃as,Reads s.heap u d as:=by
 induction r with
 | non=>intro u ru;cases (show u=Value.none from ru);exact⟨_,.none⟩
 | bl b=>intro u ru;cases (show u=Value.bool b from ru);exact⟨_,.bool b⟩
 | int i=>intro u ru;obtain⟨t,q⟩:=(show ∃t,u=Value.int i t from ru);cases q;exact⟨_,.int i t⟩
 | str y=>intro u ru;obtain⟨t,q⟩:=(show ∃t,u=Value.str y t from ru);cases q;exact⟨_,.str y t⟩
 | @tup a xs ds h hl hx ih=>
  intro u ru
  cases (show u=Value.ref a from ru)
  obtain⟨its,rv,p,hz⟩:=I.tuple h
  obtain⟨o,ho,hc,n,hd⟩:=p
  obtain⟨as,ra⟩:=i_ (h:=s.heap) (us:=its) (ds:=ds) (by rw[<- rv.length,hl]) fun i u d e1 e2=>by
   obtain⟨y,e3,ry⟩:=rv.get' e1
   exact ih i y d e3 e2 u ry
  exact⟨_,.tuple ho hc hd (by simpa using ra)⟩
 | @lst a xs ds h hl hx ih=>
  intro u ru
  cases (show u=Value.ref a from ru)
  obtain⟨its,rv,p,hz⟩:=I.list h
  obtain⟨o,ho,hc,n,hd⟩:=p.isList
  obtain⟨as,ra⟩:=i_ (h:=s.heap) (us:=its) (ds:=ds) (by rw[<- rv.length,hl]) fun i u d e1 e2=>by
   obtain⟨y,e3,ry⟩:=rv.get' e1
   exact ih i y d e3 e2 u ry
  exact⟨_,.list ho hc hd (by simpa using ra)⟩
theorem zA (hg:X.A.guards=some []) (hu:X.A.units+64<cLine):cP X (.builtin "repr") (fun vs H Q=>∃p d,vs=[.ref p]/\RdD X.K H (.ref p) d/\d.showable=true/\d.hasDict=false/\d.depth<=60/\d.shown.length<=sizeLine/\Q (.str d.shown) H):=by
 intro pins s σ H xs us Q I r h
 obtain⟨p,d,rfl,rd,hs,hd,hdp,hz,q⟩:=h
 obtain⟨u,rfl,rx⟩:=vals1 r
 cases rx
 obtain⟨as,ra⟩:=I.reads rd (.ref p) rfl
 exact repr_of_reads' ra hs (PyData.noDict_hsm hd) hg (by omega) (fun _ _ e=>e) (fun h' u tk kp=>⟨.str d.shown,H,I.kept kp,⟨_,rfl⟩,q⟩) hz
theorem xR:cP X (.builtin "repr") (fun vs H Q=>∃i,vs=[.int i]/\i.natAbs.log2<1920/\Q (.str (toString i)) H):=by
 intro pins s σ H xs us Q I r h
 obtain⟨i,rfl,hi,q⟩:=h
 obtain⟨u,rfl,t,rfl⟩:=vals1 r
 exact PySem.P.repr_of_int hi ⟨.str (toString i),H,I.tok _,⟨_,rfl⟩,q⟩
end
theorem Inv.Hx {X:Cx} {pins:List (Addr × Obj)} {σ:St} {H:Hp} {s:Shared} {C:Addr} {o:Obj} {h':Heap} (I:Inv X (pins++[(C,o)]) σ H s) (cC:∀x c,X.env.cells.lookup x=some c->c≠C) (hC:X.az.heap.objs.size<=C) (pC:∀p∈X.pn++pins,p.1≠C) (hs:Heap.SameBut C s.heap h'):Inv X pins σ H { s with heap:=h' }:=by
 have kb:∀b u,b≠C->s.heap.get? b=some u->h'.get? b=some u:=fun b u hb z=>hs.extBut b u hb z
 obtain⟨q0,q1,q2,q3,q4⟩:=I.pin (C,o) (List.mem_append_right _ (List.mem_append_right _ (List.mem_singleton.mpr rfl)))
 have J:Inv X pins σ H s:=I.kQ fun p hp=>I.pin p (List.mem_append_right _ (List.mem_append_left _ hp))
 refine J.sD (s':={ s with heap:=h' }) (ch:=[C]) rfl ⟨fun b u z n a c=>kb b u (fun e=>c (by rw[e];exact List.mem_singleton.mpr rfl)) z,fun b u z n a c=>⟨u.slots,kb b _ (fun e=>c (by rw[e];exact List.mem_singleton.mpr rfl)) z⟩,fun b u z n c=>n,fun b u z c=>⟨u,kb b u (fun e=>c (by rw[e];exact List.mem_singleton.mpr rfl)) z⟩,fun b xs z=>z,fun b ob u z=>z,fun b ps z=>⟨#[],by simpa using z⟩⟩ (J.hok.sameBut q1 kb) J.bare fun b hb=>?_
 have e:=List.mem_singleton.mp hb
 subst e
 exact⟨.inr hC,q2,fun x c z=>cC x c z,pC⟩
section
variable {prog:Program} {w:World} {A:Around} {E:Value->Shared->Prop} {s:Shared}
theorem xl {it t:Addr} {i:Nat} {its:Array Value} {x:Value} {Q:Value->Shared->Prop} (hi:s.heap.IsTupleIter it t i) (ht:s.heap.IsTuple t its) (hx:its[i]?=some x) (hQ:∀h',h'.IsTupleIter it t (i+1)->Heap.SameBut it s.heap h'->Q x { s with heap:=h' }) :
  wpAny (model prog w) A (Builtin.SmallTypes.nextOf (.ref it)) Q E s:=by
 obtain⟨oi,h1,h2,h3⟩:=id hi
 obtain⟨ot,k1,_,nt,k2⟩:=ht
 unfold Builtin.SmallTypes.nextOf
 refine wpAny_bind (wpAny_callSpecial?_slot (name:=Str.ofString "__next__") hi.typeIs F.slot_tuple_iterator_next (wpAny_call_entry F.slot_tuple_iterator_next hi.typeIs F.entry_tuple_iterator_next ?_ (F.args_tuple_iterator_next_1 _)))
 refine wpAny_bind (m:=field (.ref it) 0) (wpAny_field h1 h3 (x:=.ref t) rfl ?_)
 show wpAny _ _ (if (Value.ref t == Value.none)=true then _ else field (.ref it) 1 >>= _) _ _ s
 rw[if_neg (show ¬ ((Value.ref t == Value.none)=true) from Bool.false_ne_true)]
 refine wpAny_bind (wpAny_field h1 h3 (x:=.int i 0) rfl (wpAny_bind (m:=seqItems? (.ref t)) (wpAny_seqItems k1 k2 ?_)))
 simp only[Int.toNat_natCast,hx]
 exact wpAny_bind (wpAny_setField h1 h3 (by simp) (wpAny_pure ⟨x,rfl,wpAny_pure (hQ _ ⟨_,Heap.get?_update_self _ h1 (Obj.isFreed_of_fields (Obj.data_mapFields h3 _)),(Obj.cls_mapFields ..).trans h2,by rw[Obj.data_mapFields h3];simp[rawInt]⟩ (Heap.SameBut.update ..))⟩))
theorem sx {it t:Addr} {i:Nat} {its:Array Value} {Q:Value->Shared->Prop} (hh:A.handled=none) (hi:s.heap.IsTupleIter it t i) (ht:s.heap.IsTuple t its) (hx:its[i]?=none)
  (hE:∀h' e,Heap.ExtBut it s.heap h'->(∃o,h'.get? e=some o/\o.cls=.type "StopIteration")->E (.ref e) { s with heap:=h' }):wpAny (model prog w) A (Builtin.SmallTypes.nextOf (.ref it)) Q E s:=by
 obtain⟨oi,h1,h2,h3⟩:=id hi
 obtain⟨ot,k1,_,nt,k2⟩:=ht
 unfold Builtin.SmallTypes.nextOf
 refine wpAny_bind (wpAny_callSpecial?_slot (name:=Str.ofString "__next__") hi.typeIs F.slot_tuple_iterator_next (wpAny_call_entry F.slot_tuple_iterator_next hi.typeIs F.entry_tuple_iterator_next ?_ (F.args_tuple_iterator_next_1 _)))
 refine wpAny_bind (m:=field (.ref it) 0) (wpAny_field h1 h3 (x:=.ref t) rfl ?_)
 show wpAny _ _ (if (Value.ref t == Value.none)=true then _ else field (.ref it) 1 >>= _) _ _ s
 rw[if_neg (show ¬ ((Value.ref t == Value.none)=true) from Bool.false_ne_true)]
 refine wpAny_bind (wpAny_field h1 h3 (x:=.int i 0) rfl (wpAny_bind (m:=seqItems? (.ref t)) (wpAny_seqItems k1 k2 ?_)))
 simp only[Int.toNat_natCast,hx]
 refine wpAny_bind (wpAny_rule (wpAny_bind (wpAny_setField h1 h3 (by simp) (wpAny_bind (m:=newExc (.type "StopIteration") []) ?_))))
 simp only[newExc,newTuple]
 refine wpAny_bind (wpAny_newObj_type (wpAny_bind (m:=firstArgMember _ _) (wpAny_of_eq (a:=Value.none) (by first | rfl | (simp only[firstArgMember];rfl)) (wpAny_newObj_type ?_ (by size_fits)))) (by size_fits))
 simp only[raiseNew]
 refine wpAny_bind (wpAny_handled ?_)
 first | rw[show A.in1.handled=none from hh] | rw[hh]
 exact wpAny_bind (wpAny_pure (wpAny_throw (hE _ _ (((Heap.SameBut.update ..).extBut.push _).push _) ⟨_,Heap.get?_push_size _ rfl,rfl⟩)))
end
theorem Draws.tup {prog:Program} {w:World} {A:Around} (hh:A.handled=none) (it t:Addr) (hne:t≠it) (its:Array Value):Draws prog w A it [it,t] its.size (fun i v=>its[i]?=some v) (fun i h=>h.IsTupleIter it t i/\h.IsTuple t its) where
 live:=fun _ _ z=>let ⟨o,ho,_⟩:=z.1;⟨o,ho⟩
 frame:=fun _ _ _ z hk=>⟨z.1.at fun o e=>hk it (by simp) o e,z.2.at fun o e=>hk t (by simp) o e⟩
 item:=fun i s Q E hi z hQ=>xl z.1 z.2 (x:=its[i]) (by simp[hi]) fun h' a b=>hQ _ h' s.toks (by simp[hi]) ⟨a,z.2.extBut b.extBut hne⟩ b
 done:=fun s Q E z hE=>sx hh z.1 z.2 (by simp) hE
section
open AutoSeq1 (wpAny_loadPart')
theorem xG (t:Addr) (its:Array Value) (n:Nat) (dct:Option Addr) (sl:Array (Option Value)) :
  Meets (Builtin.«enumerate.__new__» ⟨[.type "enumerate", .ref t],[]⟩) (fun _ R s=>s.heap.get? t=some { cls:=.type "tuple", dict:=dct,data:=.seq its n,slots:=sl } ∧
   R (.ok (.ret (.ref (s.heap.push { cls:=.type "tuple_iterator", data:=.fields #[.ref t,.int 0 0] }).objs.size))) { s with heap:=(s.heap.push { cls:=.type "tuple_iterator", data:=.fields #[.ref t,.int 0 0] }).push { cls:=.type "enumerate", data:=.fields #[.none,.bool false,.ref s.heap.objs.size,rawInt 0,.none,.none] } }):=
 .of_wp fun prog w A R s z=>by
  obtain⟨hp,gs,dr,tk,os⟩:=s;obtain⟨ht,z⟩:=z
  have su:=sub_enumerate
  have hT:Heap.IsTuple (Shared.heap ⟨hp,gs,dr,tk,os⟩) t its:=⟨_,ht,rfl,n,rfl⟩
  wp_walk using wpAny_loadPart' ht
  refine wpAny_stack_any fun st=>wpAny_pure ?_
  split
  ·rename_i c _ _ _ _ _
   cases (c == Value.type "enumerate")<;>(wp_walk using wpAny_loadPart' ht,wpAny_pyIter_tuple hT;exact⟨_,rfl,z⟩)
  ·(wp_walk using wpAny_loadPart' ht,wpAny_pyIter_tuple hT);exact⟨_,rfl,z⟩
end
section
variable {prog:Program} {w:World} {A:Around} {E:Value->Shared->Prop} {s:Shared}
theorem IH {t:Addr} {its:Array Value} {Q:Value->Shared->Prop} (hT:s.heap.IsTuple t its)
  (q:∀h',IsEnum h' (s.heap.objs.size+1) s.heap.objs.size 0 .none->h'.IsTupleIter s.heap.objs.size t 0->h'.objs.size=s.heap.objs.size+2->(∀b o,s.heap.get? b=some o->h'.get? b=some o)->Q (.ref (s.heap.objs.size+1)) { s with heap:=h' }) :
  wpAny (model prog w) A (call (.type "enumerate") [.ref t]) Q E s:=by
 obtain⟨⟨c,dct,dt,sl⟩,ht,hc,n,hd⟩:=hT
 replace hc:c=.type "tuple" := hc
 replace hd:dt=.seq its n:=hd
 subst hc hd
 refine callType_new F.called_enumerate (by decide) (F.typeCall_enumerate_1 _) (F.newCall_enumerate_1 _) (fun obj=>F.args_object_init_2 obj _) F.entry_enumerate_new (xG t its n dct sl) ⟨ht,?_⟩
 have hz:(s.heap.push { cls:=.type "tuple_iterator", data:=.fields #[.ref t,.int 0 0] }).objs.size=s.heap.objs.size+1:=Heap.size_push ..
 show _/\_
 rw[hz]
 have he:IsEnum ((s.heap.push { cls:=.type "tuple_iterator", data:=.fields #[.ref t,.int 0 0] }).push { cls:=.type "enumerate", data:=.fields #[.none,.bool false,.ref s.heap.objs.size,rawInt 0,.none,.none] }) (s.heap.objs.size+1) s.heap.objs.size 0 .none:=by
  have y:=Heap.get?_push_size (s.heap.push { cls:=.type "tuple_iterator", data:=.fields #[.ref t,.int 0 0] }) (o:={ cls:=.type "enumerate", data:=.fields #[.none,.bool false,.ref s.heap.objs.size,rawInt 0,.none,.none] }) rfl
  rw[hz] at y;exact y
 exact⟨⟨_,he,rfl⟩,q _ he ⟨_,Heap.get?_push_of_some _ (Heap.get?_push_size _ rfl),rfl,rfl⟩ (by rw[Heap.size_push,hz]) fun b o x=>Heap.get?_push_of_some _ (Heap.get?_push_of_some _ x)⟩
end
theorem Inv.yielded {X:Cx} {pins:List (Addr × Obj)} {σ:St} {H:Hp} {s:Shared} {fp:List Addr} {T:Addr} {o:HO} {h':Heap} {t':Nat} (I:Inv X pins σ H s) (hf:∀b∈fp,nL X pins H b) (k:∀b u,b∉fp->s.heap.get? b=some u->h'.get? b=some u)
  (hT:s.heap.objs.size<=T) (new:bI X.prog X.w (upd H T o) h' T o):Inv X pins σ (upd H T o) { s with heap:=h',toks:=t' }:=by
 have nT:∀b u,s.heap.get? b=some u->b≠T:=fun b u e z=>absurd (Heap.lt_size e) (by rw[z];exact Nat.not_lt.mpr hT)
 have nH:∀b u,H b=some u->b≠T:=fun b u e z=>absurd (I.hok.lt e) (by rw[z];exact Nat.not_lt.mpr hT)
 have nf:∀b u,H b=some u->b∉fp:=fun b u e z=>by rw[(hf b z).1] at e;cases e
 refine I.sD (s':={ s with heap:=h',toks:=t' }) (ch:=fp) rfl ⟨fun b u e n _ c=>k b u c e,fun b u e n _ c=>⟨u.slots,k b u c e⟩,fun b u e n c=>by rw[aA (nT b u e)];exact n,fun b u e c=>⟨u,k b u c e⟩,fun b xs e=>by rw[aA (nH b _ e)];exact e,fun b ob u e=>by rw[aA (nH b _ e)];exact e,fun b ps e=>⟨#[],by rw[aA (nH b _ e),e];simp⟩⟩ (fun b u e=>?_) I.bare (fun b hb=>?_)
 ·by_cases hb:b=T
  ·subst hb
   rw[a8] at e
   cases e
   exact new
  ·rw[aA hb] at e
   refine(I.hok b u e).jU (fun c v hc q=>k c v ?_ q) (fun c q=>by rw[aA (nH c _ q)];exact q) fun c xs q=>by rw[aA (nH c _ q)];exact q
   rcases hc with z | z
   ·rw[z];exact nf b u e
   ·exact nf c _ z
 ·obtain⟨_,g1,_,g3,g4,g5⟩:=hf b hb
  exact⟨g3,g1,g4,g5⟩
theorem Inv.yB {X:Cx} {pins:List (Addr × Obj)} {σ:St} {H:Hp} {s:Shared} {fp:List Addr} {h':Heap} {t':Nat} (I:Inv X pins σ H s) (hf:∀b∈fp,nL X pins H b) (k:∀b u,b∉fp->s.heap.get? b=some u->h'.get? b=some u):Inv X pins σ H { s with heap:=h',toks:=t' }:=by
 have nf:∀b u,H b=some u->b∉fp:=fun b u e z=>by rw[(hf b z).1] at e;cases e
 refine I.sD (s':={ s with heap:=h',toks:=t' }) (ch:=fp) rfl ⟨fun b u e n _ c=>k b u c e,fun b u e n _ c=>⟨u.slots,k b u c e⟩,fun b u e n c=>n,fun b u e c=>⟨u,k b u c e⟩,fun b xs e=>e,fun b ob u e=>e,fun b ps e=>⟨#[],by rw[e];simp⟩⟩ (fun b u e=>?_) I.bare (fun b hb=>?_)
 ·refine(I.hok b u e).jU (fun c v hc q=>k c v ?_ q) (fun c q=>q) fun c xs q=>q
  rcases hc with z | z
  ·rw[z];exact nf b u e
  ·exact nf c _ z
 ·obtain⟨_,g1,_,g3,g4,g5⟩:=hf b hb
  exact⟨g3,g1,g4,g5⟩
noncomputable def Iel (K:PySem.W.Frag) (a:Addr):It:=
 ⟨fun i H=>∃xs x,SqL K H a xs/\xs[i]?=some x,fun i H x H'=>∃p v,x=.ref p/\H p=none/\(∀xs,SqL K H a xs->xs[i]?=some v)/\H'=upd H p (.tup [.int i,v]),fun i H=>∃xs,SqL K H a xs/\xs.length<=i⟩
noncomputable def Iet (K:PySem.W.Frag) (a:Addr):It:=
 ⟨fun i H=>∃xs x,SqT K H a xs/\xs[i]?=some x,fun i H x H'=>∃p v,x=.ref p/\H p=none/\(∀xs,SqT K H a xs->xs[i]?=some v)/\H'=upd H p (.tup [.int i,v]),fun i H=>∃xs,SqT K H a xs/\xs.length<=i⟩
theorem wb {h:Heap} {e it:Addr} {i:Int} {old:Value} (z:IsEnum h e it i old):∃o,h.get? e=some o/\∀v,o.data≠.cell v:=⟨_,z,fun v q=>nomatch q⟩
theorem pR {prog:Program} {w:World} {A:Around} {it:Addr} {fp:List Addr} {n:Nat} {P:Nat->Value->Prop} {St:Nat->Heap->Prop} (D:Draws prog w A.in1 it fp n P St) (e:Addr) (hei:e≠it) (hef:e∉fp) (i:Nat) (s:Shared) (Q:Option Value->Shared->Prop) (E:Value->Shared->Prop) (hi:i<n)
  (hst:(∃old,IsEnum s.heap e it i old)/\St i s.heap)
  (hQ:∀T vals h' tk,(∃t x,P i x/\vals = #[.int i t,x])->s.heap.objs.size<=T->qq h' T vals->((∃x,IsEnumOut h' e it ((i:Int)+1) x T)/\St (i+1) h'/\T≠e/\T≠it)->(∀b o,b∉[e,it]->s.heap.get? b=some o->h'.get? b=some o)->Q (some (.ref T)) { s with heap:=h',toks:=tk }) :
  wpAny (model prog w) A (pyNext (.ref e)) Q E s:=by
 obtain⟨⟨old,he⟩,hs⟩:=hst
 refine wpAny_pyNext_enum_itemD D he hs hi hei hef fun x h1 tk hP ho hs1 hT _ hk=>?_
 refine hQ s.heap.objs.size #[.int i tk,x] h1 (tk+1) ⟨tk,x,hP,rfl⟩ (Nat.le_refl _) ⟨_,hT,⟨rfl,_,rfl⟩,rfl⟩ ⟨⟨_,ho⟩,hs1,Nat.ne_of_gt (Heap.lt_size he),?_⟩ fun b o hb y=>hk b o (fun z=>hb (by simp[z])) (fun z=>hb (by simp[z])) y
 obtain⟨_,y⟩:=D.live _ _ hs
 exact Nat.ne_of_gt (Heap.lt_size y)
theorem xb {P:Program} {w:World} {K:PySem.W.Frag} {elts:List Expr} {k:Nat} {pos:Pos} {a it e:Addr} (hei:e≠it):Turn P w K (.Tuple elts k pos) (Iel K a) [e,it] e (fun i h=>(∃old,IsEnum h e it i old)/\h.IsListIter it a i) where
 mem:=by simp
 obj:=fun i h z b hb=>by
  obtain⟨⟨old,z1⟩,z2⟩:=z
  rcases List.mem_cons.mp hb with rfl | hb
  ·exact wb z1
  ·rw[List.mem_singleton.mp hb]
   obtain⟨o,q,_,d⟩:=z2
   exact⟨o,q,fun v y=>by rw[d] at y;cases y⟩
 keep:=fun i h h' z kk=>⟨let ⟨old,z1⟩:=z.1;⟨old,kk e (by simp) _ z1⟩,z.2.at fun o q=>kk it (by simp) o q⟩
 item:=by
  intro X hP hw hK hc i pins s σ H E I hf st hg
  subst hP hw hK
  obtain⟨xs,x,hq,hx⟩:=hg
  obtain⟨its,rv,p,hz⟩:=I.list hq
  obtain⟨u,hu,ru⟩:=rv.get hx
  have hl:=rv.length
  have plt:a<s.heap.objs.size:=by obtain⟨o,q,_⟩:=p.isList;exact Heap.lt_size q
  have hai:a≠it/\a≠e:=by
   obtain⟨oa,qa,ca,_⟩:=p.isList
   obtain⟨⟨old,z1⟩,oi,qi,ci,_⟩:=st
   exact⟨(fun q=>by rw[q,qi] at qa;cases qa;rw[ci] at ca;injection ca with y;exact absurd y (by decide)),(fun q=>by rw[q,z1] at qa;cases qa;injection ca with y;exact absurd y (by decide))⟩
  have DD:=(Draws.list (prog:=X.prog) (w:=X.w) (A:=X.A.in1) (I.ok.hd hc) it a hai.1 its.toArray)
  have hef0:e∉[it,a]:=by simp;exact⟨hei,fun q=>hai.2 q.symm⟩
  have W:=WalksT.enumerateD (prog:=X.prog) (w:=X.w) (A:=X.A) DD e hei hef0 (by simp)
  refine pR DD e hei hef0 i s _ _ (by rw[List.size_toArray,<- hl];exact(List.getElem?_eq_some_iff.mp hx).1) ⟨st.1,st.2,p.isList⟩ fun T vals h1 tk hv hT ht hm k1=>?_
  obtain⟨t,v,hv1,hv2⟩:=hv
  have ev:v=u:=by
   have:its[i]?=some v:=by simpa using hv1
   rw[hu] at this;exact(Option.some.inj this).symm
  subst ev
  refine⟨.ref T,rfl,W.go elts k pos i T { s with heap:=h1,toks:=tk } _ _ hm fun h2 st2 k2=>?_⟩
  have kk:∀b o,b∉[e,it]->s.heap.get? b=some o->h2.get? b=some o:=fun b o hb q=>k2 b o hb (k1 b o hb q)
  have hT2:qq h2 T vals:=by
   obtain⟨o,q,c⟩:=ht
   exact⟨o,k2 T o (fun z=>W.apart _ _ _ hm z) q,c⟩
  have hn:H T=none:=I.hok.fresh hT
  have nTf:∀b∈[e,it],b≠T:=fun b hb z=>by
   have hlt:b<s.heap.objs.size:=by
    rcases List.mem_cons.mp hb with rfl | hb
    ·obtain⟨old,z1⟩:=st.1;exact Heap.lt_size z1
    ·rw[List.mem_singleton.mp hb];obtain⟨o,q,_⟩:=st.2;exact Heap.lt_size q
   rw[z] at hlt;exact absurd hlt (Nat.not_lt.mpr hT)
  refine⟨.ref T,upd H T (.tup [.int i,x]),I.yielded (t':=tk) hf kk hT ⟨by show 2<=sizeLine;decide,[.int i t,v],.cons ⟨t,rfl⟩ (.cons ru .nil),?_⟩,rfl,⟨T,x,rfl,hn,fun ys hy=>by rw[I.oW hy hq];exact hx,rfl⟩,⟨st2.1,st2.2.1⟩,fun b hb=>by rw[aA (nTf b hb)];exact(hf b hb).1⟩
  rw[hv2] at hT2;exact hT2
 done:=by
  intro X hP hw hK hc i pins s σ H E I hf st hg
  subst hP hw hK
  obtain⟨xs,hq,hx⟩:=hg
  obtain⟨its,rv,p,hz⟩:=I.list hq
  obtain⟨⟨old,z1⟩,z2⟩:=st
  have hl:=rv.length
  exact wpAny_pyNext_enum_end (I.ok.hd hc) z1 z2 p.isList (Array.getElem?_eq_none (by rw[List.size_toArray];omega)) fun h' eb=>⟨rfl,I.yB (t':=s.toks) hf fun b u hb q=>eb b u (fun z=>hb (by simp[z])) q⟩
 self:=fun A i s Q E z q=>by
  obtain⟨⟨old,z1⟩,z2⟩:=z
  exact wpAny_pyIter_enum z1 q
theorem w8 {P:Program} {w:World} {K:PySem.W.Frag} {elts:List Expr} {k:Nat} {pos:Pos} {a it e:Addr} (hei:e≠it):Turn P w K (.Tuple elts k pos) (Iet K a) [e,it] e (fun i h=>(∃old,IsEnum h e it i old)/\h.IsTupleIter it a i) where
 mem:=by simp
 obj:=fun i h z b hb=>by
  obtain⟨⟨old,z1⟩,z2⟩:=z
  rcases List.mem_cons.mp hb with rfl | hb
  ·exact wb z1
  ·rw[List.mem_singleton.mp hb]
   obtain⟨o,q,_,d⟩:=z2
   exact⟨o,q,fun v y=>by rw[d] at y;cases y⟩
 keep:=fun i h h' z kk=>⟨let ⟨old,z1⟩:=z.1;⟨old,kk e (by simp) _ z1⟩,z.2.at fun o q=>kk it (by simp) o q⟩
 item:=by
  intro X hP hw hK hc i pins s σ H E I hf st hg
  subst hP hw hK
  obtain⟨xs,x,hq,hx⟩:=hg
  obtain⟨its,rv,p,hz⟩:=I.tuple hq
  obtain⟨u,hu,ru⟩:=rv.get hx
  have hl:=rv.length
  have plt:a<s.heap.objs.size:=by obtain⟨o,q,_⟩:=(show s.heap.IsTuple a its.toArray from p);exact Heap.lt_size q
  have hai:a≠it/\a≠e:=by
   obtain⟨oa,qa,ca,_⟩:=(show s.heap.IsTuple a its.toArray from p)
   obtain⟨⟨old,z1⟩,oi,qi,ci,_⟩:=st
   exact⟨(fun q=>by rw[q,qi] at qa;cases qa;rw[ci] at ca;injection ca with y;exact absurd y (by decide)),(fun q=>by rw[q,z1] at qa;cases qa;injection ca with y;exact absurd y (by decide))⟩
  have DD:=(Draws.tup (prog:=X.prog) (w:=X.w) (A:=X.A.in1) (I.ok.hd hc) it a hai.1 its.toArray)
  have hef0:e∉[it,a]:=by simp;exact⟨hei,fun q=>hai.2 q.symm⟩
  have W:=WalksT.enumerateD (prog:=X.prog) (w:=X.w) (A:=X.A) DD e hei hef0 (by simp)
  refine pR DD e hei hef0 i s _ _ (by rw[List.size_toArray,<- hl];exact(List.getElem?_eq_some_iff.mp hx).1) ⟨st.1,st.2,(show s.heap.IsTuple a its.toArray from p)⟩ fun T vals h1 tk hv hT ht hm k1=>?_
  obtain⟨t,v,hv1,hv2⟩:=hv
  have ev:v=u:=by
   have:its[i]?=some v:=by simpa using hv1
   rw[hu] at this;exact(Option.some.inj this).symm
  subst ev
  refine⟨.ref T,rfl,W.go elts k pos i T { s with heap:=h1,toks:=tk } _ _ hm fun h2 st2 k2=>?_⟩
  have kk:∀b o,b∉[e,it]->s.heap.get? b=some o->h2.get? b=some o:=fun b o hb q=>k2 b o hb (k1 b o hb q)
  have hT2:qq h2 T vals:=by
   obtain⟨o,q,c⟩:=ht
   exact⟨o,k2 T o (fun z=>W.apart _ _ _ hm z) q,c⟩
  have hn:H T=none:=I.hok.fresh hT
  have nTf:∀b∈[e,it],b≠T:=fun b hb z=>by
   have hlt:b<s.heap.objs.size:=by
    rcases List.mem_cons.mp hb with rfl | hb
    ·obtain⟨old,z1⟩:=st.1;exact Heap.lt_size z1
    ·rw[List.mem_singleton.mp hb];obtain⟨o,q,_⟩:=st.2;exact Heap.lt_size q
   rw[z] at hlt;exact absurd hlt (Nat.not_lt.mpr hT)
  refine⟨.ref T,upd H T (.tup [.int i,x]),I.yielded (t':=tk) hf kk hT ⟨by show 2<=sizeLine;decide,[.int i t,v],.cons ⟨t,rfl⟩ (.cons ru .nil),?_⟩,rfl,⟨T,x,rfl,hn,fun ys hy=>by rw[I.lW hy hq];exact hx,rfl⟩,⟨st2.1,st2.2.1⟩,fun b hb=>by rw[aA (nTf b hb)];exact(hf b hb).1⟩
  rw[hv2] at hT2;exact hT2
 done:=by
  intro X hP hw hK hc i pins s σ H E I hf st hg
  subst hP hw hK
  obtain⟨xs,hq,hx⟩:=hg
  obtain⟨its,rv,p,hz⟩:=I.tuple hq
  obtain⟨⟨old,z1⟩,z2⟩:=st
  have hl:=rv.length
  have pt:s.heap.IsTuple a its.toArray:=p
  have DD:Draws X.prog X.w X.A.in1 it [it,a] i (fun _ _=>True) (fun j h=>j=i/\h.IsTupleIter it a j/\h.IsTuple a its.toArray):={
   live:=fun _ _ z=>let ⟨o,ho,_⟩:=z.2.1;⟨o,ho⟩
   frame:=fun _ _ _ z hk=>⟨z.1,z.2.1.at fun o e=>hk it (by simp) o e,z.2.2.at fun o e=>hk a (by simp) o e⟩
   item:=fun j s Q E hj z hQ=>absurd z.1 (Nat.ne_of_lt hj)
   done:=fun s Q E z hE=>sx (I.ok.hd hc) z.2.1 z.2.2 (Array.getElem?_eq_none (by rw[List.size_toArray];omega)) hE }
  exact wpAny_pyNext_enum_endD DD z1 ⟨rfl,z2,pt⟩ fun h' eb=>⟨rfl,I.yB (t':=s.toks) hf fun b u hb q=>eb b u (fun z=>hb (by simp[z])) q⟩
 self:=fun A i s Q E z q=>by
  obtain⟨⟨old,z1⟩,z2⟩:=z
  exact wpAny_pyIter_enum z1 q
noncomputable def Iu (K:PySem.W.Frag) (tl:TE):TI:=fun σ H R=>tl σ H fun x H1=>∃a,x=.ref a/\(((∃xs,SqL K H1 a xs)/\R (Iel K a) H1)\/((∃xs,SqT K H1 a xs)/\R (Iet K a) H1))
theorem Fe {X:Cx} {elts:List Expr} {kt:Nat} {tp p pos:Pos} {l:Expr} {tl:TE} (hg:Gl X "enumerate") (hm:X.mg "enumerate" = none) (hl:PE X l tl) (hs:starEach [l] X.env=[(false,eval l X.env)]:=by rfl) :
  PI X (.Tuple elts kt tp) (.Call (.Name "enumerate" p) [l] [] pos) (Iu X.K tl):=by
 intro pins s σ H R I h
 have h':FK tl Jk σ H (fun vs H1=>match vs with
  | [x]=>∃a,x=.ref a/\(((∃xs,SqL X.K H1 a xs)/\R (Iel X.K a) H1)\/((∃xs,SqT X.K H1 a xs)/\R (Iet X.K a) H1))
  | _=>False):=h
 refine Call_ (mD I hg hm PyProof.Rows.boot_enumerate (PyProof.Rows.callWith_type1 (thn (fM hl l6 hs pos pins s σ H _ I h') fun us s1 ⟨vs,H1,I1,r1,q1⟩=>?_) hs rfl))
 cases r1 with
 | nil=>exact q1.elim
 | cons r rr=>
  cases rr with
  | cons _ _=>exact q1.elim
  | nil=>
   obtain⟨a,rfl,q⟩:=q1
   cases r
   have fp:∀{h':Heap},∀b∈[s1.heap.objs.size+1,s1.heap.objs.size],nL X pins H1 b:=fun{h'} b hb=>by
    have hb':s1.heap.objs.size<=b:=by
     rcases List.mem_cons.mp hb with z | hb
     ·omega
     ·have:=List.mem_singleton.mp hb;omega
    exact I1.E2 hb' (I1.hok.fresh hb')
   rcases q with⟨⟨xs,hq⟩,q⟩ | ⟨⟨xs,hq⟩,q⟩
   ·obtain⟨its,rv,pl,hz⟩:=I1.list hq
    refine call_enumerate_list pl.isList fun h2 z1 z2 hsz kp=>wpAny_pyIter_enum (s:={ s1 with heap:=h2 }) z1 ?_
    exact⟨s1.heap.objs.size+1,[s1.heap.objs.size+1,s1.heap.objs.size],_,_,H1,rfl,I1.kept (t':=s1.toks) kp,xb (a:=a) (Nat.succ_ne_self _),⟨⟨_,z1⟩,z2⟩,fp (h':=h2),q⟩
   ·obtain⟨its,rv,pl,hz⟩:=I1.tuple hq
    refine IH (show s1.heap.IsTuple a its.toArray from pl) fun h2 z1 z2 hsz kp=>wpAny_pyIter_enum (s:={ s1 with heap:=h2 }) z1 ?_
    exact⟨s1.heap.objs.size+1,[s1.heap.objs.size+1,s1.heap.objs.size],_,_,H1,rfl,I1.kept (t':=s1.toks) kp,w8 (a:=a) (Nat.succ_ne_self _),⟨⟨_,z1⟩,z2⟩,fp (h':=h2),q⟩
noncomputable def qM (nt:Nat) (ix:List Nat) (σ:St):St:=List.replicate nt none++ix.map fun i=>(σ[i]?).join
noncomputable def iS (nt:Nat) (ix:List Nat) (σ σ':St):Prop:=∃ts:St,ts.length=nt/\σ'=ts++ix.map fun i=>(σ[i]?).join
noncomputable abbrev Gs (J:It) (nt:Nat) (ix:List Nat) (σ:St) (tg:TG) (tt:TT) (te:TE) (acc:Addr) (H1:Hp) (Q:VK):Prop:=
 ∃W:Nat->Nat->List V->Hp->Prop,(∃m,W 0 m [] (upd H1 acc (.lst [])))/\∀i m ys H,W i m ys H →
  (J.stop i H/\Q (.ref acc) H)\/(J.go i H/\∀σ0 x H',iS nt ix σ σ0->J.yld i H x H'->tg x σ0 H' fun σ2 Hn=>iS nt ix σ σ2/\tt σ2 Hn fun b H2=>if b=true then te σ2 H2 fun y H3=>
    H3 acc=some (.lst ys)/\ys.length<sizeLine/\∃m',m'<m/\W (i+1) m' (ys++[y]) (upd H3 acc (.lst (ys++[y])))
   else ∃m',m'<m/\W (i+1) m' ys H2)
noncomputable def uE (wi:TI) (nt:Nat) (ix:List Nat) (tg:TG) (tt:TT) (te:TE):TE:=fun σ H Q=>wi σ H fun J H1=>∀acc,H1 acc=none->Gs J nt ix σ tg tt te acc H1 Q
theorem sI {X:Cx} {use:Option (Value->Sem Unit)} {Q2:Value->Shared->Prop} {pins:List (Addr × Obj)} {s:Shared} {σ:St} {H:Hp} {Q:VK} {elt iter tg:Expr} {tn':List Str} {tgr:TG} {ifs:List Expr} {scope osc:Scope} {pos:Pos} {wi:TI} {tt:TT} {te:TE} (ix:List Nat) (N':List Str)
  (hxe:X.xe=fun _ _=>False) (hc:X.calm=true) (ho:X.env.scope=osc) (hN:N'=tn'++ix.map fun i=>(X.N[i]?).getD ("" : Str)) (hnd:N'.Nodup)
  (hall:(∀y∈scope.names,y.2=.free->osc.names.lookup y.1=some .cell)/\(∀y∈scope.names,y.2≠.cell)/\scope.kind=.function/\(∀y∈scope.names,y.2=.local->scope.names.lookup y.1=some .local)/\(∀y∈N'.drop tn'.length,scope.names.lookup y=some .free))
  (hi:PI X tg iter wi) (hg:∀cl C az aG fp,PG (bf X scope cl C az aG fp N') tg tgr)
  (ht:∀cl C az aG fp,PTs (bf X scope cl C az aG fp N') ifs tt)
  (he:∀cl C az aG fp,PE (bf X scope cl C az aG fp N') elt te)
  (hs:∀x,foldedSetIterable iter X.env x=pure x) (I:Inv X pins σ H s) (h:uE wi tn'.length ix tgr tt te σ H Q)
  (hfin:∀(acc C:Addr) (H5:Hp) (s5:Shared) (o:Obj),Inv X (pins++[(C,o)]) σ H5 s5->(∀x c,X.env.cells.lookup x=some c->c≠C)->X.az.heap.objs.size<=C->(∀p∈X.pn++pins,p.1≠C)->(∃m,∀h':Heap,h'.get? C=some o->h'.Ns C m)->Q (.ref acc) H5->compPost (model X.prog X.w) X.A X.xe use Q2 (.ref acc) C (.ok .next) s5) :
  wpAny (model X.prog X.w) X.A (comprehension (.ListComp elt [⟨tg,iter,ifs,0⟩] scope pos) scope X.env (firstIterPos [⟨tg,iter,ifs,0⟩] pos) (newList []) false (eval iter X.env) use) Q2 X.xe s:=by
 obtain⟨hfr,hcell,hkind,hnames,hcap⟩:=hall
 subst ho
 have outc:∀y∈scope.names,y.2=.free->X.env.kindOf y.1=some .cell:=fun y hy q=>hfr y hy q
 obtain⟨cl,hclos,hcl1,hcl2⟩:=j6 (env:=X.env) (scope:=scope) fun y hy q=>I.ok.has y.1 (.inl (outc y hy q))
 refine wpAny_comprehension_free (use:=use) rfl hs hclos hkind hnames (thn (hi pins s σ H _ I h) fun v s1 h1=>thn h1 fun itv s2 h2=>?_)
 obtain⟨it,fp,tn,J,H2,e,I2,T,st2,f2,rest⟩:=h2
 subst e
 have hf2:H2 s2.heap.objs.size=none:=I2.hok.fresh (Nat.le_refl _)
 obtain⟨W,⟨m0,w0⟩,turn⟩:=rest s2.heap.objs.size hf2
 -- the list
 refine wpAny_newObj_type ?_
 have I3:Inv X pins σ (upd H2 s2.heap.objs.size (.lst [])) { s2 with heap:=s2.heap.push { cls:=.type "list", dict:=none,data:=.seq ([]:List Value).toArray } }:=I2.Ek (its:=[]) (t':=s2.toks) .nil (Nat.zero_le _)
 have keep3:∀b o,s2.heap.get? b=some o->(s2.heap.push { cls:=.type "list", dict:=none,data:=.seq ([]:List Value).toArray }).get? b=some o:=fun b o q=>Heap.get?_push_of_some _ q
 have fp3:∀b∈fp,∃o,s2.heap.get? b=some o/\∀v,o.data≠.cell v:=T.obj _ _ st2
 have st3:tn 0 (s2.heap.push { cls:=.type "list", dict:=none,data:=.seq ([]:List Value).toArray }):=T.keep _ _ _ st2 fun b _ o q=>keep3 b o q
 have fpn:∀b∈fp,(upd H2 s2.heap.objs.size (HO.lst [])) b=none:=fun b hb=>by
  obtain⟨o,q,_⟩:=fp3 b hb
  rw[aA (Nat.ne_of_lt (Heap.lt_size q))]
  exact(f2 b hb).1
 revert I3 keep3 st3 fpn w0
 generalize hS3:({ s2 with heap:=s2.heap.push { cls:=.type "list", dict:=none,data:=.seq ([]:List Value).toArray } }:Shared)=s3
 generalize hH3:upd H2 s2.heap.objs.size (HO.lst [])=H3
 intro w0 I3 keep3 st3 fpn
 have acc3:H3 s2.heap.objs.size=some (.lst []):=by rw[<- hH3];exact a8
 generalize s2.heap.objs.size=acc at *
 have e3:s2.heap.push { cls:=.type "list", dict:=none,data:=.seq ([]:List Value).toArray }=s3.heap:=by rw[<- hS3]
 have keep3':∀b o,s2.heap.get? b=some o->s3.heap.get? b=some o:=fun b o q=>by rw[<- e3];exact keep3 b o q
 have st3':tn 0 s3.heap:=by rw[<- e3];exact st3
 refine wpAny_newFunctionEnv hcell (by intro y hy;simp at hy) (fun h₁ hns₁ hsb₁=>?_) hkind
 have hC:s3.heap.objs.size=s3.heap.objs.size:=rfl
 have keep4:∀b o,s3.heap.get? b=some o->h₁.get? b=some o:=fun b o q=>hsb₁.extBut b o (Nat.ne_of_lt (Heap.lt_size q)) (Heap.get?_push_of_some _ q)
 have fpC:∀b∈fp,b≠s3.heap.objs.size:=fun b hb=>by
  obtain⟨o,q,_⟩:=fp3 b hb
  exact Nat.ne_of_lt (Heap.lt_size (keep3' b o q))
 -- the block's context
 generalize hX':bf X scope cl s3.heap.objs.size s3 H3 fp N'=X'
 have hXp:X'.prog=X.prog:=by rw[<- hX'];rfl
 have hXw:X'.w=X.w:=by rw[<- hX'];rfl
 have hXK:X'.K=X.K:=by rw[<- hX'];rfl
 have hXA:X'.A=X.A:=by rw[<- hX'];rfl
 have hXe:X'.env=compEnvC scope cl s3.heap.objs.size X.env:=by rw[<- hX'];rfl
 have hXc:X'.calm=true:=by rw[<- hX'];exact hc
 have hXx:X'.xe=fun _ _=>False:=by rw[<- hX'];exact hxe
 have hXf:X'.fs=frs X.stack:=by rw[<- hX'];rfl
 have hXex:X'.ex=fp:=by rw[<- hX'];rfl
 have hXN:X'.N=N':=by rw[<- hX'];rfl
 have hXs:X'.az=s3:=by rw[<- hX'];rfl
 have hXH:X'.aG=H3:=by rw[<- hX'];rfl
 have hXpn:X'.pn=[]:=by rw[<- hX'];rfl
 have okX:X'.Ok:=by
  rw[<- hX']
  refine⟨I3.ok.mod,hkind,I3.ok.glob,I3.ok.blt,Nat.le_refl _,fun a b c p q=>I3.ok.inj a b c (hcl1 a c p) (hcl1 b c q),fun y hy=>?_,fun _ _ z=>(by cases z),I3.ok.hd,I3.ok.frames,.inl rfl,fun b hb=>⟨fpC b hb,fun y c p=>(f2 b hb).2.2.2.2.1 y c (hcl1 y c p)⟩,
   I3.bs,Nat.le_trans I3.ok.bsz I3.sz,fun b o p hb=>?_,fun b hb z=>?_,I3.stack,I3.jM⟩
  ·have hy':(relabel scope X.env).names.lookup y=some .cell\/(relabel scope X.env).names.lookup y=some .free:=hy
   have free:scope.names.lookup y=some .free->∃c,cl.lookup y=some c:=fun q=>hcl2 y (lookup_mem q)
   rcases hy' with q | q
   ·rcases dY q with z | ⟨z,_⟩
    ·exact absurd rfl (hcell _ (lookup_mem z))
    ·exact free z
   ·rcases dY q with z | ⟨_,z⟩
    ·exact free z
    ·cases z
  ·rcases(f2 b hb).2.2.2.1 with z | z
   ·exact I3.ok.qv b o p z
   ·exact absurd (Nat.lt_of_lt_of_le (Heap.lt_size p) (Nat.le_trans I3.ok.bsz z)) (Nat.lt_irrefl _)
  ·rcases List.mem_cons.mp (I3.eX b z) with q | q
   ·exact(f2 b hb).2.1 q
   ·exact(f2 b hb).2.2.1 q
 have I4:∀tk,Inv X' [] (qM tn'.length ix σ) H3 { s3 with heap:=h₁,toks:=tk }:=fun tk=>by
  have hloc:=I3.loc
  refine⟨okX,by rw[hXs],I3.bare,?_,⟨fun y=>([]:List (Str × Value)).reverse.lookup y,by rw[hXe];exact hns₁,fun i y v e1 e2 e3=>?_⟩,fun y c p=>?_,?_,fun y c p=>?_,fun p hp=>?_,?_,?_⟩
  ·rw[hXf,hXex,hXH,hXs];exact Un.kept keep4
  ·rw[hXN,hN] at e1
   by_cases hit':i<tn'.length
   ·exfalso
    unfold qM at e2
    rw[List.getElem?_append_left (by simpa using hit'),List.getElem?_replicate,if_pos hit'] at e2
    cases e2
   ·have e10:N'[i]?=some y:=by rw[hN];exact e1
    obtain⟨j,rfl⟩:∃j,i=tn'.length+j:=⟨i - tn'.length,by omega⟩
    have e1':(ix.map fun i=>(X.N[i]?).getD ("" : Str))[j]?=some y:=by
     rw[List.getElem?_append_right (by omega)] at e1
     rw[show tn'.length+j - tn'.length=j by omega] at e1
     exact e1
    have e2':(ix.map fun i=>(σ[i]?).join)[j]?=some (some v):=by
     unfold qM at e2
     rw[List.getElem?_append_right (by simp)] at e2
     simpa using e2
    rw[List.getElem?_map] at e1' e2'
    cases hj:ix[j]? with
    | none=>rw[hj] at e1';cases e1'
    | some i0=>
     rw[hj] at e1' e2'
     have e1'':(X.N[i0]?).getD ("" : Str)=y:=by simpa using e1'
     have e2'':(σ[i0]?).join=some v:=by simpa using e2'
     have hsv:σ[i0]?=some (some v):=by
      cases q:σ[i0]? with
      | none=>rw[q] at e2'';cases e2''
      | some z=>rw[q] at e2'';have:z=some v:=by simpa using e2''
                rw[this]
     have hlt:i0<X.N.length:=by
      have:=(List.getElem?_eq_some_iff.mp hsv).1
      rw[I3.len] at this;exact this
     have hNy:X.N[i0]?=some y:=by
      rw[List.getElem?_eq_getElem hlt] at e1'' ⊢
      simpa using e1''
     have hyt:y∈N'.drop tn'.length:=by
      refine List.mem_of_getElem? (i:=j) ?_
      rw[List.getElem?_drop];exact e10
     have hyf:=hcap y hyt
     have hyc:=outc (y,.free) (lookup_mem hyf) rfl
     obtain⟨m,hn,hl⟩:=hloc
     obtain⟨u,r,l⟩:=hl i0 y v hNy hsv (.inr (.inl hyc))
     refine⟨u,r,?_⟩
     rcases l with⟨k1,_⟩ | ⟨_,c,p,z⟩
     ·have hyc':X.env.kindOf y=some .cell:=hyc
      rw[k1] at hyc';cases hyc'
     ·obtain⟨c',p'⟩:=hcl2 y (lookup_mem hyf)
      have pc:c'=c:=by
       have:=hcl1 y c' p'
       rw[p] at this;cases this;rfl
      subst pc
      refine .inr ⟨.inl ?_,c',by rw[hXe];exact p',?_⟩
      ·rw[hXe];exact dj I3.ok.kind hyf hyc
      ·obtain⟨o,q1,q2⟩:=z
       exact⟨o,keep4 c' o q1,q2⟩
  ·rw[hXe] at p
   obtain⟨v,o,q1,q2⟩:=I3.cell y c (hcl1 y c p)
   exact⟨v,o,keep4 c o q1,q2⟩
  ·rw[hXe];exact I3.hok.fresh (Nat.le_refl _)
  ·rw[hXe] at p;exact I3.di y c (hcl1 y c p)
  ·rw[hXpn] at hp;cases hp
  ·rw[hXp,hXw];exact I3.hok.kept keep4
  ·rw[hXN,hN];simp[qM]
 -- the loop
 have stat:∀{H':Hp},(∀b∈fp,H' b=none)->∀b∈fp,nL X' [] H' b:=fun hn b hb=>by
  refine⟨hn b hb,by rw[hXe];exact fpC b hb,?_,.inl (by rw[hXex];exact hb),fun y c p=>?_,fun p hp=>by rw[hXpn] at hp;cases hp⟩
  ·rw[hXf];intro z
   rcases List.mem_cons.mp (I3.eX b z) with q | q
   ·exact(f2 b hb).2.1 q
   ·exact(f2 b hb).2.2.1 q
  ·rw[hXe] at p;exact(f2 b hb).2.2.2.2.1 y c (hcl1 y c p)
 have fin:∀{H5:Hp} {s5:Shared} {σ5:St},Inv X' [] σ5 H5 s5->Q (.ref acc) H5->compPost (model X.prog X.w) X.A X.xe use Q2 (.ref acc) s3.heap.objs.size (.ok .next) s5:=fun{H5 s5 σ5} I5 q=>by
  obtain⟨m,hn,_⟩:=I5.loc
  rw[hXe] at hn
  have hn':s5.heap.Ns s3.heap.objs.size m:=hn
  obtain⟨oC,esC,epC,hC1,hC2,hC3⟩:=hn'
  have u5:=I5.base
  rw[hXf,hXex,hXH,hXs] at u5
  have fr:H5 s3.heap.objs.size=none:=by have:=I5.free;rw[hXe] at this;exact this
  have hok5:=I5.hok
  rw[hXp,hXw] at hok5
  have hos:s5.os=s3.os:=by have:=I5.os;rw[hXs] at this;exact this
  have IX:Inv X pins σ H5 s5:=I3.sD (s':=s5) (ch:=fp) hos u5 hok5 I5.bare (fun b hb=>by
   obtain⟨g0,g1,g2,g3,g4,g5⟩:=f2 b hb
   exact⟨g3,g1,g4,g5⟩)
  have cC:∀x c,X.env.cells.lookup x=some c->c≠s3.heap.objs.size:=fun x c z e=>by
   obtain⟨v,q⟩:=I3.cell x c z
   exact absurd q.lt (by rw[e];exact Nat.lt_irrefl _)
  have pC:∀p∈X.pn++pins,p.1≠s3.heap.objs.size:=fun p hp e=>by
   have:=Heap.lt_size (I3.pin p hp).1
   rw[e] at this
   exact Nat.lt_irrefl _ this
  refine hfin acc s3.heap.objs.size H5 s5 oC (IX.kQ fun p hp=>?_) cC I3.sz pC ⟨m,fun h' z=>⟨oC,esC,epC,z,hC2,hC3⟩⟩ q
  rcases List.mem_append.mp hp with z | z
  ·exact IX.pin p (List.mem_append_right _ z)
  ·have e:=List.mem_singleton.mp z
   subst e
   refine⟨hC1,fr,Nat.ne_of_gt I3.lt,I3.Ho (Nat.le_refl _),fun v e=>?_⟩
   have e':oC.data=.cell v:=e
   rw[hC2] at e';cases e'
 have loop:∀tk,codeAny (model X.prog X.w) X.A (.compLoop (.ListComp elt [⟨tg,iter,ifs,0⟩] scope pos) 0 (.ref it) (.ref acc) (compEnvC scope cl s3.heap.objs.size X.env))
   (compPost (model X.prog X.w) X.A X.xe use Q2 (.ref acc) s3.heap.objs.size) { s3 with heap:=h₁,toks:=tk }:=fun tk=>by
  refine uP (fun n s'=>∃i ys σ' H',Inv X' [] σ' H' s'/\iS tn'.length ix σ σ'/\tn i s'.heap/\(∀b∈fp,H' b=none)/\W i n ys H') (fun n s5 h5=>?_) m0
   ⟨0,[],qM tn'.length ix σ,H3,I4 tk,⟨_,List.length_replicate,rfl⟩,T.keep _ _ _ st3' fun b _ o q=>keep4 b o q,fpn,w0⟩
  obtain⟨i,ys,σ5,H5,I5,hσ,st5,fr5,w5⟩:=h5
  rcases turn i n ys H5 w5 with⟨stop,q⟩ | ⟨go,step⟩
  ·have d:=T.done X' hXp hXw hXK hXc i [] s5 σ5 H5 (fun _ _=>False) I5 (stat fr5) st5 stop
   rw[hXA] at d
   refine thn d fun r s6 ⟨hr,I6⟩=>?_
   subst hr
   exact fin I6 q
  ·have d:=T.item X' hXp hXw hXK hXc i [] s5 σ5 H5 (fun _ _=>False) I5 (stat fr5) st5 go
   rw[hXA] at d
   refine thn d fun r s6 ⟨u,hr,h6⟩=>?_
   subst hr
   refine thn h6 fun _ s7 ⟨z,H7,I7,r7,y7,st7,fr7⟩=>?_
   have I7':=I7.pinned (stat fr7) (T.obj _ _ st7)
   have again:∀{H9:Hp} {s9:Shared} {ys9:List V} {σ9:St},Inv X' ([]++jr fp s7.heap) σ9 H9 s9->iS tn'.length ix σ σ9->(∃m',m'<n/\W (i+1) m' ys9 H9)->∃m',m'<n/\∃i ys σ' H',Inv X' [] σ' H' s9/\iS tn'.length ix σ σ'/\tn i s9.heap/\(∀b∈fp,H' b=none)/\W i m' ys H':=fun{H9 s9 ys9 σ9} I9 c9 ⟨m',hm,w9⟩=>by
    refine⟨m',hm,i+1,ys9,_,H9,I9.hX,c9,T.keep _ _ _ st7 fun b hb o e=>(I9.pin (b,o) (List.mem_append_right _ (List.mem_append_right _ (cU hb e)))).1,fun b hb=>?_,w9⟩
    obtain⟨o,e,_⟩:=T.obj _ _ st7 b hb
    exact(I9.pin (b,o) (List.mem_append_right _ (List.mem_append_right _ (cU hb e)))).2.1
   have ht':=ht cl s3.heap.objs.size s3 H3 fp
   have he':=he cl s3.heap.objs.size s3 H3 fp
   have hg':=hg cl s3.heap.objs.size s3 H3 fp
   rw[hX'] at ht' he' hg'
   rw[<- hXe]
   have a0:=hg' _ s7 σ5 H7 z u _ I7' r7 (step σ5 z H7 hσ y7)
   rw[hXp,hXw,hXA,hXx] at a0
   refine thn a0 fun _ s8 ⟨σ8,H8,I8,c8,q8⟩=>?_
   have a1:=ht' _ s8 _ H8 _ I8 q8
   rw[hXp,hXw,hXA,hXx] at a1
   refine thn a1 fun b s9 ⟨H9,I9,q9⟩=>?_
   cases b with
   | false=>exact again I9 c8 q9
   | true=>
    have a2:=he' _ s9 _ H9 _ I9 q9
    rw[hXp,hXw,hXA,hXx] at a2
    refine thn a2 fun yv s10 ⟨y,H10,I10,r10,q1,q2,q3⟩=>?_
    have a3:=jL (X:=X') _ s10 _ H10 (.ref acc) [y] (.ref acc) [yv] (fun _ Hq=>∃m',m'<n/\W (i+1) m' (ys++[y]) Hq) I10 rfl (.cons r10 .nil) ⟨acc,ys,y,rfl,rfl,q1,q2,q3⟩
    rw[hXp,hXw,hXA,hXx] at a3
    exact thn a3 fun _ s11 ⟨_,H11,I11,_,q11⟩=>again I11 c8 q11
 refine codeAny_compStart_list (loop _) ?_
 exact T.self _ 0 _ _ _ (T.keep _ _ _ st3' fun b _ o q=>keep4 b o q) (loop _)
section
variable {X:Cx} {elt iter tg:Expr} {tn':List Str} {tgr:TG} {ifs:List Expr} {scope osc:Scope} {pos:Pos} {wi:TI} {tt:TT} {te:TE}
theorem C3 (ix:List Nat) (tn' N':List Str)
  (hxe:X.xe=fun _ _=>False) (hc:X.calm=true) (ho:X.env.scope=osc) (hN:N'=tn'++ix.map fun i=>(X.N[i]?).getD ("" : Str)) (hnd:N'.Nodup)
  (hall:(∀y∈scope.names,y.2=.free->osc.names.lookup y.1=some .cell)/\(∀y∈scope.names,y.2≠.cell)/\scope.kind=.function/\(∀y∈scope.names,y.2=.local->scope.names.lookup y.1=some .local)/\(∀y∈N'.drop tn'.length,scope.names.lookup y=some .free))
  (hi:PI X tg iter wi) (hg:∀cl C az aG fp,PG (bf X scope cl C az aG fp N') tg tgr)
  (ht:∀cl C az aG fp,PTs (bf X scope cl C az aG fp N') ifs tt)
  (he:∀cl C az aG fp,PE (bf X scope cl C az aG fp N') elt te)
  (hs:∀x,foldedSetIterable iter X.env x=pure x:=by intro _;rfl) :
  PE X (.ListComp elt [⟨tg,iter,ifs,0⟩] scope pos) (uE wi tn'.length ix tgr tt te):=by
 intro pins s σ H Q I h
 have e:eval (.ListComp elt [⟨tg,iter,ifs,0⟩] scope pos) X.env=comprehension (.ListComp elt [⟨tg,iter,ifs,0⟩] scope pos) scope X.env (firstIterPos [⟨tg,iter,ifs,0⟩] pos) (newList []) false (eval iter X.env) none:=by
  rw[eval_ListComp];rfl
 rw[e]
 refine sI (use:=none) (Q2:=EP X pins σ Q) ix N' hxe hc ho hN hnd hall hi hg ht he hs I h fun acc C H5 s5 o I5 cC hC pC hm q=>?_
 obtain⟨m,hm⟩:=hm
 exact⟨m,hm _ (I5.pin (C,o) (List.mem_append_right _ (List.mem_append_right _ (List.mem_singleton.mpr rfl)))).1,fun h' hs'=>⟨.ref acc,H5,I5.Hx cC hC pC hs',rfl,q⟩⟩
theorem vJ {y:Str} {py spos:Pos} {i:Nat} (ix:List Nat) (tn' N':List Str)
  (hxe:X.xe=fun _ _=>False) (hc:X.calm=true) (ho:X.env.scope=osc) (hN:N'=tn'++ix.map fun i=>(X.N[i]?).getD ("" : Str)) (hnd:N'.Nodup)
  (hall:(∀y∈scope.names,y.2=.free->osc.names.lookup y.1=some .cell)/\(∀y∈scope.names,y.2≠.cell)/\scope.kind=.function/\(∀y∈scope.names,y.2=.local->scope.names.lookup y.1=some .local)/\(∀y∈N'.drop tn'.length,scope.names.lookup y=some .free))
  (hi:PI X tg iter wi) (hg:∀cl C az aG fp,PG (bf X scope cl C az aG fp N') tg tgr)
  (ht:∀cl C az aG fp,PTs (bf X scope cl C az aG fp N') ifs tt)
  (he:∀cl C az aG fp,PE (bf X scope cl C az aG fp N') elt te)
  (hNN:X.N.Nodup) (hy:X.N[i]?=some y) (hl:X.env.scope.names.lookup y=some .local)
  (hsw:swapsWith (.ListComp elt [⟨tg,iter,ifs,0⟩] scope pos) (some (.Name y py)) spos.line X.env=pure true:=by rfl)
  (hs:∀x,foldedSetIterable iter X.env x=pure x:=by intro _;rfl) :
  PS X (.Assign [.Name y py] (.ListComp elt [⟨tg,iter,ifs,0⟩] scope pos) spos) (DT (uE wi tn'.length ix tgr tt te) (fj i)):=by
 intro pins s σ H D I h
 rw[exec_Assign_Name_used _ _ _ _ hsw]
 refine wpAny_bind (wpAny_standAt ?_)
 show wpAny _ _ (evalThenUse (.ListComp elt [⟨tg,iter,ifs,0⟩] scope pos) X.env (assign (.Name y py) X.env) >>= fun _=>pure Flow.next) _ _ _
 refine wpAny_bind ?_
 show wpAny _ _ (comprehension (.ListComp elt [⟨tg,iter,ifs,0⟩] scope pos) scope X.env (firstIterPos [⟨tg,iter,ifs,0⟩] pos) (newList []) false (eval iter X.env) (some (assign (.Name y py) X.env)) >>= fun _=>pure ()) _ _ _
 refine wpAny_bind (sI (use:=some (assign (.Name y py) X.env)) ix N' hxe hc ho hN hnd hall hi hg ht he hs I h fun acc C H5 s5 o I5 cC hC pC hm q=>?_)
 obtain⟨m,hm⟩:=hm
 refine wpAny_assign_Name (fY (i:=i) (v:=.ref acc) I5 hNN hy (.inl hl) rfl (fun s6 I6=>?_) (.inr hl))
 refine⟨m,hm _ (I6.pin (C,o) (List.mem_append_right _ (List.mem_append_right _ (List.mem_singleton.mpr rfl)))).1,fun h' hs'=>?_⟩
 exact wpAny_pure (wpAny_pure ⟨_,H5,I6.Hx cC hC pC hs',q⟩)
end
section
variable {κ:Type} [DecidableEq κ]
noncomputable def ki (kvs:List (κ × V)) (k:κ):Option V:=(kvs.find? fun kv=>decide (kv.1=k)).map (·.2)
noncomputable def putK (kvs:List (κ × V)) (k:κ) (v:V):List (κ × V):=
 if (kvs.any fun kv=>decide (kv.1=k))=true then kvs.map (fun kv=>if kv.1=k then (kv.1,v) else kv) else kvs++[(k,v)]
theorem kW {p:κ × V} {r:List (κ × V)} {k:κ} (e:p.1=k):ki (p::r) k=some p.2:=by simp[ki,List.find?_cons,e]
theorem lL {p:κ × V} {r:List (κ × V)} {k:κ} (e:¬ p.1=k):ki (p::r) k=ki r k:=by simp[ki,List.find?_cons,e]
theorem vk (k:κ):∀kvs:List (κ × V),(kvs.any fun kv=>decide (kv.1=k))=(ki kvs k).isSome
 | []=>rfl
 | p::r=>by
  rw[List.any_cons]
  by_cases e:p.1=k
  ·simp only[kW e,decide_eq_true e,Bool.true_or,Option.isSome_some]
  ·rw[lL e,decide_eq_false e,Bool.false_or];exact vk k r
theorem mQ (kvs:List (κ × V)) (k:κ) (v:V):(putK kvs k v).length<=kvs.length+1:=by
 unfold putK
 split
 ·rw[List.length_map];omega
 ·rw[List.length_append,List.length_cons,List.length_nil];omega
theorem my.mI {o:Option V} {u:Option Value} (r:my o u):o.isSome=u.isSome:=by
 cases o with
 | none=>cases u with
  | none=>rfl
  | some _=>exact(show False from r).elim
 | some _=>cases u with
  | none=>exact(show False from r).elim
  | some _=>rfl
theorem KV.val {kvs:List (κ × V)} {vs:List (κ × Value)} (r:KV kvs vs) (k:κ):my (ki kvs k) (valueAt vs k):=by
 unfold KV at r
 induction r with
 | nil=>exact True.intro
 | @cons p q ps qs h t ih=>
  obtain⟨h1,h2⟩:=h
  by_cases e:p.1=k
  ·have e':q.1=k:=h1.symm.trans e
   have b:valueAt (q::qs) k=some q.2:=by simp[valueAt,List.find?_cons,e']
   rw[kW e,b];exact h2
  ·have e':¬ q.1=k:=fun z=>e (h1.trans z)
   have b:valueAt (q::qs) k=valueAt qs k:=by simp[valueAt,List.find?_cons,e']
   rw[lL e,b];exact ih
theorem KV.any {kvs:List (κ × V)} {vs:List (κ × Value)} (r:KV kvs vs) (k:κ):(kvs.any fun kv=>decide (kv.1=k))=vs.any fun kv=>decide (kv.1=k):=by
 unfold KV at r
 induction r with
 | nil=>rfl
 | cons h t ih=>rw[List.any_cons,List.any_cons,ih,h.1]
theorem KV.zo {kvs:List (κ × V)} {vs:List (κ × Value)} (r:KV kvs vs) (k:κ) {y:V} {u:Value} (ry:RelV y u) :
  KV (kvs.map fun kv=>if kv.1=k then (kv.1,y) else kv) (vs.map fun kv=>if kv.1=k then (kv.1,u) else kv):=by
 unfold KV at r ⊢
 induction r with
 | nil=>exact .nil
 | @cons p q ps qs h t ih=>
  rw[List.map_cons,List.map_cons]
  refine .cons ?_ ih
  obtain⟨h1,h2⟩:=h
  by_cases e:p.1=k
  ·rw[if_pos e,if_pos (h1.symm.trans e)];exact⟨h1,ry⟩
  ·rw[if_neg e,if_neg (fun z=>e (h1.trans z))];exact⟨h1,h2⟩
theorem KV.put {kvs:List (κ × V)} {vs:List (κ × Value)} (r:KV kvs vs) (k:κ) {y:V} {u:Value} (ry:RelV y u):KV (putK kvs k y) (stored vs k u):=by
 unfold putK stored
 rw[r.any k]
 by_cases e:(vs.any fun kv=>decide (kv.1=k))=true
 ·rw[if_pos e,if_pos e];exact r.zo k ry
 ·rw[if_neg e,if_neg e];exact Paired.snoc r ⟨rfl,ry⟩
theorem KV.length {kvs:List (κ × V)} {vs:List (κ × Value)} (r:KV kvs vs):kvs.length=vs.length:=Paired.length r
end
theorem yO {P:Program} {w:World} {k:Key} {u:Value} (r:RelV (kV k) u):(cO P w).is k u=true:=by
 cases k with
 | inl i=>obtain⟨t,e⟩:=(show ∃t,u=Value.int i t from r);subst e;exact vL P w i t
 | inr x=>obtain⟨t,e⟩:=(show ∃t,u=Value.str x t from r);subst e;exact uV P w x t
theorem rD {P:Program} {w:World}:∀{ks:List Key} {us:List Value},Vals (ks.map kV) us->ItemsAre (cO P w) ks us
 | [],_,r=>by rw[List.map_nil] at r;cases r;exact .nil
 | k::ks,_,r=>by
  rw[List.map_cons] at r
  cases r with
  | cons h t=>exact .cons (yO h) (rD t)
noncomputable abbrev KT (H:Hp):List (List Key × V)->List (List Key × Addr × Value)->Prop:=Paired fun p q=>p.1=q.1/\H q.2.1=some (.tup (p.1.map kV))/\RelV p.2 q.2.2
theorem KT.val {H:Hp} {kvs:List (List Key × V)} {xs:List (List Key × Addr × Value)} (r:KT H kvs xs) (k:List Key):my (ki kvs k) ((atKey xs k).map (·.2)):=by
 induction r with
 | nil=>exact True.intro
 | @cons p q ps qs h t ih=>
  obtain⟨h1,_,h2⟩:=h
  by_cases e:p.1=k
  ·have e':q.1=k:=h1.symm.trans e
   have b:atKey (q::qs) k=some q.2:=by simp[atKey,List.find?_cons,e']
   rw[kW e,b];exact h2
  ·have e':¬ q.1=k:=fun z=>e (h1.trans z)
   have b:atKey (q::qs) k=atKey qs k:=by simp[atKey,List.find?_cons,e']
   rw[lL e,b];exact ih
theorem KT.zo {H:Hp} {kvs:List (List Key × V)} {xs:List (List Key × Addr × Value)} (r:KT H kvs xs) (k:List Key) {y:V} {u:Value} (ry:RelV y u) :
  KT H (kvs.map fun kv=>if kv.1=k then (kv.1,y) else kv) (xs.map (putAt k u)):=by
 induction r with
 | nil=>exact .nil
 | @cons p q ps qs h t ih=>
  rw[List.map_cons,List.map_cons]
  refine .cons ?_ ih
  obtain⟨h1,h2,h3⟩:=h
  unfold putAt
  by_cases e:p.1=k
  ·rw[if_pos e,if_pos (h1.symm.trans e)];exact⟨h1,h2,ry⟩
  ·rw[if_neg e,if_neg (fun z=>e (h1.trans z))];exact⟨h1,h2,h3⟩
theorem KT.put {H:Hp} {kvs:List (List Key × V)} {xs:List (List Key × Addr × Value)} (r:KT H kvs xs) (k:List Key) {b:Addr} {y:V} {u:Value} (hb:H b=some (.tup (k.map kV))) (ry:RelV y u) :
  KT H (putK kvs k y) (storedH xs k b u):=by
 have e:(kvs.any fun kv=>decide (kv.1=k))=(atKey xs k).isSome:=by
  rw[vk,(r.val k).mI,Option.isSome_map]
 unfold putK storedH
 rw[e]
 by_cases q:(atKey xs k).isSome=true
 ·rw[if_pos q,if_pos q];exact r.zo k ry
 ·rw[if_neg q,if_neg q];exact Paired.snoc r ⟨rfl,hb,ry⟩
theorem KT.keeps {H H':Hp} {kvs:List (List Key × V)} {xs:List (List Key × Addr × Value)} (r:KT H kvs xs) (ht:∀b ys,H b=some (.tup ys)->H' b=some (.tup ys)):KT H' kvs xs:=
 Paired.qS r fun _ _ z=>⟨z.1,ht _ _ z.2.1,z.2.2⟩
section
variable {P:Program} {w:World} {H:Hp} {h:Heap} {a:Addr}
theorem Fp {u:HO} (ok:HOk P w H h) (e:Rd H a u):bI P w H h a u:=e.ok ok
theorem yd {kvs:List (Key × V)} (ok:HOk P w H h) (e:Rd H a (.dK kvs)):kvs.length<=sizeLine/\(a == sysModules)=false/\∃vs,KV kvs vs/\h.DictOf (cO P w) a vs:=
 show bI P w H h a (.dK kvs) from Fp ok e
theorem Iv {kvs:List (Key × V)} (ok:HOk P w H h) (e:H a=some (.dK kvs)):kvs.length<=sizeLine/\(a == sysModules)=false/\∃vs,KV kvs vs/\h.DictOf (cO P w) a vs:=yd ok (.inl e)
theorem sR {ks:List Key} (ok:HOk P w H h) (e:H a=some (.tup (ks.map kV))):(tupleKind (cO P w)).is h ks a:=by
 obtain⟨_,its,r,o,h1,⟨h2,n,h3⟩,_⟩:=(show bI P w H h a (.tup (ks.map kV)) from ok a _ e)
 exact⟨o,its.toArray,n,h1,h2,h3,by simpa using rD r⟩
theorem yV {kvs:List (List Key × V)} (ok:HOk P w H h) (e:Rd H a (.dT kvs)):kvs.length<=sizeLine/\(a == sysModules)=false ∧
  ∃xs,KT H kvs xs/\h.DictOfH (tupleKind (cO P w)) a xs:=by
 obtain⟨z,y,xs,r,o,es,ep,h1,h2,h3,h4,h5⟩:=(show bI P w H h a (.dT kvs) from Fp ok e)
 refine⟨z,y,xs,r,o,es,ep,h1,h2,h3,h4,fun x hx=>?_,h5⟩
 have all:∀{l:List (List Key × V)} {m:List (List Key × Addr × Value)},KT H l m->∀x∈m,(tupleKind (cO P w)).is h x.1 x.2.1:=by
  intro l m q
  induction q with
  | nil=>intro x hx;exact nomatch hx
  | @cons p q ps qs hq t ih=>
   intro x hx
   rcases List.mem_cons.mp hx with e | hx
   ·subst e
    exact sR ok (by rw[<- hq.1];exact hq.2.1)
   ·exact ih x hx
 exact all r x hx
theorem JD {kvs:List (List Key × V)} (ok:HOk P w H h) (e:H a=some (.dT kvs)):kvs.length<=sizeLine/\(a == sysModules)=false ∧
  ∃xs,KT H kvs xs/\h.DictOfH (tupleKind (cO P w)) a xs:=yV ok (.inl e)
end
noncomputable def t4 (H:Hp) (a:Addr) (y:V) (r:Option V):Prop:=
 (∃kvs k,Rd H a (.dK kvs)/\y=kV k/\r=ki kvs k)\/∃kvs k b,Rd H a (.dT kvs)/\y=.ref b/\H b=some (.tup (k.map kV))/\r=ki kvs k
noncomputable def B_ (H:Hp) (a:Addr) (y v:V) (H':Hp):Prop:=
 (∃kvs k,H a=some (.dK kvs)/\y=kV k/\kvs.length<sizeLine/\H'=upd H a (.dK (putK kvs k v))) ∨
 ∃kvs k b,H a=some (.dT kvs)/\y=.ref b/\H b=some (.tup (k.map kV))/\kvs.length<sizeLine/\H'=upd H a (.dT (putK kvs k v))
theorem t4.t {H:Hp} {a b:Addr} {kvs:List (List Key × V)} {k:List Key} (e:H a=some (.dT kvs)) (eb:H b=some (.tup (k.map kV))):t4 H a (.ref b) (ki kvs k):=.inr ⟨kvs,k,b,.inl e,rfl,eb,rfl⟩
theorem B_.t {H:Hp} {a b:Addr} {kvs:List (List Key × V)} {k:List Key} {v:V} (e:H a=some (.dT kvs)) (eb:H b=some (.tup (k.map kV))) (hl:kvs.length<sizeLine) :
  B_ H a (.ref b) v (upd H a (.dT (putK kvs k v))):=.inr ⟨kvs,k,b,e,rfl,eb,hl,rfl⟩
section
variable {X:Cx} {pins:List (Addr × Obj)} {σ:St} {H:Hp} {s:Shared} {a:Addr} {y v:V} {u r:Value} {o:Option V} {A:Around} {E:Value->Shared->Prop}
theorem Inv.big (I:Inv X pins σ H s):sysModules<s.heap.objs.size:=by
 have h:mainGlobals<s.heap.objs.size:=(I.mod.glob.keeps I.bk).lt
 exact Nat.lt_trans (by decide) h
theorem Az {Q:Value->Shared->Prop} (hu:A.units+1<cLine) (I:Inv X pins σ H s) (g:t4 H a y (some v)) (ry:RelV y u) (h:∀w' s',Inv X pins σ H s'->RelV v w'->Q w' s') :
  wpAny (model X.prog X.w) A (getItem (.ref a) u) Q E s:=by
 rcases g with⟨kvs,k,e,ey,l⟩ | ⟨kvs,k,b,e,ey,eb,l⟩
 ·subst ey
  obtain⟨z,hd,vs,rel,dd⟩:=yd I.hok e
  obtain⟨w',hw,rw'⟩:=my.some_of (v:=v) (o:=valueAt vs k) (by rw[l];exact rel.val k)
  exact wpAny_getItem_of (yO ry) dd.mapOf hw (h w' _ (I.tok _) rw')
 ·subst ey
  cases (show u=Value.ref b from ry)
  obtain⟨z,hd,xs,rel,dd⟩:=yV I.hok e
  obtain⟨w',hw,rw'⟩:=my.some_of (v:=v) (o:=(atKey xs k).map (·.2)) (by rw[l];exact rel.val k)
  obtain⟨p,hp,hp2⟩:=Option.map_eq_some_iff.mp hw
  refine wpAny_getItem_heap (tupleKind_room_in1 hu) (sR I.hok eb) dd hp ?_
  rw[hp2]
  exact h w' _ (I.tok _) rw'
theorem DW {Q:Value->Shared->Prop} (hu:A.units+1<cLine) (I:Inv X pins σ H s) (g:t4 H a y o) (ry:RelV y u) (h:∀s',Inv X pins σ H s'->Q (.bool (!o.isSome)) s') :
  wpAny (model X.prog X.w) A (compareOp .NotIn u (.ref a)) Q E s:=by
 rcases g with⟨kvs,k,e,ey,l⟩ | ⟨kvs,k,b,e,ey,eb,l⟩
 ·subst ey
  obtain⟨z,hd,vs,rel,dd⟩:=yd I.hok e
  refine wpAny_notIn_of (yO ry) hd dd.mapOf ?_
  rw[<- (rel.val k).mI,<- l]
  exact h _ (I.tok _)
 ·subst ey
  cases (show u=Value.ref b from ry)
  obtain⟨z,hd,xs,rel,dd⟩:=yV I.hok e
  refine wpAny_notIn_heap (tupleKind_room_in1 hu) (sR I.hok eb) hd dd ?_
  have q:=(rel.val k).mI
  rw[Option.isSome_map] at q
  rw[<- q,<- l]
  exact h _ (I.tok _)
theorem yz {h':Heap} {t':Nat} {ob:HO} (I:Inv X pins σ H s) (mu:Mut (H a)) (hs:Heap.SameBut a s.heap h') (he:∃q,h'.get? a=some q) (new:bI X.prog X.w (upd H a ob) h' a ob) :
  Inv X pins σ (upd H a ob) { s with heap:=h',toks:=t' }:=
 I.write (x:=a) (e:=a) mu (.inl rfl) (fun b q hb z=>(hs.2 b hb).trans z) he new
theorem G9 {P:Program} {w:World} {H':Hp} {h':Heap} {kvs:List (Key × V)} {vs:List (Key × Value)} (z:kvs.length<=sizeLine) (hd:(a == sysModules)=false) (rel:KV kvs vs) (dd:h'.DictOf (cO P w) a vs) :
  bI P w H' h' a (.dK kvs):=⟨z,hd,vs,rel,dd⟩
theorem zr {H':Hp} {Q:Unit->Shared->Prop} (hu:A.units+1<cLine) (I:Inv X pins σ H s) (g:B_ H a y v H') (ry:RelV y u) (rv:RelV v r) (h:∀s',Inv X pins σ H' s'->Q () s') :
  wpAny (model X.prog X.w) A (setItem (.ref a) u r) Q E s:=by
 rcases g with⟨kvs,k,e,ey,l,eH⟩ | ⟨kvs,k,b,e,ey,eb,l,eH⟩
 ·subst ey eH
  obtain⟨z,hd,vs,rel,dd⟩:=Iv I.hok e
  have hz:vs.length<=sizeLine:=by rw[<- rel.length];exact z
  have hl:(putK kvs k v).length<=sizeLine:=by have:=mQ kvs k v;omega
  refine wpAny_setItem_pairs (hsz:=hz) (yO ry) dd fun h' dd' hs=>h _ ?_
  have he:∃q,h'.get? a=some q:=let ⟨q,_,_,hq,_⟩:=dd';⟨q,hq⟩
  exact yz I (by rw[e];exact True.intro) hs he (G9 hl hd (rel.put k rv) dd')
 ·subst ey eH
  cases (show u=Value.ref b from ry)
  obtain⟨z,hd,xs,rel,dd⟩:=JD I.hok e
  have hz:xs.length<=sizeLine:=by rw[<- Paired.length rel];exact z
  have hl:(putK kvs k v).length<=sizeLine:=by have:=mQ kvs k v;omega
  refine wpAny_setItem_heap (hsz:=hz) (tupleKind_room_in1 hu) (sR I.hok eb) dd fun h' dd' hs=>h _ ?_
  obtain⟨q,es,ep,hq,h2,h3,h4,_,h5⟩:=dd'
  refine yz I (by rw[e];exact True.intro) hs ⟨q,hq⟩ ⟨hl,hd,_,(rel.put k eb rv).keeps fun c ys ec=>?_,q,es,ep,hq,h2,h3,h4,h5⟩
  rw[aA (IZ ec e (fun z=>nomatch z))]
  exact ec
end
noncomputable def FN (i:Expr):Prop:=∀ov iv,subscripted i false ov iv=operate [ov,iv] (getItem ov iv)
theorem Dr {prog:Program} {w:World} {A:Around} {E:Value->Shared->Prop} {s:Shared} {env:Env} {value slice:Expr} {pos:Pos} {T id:String} {Q:Value->Shared->Prop}
  (hl:typeLookup (.type T) "__getitem__" = pure (some (.builtin id))) (hs:FN slice)
  (h:wpAny (model prog w) A (eval value env) (fun o s₁=>wpAny (model prog w) A (eval slice env) (fun i s₂=>s₂.TypeIs o T/\wpAny (model prog w) A (getItem o i) Q E s₂) E s₁) E s) :
  wpAny (model prog w) A (eval (.Subscript value slice pos) env) Q E s:=by
 refine Subscript_ (wpAny_mono h (fun o s₁ h₁=>wpAny_mono h₁ (fun i s₂ h₂=>?_) fun _ _ x=>x) fun _ _ x=>x)
 obtain⟨hT,h₂⟩:=h₂
 unfold subscriptTail
 refine wpAny_bind ?_
 rw[getitemInPython_of_ne hT.not_modules]
 refine wpAny_bind (wpAny_specialOf hT hl ?_)
 have fin:wpAny (model prog w) A (subscripted slice false o i) (fun r s₃=>wpAny (model prog w) A (letTemporaryGo value o r >>= fun _=>pure r) Q E s₃) E s₂:=by
  rw[hs o i]
  exact wpAny_operating (wpAny_mono h₂ (fun r s₃ h₃=>wpAny_bind (wpAny_letTemporaryGo (wpAny_pure h₃))) fun _ _ x=>x)
 first
  | exact wpAny_pure (wpAny_bind fin)
  | exact wpAny_bind (wpAny_pure (wpAny_bind fin))
  | exact wpAny_bind fin
theorem wt {X:Cx} {pins:List (Addr × Obj)} {σ:St} {H:Hp} {s:Shared} {a:Addr} {y:V} {o:Option V} (I:Inv X pins σ H s) (g:t4 H a y o):s.TypeIs (.ref a) "dict" := by
 rcases g with⟨kvs,k,e,_,_⟩ | ⟨kvs,k,b,e,_,_,_⟩
 ·obtain⟨_,_,vs,_,dd⟩:=yd I.hok e
  exact dd.typeIs
 ·obtain⟨_,_,xs,_,dd⟩:=yV I.hok e
  exact dd.typeIs
noncomputable def HV (td ty:TE):TE:=fun σ H Q=>td σ H fun x H1=>ty σ H1 fun y H2=>∃a v,x=.ref a/\t4 H2 a y (some v)/\Q v H2
noncomputable def IF (td ty tv:TE):TS:=fun D σ H=>tv σ H fun v H1=>td σ H1 fun x H2=>ty σ H2 fun y H3=>∃a H4,x=.ref a/\B_ H3 a y v H4/\D.nx σ H4
section
variable {X:Cx} {o i e value:Expr} {pos pos' tpos:Pos} {td ty tv:TE}
theorem ES (hu:X.A.units+1<cLine) (ho:PE X o td) (hi:PE X i ty) (hs:FN i):PE X (.Subscript o i pos) (HV td ty):=by
 intro pins s σ H Q I h
 refine Dr PySem.F.slot_dict_getitem.lookup hs (thn (ho pins s σ H _ I h) fun u s1 ⟨x,H1,I1,rx,q1⟩=>thn (hi pins s1 σ H1 _ I1 q1) fun iv s2 ⟨y,H2,I2,ry,a,v,ex,g,q2⟩=>?_)
 subst ex
 obtain rfl:u=Value.ref a:=rx
 exact⟨wt I2 g,Az hu I2 g ry fun w' s3 I3 rw'=>⟨v,H2,I3,rw',q2⟩⟩
theorem D_ (hu:X.A.units+1<cLine) (ho:PE X o td) (hi:PE X i ty) (hv:PE X value tv) (hs:swapsWith value (some (.Subscript o i pos')) pos.line X.env=pure false) :
  PS X (.Assign [.Subscript o i pos'] value pos) (IF td ty tv):=by
 intro pins s σ H D I h
 refine wpAny_Assign_Subscript (thn (hv pins s σ H _ I h) fun r s1 ⟨v,H1,I1,rv,q1⟩=>thn (ho pins s1 σ H1 _ I1 q1) fun u s2 ⟨x,H2,I2,rx,q2⟩=>thn (hi pins s2 σ H2 _ I2 q2) fun iv s3 ⟨y,H3,I3,ry,a,H4,ex,g,q3⟩=>?_) hs
 subst ex
 obtain rfl:u=Value.ref a:=rx
 exact zr hu I3 g ry rv fun s4 I4=>⟨σ,H4,I4,q3⟩
end
theorem AU {P:Program} {w:World} {H:Hp} (h:Heap) (hb:sysModules<h.objs.size):bI P w H (h.push { cls:=.type "dict", data:=.dict #[] }) h.objs.size (.dT []):=
 ⟨Nat.zero_le _,beq_eq_false_iff_ne.mpr (Ne.symm (Nat.ne_of_lt hb)),[],.nil,_,#[],0,Heap.get?_push_size _ rfl,⟨rfl,rfl,rfl⟩,rfl,rfl,List.nodup_nil⟩
noncomputable def Gw:TE:=fun _ H Q=>∀p,H p=none->Q (.ref p) (upd H p (.dT []))
section
variable {X:Cx} {pos:Pos}
theorem CA:PE X (.Dict [] [] pos) Gw:=fun pins s σ H Q I h=>
 wpAny_Dict_empty ⟨.ref s.heap.objs.size,_,I.laid (a:=s.heap.objs.size) (o:=.dT []) (t':=s.toks) (fun _ _ q=>Heap.get?_push_of_some _ q) (Nat.le_refl _) (AU s.heap I.big),rfl,h _ (I.hok.fresh (Nat.le_refl _))⟩
end
end L2
namespace L2.FE
open PySem PySem.Spec PyProof.Rows
inductive D where
 | non | bl (b:Bool) | int (i:Int) | str (x:Str) | tup (ds:List D) | frl (ds:List D) | ref (n:Nat) | fn (x:Str) | edic | scr (ds:List D) | exc (c:Str) (fs:List (Str × Int)) | clo (f:Str) (ds:List D)
inductive O where
 | lst (ds:List D) | set (ns:List Int) | dic (kvs:List (Key × D)) | dit (kvs:List (List Key × D))
noncomputable abbrev Hh:=List O
noncomputable abbrev En:=List (Option D)
structure Xc where
 cls:Str
 fs:List (Str × Int)
inductive R (β:Type) where
 | ok (b:β) (h:Hh)
 | err (x:Xc) (h:Hh)
 | bad
noncomputable def R.bind {β γ:Type} (r:R β) (f:β->Hh->R γ):R γ:=match r with
 | .ok b h=>f b h
 | .err x h=>.err x h
 | .bad=>.bad
inductive Fl where
 | nx (e:En) | bk (e:En) | ct (e:En) | rt (d:D)
noncomputable abbrev ME:=En->Hh->R D
noncomputable abbrev MT:=En->Hh->R Bool
noncomputable abbrev MA:=En->Hh->R (List D)
noncomputable abbrev MS:=En->Hh->R Fl
noncomputable def Fro (K:PySem.W.Frag) (H:Hp) (p:Addr) (vs:List V):Prop:=
 (∃o,H p=some (.frz o (.lst vs)))\/∃(o:Obj) (its:Array Value) (n:Nat),K.lookup p=some o/\o.cls=.type "list" /\ o.dict=none/\o.data=.seq its n/\its.size<=sizeLine/\Vals vs its.toList
theorem Fro.sq {K:PySem.W.Frag} {H:Hp} {p:Addr} {vs:List V} (h:Fro K H p vs):SqL K H p vs:=by
 rcases h with⟨o,h⟩ | h
 ·exact .inl (.inr ⟨o,h⟩)
 ·exact .inr h
noncomputable def Fr1 (H:Hp) (p:Addr) (vs:List V):Prop:=∃o,H p=some (.frz o (.lst vs))
theorem Fr1.fro {K:PySem.W.Frag} {H:Hp} {p:Addr} {vs:List V} (h:Fr1 H p vs):Fro K H p vs:=.inl h
theorem Fr1.sq {K:PySem.W.Frag} {H:Hp} {p:Addr} {vs:List V} (h:Fr1 H p vs):SqL K H p vs:=let ⟨o,h⟩:=h;.inl (.inr ⟨o,h⟩)
theorem Fr1.rd {H:Hp} {p:Addr} {vs:List V} (h:Fr1 H p vs):Rd H p (.lst vs):=.inr h
noncomputable def AtO (p:Addr) (o:Obj):HO:=.frz o (.ext fun h=>h.get? p=some o)
noncomputable def XFs (H:Hp) (dc:Option Addr) (fs:List (Str × Int)):Prop:=(dc=none/\fs=[])\/∃dx od,dc=some dx/\H dx=some (.frz od (.xd (fs.map fun x=>(x.1,V.int x.2))))
noncomputable def kT (H:Hp) (clos:List (Str × Addr)):List Str->List V->Prop:=Paired fun y v=>∃c o u,clos.lookup y=some c/\H c=some (AtO c o)/\o.data=.cell (some u)/\RelV v u
structure ym (f x qual:Str) (ys:List Str) (params:Arguments) (body:Expr) (scope:Scope):Prop where
 tx:∃(p0 p2 p3:Pos) (qs:List (Str × Pos)),qs.map (·.1)=ys/\body=.Call (.Name f p0) (qs.map (fun y=>Expr.Name y.1 y.2)++[.Name x p2]) [] p3
 kind:scope.kind=.function
 co:scope.isCoroutine=false
 gen:scope.isGenerator=false
 GY:∀z∈scope.names,z.2≠.cell
 glob:scope.names.lookup f=some .globalImplicit
 loc:scope.names.lookup x=some .local
 free:∀y∈ys,scope.names.lookup y=some .free/\(y == ("__debug__" : Str))=false/\(y == ("__classdict__" : Str))=false
 nd:(f == ("__debug__" : Str))=false/\(x == ("__debug__" : Str))=false
 bind:∀clos pm cdv ctv u,bindArgs (PySem.W.kla_fn "<lambda>" qual params body scope clos pm cdv ctv) ⟨[u],[]⟩=pure [(x,u)]
noncomputable def Fh (f:Str) (clos:List (Str × Addr)) (ys:List Str) (o:Obj) (c':Addr) (qual:Str):Prop:=
 ∃(params:Arguments) (body:Expr) (scope:Scope) (pm ctv:Value) (x:Str),o=PySem.W.kla_obj "<lambda>" qual params body scope clos pm c' ctv/\ym f x qual ys params body scope
mutual
inductive aI (K:PySem.W.Frag) (g:Str->Option Addr) (α:List Addr) (H:Hp):D->V->Prop where
 | non:aI K g α H .non .non
 | bl (b):aI K g α H (.bl b) (.bl b)
 | int (i):aI K g α H (.int i) (.int i)
 | str (x):aI K g α H (.str x) (.str x)
 | ref {n p}:α[n]?=some p->aI K g α H (.ref n) (.ref p)
 | tup {ds p vs}:H p=some (.tup vs)->ay K g α H ds vs->aI K g α H (.tup ds) (.ref p)
 | frl {ds p vs}:Fr1 H p vs->ay K g α H ds vs->aI K g α H (.frl ds) (.ref p)
 | scr {ds p vs}:Fro K H p vs->ay K g α H ds vs->aI K g α H (.scr ds) (.ref p)
 | fn {x f}:g x=some f->aI K g α H (.fn x) (.ref f)
 | edic {p o}:H p=some (.frz o (.dK []))->aI K g α H .edic (.ref p)
 | exc {c C p o fs}:g c=some C->H p=some (AtO p o)->o.cls=.ref C->(∃vs,o.data=.fields vs)->XFs H o.dict fs->aI K g α H (.exc c fs) (.ref p)
 | clo {f ds p o clos ys vs c' oc qual t vc}:H p=some (AtO p o)->Fh f clos ys o c' qual->H c'=some (AtO c' oc)->oc.data=.fields vc->vc[1]?=some (.str qual t)->kT H clos ys vs->ay K g α H ds vs->aI K g α H (.clo f ds) (.ref p)
inductive ay (K:PySem.W.Frag) (g:Str->Option Addr) (α:List Addr) (H:Hp):List D->List V->Prop where
 | nil:ay K g α H [] []
 | cons {d v ds vs}:aI K g α H d v->ay K g α H ds vs->ay K g α H (d::ds) (v::vs)
end
structure Ex0 (K:PySem.W.Frag) (α:List Addr) (H:Hp) (α':List Addr) (H':Hp):Prop where
 pre:α <+: α'
 tup:∀(p:Addr) (xs:List V),H p=some (.tup xs)->H' p=some (.tup xs)
 frz:∀(p:Addr) (o:Obj) (u:HO),H p=some (.frz o u)->H' p=some (.frz o u)
 tbl:∀(p:Addr) (ps:Array Value),H p=some (.tbl ps)->∃more,H' p=some (.tbl (ps++more))
theorem Ex0.fro {K:PySem.W.Frag} {α α':List Addr} {H H':Hp} (e:Ex0 K α H α' H') (p:Addr) (xs:List V) (h:Fro K H p xs):Fro K H' p xs:=by
 rcases h with⟨o,h⟩ | h
 ·exact .inl ⟨o,e.frz _ _ _ h⟩
 ·exact .inr h
theorem Ex0.fr1 {K:PySem.W.Frag} {α α':List Addr} {H H':Hp} (e:Ex0 K α H α' H') (p:Addr) (xs:List V) (h:Fr1 H p xs):Fr1 H' p xs:=let ⟨o,h⟩:=h;⟨o,e.frz _ _ _ h⟩
structure Ext (K:PySem.W.Frag) (α:List Addr) (H:Hp) (α':List Addr) (H':Hp):Prop extends Ex0 K α H α' H' where
 kept:∀p o,H p=some o->p∉α->(∀ps,o≠.tbl ps)->H' p=some o
 new:∀p,p∈α'->p∉α->H p=none
section
variable {K:PySem.W.Frag} {g:Str->Option Addr} {α α' α'':List Addr} {H H' H'':Hp}
theorem Ext.keep (e:Ext K α H α' H') (p:Addr) (o:HO) (h:H p=some o) (n:p∉α) (t:∀ps,o≠.tbl ps:=by intro _ z;cases z):H' p=some o:=e.kept p o h n t
theorem Ext.stays (e:Ext K α H α' H') {p:Addr} {o:HO} (h:H p=some o) (n:p∉α):H' p≠none:=by
 cases o with
 | tbl ps=>obtain⟨m,q⟩:=e.tbl p ps h;rw[q];exact fun z=>nomatch z
 | _=>rw[e.keep p _ h n];exact fun z=>nomatch z
theorem Ex0.refl:Ex0 K α H α H:=⟨List.prefix_refl _,fun _ _ h=>h,fun _ _ _ h=>h,fun _ ps h=>⟨#[],by rw[h];simp⟩⟩
theorem Ex0.trans (a:Ex0 K α H α' H') (b:Ex0 K α' H' α'' H''):Ex0 K α H α'' H'':=⟨a.pre.trans b.pre,fun p xs h=>b.tup p xs (a.tup p xs h),fun p o u h=>b.frz p o u (a.frz p o u h),fun p ps h=>by
  obtain⟨m1,e1⟩:=a.tbl p ps h
  obtain⟨m2,e2⟩:=b.tbl p _ e1
  exact⟨m1++m2,by rw[e2,Array.append_assoc]⟩⟩
theorem Ext.refl:Ext K α H α H:=⟨.refl,fun _ _ h _ _=>h,fun _ h n=>absurd h n⟩
theorem Ext.trans (a:Ext K α H α' H') (b:Ext K α' H' α'' H''):Ext K α H α'' H'':=⟨a.toEx0.trans b.toEx0,fun p o h n t=>b.kept p o (a.kept p o h n t) (fun z=>by rw[a.new p z n] at h;cases h) t,fun p z n=>by
  by_cases q:p∈α'
  ·exact a.new p q n
  ·have:=b.new p z q
   cases e:H p with
   | none=>rfl
   | some o=>exact absurd this (a.stays e n)⟩
theorem Ex0.get (e:Ex0 K α H α' H') {n:Nat} {p:Addr} (h:α[n]?=some p):α'[n]?=some p:=by
 obtain⟨t,rfl⟩:=e.pre
 have hl:n<α.length:=by
  by_cases hl:n<α.length
  ·exact hl
  ·rw[List.getElem?_eq_none (by omega)] at h;cases h
 rw[List.getElem?_append_left hl];exact h
mutual
theorem aI.ex0 (e:Ex0 K α H α' H'):∀{d:D} {v:V},aI K g α H d v->aI K g α' H' d v
 | _,_,.non=>.non
 | _,_,.bl b=>.bl b
 | _,_,.int i=>.int i
 | _,_,.str x=>.str x
 | _,_,.ref h=>.ref (e.get h)
 | _,_,.tup h r=>.tup (e.tup _ _ h) (ay.ex0 e r)
 | _,_,.frl h r=>.frl (e.fr1 _ _ h) (ay.ex0 e r)
 | _,_,.scr h r=>.scr (e.fro _ _ h) (ay.ex0 e r)
 | _,_,.fn h=>.fn h
 | _,_,.edic h=>.edic (e.frz _ _ _ h)
 | _,_,.exc hg h hc hd hf=>.exc hg (e.frz _ _ _ h) hc hd (hf.elim .inl fun⟨dx,od,a,b⟩=>.inr ⟨dx,od,a,e.frz _ _ _ b⟩)
 | _,_,.clo h l hc hd hv cs r=>.clo (e.frz _ _ _ h) l (e.frz _ _ _ hc) hd hv (L2.Paired.qS cs fun _ _ ⟨c,o,u,l,a,b⟩=>⟨c,o,u,l,e.frz _ _ _ a,b⟩) (ay.ex0 e r)
theorem ay.ex0 (e:Ex0 K α H α' H'):∀{ds:List D} {vs:List V},ay K g α H ds vs->ay K g α' H' ds vs
 | _,_,.nil=>.nil
 | _,_,.cons r t=>.cons (aI.ex0 e r) (ay.ex0 e t)
end
theorem aI.ext (e:Ext K α H α' H') {d:D} {v:V} (r:aI K g α H d v):aI K g α' H' d v:=r.ex0 e.toEx0
theorem ay.ext (e:Ext K α H α' H') {d:List D} {v:List V} (r:ay K g α H d v):ay K g α' H' d v:=r.ex0 e.toEx0
theorem ay.length:∀{ds:List D} {vs:List V},ay K g α H ds vs->ds.length=vs.length
 | _,_,.nil=>rfl
 | _,_,.cons _ t=>by simp[ay.length t]
theorem ay.append:∀{ds es:List D} {vs us:List V},ay K g α H ds vs->ay K g α H es us->ay K g α H (ds++es) (vs++us)
 | _,_,_,_,.nil,s=>s
 | _,_,_,_,.cons r t,s=>.cons r (ay.append t s)
theorem ay.get:∀{ds:List D} {vs:List V} {i:Nat} {d:D},ay K g α H ds vs->ds[i]?=some d->∃v,vs[i]?=some v/\aI K g α H d v
 | _,_,_,_,.nil,e=>by simp at e
 | _,_,0,_,.cons r _,e=>by simp at e;subst e;exact⟨_,rfl,r⟩
 | _,_,i+1,d,.cons _ t,e=>by
  obtain⟨u,h1,h2⟩:=ay.get (i:=i) (d:=d) t (by simpa using e)
  exact⟨u,by simpa using h1,h2⟩
theorem ay.set {d:D} {v:V} (r:aI K g α H d v):∀{ds:List D} {vs:List V} (i:Nat),ay K g α H ds vs->ay K g α H (ds.set i d) (vs.set i v)
 | _,_,_,.nil=>.nil
 | _,_,0,.cons _ t=>.cons r t
 | _,_,i+1,.cons q t=>.cons q (ay.set r i t)
theorem ay.take:∀{ds:List D} {vs:List V} (n:Nat),ay K g α H ds vs->ay K g α H (ds.take n) (vs.take n)
 | _,_,0,_=>.nil
 | _,_,_+1,.nil=>.nil
 | _,_,n+1,.cons r t=>.cons r (ay.take n t)
theorem ay.drop:∀{ds:List D} {vs:List V} (n:Nat),ay K g α H ds vs->ay K g α H (ds.drop n) (vs.drop n)
 | _,_,0,r=>r
 | _,_,_+1,.nil=>.nil
 | _,_,n+1,.cons _ t=>ay.drop n t
theorem ay.ints (ns:List Int):ay K g α H (ns.map D.int) (ns.map V.int):=by
 induction ns with
 | nil=>exact .nil
 | cons n r ih=>exact .cons (.int n) ih
theorem ay.yu:∀{ns:List Int} {vs:List V},ay K g α H (ns.map D.int) vs->vs=ns.map V.int
 | [],_,.nil=>rfl
 | n::r,_,.cons (.int _) t=>by rw[ay.yu t];rfl
theorem ay.flat {ds:List D} {vs:List V} (r:ay K g α H ds vs):∀k,ay K g α H (List.replicate k ds).flatten (List.replicate k vs).flatten
 | 0=>.nil
 | k+1=>by rw[List.replicate_succ,List.replicate_succ,List.flatten_cons,List.flatten_cons];exact r.append (ay.flat r k)
end
noncomputable def OAt (K:PySem.W.Frag) (g:Str->Option Addr) (α:List Addr) (H:Hp) (p:Addr):O->Prop
 | .lst ds=>∃vs,H p=some (.lst vs)/\ay K g α H ds vs
 | .set ns=>H p=some (.set (fun k=>ns.any (· == k)) ns.length)
 | .dic kvs=>∃kws,H p=some (.dK kws)/\Paired (fun(a:Key × D) (b:Key × V)=>a.1=b.1/\aI K g α H a.2 b.2) kvs kws
 | .dit kvs=>∃kws,H p=some (.dT kws)/\Paired (fun(a:List Key × D) (b:List Key × V)=>a.1=b.1/\aI K g α H a.2 b.2) kvs kws
noncomputable def vp (H:Hp) (q:Addr × Pos × Str):Prop:=H q.1=some (.tbl #[])\/∃(c':Addr) (oc:Obj) (vc:Array Value) (t:Tok),H q.1=some (.tbl #[rawInt q.2.1.line,rawInt q.2.1.col,.ref c'])/\H c'=some (AtO c' oc)/\oc.data=.fields vc/\vc[1]?=some (.str q.2.2 t)
noncomputable def EJ (fd:FuncData):Option Pos:=match fd.body with
 | .stmts b=>(match b.getLast? with
  | some (.Return (some (.Lambda _ _ _ pos)) _)=>some pos
  | some (.Return (some (.Call _ es _ _)) _)=>(match es.getLast? with | some (.Lambda _ _ _ pos)=>some pos | _=>none)
  | _=>none)
 | _=>none
noncomputable def k_ (K:PySem.W.Frag) (f:Addr):Option (Addr × Pos × Str):=match K.lookup f with
 | some ⟨_,_,.func fd,_⟩=>(match EJ fd,fd.code with
  | some pos,.ref c=>(match K.lookup c with
   | some ⟨_,_,.fields vs,_⟩=>(match (vs[11]?:Option Value) with | some (.ref P)=>some (P,pos,fd.qualname++".<locals>." ++ "<lambda>") | _=>none)
   | _=>none)
  | _,_=>none)
 | _=>none
noncomputable def jj (K:PySem.W.Frag) (H:Hp):Prop:=∀f P,k_ K f=some P->vp H P
structure aS (K:PySem.W.Frag) (g:Str->Option Addr) (α:List Addr) (H:Hp) (h:Hh):Prop where
 len:α.length=h.length
 inj:∀(n m:Nat) (p:Addr),α[n]?=some p->α[m]?=some p->n=m
 here:∀(n:Nat) (p:Addr) (o:O),α[n]?=some p->h[n]?=some o->OAt K g α H p o
 tab:jj K H
section
variable {K:PySem.W.Frag} {g:Str->Option Addr} {α α':List Addr} {H H':Hp} {h:Hh}
theorem Paired.Jl {kvs:List (Key × D)} {kws:List (Key × V)} (e:Ex0 K α H α' H') (r:Paired (fun(a:Key × D) (b:Key × V)=>a.1=b.1/\aI K g α H a.2 b.2) kvs kws) :
  Paired (fun(a:Key × D) (b:Key × V)=>a.1=b.1/\aI K g α' H' a.2 b.2) kvs kws:=L2.Paired.qS r fun _ _ q=>⟨q.1,q.2.ex0 e⟩
theorem Paired.ID {kvs:List (List Key × D)} {kws:List (List Key × V)} (e:Ex0 K α H α' H') (r:Paired (fun(a:List Key × D) (b:List Key × V)=>a.1=b.1/\aI K g α H a.2 b.2) kvs kws) :
  Paired (fun(a:List Key × D) (b:List Key × V)=>a.1=b.1/\aI K g α' H' a.2 b.2) kvs kws:=L2.Paired.qS r fun _ _ q=>⟨q.1,q.2.ex0 e⟩
theorem vp.mono {P:Addr × Pos × Str} (t:vp H P) (a:∀b ps,H b=some (.tbl ps)->H' b=some (.tbl ps)) (z:∀b o u,H b=some (.frz o u)->H' b=some (.frz o u)):vp H' P:=by
 rcases t with h | ⟨c',oc,vc,tk,h,hc,hd⟩
 ·exact .inl (a _ _ h)
 ·exact .inr ⟨c',oc,vc,tk,a _ _ h,z _ _ _ hc,hd⟩
theorem jj.mono (t:jj K H) (a:∀b ps,H b=some (.tbl ps)->H' b=some (.tbl ps)) (z:∀b o u,H b=some (.frz o u)->H' b=some (.frz o u)):jj K H':=fun f P e=>(t f P e).mono a z
theorem jj.upd {p:Addr} {o:HO} (t:jj K H) (n:H p=none\/∃u,H p=some u/\(∀ys,u≠.tup ys)/\(∀w ys,u≠.frz w ys)/\∀ps,u≠.tbl ps):jj K (upd H p o):=by
 have ne:∀q u,H q=some u->((∃w ys,u=.frz w ys)\/∃ps,u=.tbl ps)->q≠p:=by
  rintro q u e z rfl
  rcases n with n | ⟨u',e',_,n2,n3⟩
  ·rw[e] at n;cases n
  ·rw[e] at e';cases e'
   rcases z with⟨w,ys,z⟩ | ⟨ps,z⟩
   ·exact n2 _ _ z
   ·exact n3 _ z
 intro f P e
 rcases t f P e with h | ⟨c',oc,vc,tk,h,hc,hd⟩
 ·exact .inl (by rw[aA (ne _ _ h (.inr ⟨_,rfl⟩))];exact h)
 ·exact .inr ⟨c',oc,vc,tk,by rw[aA (ne _ _ h (.inr ⟨_,rfl⟩))];exact h,by rw[aA (ne _ _ hc (.inl ⟨_,_,rfl⟩))];exact hc,hd⟩
theorem OAt.isS {p:Addr} {o:O} (h:OAt K g α H p o):∃u,H p=some u/\(∀ys,u≠.tup ys)/\(∀w ys,u≠.frz w ys)/\∀ps,u≠.tbl ps:=by
 cases o with
 | lst ds=>obtain⟨vs,e,_⟩:=h;exact⟨_,e,fun _ z=>(nomatch z),fun _ _ z=>(nomatch z),fun _ z=>nomatch z⟩
 | set n=>exact⟨_,h,fun _ z=>(nomatch z),fun _ _ z=>(nomatch z),fun _ z=>nomatch z⟩
 | dic kvs=>obtain⟨vs,e,_⟩:=h;exact⟨_,e,fun _ z=>(nomatch z),fun _ _ z=>(nomatch z),fun _ z=>nomatch z⟩
 | dit kvs=>obtain⟨vs,e,_⟩:=h;exact⟨_,e,fun _ z=>(nomatch z),fun _ _ z=>(nomatch z),fun _ z=>nomatch z⟩
theorem aS.mem (r:aS K g α H h) {p:Addr} (hp:p∈α):∃u,H p=some u/\(∀ys,u≠.tup ys)/\(∀w ys,u≠.frz w ys)/\∀ps,u≠.tbl ps:=by
 obtain⟨n,hn,e⟩:=List.getElem_of_mem hp
 have hn':n<h.length:=by rw[<- r.len];exact hn
 exact(r.here n p _ (by rw[List.getElem?_eq_getElem hn,e]) (List.getElem?_eq_getElem hn')).isS
theorem OAt.ex0 {p:Addr} {o:O} (e:Ex0 K α H α' H') (h:OAt K g α H p o) (k:∀u,H p=some u->H' p=some u):OAt K g α' H' p o:=by
 cases o with
 | lst ds=>obtain⟨vs,a,r⟩:=h;exact⟨vs,k _ a,r.ex0 e⟩
 | set n=>exact k _ h
 | dic kvs=>obtain⟨kws,a,r⟩:=h;exact⟨kws,k _ a,Paired.Jl e r⟩
 | dit kvs=>obtain⟨kws,a,r⟩:=h;exact⟨kws,k _ a,Paired.ID e r⟩
noncomputable def DH (H:Hp) (p:Addr):Prop:=H p=none\/∃u,H p=some u/\(∀ys,u≠.tup ys)/\(∀w ys,u≠.frz w ys)/\∀ps,u≠.tbl ps
theorem Ex0.upd {p:Addr} {o:HO} (n:DH H p):Ex0 K α H α (upd H p o):=by
 have ne:∀q u,H q=some u->((∃ys,u=.tup ys)\/(∃w ys,u=.frz w ys)\/∃ps,u=.tbl ps)->q≠p:=by
  rintro q u e z rfl
  rcases n with n | ⟨u',e',n1,n2,n3⟩
  ·rw[e] at n;cases n
  ·rw[e] at e';cases e'
   rcases z with⟨ys,z⟩ | ⟨w,ys,z⟩ | ⟨ps,z⟩
   ·exact n1 _ z
   ·exact n2 _ _ z
   ·exact n3 _ z
 refine⟨List.prefix_refl _,fun q xs h=>?_,fun q o u h=>?_,fun q ps h=>⟨#[],?_⟩⟩
 ·rw[aA (ne q _ h (.inl ⟨_,rfl⟩))];exact h
 ·rw[aA (ne q _ h (.inr (.inl ⟨_,_,rfl⟩)))];exact h
 ·rw[aA (ne q _ h (.inr (.inr ⟨_,rfl⟩))),h];simp
theorem Ex0.more (e:Ex0 K α H α H') (l:List Addr):Ex0 K α H (α++l) H':=⟨List.prefix_append _ _,e.tup,e.frz,e.tbl⟩
theorem Ext.fresh {p:Addr} {o:HO} (n:H p=none):Ext K α H α (upd H p o):=⟨Ex0.upd (.inl n),fun q u h _ _=>by rw[aA (aK h n)];exact h,fun _ z m=>absurd z m⟩
theorem Ext.push {p:Addr} {o:HO} (n:H p=none):Ext K α H (α++[p]) (upd H p o):=⟨(Ex0.upd (.inl n)).more _,fun q u h _ _=>by rw[aA (aK h n)];exact h,fun q z m=>by
 rcases List.mem_append.mp z with z | z
 ·exact absurd z m
 ·rw[List.mem_singleton.mp z];exact n⟩
theorem aS.off {p:Addr} {o:HO} (r:aS K g α H h) (n:DH H p) (m:p∉α):aS K g α (upd H p o) h:=by
 refine⟨r.len,r.inj,fun k q u a b=>(r.here k q u a b).ex0 (Ex0.upd n) fun w e=>?_,r.tab.upd n⟩
 rw[aA];exact e
 rintro rfl;exact m (List.mem_of_getElem? a)
theorem aS.free (r:aS K g α H h) {p:Addr} (n:H p=none):p∉α:=fun z=>by
 obtain⟨u,e,_⟩:=r.mem z
 rw[n] at e;cases e
theorem aS.grow {p:Addr} {o:HO} (r:aS K g α H h) (n:H p=none):aS K g α (upd H p o) h:=r.off (.inl n) (r.free n)
theorem aS.adopt {p:Addr} {u:O} (r:aS K g α H h) (n:p∉α) (a:OAt K g (α++[p]) H p u):aS K g (α++[p]) H (h++[u]):=by
 have old:∀{m:Nat} {q:Addr},(α++[p])[m]?=some q->(α[m]?=some q)\/(m=α.length/\q=p):=by
  intro m q h1
  by_cases hm:m<α.length
  ·rw[List.getElem?_append_left hm] at h1
   exact .inl h1
  ·have hl:m<(α++[p]).length:=by
    by_cases hl:m<(α++[p]).length
    ·exact hl
    ·rw[List.getElem?_eq_none (by omega)] at h1;cases h1
   have e:m=α.length:=by simp at hl;omega
   subst e
   rw[List.getElem?_append_right (Nat.le_refl _)] at h1
   simp at h1
   exact .inr ⟨rfl,h1.symm⟩
 refine⟨by simp[r.len],fun m k q h1 h2=>?_,fun m q w h1 h2=>?_,r.tab⟩
 ·rcases old h1 with a1 | ⟨e1,e2⟩
  ·rcases old h2 with a2 | ⟨e3,e4⟩
   ·exact r.inj m k q a1 a2
   ·rw[e4] at a1;exact absurd (List.mem_of_getElem? a1) n
  ·rcases old h2 with a2 | ⟨e3,e4⟩
   ·rw[e2] at a2;exact absurd (List.mem_of_getElem? a2) n
   ·rw[e1,e3]
 ·rcases old h1 with a1 | ⟨e1,e2⟩
  ·have hm:m<α.length:=by
    by_cases hl:m<α.length
    ·exact hl
    ·rw[List.getElem?_eq_none (by omega)] at a1;cases a1
   rw[List.getElem?_append_left (by rw[<- r.len];exact hm)] at h2
   exact(r.here m q w a1 h2).ex0 (Ex0.refl.more _) fun _ z=>z
  ·subst e1 e2
   rw[r.len,List.getElem?_append_right (Nat.le_refl _)] at h2
   simp at h2
   subst h2
   exact a
theorem aS.push {p:Addr} {o:HO} {u:O} (r:aS K g α H h) (n:H p=none) (a:OAt K g (α++[p]) (upd H p o) p u):aS K g (α++[p]) (upd H p o) (h++[u]):=(r.grow n).adopt (r.free n) a
theorem Ext.write {p:Addr} {o:HO} {k:Nat} (r:aS K g α H h) (hk:α[k]?=some p):Ext K α H α (upd H p o):=
 ⟨Ex0.upd (.inr (r.mem (List.mem_of_getElem? hk))),fun q u h m _=>by
  rw[aA];exact h
  rintro rfl;exact m (List.mem_of_getElem? hk),fun _ z m=>absurd z m⟩
theorem aS.write {p:Addr} {o:HO} {u':O} {k:Nat} (r:aS K g α H h) (hk:α[k]?=some p) (a:OAt K g α (upd H p o) p u'):aS K g α (upd H p o) (h.set k u'):=by
 have x:Ext K α H α (upd H p o):=Ext.write r hk
 refine⟨by simp[r.len],r.inj,fun m q w h1 h2=>?_,r.tab.upd (.inr (r.mem (List.mem_of_getElem? hk)))⟩
 rw[List.getElem?_set] at h2
 by_cases hm:k=m
 ·subst hm
  rw[if_pos rfl] at h2
  split at h2
  ·cases h2;rw[h1] at hk;cases hk;exact a
  ·cases h2
 ·rw[if_neg hm] at h2
  refine(r.here m q w h1 h2).ex0 x.toEx0 fun z e=>?_
  rw[aA];exact e
  rintro rfl;exact hm (r.inj _ _ _ hk h1)
end
noncomputable abbrev GG:=Str->Option Addr
noncomputable abbrev EE:=List Addr->Hp->Xc->Prop
structure jV (K:PySem.W.Frag) (g:GG) (α:List Addr) (H:Hp) (env:En) (σ:St):Prop where
 len:env.length=σ.length
 vars:∀(i:Nat) (d:D),env[i]?=some (some d)->∃v,σ[i]?=some (some v)/\aI K g α H d v
structure dz (K:PySem.W.Frag) (g:GG) (α:List Addr) (H:Hp) (env:En) (σ:St) (h:Hh):Prop where
 heap:aS K g α H h
 vs:jV K g α H env σ
noncomputable def WQ (K:PySem.W.Frag) (g:GG) (ε:EE) (α:List Addr) (H:Hp) {β:Type} (r:R β) (k:β->Hh->Prop):Prop:=match r with
 | .ok b h=>k b h
 | .err x h=>∀α' H',Ext K α H α' H'->aS K g α' H' h->ε α' H' x
 | .bad=>False
section
variable {K:PySem.W.Frag} {g:GG} {ε:EE} {α α':List Addr} {H H':Hp} {β γ:Type}
theorem WQ.bind {r:R β} {f:β->Hh->R γ} {k:γ->Hh->Prop} (w:WQ K g ε α H (r.bind f) k):WQ K g ε α H r fun b h=>WQ K g ε α H (f b h) k:=by
 cases r<;>exact w
theorem WQ.ext {r:R β} {k:β->Hh->Prop} (e:Ext K α H α' H') (w:WQ K g ε α H r k):WQ K g ε α' H' r k:=by
 cases r with
 | ok b h=>exact w
 | err x h=>exact fun a b c d=>w a b (e.trans c) d
 | bad=>exact w
theorem WQ.mono {r:R β} {k k':β->Hh->Prop} (w:WQ K g ε α H r k) (m:∀b h,r=.ok b h->k b h->k' b h):WQ K g ε α H r k':=by
 cases r with
 | ok b h=>exact m b h rfl w
 | err x h=>exact w
 | bad=>exact w
theorem jV.ext {env:En} {σ:St} (v:jV K g α H env σ) (e:Ext K α H α' H'):jV K g α' H' env σ:=
 ⟨v.len,fun i d h=>let ⟨x,a,b⟩:=v.vars i d h;⟨x,a,b.ext e⟩⟩
theorem dz.ext {env:En} {σ:St} {h h':Hh} (v:dz K g α H env σ h) (e:Ext K α H α' H') (r:aS K g α' H' h'):dz K g α' H' env σ h':=⟨r,v.vs.ext e⟩
theorem jV.set {env:En} {σ:St} {i:Nat} {d:D} {x:V} (v:jV K g α H env σ) (r:aI K g α H d x):jV K g α H (env.set i (some d)) (σ.set i (some x)):=by
 refine⟨by simp[v.len],fun j e h=>?_⟩
 rw[List.getElem?_set] at h ⊢
 by_cases hj:i=j
 ·subst hj
  rw[if_pos rfl] at h ⊢
  have hl:=v.len
  split at h
  ·rw[if_pos (by omega)]
   cases h
   exact⟨x,rfl,r⟩
  ·cases h
 ·rw[if_neg hj] at h ⊢
  exact v.vars j e h
end
noncomputable def aJ (K:PySem.W.Frag) (g:GG) (α:List Addr) (H:Hp) (Q:VK):D->Hh->Prop:=fun d h=>∀v H' α',Ext K α H α' H'->aS K g α' H' h->aI K g α' H' d v->Q v H'
noncomputable def mU (K:PySem.W.Frag) (g:GG) (α:List Addr) (H:Hp) (Q:Bool->Hp->Prop):Bool->Hh->Prop:=fun b h=>∀H' α',Ext K α H α' H'->aS K g α' H' h->Q b H'
noncomputable def HZ (K:PySem.W.Frag) (g:GG) (α:List Addr) (H:Hp) (Q:List V->Hp->Prop):List D->Hh->Prop:=fun ds h=>∀vs H' α',Ext K α H α' H'->aS K g α' H' h->ay K g α' H' ds vs->Q vs H'
noncomputable def cG (K:PySem.W.Frag) (g:GG) (α:List Addr) (H:Hp) (E:Ends):Fl->Hh->Prop:=fun fl h=>∀H' α',Ext K α H α' H'->aS K g α' H' h->match fl with
 | .nx e=>∀σ,jV K g α' H' e σ->E.nx σ H'
 | .bk e=>∀σ,jV K g α' H' e σ->E.bk σ H'
 | .ct e=>∀σ,jV K g α' H' e σ->E.ct σ H'
 | .rt d=>∀v,aI K g α' H' d v->E.rt v H'
noncomputable def tM (K:PySem.W.Frag) (g:GG) (ε:EE) (m:ME):TE:=fun σ H Q=>∃α env h,dz K g α H env σ h/\WQ K g ε α H (m env h) (aJ K g α H Q)
noncomputable def tMT (K:PySem.W.Frag) (g:GG) (ε:EE) (m:MT):TT:=fun σ H Q=>∃α env h,dz K g α H env σ h/\WQ K g ε α H (m env h) (mU K g α H Q)
noncomputable def tMA (K:PySem.W.Frag) (g:GG) (ε:EE) (m:MA):TA:=fun σ H Q=>∃α env h,dz K g α H env σ h/\WQ K g ε α H (m env h) (HZ K g α H Q)
noncomputable def tMS (K:PySem.W.Frag) (g:GG) (ε:EE) (m:MS):TS:=fun E σ H=>∃α env h,dz K g α H env σ h/\WQ K g ε α H (m env h) (cG K g α H E)
section
variable {K:PySem.W.Frag} {g:GG} {ε:EE} {α α':List Addr} {H H':Hp} {env:En} {σ:St} {h:Hh}
theorem aJ.ext {Q:VK} {d:D} (e:Ext K α H α' H') (p:aJ K g α H Q d h):aJ K g α' H' Q d h:=fun v H2 α2 e2 r rd=>p v H2 α2 (e.trans e2) r rd
theorem mU.ext {Q:Bool->Hp->Prop} {d:Bool} (e:Ext K α H α' H') (p:mU K g α H Q d h):mU K g α' H' Q d h:=fun H2 α2 e2 r=>p H2 α2 (e.trans e2) r
theorem cG.ext {E:Ends} {d:Fl} (e:Ext K α H α' H') (p:cG K g α H E d h):cG K g α' H' E d h:=fun H2 α2 e2 r=>p H2 α2 (e.trans e2) r
theorem WQ.post {Q:VK} {r:R D} (e:Ext K α H α' H') (w:WQ K g ε α H r (aJ K g α H Q)):WQ K g ε α' H' r (aJ K g α' H' Q):=(w.ext e).mono fun _ _ _ p=>p.ext e
theorem WQ.Jc {Q:Bool->Hp->Prop} {r:R Bool} (e:Ext K α H α' H') (w:WQ K g ε α H r (mU K g α H Q)):WQ K g ε α' H' r (mU K g α' H' Q):=(w.ext e).mono fun _ _ _ p=>p.ext e
theorem WQ.yZ {E:Ends} {r:R Fl} (e:Ext K α H α' H') (w:WQ K g ε α H r (cG K g α H E)):WQ K g ε α' H' r (cG K g α' H' E):=(w.ext e).mono fun _ _ _ p=>p.ext e
theorem tM.use {m:ME} {Q:VK} {k:D->Hh->Prop} (s:dz K g α H env σ h) (w:WQ K g ε α H (m env h) k)
  (q:∀d h' v H' α',Ext K α H α' H'->dz K g α' H' env σ h'->aI K g α' H' d v->k d h'->Q v H'):tM K g ε m σ H Q:=
 ⟨α,env,h,s,w.mono fun d h' _ kk v H' α' e r rd=>q d h' v H' α' e (s.ext e r) rd kk⟩
theorem tMT.use {m:MT} {Q:Bool->Hp->Prop} {k:Bool->Hh->Prop} (s:dz K g α H env σ h) (w:WQ K g ε α H (m env h) k)
  (q:∀d h' H' α',Ext K α H α' H'->dz K g α' H' env σ h'->k d h'->Q d H'):tMT K g ε m σ H Q:=
 ⟨α,env,h,s,w.mono fun d h' _ kk H' α' e r=>q d h' H' α' e (s.ext e r) kk⟩
theorem tMA.use {m:MA} {Q:List V->Hp->Prop} {k:List D->Hh->Prop} (s:dz K g α H env σ h) (w:WQ K g ε α H (m env h) k)
  (q:∀d h' v H' α',Ext K α H α' H'->dz K g α' H' env σ h'->ay K g α' H' d v->k d h'->Q v H'):tMA K g ε m σ H Q:=
 ⟨α,env,h,s,w.mono fun d h' _ kk v H' α' e r rd=>q d h' v H' α' e (s.ext e r) rd kk⟩
theorem aJ.now {Q:VK} {d:D} {v:V} (p:aJ K g α H Q d h) (r:aS K g α H h) (rd:aI K g α H d v):Q v H:=p v H α Ext.refl r rd
end
theorem PE.imp {X:Cx} {e:Expr} {t t':TE} (h:PE X e t) (i:∀σ H Q,t' σ H Q->t σ H Q):PE X e t':=fun pins s σ H Q I w=>h pins s σ H Q I (i σ H Q w)
theorem PT.imp {X:Cx} {e:Expr} {t t':TT} (h:PT X e t) (i:∀σ H Q,t' σ H Q->t σ H Q):PT X e t':=fun pins s σ H Q I w=>h pins s σ H Q I (i σ H Q w)
theorem PW.imp {X:Cx} {e:Expr} {t t':TT} (h:PW X e t) (i:∀σ H Q,t' σ H Q->t σ H Q):PW X e t':=fun wh pins s σ H Q I w=>h wh pins s σ H Q I (i σ H Q w)
theorem PA.imp {X:Cx} {e:List Expr} {t t':TA} (h:PA X e t) (i:∀σ H Q,t' σ H Q->t σ H Q):PA X e t':=fun p pins s σ H Q I w=>h p pins s σ H Q I (i σ H Q w)
theorem PS.imp {X:Cx} {e:Stmt} {t t':TS} (h:PS X e t) (i:∀σ H Q,t' σ H Q->t σ H Q):PS X e t':=fun pins s σ H Q I w=>h pins s σ H Q I (i Q σ H w)
theorem PSs.imp {X:Cx} {e:List Stmt} {t t':TS} (h:PSs X e t) (i:∀σ H Q,t' σ H Q->t σ H Q):PSs X e t':=fun pins s σ H Q I w=>h pins s σ H Q I (i Q σ H w)
noncomputable def ae (i:Nat):ME:=fun env h=>match env[i]? with
 | some (some d)=>.ok d h
 | _=>.bad
noncomputable def cC (d:D):ME:=fun _ h=>.ok d h
noncomputable def aq (f:D->D->Hh->R D) (a b:ME):ME:=fun env h=>(a env h).bind fun x h1=>(b env h1).bind fun y h2=>f x y h2
noncomputable def cUn (f:D->Hh->R D) (a:ME):ME:=fun env h=>(a env h).bind fun x h1=>f x h1
noncomputable def ao:MA:=fun _ h=>.ok [] h
noncomputable def aa (a:ME) (r:MA):MA:=fun env h=>(a env h).bind fun x h1=>(r env h1).bind fun xs h2=>.ok (x::xs) h2
noncomputable def aj (f:List D->Hh->R D) (a:MA):ME:=fun env h=>(a env h).bind fun xs h1=>f xs h1
noncomputable def aC (f:D->Hh->R Bool) (a:ME):MT:=fun env h=>(a env h).bind fun x h1=>f x h1
noncomputable def j1 (a:MT):MT:=fun env h=>(a env h).bind fun b h1=>.ok (!b) h1
noncomputable def Bb (a b:MT):MT:=fun env h=>(a env h).bind fun x h1=>if x=true then b env h1 else .ok false h1
noncomputable def wk (a b:MT):MT:=fun env h=>(a env h).bind fun x h1=>if x=true then .ok true h1 else b env h1
noncomputable def cIf (c:MT) (a b:ME):ME:=fun env h=>(c env h).bind fun x h1=>if x=true then a env h1 else b env h1
noncomputable def asB:D->Hh->R Bool
 | .bl b,h=>.ok b h
 | _,_=>.bad
noncomputable def oU (a b:ME):ME:=fun env h=>(a env h).bind fun x h1=>(asB x h1).bind fun k h2=>if k=true then b env h2 else .ok (.bl false) h2
noncomputable def CY (a:ME):ME:=fun env h=>(a env h).bind fun x h1=>(asB x h1).bind fun k h2=>.ok (.bl (!k)) h2
noncomputable def mj (f f':D->D->Hh->R D) (a b c:ME):ME:=fun env h=>(a env h).bind fun x h1=>(b env h1).bind fun y h2=>(f x y h2).bind fun z h3=>(asB z h3).bind fun k h4=>
 if k=true then (c env h4).bind fun w h5=>f' y w h5 else .ok (.bl false) h4
noncomputable def eJ (K:PySem.W.Frag) (g:GG) (ε:EE) (f:D->D->Hh->R D) (r:R2):Prop:=
 ∀(α:List Addr) (H:Hp) (h:Hh) (a b:D) (x y:V) (Q:VK),aS K g α H h->aI K g α H a x->aI K g α H b y->WQ K g ε α H (f a b h) (aJ K g α H Q)->r x y H Q
noncomputable def Ji (K:PySem.W.Frag) (g:GG) (ε:EE) (f:D->Hh->R D) (r:V->Hp->VK->Prop):Prop:=
 ∀(α:List Addr) (H:Hp) (h:Hh) (a:D) (x:V) (Q:VK),aS K g α H h->aI K g α H a x->WQ K g ε α H (f a h) (aJ K g α H Q)->r x H Q
noncomputable def HR (K:PySem.W.Frag) (g:GG) (ε:EE) (f:D->Hh->R Bool) (r:V->Hp->(Bool->Hp->Prop)->Prop):Prop:=
 ∀(α:List Addr) (H:Hp) (h:Hh) (a:D) (x:V) (Q:Bool->Hp->Prop),aS K g α H h->aI K g α H a x->WQ K g ε α H (f a h) (mU K g α H Q)->r x H Q
noncomputable def tj (K:PySem.W.Frag) (g:GG) (ε:EE) (f:List D->Hh->R D) (r:List V->Hp->VK->Prop):Prop:=
 ∀(α:List Addr) (H:Hp) (h:Hh) (a:List D) (x:List V) (Q:VK),aS K g α H h->ay K g α H a x->WQ K g ε α H (f a h) (aJ K g α H Q)->r x H Q
noncomputable def zF (K:PySem.W.Frag) (g:GG) (ε:EE) (f:D->List D->Hh->R D) (r:V->List V->Hp->VK->Prop):Prop:=
 ∀(α:List Addr) (H:Hp) (h:Hh) (o:D) (a:List D) (y:V) (x:List V) (Q:VK),aS K g α H h->aI K g α H o y->ay K g α H a x->WQ K g ε α H (f o a h) (aJ K g α H Q)->r y x H Q
section
variable {X:Cx} {g:GG} {ε:EE} {a b c:Expr} {ma mb mc:ME} {pos:Pos}
theorem af (i:Nat) {x:Str} {pos:Pos} (hN:X.N[i]?=some x:=by rfl) (hv:Vis X.env.scope x:=by first | exact Or.inl rfl | exact Or.inr (Or.inl rfl) | exact Or.inr (Or.inr rfl)) (hd:(x == ("__debug__" : Str))=false:=by decide)
  (hcd:(x == ("__classdict__" : Str))=false:=by decide):PE X (.Name x pos) (tM X.K g ε (ae i)):=by
 refine PE.imp (xW hN hv hd hcd) fun σ H Q ⟨α,env,h,s,w⟩=>?_
 unfold ae at w
 cases e:env[i]? with
 | none=>rw[e] at w;exact w.elim
 | some d=>
  cases d with
  | none=>rw[e] at w;exact w.elim
  | some d=>
   rw[e] at w
   obtain⟨v,hv,rd⟩:=s.vs.vars i d e
   exact⟨v,hv,aJ.now w s.heap rd⟩
theorem yk {v:V} {d:D} {Q:VK} {σ:St} {H:Hp} (rd:∀α,aI X.K g α H d v) (t:tM X.K g ε (cC d) σ H Q):tC v σ H Q:=by
 obtain⟨α,env,h,s,w⟩:=t
 exact aJ.now w s.heap (rd α)
theorem au {i j pos}:PE X (.Constant (.int i) j pos) (tM X.K g ε (cC (.int i))):=PE.imp G7 fun _ _ _ t=>yk (fun _=>.int i) t
theorem pw {i j pos}:PE X (.Constant (.bool i) j pos) (tM X.K g ε (cC (.bl i))):=PE.imp IP fun _ _ _ t=>yk (fun _=>.bl i) t
theorem f7 {i j pos}:PE X (.Constant (.str i) j pos) (tM X.K g ε (cC (.str i))):=PE.imp GA fun _ _ _ t=>yk (fun _=>.str i) t
theorem k6 {x:Str} {i:Int} {t:Tok} {pos:Pos} (hg:Gl X x) (hm:X.mg x=some (.int i t)) (hd:(x == ("__debug__" : Str))=false:=by decide):PE X (.Name x pos) (tM X.K g ε (cC (.int i))):=
 PE.imp (EG (v:=.int i) hg hm ⟨t,rfl⟩ hd) fun _ _ _ t=>yk (fun _=>.int i) t
theorem tK {f:D->D->Hh->R D} {r:R2} {K:PySem.W.Frag} (im:eJ K g ε f r) {σ:St} {H:Hp} {Q:VK} (t:tM K g ε (aq f ma mb) σ H Q):tOp r (tM K g ε ma) (tM K g ε mb) σ H Q:=by
 obtain⟨α,env,h,s,w⟩:=t
 refine tM.use s w.bind fun d1 h1 v1 H1 α1 e1 s1 r1 w1=>?_
 refine tM.use s1 (w1.ext e1).bind fun d2 h2 v2 H2 α2 e2 s2 r2 w2=>?_
 exact im α2 H2 h2 d1 d2 v1 v2 Q s2.heap (r1.ext e2) r2 ((w2.ext e2).mono fun _ _ _ p=>p.ext (e1.trans e2))
theorem aL {op:Operator} {r:R2} {f:D->D->Hh->R D} (ho:OpR X (binaryOp op) r) (im:eJ X.K g ε f r) (ha:PE X a (tM X.K g ε ma)) (hb:PE X b (tM X.K g ε mb)):PE X (.BinOp a op b pos) (tM X.K g ε (aq f ma mb)):=
 PE.imp (Iz ho ha hb) fun _ _ _ t=>tK im t
theorem kF {op:CmpOp} {r:R2} {f:D->D->Hh->R D} (ho:OpR X (compareOp op) r) (im:eJ X.K g ε f r) (ha:PE X a (tM X.K g ε ma)) (hb:PE X b (tM X.K g ε mb)) (hm:behindInMarks op b=false):PE X (.Compare a [op] [b] pos) (tM X.K g ε (aq f ma mb)):=
 PE.imp (EO ho ha hb hm) fun _ _ _ t=>tK im t
theorem wa {K:PySem.W.Frag} {m:ME} {t:TE} (ht:∀σ H Q,tM K g ε m σ H Q->t σ H Q) {σ:St} {H:Hp} {Q:Bool->Hp->Prop} (w:tMT K g ε (aC asB m) σ H Q):CK t σ H Q:=by
 obtain⟨α,env,h,s,w⟩:=w
 refine ht _ _ _ (tM.use s w.bind fun d1 h1 v1 H1 α1 e1 s1 r1 w1=>?_)
 unfold asB at w1
 cases r1 with
 | bl k=>exact⟨k,rfl,w1 H1 α1 e1 s1.heap⟩
 | _=>exact w1.elim
theorem aZ {op:CmpOp} {r:R2} {f:D->D->Hh->R D} (ho:OpR X (compareOp op) r) (im:eJ X.K g ε f r) (ha:PE X a (tM X.K g ε ma)) (hb:PE X b (tM X.K g ε mb)) (hm:behindInMarks op b=false):PT X (.Compare a [op] [b] pos) (tMT X.K g ε (aC asB (aq f ma mb))):=
 PT.imp (EV ho ha hb hm) fun _ _ _ t=>wa (fun _ _ _ u=>tK im u) t
theorem sA {f f':D->D->Hh->R D} {r r':R2} {K:PySem.W.Frag} (im:eJ K g ε f r) (im':eJ K g ε f' r') {σ:St} {H:Hp} {Q:VK} (t:tM K g ε (mj f f' ma mb mc) σ H Q):xD r r' (tM K g ε ma) (tM K g ε mb) (tM K g ε mc) σ H Q:=by
 obtain⟨α,env,h,s,w⟩:=t
 refine tM.use s w.bind fun d1 h1 v1 H1 α1 e1 s1 r1 w1=>?_
 refine tM.use s1 (w1.ext e1).bind fun d2 h2 v2 H2 α2 e2 s2 r2 w2=>?_
 refine im α2 H2 h2 d1 d2 v1 v2 _ s2.heap (r1.ext e2) r2 ((w2.ext e2).bind.mono fun z h3 _ w3 v3 H3 α3 e3 hr3 r3=>?_)
 have w4:=w3.bind
 unfold asB at w4
 cases r3 with
 | bl k=>
  refine⟨k,rfl,?_⟩
  have s3:=s2.ext e3 hr3
  cases k with
  | true=>
   have w5:WQ K g ε α2 H2 ((mc env h3).bind fun w h5=>f' d2 w h5) _:=w4
   rw[if_pos rfl]
   refine tM.use s3 (w5.ext e3).bind fun d4 h4 v4 H4 α4 e4 s4 r4 w6=>?_
   exact im' α4 H4 h4 d2 d4 v2 v4 Q s4.heap (r2.ext (e3.trans e4)) r4 ((w6.ext e4).mono fun _ _ _ p=>p.ext (e1.trans (e2.trans (e3.trans e4))))
  | false=>
   rw[if_neg Bool.false_ne_true]
   have w5:aJ K g α H Q (.bl false) h3:=w4
   exact w5 _ H3 α3 (e1.trans (e2.trans e3)) s3.heap (.bl false)
 | _=>exact w4.elim
theorem B8 {op op':CmpOp} {r r':R2} {f f':D->D->Hh->R D} (ho:OpR X (compareOp op) r) (ho':OpR X (compareOp op') r') (im:eJ X.K g ε f r) (im':eJ X.K g ε f' r') (ha:PE X a (tM X.K g ε ma)) (hb:PE X b (tM X.K g ε mb)) (hc:PE X c (tM X.K g ε mc))
  (hm:lastMarks [op,op'] [b,c]=false:=by with_unfolding_all rfl):PE X (.Compare a [op,op'] [b,c] pos) (tM X.K g ε (mj f f' ma mb mc)):=PE.imp (BH ho ho' ha hb hc hm) fun _ _ _ t=>sA im im' t
theorem Cj {op op':CmpOp} {r r':R2} {f f':D->D->Hh->R D} (ho:OpR X (compareOp op) r) (ho':OpR X (compareOp op') r') (im:eJ X.K g ε f r) (im':eJ X.K g ε f' r') (ha:PE X a (tM X.K g ε ma)) (hb:PE X b (tM X.K g ε mb)) (hc:PE X c (tM X.K g ε mc))
  (hm:lastMarks [op,op'] [b,c]=false:=by with_unfolding_all rfl):PT X (.Compare a [op,op'] [b,c] pos) (tMT X.K g ε (aC asB (mj f f' ma mb mc))):=PT.imp (BL ho ho' ha hb hc hm) fun _ _ _ t=>wa (fun _ _ _ u=>sA im im' u) t
theorem pP {op:UnaryOp} {r:V->Hp->VK->Prop} {f:D->Hh->R D} (ho:UnR X (unaryOp op) r) (im:Ji X.K g ε f r) (ha:PE X a (tM X.K g ε ma)):PE X (.UnaryOp op a pos) (tM X.K g ε (cUn f ma)):=
 PE.imp (Ia ho ha) fun σ H Q ⟨α,env,h,s,w⟩=>tM.use s w.bind fun d1 h1 v1 H1 α1 e1 s1 r1 w1=>im α1 H1 h1 d1 v1 Q s1.heap r1 (w1.post e1)
theorem cY {r:R2} {f:D->D->Hh->R D} (hr:IxR X r) (im:eJ X.K g ε f r) (ha:PE X a (tM X.K g ε ma)) (hb:PE X b (tM X.K g ε mb)) (hs:yC b):PE X (.Subscript a b pos) (tM X.K g ε (aq f ma mb)):=
 PE.imp (JN hr ha hb hs) fun _ _ _ t=>tK im t
theorem jd {f:D->Hh->R Bool} (im:HR X.K g ε f (fun x H Q=>∃k,Eo X.K x H k/\Q k H)) (ha:PE X a (tM X.K g ε ma)) (he:∀whole,isTrue a X.env whole=(do let v ← whole;standAt a.pos;holding [v] (truthy v))):PT X a (tMT X.K g ε (aC f ma)):=
 PT.imp (C1 ha he) fun σ H Q ⟨α,env,h,s,w⟩=>tM.use s w.bind fun d1 h1 v1 H1 α1 e1 s1 r1 w1=>im α1 H1 h1 d1 v1 Q s1.heap r1 (w1.Jc e1)
theorem tL {mt:MT} (ha:PT X a (tMT X.K g ε mt)):PT X (.UnaryOp .Not a pos) (tMT X.K g ε (j1 mt)):=
 PT.imp (Gp ha) fun σ H Q ⟨α,env,h,s,w⟩=>tMT.use s w.bind fun d1 h1 H1 α1 e1 s1 w1=>w1 H1 α1 e1 s1.heap
end
section
variable {X:Cx} {g:GG} {ε:EE} {a b c e:Expr} {es:List Expr} {rest:List Expr} {ma mb mc me:ME} {mt mu:MT} {pos:Pos}
theorem Ej (ha:PT X a (tMT X.K g ε mt)):PW X (.BoolOp .And [a] pos) (tMT X.K g ε mt):=pw_and1 ha
theorem xN (ha:PT X a (tMT X.K g ε mt)):PW X (.BoolOp .Or [a] pos) (tMT X.K g ε mt):=pw_or1 ha
theorem Hl (ha:PT X a (tMT X.K g ε mt)) (hb:PW X (.BoolOp .And (b::rest) pos) (tMT X.K g ε mu)):PW X (.BoolOp .And (a::b::rest) pos) (tMT X.K g ε (Bb mt mu)):=
 PW.imp (pw_and ha hb) fun σ H Q ⟨α,env,h,s,w⟩=>tMT.use s w.bind fun d1 h1 H1 α1 e1 s1 w1=>by
  cases d1 with
  | true=>rw[if_pos rfl] at w1 ⊢;exact tMT.use s1 (w1.ext e1) fun d2 h2 H2 α2 e2 s2 w2=>w2 H2 α2 (e1.trans e2) s2.heap
  | false=>rw[if_neg Bool.false_ne_true] at w1 ⊢;exact w1 H1 α1 e1 s1.heap
theorem x9 (ha:PT X a (tMT X.K g ε mt)) (hb:PW X (.BoolOp .Or (b::rest) pos) (tMT X.K g ε mu)):PW X (.BoolOp .Or (a::b::rest) pos) (tMT X.K g ε (wk mt mu)):=
 PW.imp (pw_or ha hb) fun σ H Q ⟨α,env,h,s,w⟩=>tMT.use s w.bind fun d1 h1 H1 α1 e1 s1 w1=>by
  cases d1 with
  | true=>rw[if_pos rfl] at w1 ⊢;exact w1 H1 α1 e1 s1.heap
  | false=>rw[if_neg Bool.false_ne_true] at w1 ⊢;exact tMT.use s1 (w1.ext e1) fun d2 h2 H2 α2 e2 s2 w2=>w2 H2 α2 (e1.trans e2) s2.heap
theorem gf (hc:PT X c (tMT X.K g ε mt)) (ha:PE X a (tM X.K g ε ma)) (hb:PE X b (tM X.K g ε mb)):PE X (.IfExp c a b pos) (tM X.K g ε (cIf mt ma mb)):=
 PE.imp (A3 hc ha hb) fun σ H Q ⟨α,env,h,s,w⟩=>tMT.use s w.bind fun d1 h1 H1 α1 e1 s1 w1=>by
  cases d1 with
  | true=>rw[if_pos rfl] at w1 ⊢;exact tM.use s1 (w1.ext e1) fun d2 h2 v2 H2 α2 e2 s2 r2 w2=>w2 v2 H2 α2 (e1.trans e2) s2.heap r2
  | false=>rw[if_neg Bool.false_ne_true] at w1 ⊢;exact tM.use s1 (w1.ext e1) fun d2 h2 v2 H2 α2 e2 s2 r2 w2=>w2 v2 H2 α2 (e1.trans e2) s2.heap r2
theorem uJ {op} (h:PE X a (tM X.K g ε ma)):PE X (.BoolOp op [a] pos) (tM X.K g ε ma):=HF h
theorem AX {K:PySem.W.Frag} {α:List Addr} {H H1:Hp} {α1:List Addr} {d:D} {v:V} {h:Hh} {β:Type} {f:Bool->Hh->R β} {k:β->Hh->Prop} (r:aI K g α1 H1 d v) (w:WQ K g ε α H ((asB d h).bind f) k):∃b,v=.bl b/\d=.bl b/\WQ K g ε α H (f b h) k:=by
 cases r with
 | bl b=>exact⟨b,rfl,rfl,w⟩
 | _=>exact w.elim
theorem sW (ha:PE X a (tM X.K g ε ma)) (hb:PE X (.BoolOp .And (b::rest) pos) (tM X.K g ε mb)):PE X (.BoolOp .And (a::b::rest) pos) (tM X.K g ε (oU ma mb)):=
 PE.imp (HD ha hb) fun σ H Q ⟨α,env,h,s,w⟩=>tM.use s w.bind fun d1 h1 v1 H1 α1 e1 s1 r1 w1=>by
  obtain⟨k,rfl,rfl,w2⟩:=AX r1 w1
  refine⟨k,rfl,?_⟩
  cases k with
  | true=>rw[if_pos rfl] at w2 ⊢;exact tM.use s1 (w2.ext e1) fun d2 h2 v2 H2 α2 e2 s2 r2 w2=>w2 v2 H2 α2 (e1.trans e2) s2.heap r2
  | false=>rw[if_neg Bool.false_ne_true] at w2 ⊢;exact w2 _ H1 α1 e1 s1.heap (.bl false)
theorem FQ (ha:PE X a (tM X.K g ε ma)):PE X (.UnaryOp .Not a pos) (tM X.K g ε (CY ma)):=
 PE.imp (F7 ha) fun σ H Q ⟨α,env,h,s,w⟩=>tM.use s w.bind fun d1 h1 v1 H1 α1 e1 s1 r1 w1=>by
  obtain⟨k,rfl,rfl,w2⟩:=AX r1 w1
  exact⟨k,rfl,w2 _ H1 α1 e1 s1.heap (.bl _)⟩
variable {mr:MA}
theorem ak:PA X [] (tMA X.K g ε ao):=PA.imp l6 fun σ H Q ⟨α,env,h,s,w⟩=>w [] H α Ext.refl s.heap .nil
theorem ag (ha:PE X e (tM X.K g ε ma)) (hr:PA X es (tMA X.K g ε mr)) (hs:starEach (e::es) X.env=(false,eval e X.env)::starEach es X.env:=by rfl):PA X (e::es) (tMA X.K g ε (aa ma mr)):=
 PA.imp (fM ha hr hs) fun σ H Q ⟨α,env,h,s,w⟩=>tM.use s w.bind fun d1 h1 v1 H1 α1 e1 s1 r1 w1=>tMA.use s1 (w1.ext e1).bind fun d2 h2 v2 H2 α2 e2 s2 r2 w2=>w2 _ H2 α2 (e1.trans e2) s2.heap (.cons (r1.ext e2) r2)
noncomputable def b_:List D->Hh->R D:=fun ds h=>if ds.length<=1000000 then .ok (.tup ds) h else .bad
theorem aJ.tup {K:PySem.W.Frag} {α:List Addr} {H:Hp} {h:Hh} {ds:List D} {vs:List V} {Q:VK} {p:Addr} (w:aJ K g α H Q (.tup ds) h) (r:aS K g α H h) (rd:ay K g α H ds vs) (n:H p=none):Q (.ref p) (upd H p (.tup vs)):=
 w _ _ α (Ext.fresh n) (r.grow n) (.tup a8 (rd.ext (Ext.fresh n)))
theorem WQ.dD {K:PySem.W.Frag} {α:List Addr} {H:Hp} {β:Type} {c:Prop} [Decidable c] {r:R β} {k:β->Hh->Prop} (w:WQ K g ε α H (if c then r else .bad) k):c/\WQ K g ε α H r k:=by
 by_cases h:c
 ·rw[if_pos h] at w;exact⟨h,w⟩
 ·rw[if_neg h] at w;exact w.elim
theorem gE {n:Nat} (h:n<=1000000):n<=sizeLine:=by rw[sizeLine_eq];omega
theorem cW {x1} (ha:PA X es (tMA X.K g ε mr)):PE X (.Tuple es x1 pos) (tM X.K g ε (aj b_ mr)):=
 PE.imp (Hv ha) fun σ H Q ⟨α,env,h,s,w⟩=>tMA.use s w.bind fun d1 h1 v1 H1 α1 e1 s1 r1 w1=>by
  obtain⟨hl,w2⟩:=WQ.dD w1
  exact⟨gE (by rw[<- r1.length];exact hl),fun p hp=>aJ.tup (aJ.ext e1 w2) s1.heap r1 hp⟩
theorem C8 {f:List D->Hh->R D} {r:List V->Hp->VK->Prop} {K:PySem.W.Frag} (im:tj K g ε f r) {σ:St} {H:Hp} {Q:VK} (t:tM K g ε (aj f mr) σ H Q):tCB r (tMA K g ε mr) σ H Q:=by
 obtain⟨α,env,h,s,w⟩:=t
 exact tMA.use s w.bind fun d1 h1 v1 H1 α1 e1 s1 r1 w1=>im α1 H1 h1 d1 v1 Q s1.heap r1 (w1.post e1)
theorem bw {id:String} {x:Str} {p:Pos} {f:List D->Hh->R D} {r:List V->Hp->VK->Prop} (hc:cP X (.builtin id) r) (im:tj X.K g ε f r) (hg:Gl X x) (hm:X.mg x=none) (hv:bootBuiltins x=some (.builtin id)) (ha:PA X (e::es) (tMA X.K g ε mr)) (hn:x≠"__name__" := by decide) (hdb:(x == ("__debug__" : Str))=false:=by decide)
  (he:starEach (e::es) X.env=(false,eval e X.env)::starEach es X.env:=by rfl) (hpl:(backTo pos (starEach es X.env)).any (·.1)=false:=by rfl):PE X (.Call (.Name x p) (e::es) [] pos) (tM X.K g ε (aj f mr)):=
 PE.imp (lC hc hg hm hv ha hn hdb he hpl) fun _ _ _ t=>C8 im t
theorem eU {id:String} {x:Str} {p:Pos} {f:List D->Hh->R D} {r:List V->Hp->VK->Prop} (hc:cP X (.type id) r) (im:tj X.K g ε f r) (hg:Gl X x) (hm:X.mg x=none) (hv:bootBuiltins x=some (.type id)) (ha:PA X (e::es) (tMA X.K g ε mr)) (hn:x≠"__name__" := by decide) (hdb:(x == ("__debug__" : Str))=false:=by decide)
  (he:starEach (e::es) X.env=(false,eval e X.env)::starEach es X.env:=by rfl) (hpl:(backTo pos (starEach es X.env)).any (·.1)=false:=by rfl):PE X (.Call (.Name x p) (e::es) [] pos) (tM X.K g ε (aj f mr)):=
 PE.imp (Ax hc hg hm hv ha hn hdb he hpl) fun _ _ _ t=>C8 im t
end
noncomputable def b9:MS:=fun env h=>.ok (.nx env) h
noncomputable def aF (a b:MS):MS:=fun env h=>(a env h).bind fun fl h1=>match fl with
 | .nx e=>b e h1
 | fl=>.ok fl h1
noncomputable def fi (a:ME):MS:=fun env h=>(a env h).bind fun _ h1=>.ok (.nx env) h1
noncomputable def bB (a:ME):MS:=fun env h=>(a env h).bind fun d h1=>.ok (.rt d) h1
noncomputable def dN (c:MT) (a b:MS):MS:=fun env h=>(c env h).bind fun x h1=>if x=true then a env h1 else b env h1
noncomputable def aV (i:Nat) (a:ME):MS:=fun env h=>(a env h).bind fun d h1=>.ok (.nx (env.set i (some d))) h1
noncomputable def zM (i j:Nat) (a:MA):MS:=fun env h=>(a env h).bind fun ds h1=>match ds with
 | [x,y]=>.ok (.nx ((env.set i (some x)).set j (some y))) h1
 | _=>.bad
noncomputable def kq (f:D->D->D->Hh->R Unit) (o i v:ME):MS:=fun env h=>(v env h).bind fun x h1=>(o env h1).bind fun y h2=>(i env h2).bind fun z h3=>(f y z x h3).bind fun _ h4=>.ok (.nx env) h4
section
variable {X:Cx} {g:GG} {ε:EE} {e:Expr} {me:ME} {ms mu:MS} {mt:MT} {st:Stmt} {rest:List Stmt} {pos:Pos}
theorem dz.nx {K:PySem.W.Frag} {α α':List Addr} {H H':Hp} {env:En} {σ:St} {h':Hh} {E:Ends} (s:dz K g α' H' env σ h') (e:Ext K α H α' H') (w:cG K g α H E (.nx env) h'):E.nx σ H':=w H' α' e s.heap σ s.vs
theorem b8:PSs X [] (tMS X.K g ε b9):=PSs.imp Ds fun E σ H ⟨α,env,h,s,w⟩=>s.nx Ext.refl w
theorem tMS.use {K:PySem.W.Frag} {α:List Addr} {H:Hp} {env:En} {σ:St} {h:Hh} {m:MS} {E:Ends} {k:Fl->Hh->Prop} (s:dz K g α H env σ h) (w:WQ K g ε α H (m env h) k)
  (q:∀fl h' H' α',Ext K α H α' H'->aS K g α' H' h'->k fl h'->match fl with
   | .nx e=>∀σ',dz K g α' H' e σ' h'->E.nx σ' H'
   | .bk e=>∀σ',dz K g α' H' e σ' h'->E.bk σ' H'
   | .ct e=>∀σ',dz K g α' H' e σ' h'->E.ct σ' H'
   | .rt d=>∀v,aI K g α' H' d v->E.rt v H'):tMS K g ε m E σ H:=
 ⟨α,env,h,s,w.mono fun fl h' _ kk H' α' e r=>by
  have:=q fl h' H' α' e r kk
  cases fl with
  | nx e=>exact fun σ' v=>this σ' ⟨r,v⟩
  | bk e=>exact fun σ' v=>this σ' ⟨r,v⟩
  | ct e=>exact fun σ' v=>this σ' ⟨r,v⟩
  | rt d=>exact this⟩
theorem aw (h1:PS X st (tMS X.K g ε ms)) (h2:PSs X rest (tMS X.K g ε mu)):PSs X (st::rest) (tMS X.K g ε (aF ms mu)):=
 PSs.imp (CD h1 h2) fun E σ H ⟨α,env,h,s,w⟩=>tMS.use s w.bind fun fl h' H' α' e r kk=>by
  cases fl with
  | nx env'=>exact fun σ' s'=>⟨α',env',h',s',WQ.yZ e kk⟩
  | bk env'=>exact fun σ' s'=>(show cG X.K g α H E (.bk env') h' from kk) H' α' e r σ' s'.vs
  | ct env'=>exact fun σ' s'=>(show cG X.K g α H E (.ct env') h' from kk) H' α' e r σ' s'.vs
  | rt d=>exact fun v rv=>(show cG X.K g α H E (.rt d) h' from kk) H' α' e r v rv
theorem aE (h1:PS X st (tMS X.K g ε ms)):PSs X [st] (tMS X.K g ε ms):=yU h1
theorem fW (he:PE X e (tM X.K g ε me)) (hs:swapsWith e none pos.line X.env=pure false:=by rfl):PS X (.Expr e pos) (tMS X.K g ε (fi me)):=
 PS.imp (DA he hs) fun E σ H ⟨α,env,h,s,w⟩=>tM.use s w.bind fun d1 h1 v1 H1 α1 e1 s1 r1 w1=>s1.nx e1 w1
theorem bA (he:PE X e (tM X.K g ε me)):PS X (.Return (some e) pos) (tMS X.K g ε (bB me)):=
 PS.imp (Bl he) fun E σ H ⟨α,env,h,s,w⟩=>tM.use s w.bind fun d1 h1 v1 H1 α1 e1 s1 r1 w1=>(show cG X.K g α H E (.rt d1) h1 from w1) H1 α1 e1 s1.heap v1 r1
theorem i3 {c:Expr} {A B:List Stmt} (hc:PT X c (tMT X.K g ε mt)) (ha:PSs X A (tMS X.K g ε ms)) (hb:PSs X B (tMS X.K g ε mu)):PS X (.If c A B pos) (tMS X.K g ε (dN mt ms mu)):=
 PS.imp (IA hc ha hb) fun E σ H ⟨α,env,h,s,w⟩=>tMT.use s w.bind fun d1 h1 H1 α1 e1 s1 w1=>by
  cases d1 with
  | true=>rw[if_pos rfl] at w1 ⊢;exact⟨α1,env,h1,s1,WQ.yZ e1 w1⟩
  | false=>rw[if_neg Bool.false_ne_true] at w1 ⊢;exact⟨α1,env,h1,s1,WQ.yZ e1 w1⟩
theorem bO {i:Nat} {x:Str} {pos':Pos} (hN:X.N.Nodup) (hi:X.N[i]?=some x) (hx:Loc X.env.scope x) (he:PE X e (tM X.K g ε me)) (hs:swapsWith e (some (.Name x pos')) pos.line X.env=pure false:=by rfl) (hf:X.fn x=true\/X.env.scope.names.lookup x=some .local:=by first | exact .inl rfl | exact .inr rfl | assumption) :
  PS X (.Assign [.Name x pos'] e pos) (tMS X.K g ε (aV i me)):=
 PS.imp (HL hN hi hx he hs hf) fun E σ H ⟨α,env,h,s,w⟩=>tM.use s w.bind fun d1 h1 v1 H1 α1 e1 s1 r1 w1=>(show cG X.K g α H E (.nx (env.set i (some d1))) h1 from w1) H1 α1 e1 s1.heap _ (s1.vs.set r1)
theorem JE {i j:Nat} {x y:Str} {a b:Expr} {ma:MA} {px py pt:Pos} {kt k2 pt2} (hc:X.calm=true) (hN:X.N.Nodup) (hi:X.N[i]?=some x) (hj:X.N[j]?=some y) (hij:i≠j)
  (hx:X.env.scope.names.lookup x=some .local) (hy:X.env.scope.names.lookup y=some .local) (ha:PA X [a,b] (tMA X.K g ε ma))
  (hw:swappedStores [.Tuple [.Name x px,.Name y py] kt pt] (.Tuple [a,b] k2 pt2) X.env=pure (some [x,y]))
  (hs:swapsWithSole [.Tuple [.Name x px,.Name y py] kt pt] (.Tuple [a,b] k2 pt2) pos.line X.env=pure false:=by rfl) :
  PS X (.Assign [.Tuple [.Name x px,.Name y py] kt pt] (.Tuple [a,b] k2 pt2) pos) (tMS X.K g ε (zM i j ma)):=
 PS.imp (GC hc hN hi hj hij hx hy ha hw hs) fun E σ H ⟨α,env,h,s,w⟩=>tMA.use s w.bind fun d1 h1 v1 H1 α1 e1 s1 r1 w1=>by
  cases r1 with
  | nil=>exact w1.elim
  | cons ra rr=>
   cases rr with
   | nil=>exact w1.elim
   | cons rb rr=>
    cases rr with
    | nil=>exact⟨_,_,rfl,(show cG X.K g α H E (.nx _) h1 from w1) H1 α1 e1 s1.heap _ ((s1.vs.set ra).set rb)⟩
    | cons _ _=>exact w1.elim
noncomputable def JJ (K:PySem.W.Frag) (g:GG) (ε:EE) (f:D->D->D->Hh->R Unit) (t:wK):Prop:=
 ∀(α:List Addr) (H:Hp) (h:Hh) (o i v:D) (x y z:V) (Q:Hp->Prop),aS K g α H h->aI K g α H o x->aI K g α H i y->aI K g α H v z->WQ K g ε α H (f o i v h) (fun _ h'=>∀H' α',Ext K α H α' H'->aS K g α' H' h'->Q H')->t x y z H Q
theorem yf {o i:Expr} {mo mi:ME} {t:wK} {f:D->D->D->Hh->R Unit} {p:Pos} (he:PE X e (tM X.K g ε me)) (ho:PE X o (tM X.K g ε mo)) (hi:PE X i (tM X.K g ε mi)) (hp:Ep X t) (im:JJ X.K g ε f t)
  (ha:∀v,assign (.Subscript o i p) X.env v=(do
   let ov ← holding [v] (eval o X.env)
   let iv ← holding [v,ov] (eval i X.env)
   standAt p
   holding [v,ov,iv] (setItem ov iv v)
   release [v,ov,iv] []):=by intro _;rfl)
  (hs:swapsWithSole [.Subscript o i p] e pos.line X.env=pure false:=by rfl) (hw:swappedStores [.Subscript o i p] e X.env=pure none:=by rfl)
  (h1:(assignEach [.Subscript o i p] X.env).map (·.2)=[assign (.Subscript o i p) X.env]:=by rfl):PS X (.Assign [.Subscript o i p] e pos) (tMS X.K g ε (kq f mo mi me)):=
 PS.imp (wI he (FR ho hi hp ha) hs hw h1) fun E σ H ⟨α,env,h,s,w⟩=>tM.use s w.bind fun d1 h1 v1 H1 α1 e1 s1 r1 w1=>tM.use s1 (w1.ext e1).bind fun d2 h2 v2 H2 α2 e2 s2 r2 w2=>tM.use s2 (w2.ext e2).bind fun d3 h3 v3 H3 α3 e3 s3 r3 w3=>by
  refine im α3 H3 h3 d2 d3 d1 v2 v3 v1 _ s3.heap (r2.ext e3) r3 ((r1.ext e2).ext e3) ((w3.ext e3).bind.mono fun _ h4 _ w4 H4 α4 e4 hr4=>?_)
  exact(show cG X.K g α H E (.nx env) h4 from w4) H4 α4 (e1.trans (e2.trans (e3.trans e4))) hr4 _ (s3.vs.ext e4)
end
theorem x_ {X:Cx} {pins:List (Addr × Obj)} {σ:St} {H:Hp} {s:Shared} {p:Addr} {u:HO} (I:Inv X pins σ H s) (h:H p=some u) (mu:Mut (some u)):∃o,Inv X pins σ (upd H p (.frz o u)) s:=by
 obtain⟨o,ho⟩:∃o,s.heap.get? p=some o:=by
  have hl:=(I.hok p _ h).lt
  cases e:s.heap.get? p with
  | some o=>exact⟨o,rfl⟩
  | none=> 
   have q:=I.hok p _ h
   cases u with
   | lst xs=>obtain⟨_,_,_,_,e'⟩:=q;rw[e] at e';cases e'
   | dK kvs=>obtain⟨_,_,_,_,o,_,_,e',_⟩:=q;rw[e] at e';cases e'
   | dT kvs=>obtain⟨_,_,_,_,o,_,_,e',_⟩:=q;rw[e] at e';cases e'
   | set S n=>obtain⟨o,_,_,_,e',_⟩:=q;rw[e] at e';cases e'
   | ins C dx fs=>obtain⟨_,_,_,e',_⟩:=q;rw[e] at e';cases e'
   | ext φ=>obtain⟨_,⟨_,e'⟩,_⟩:=q;rw[e] at e';cases e'
   | _=>exact absurd mu (fun z=>z)
 have nt:∀b xs,H b=some (.tup xs)->b≠p:=fun b xs e z=>by subst z;rw[h] at e;cases e;exact mu
 have nf:∀b o u,H b=some (.frz o u)->b≠p:=fun b o u e z=>by subst z;rw[h] at e;cases e;exact mu
 have nb:∀b ps,H b=some (.tbl ps)->b≠p:=fun b ps e z=>by subst z;rw[h] at e;cases e;exact mu
 have no:∀b y,H b=some (.own y)->b≠p:=fun b ps e z=>by subst z;rw[h] at e;cases e;exact mu
 have hok:HOk X.prog X.w (upd H p (.frz o u)) s.heap:=fun b v q=>by
  by_cases hb:b=p
  ·subst hb
   rw[a8] at q;cases q
   exact⟨ho,(I.hok b _ h).jU (fun _ _ _ z=>z) (fun c z=>by rw[aA (no c _ z)];exact z) fun c xs z=>by rw[aA (nt c xs z)];exact z⟩
  ·rw[aA hb] at q
   exact(I.hok b v q).jU (fun _ _ _ z=>z) (fun c z=>by rw[aA (no c _ z)];exact z) fun c xs z=>by rw[aA (nt c xs z)];exact z
 refine⟨o,?_⟩
 have np:∀b,H b=none->b≠p:=fun b e z=>by subst z;rw[h] at e;cases e
 have:=I.un (H':=upd H p (.frz o u)) (h':=s.heap) (t':=s.toks) ⟨fun b o q _ _ _=>q,fun b o q _ _ _=>⟨o.slots,q⟩,fun b v q n _=>(by rw[aA (np b n)];exact n),fun b o q _=>⟨o,q⟩,fun b xs q=>(by rw[aA (nt b xs q)];exact q),fun b o v q=>(by rw[aA (nf b o v q)];exact q),fun b ps q=>⟨#[],by rw[aA (nb b ps q),q];simp⟩⟩ hok
 exact this
noncomputable def lz (Q:VK):VK:=fun v H=>Q v H\/∃p u,v=.ref p/\H p=some u/\Mut (some u)/\∀o,Q v (upd H p (.frz o u))
theorem EP.frz {X:Cx} {pins:List (Addr × Obj)} {σ:St} {Q:VK} {u:Value} {s':Shared} (h:EP X pins σ (lz Q) u s'):EP X pins σ Q u s':=by
 obtain⟨v,H',I,r,q | ⟨p,u,rfl,e,m,q⟩⟩:=h
 ·exact⟨v,H',I,r,q⟩
 ·obtain⟨o,I'⟩:=x_ I e m
  exact⟨_,_,I',r,q o⟩
theorem PE.frz {X:Cx} {e:Expr} {t:TE} (h:PE X e t):PE X e fun σ H Q=>t σ H (lz Q):=fun pins s σ H Q I w=>thn (h pins s σ H _ I w) fun _ _ z=>EP.frz z
theorem OpR.frz {X:Cx} {f:Value->Value->Sem Value} {r:R2} (h:OpR X f r):OpR X f fun x y H Q=>r x y H (lz Q):=fun pins s σ H x y v u Q I rx ry q=>thn (h pins s σ H x y v u _ I rx ry q) fun _ _ z=>EP.frz z
noncomputable def Io (D:Ends):Ends:={ D with nx:=fun σ H=>D.nx σ H\/∃p u,H p=some u/\Mut (some u)/\∀o,D.nx σ (upd H p (.frz o u)) }
theorem PS.frz {X:Cx} {st:Stmt} {t:TS} (h:PS X st t):PS X st fun E σ H=>t (Io E) σ H:=fun pins s σ H E I w=>thn (h pins s σ H _ I w) fun fl s' z=>by
 cases fl with
 | next=>
  obtain⟨σ',H',I,q | ⟨p,u,e,m,q⟩⟩:=z
  ·exact⟨σ',H',I,q⟩
  ·obtain⟨o,I'⟩:=x_ I e m
   exact⟨σ',_,I',q o⟩
 | brk=>exact z
 | cont=>exact z
 | ret u=>exact z
theorem E_ {E:Ends} {σ:St} {i:Nat} {v:V} {H1:Hp} (z:lz (fun v H1=>E.nx (σ.set i (some v)) H1) v H1):(Io E).nx (σ.set i (some v)) H1:=by
 rcases z with z | ⟨p,u,_,e,m,q⟩
 ·exact .inl z
 ·exact .inr ⟨p,u,e,m,q⟩
noncomputable abbrev NL:=List D->Hh->R D
noncomputable def jg:NL:=fun ys h2=>.ok (.ref h2.length) (h2++[O.lst ys])
noncomputable def aR:NL:=fun ys h2=>.ok (.frl ys) h2
class nO (nl:NL):Prop where
 at':∀{K:PySem.W.Frag} {g:GG} {ε:EE} {α1 α2:List Addr} {H1 H2:Hp} {h:Hh} {as:List D} {ys:List V} {acc:Addr} {Q:D->Hh->Prop} {R:VK},WQ K g ε α1 H1 (nl as h) Q->(∀d h',Q d h'->aJ K g α1 H1 R d h')->Ext K α1 H1 α2 H2->aS K g α2 H2 h->ay K g α2 H2 as ys->H2 acc=some (.lst ys)->acc∉α2->H1 acc=none->lz R (.ref acc) H2
instance:nO jg where
 at':=fun{K g ε α1 α2 H1 H2 h as ys acc Q R} w hq x2 hr2 ra ha hna hacc=>by
  have x3:Ext K α1 H1 (α2++[acc]) H2:=⟨x2.toEx0.trans (Ex0.refl.more _),x2.kept,fun p z n=>by
   rcases List.mem_append.mp z with z | z
   ·exact x2.new p z n
   ·rw[List.mem_singleton.mp z];exact hacc⟩
  refine .inl (hq _ _ w _ H2 (α2++[acc]) x3 (hr2.adopt hna ⟨ys,ha,ra.ex0 (Ex0.refl.more _)⟩) (.ref ?_))
  rw[<- hr2.len,List.getElem?_append_right (Nat.le_refl _)];simp
instance:nO aR where
 at':=fun{K g ε α1 α2 H1 H2 h as ys acc Q R} w hq x2 hr2 ra ha hna hacc=>by
  refine .inr ⟨acc,_,rfl,ha,trivial,fun o=>?_⟩
  have soft:DH H2 acc:=.inr ⟨_,ha,fun _ z=>(nomatch z),fun _ _ z=>(nomatch z),fun _ z=>nomatch z⟩
  have x6:Ex0 K α2 H2 α2 (upd H2 acc (.frz o (.lst ys))):=Ex0.upd soft
  refine hq _ _ w _ _ α2 ⟨x2.toEx0.trans x6,fun p u z n nt=>?_,x2.new⟩ (hr2.off soft hna) (.frl ⟨o,a8⟩ (ra.ex0 x6))
  rw[aA (aK z hacc)];exact x2.kept p u z n nt
theorem NL.post {nl:NL} [nO nl] {K:PySem.W.Frag} {g:GG} {ε:EE} {α:List Addr} {H:Hp} {h:Hh} {ds:List D} {vs:List V} {Q:VK} {p:Addr} (w:WQ K g ε α H (nl ds h) (aJ K g α H Q)) (r:aS K g α H h) (rd:ay K g α H ds vs) (n:H p=none):lz Q (.ref p) (upd H p (.lst vs)):=
 nO.at' w (fun _ _ z=>z) (Ext.fresh n) (r.grow n) (rd.ext (Ext.fresh n)) a8 (r.free n) n
noncomputable def dy (nl:NL):List D->Hh->R D:=fun ds h=>if ds.length<=1000000 then nl ds h else .bad
theorem dm {X:Cx} {g:GG} {ε:EE} {es:List Expr} {mr:MA} {pos:Pos} {nl:NL} [nO nl] (ha:PA X es (tMA X.K g ε mr)):PE X (.List es pos) (tM X.K g ε (aj (dy nl) mr)):=
 PE.imp (PE.frz (Gb ha)) fun σ H Q ⟨α,env,h,s,w⟩=>tMA.use s w.bind fun d1 h1 v1 H1 α1 e1 s1 r1 w1=>by
  obtain⟨hl,w2⟩:=WQ.dD w1
  exact⟨gE (by rw[<- r1.length];exact hl),fun p hp=>NL.post (w2.post e1) s1.heap r1 hp⟩
noncomputable def ax (h:Hh) (n:Nat):Option (List D):=match h[n]? with
 | some (.lst ds)=>some ds
 | _=>none
inductive Src where
 | snap (ds:List D)
 | live (n:Nat)
 | liveE (n:Nat)
noncomputable abbrev MI:=En->Hh->R Src
noncomputable abbrev Rdr:=Hh->Nat->Option (Option D)
noncomputable def Src.rdr:Src->Rdr
 | .snap ds=>fun _ i=>some ds[i]?
 | .live n=>fun h i=>(ax h n).map fun ds=>ds[i]?
 | .liveE n=>fun h i=>(ax h n).map fun ds=>(ds[i]?).map fun d=>D.tup [.int i,d]
noncomputable def Src.fuel (s:Src) (h:Hh):Nat:=match s with
 | .snap ds=>ds.length
 | .live n=>((ax h n).getD []).length
 | .liveE n=>((ax h n).getD []).length
noncomputable def Reads (K:PySem.W.Frag) (g:GG) (J:It) (rd:Rdr) (α₀:List Addr) (aG:Hp):Prop:=
 ∀(α:List Addr) (H:Hp) (h:Hh),Ext K α₀ aG α H->aS K g α H h->∀i,match rd h i with
  | none=>True
  | some none=>J.stop i H
  | some (some d)=>J.go i H/\∀x H',J.yld i H x H'->∃α',Ext K α H α' H'/\aS K g α' H' h/\aI K g α' H' d x
noncomputable def tMI (K:PySem.W.Frag) (g:GG) (ε:EE) (m:MI):TI:=fun σ H T=>∃α env h,dz K g α H env σ h/\WQ K g ε α H (m env h) fun sr h'=>∀J H' α',Ext K α H α' H'->aS K g α' H' h'->Reads K g J sr.rdr α' H'->T J H'
theorem PI.imp {X:Cx} {tg e:Expr} {t t':TI} (h:PI X tg e t) (i:∀σ H Q,t' σ H Q->t σ H Q):PI X tg e t':=fun pins s σ H Q I w=>h pins s σ H Q I (i σ H Q w)
noncomputable def f_ (rd:Rdr) (tg:D->En->Hh->R En) (body:MS):Nat->Nat->En->Hh->R Fl
 | k,i,env,h=>match rd h i with
  | none=>.bad
  | some none=>.ok (.nx env) h
  | some (some d)=>match k with
   | 0=>.bad
   | k+1=>(tg d env h).bind fun e1 h1=>(body e1 h1).bind fun fl h2=>match fl with
    | .nx e=>f_ rd tg body k (i+1) e h2
    | .ct e=>f_ rd tg body k (i+1) e h2
    | .bk e=>.ok (.nx e) h2
    | .rt d=>.ok (.rt d) h2
noncomputable def eR (tg:D->En->Hh->R En) (body:MS):List D->En->Hh->R Fl
 | [],env,h=>.ok (.nx env) h
 | d::ds,env,h=>(tg d env h).bind fun e1 h1=>(body e1 h1).bind fun fl h2=>match fl with
  | .nx e=>eR tg body ds e h2
  | .ct e=>eR tg body ds e h2
  | .bk e=>.ok (.nx e) h2
  | .rt d=>.ok (.rt d) h2
theorem D6 (tg:D->En->Hh->R En) (body:MS) (all:List D):∀(ds:List D) (i:Nat) (env:En) (h:Hh),all.drop i=ds->f_ (Src.snap all).rdr tg body ds.length i env h=eR tg body ds env h:=by
 intro ds
 induction ds with
 | nil=>
  intro i env h e
  have:all[i]?=none:=by
   have:=congrArg List.length e
   simp at this
   exact List.getElem?_eq_none (by omega)
  unfold f_ eR Src.rdr
  simp[this]
 | cons d ds ih=>
  intro i env h e
  have h0:all[i]?=some d:=by
   have:=congrArg (fun l=>l[0]?) e
   simpa using this
  have h1:all.drop (i+1)=ds:=by
   have:=congrArg List.tail e
   simpa using this
  unfold f_ eR
  have:(Src.snap all).rdr h i=some (some d):=by unfold Src.rdr;simp[h0]
  rw[this]
  show((tg d env h).bind _)=_
  congr 1
  funext e1 h2
  congr 1
  funext fl h3
  cases fl with
  | nx e=>exact ih (i+1) e h3 h1
  | ct e=>exact ih (i+1) e h3 h1
  | bk e=>rfl
  | rt d=>rfl
noncomputable def fD (mi:MI) (tg:D->En->Hh->R En) (body:MS):MS:=fun env h=>(mi env h).bind fun sr h1=>match sr with
 | .snap ds=>eR tg body ds env h1
 | .live n=>f_ (Src.live n).rdr tg body ((ax h1 n).getD []).length 0 env h1
 | .liveE n=>f_ (Src.liveE n).rdr tg body ((ax h1 n).getD []).length 0 env h1
theorem D1 {mi:MI} {tg:D->En->Hh->R En} {body:MS} {env:En} {h:Hh}:fD mi tg body env h=(mi env h).bind fun sr h1=>f_ sr.rdr tg body (sr.fuel h1) 0 env h1:=by
 unfold fD
 congr 1
 funext sr h1
 cases sr with
 | snap ds=>exact(D6 tg body ds ds 0 env h1 rfl).symm
 | live n=>rfl
 | liveE n=>rfl
noncomputable def gN (i:Nat):D->En->Hh->R En:=fun d env h=>.ok (env.set i (some d)) h
noncomputable def gT2 (i j:Nat):D->En->Hh->R En:=fun d env h=>match d with
 | .tup [x,y]=>.ok ((env.set i (some x)).set j (some y)) h
 | _=>.bad
noncomputable def E9 (K:PySem.W.Frag) (g:GG) (ε:EE) (tg:D->En->Hh->R En) (t:TG):Prop:=
 ∀(α:List Addr) (H:Hp) (h:Hh) (env:En) (σ:St) (d:D) (x:V) (Q:St->Hp->Prop),dz K g α H env σ h->aI K g α H d x →
  WQ K g ε α H (tg d env h) (fun e1 h1=>∀σ' H' α',Ext K α H α' H'->dz K g α' H' e1 σ' h1->Q σ' H')->t x σ H Q
theorem iN {K:PySem.W.Frag} {g:GG} {ε:EE} {i:Nat}:E9 K g ε (gN i) (fj i):=fun α H h env σ d x Q s r w=>w _ H α Ext.refl ⟨s.heap,s.vs.set r⟩
theorem t5 {K:PySem.W.Frag} {g:GG} {ε:EE} {i j:Nat}:E9 K g ε (gT2 i j) (Hw K 2 (r8 (fj i) (r8 (fj j) F6))):=fun α H h env σ d x Q s r w=>by
 unfold gT2 at w
 cases r with
 | tup hq rs=>
  cases rs with
  | nil=>exact w.elim
  | cons ra rr=>
   cases rr with
   | nil=>exact w.elim
   | cons rb rr=>
    cases rr with
    | nil=>exact⟨_,_,rfl,SqT.of hq,rfl,_,_,rfl,_,_,rfl,rfl,w _ H α Ext.refl ⟨s.heap,(s.vs.set ra).set rb⟩⟩
    | cons _ _=>exact w.elim
 | _=>exact w.elim
section
variable {X:Cx} {g:GG} {ε:EE}
theorem j4 {tg iter:Expr} {body:List Stmt} {mi:MI} {t:TG} {fg:D->En->Hh->R En} {mb:MS} {pos:Pos} (hp:PassesOwn (model X.prog X.w) X.A X.env X.xe) (hc:X.calm=true) (hi:PI X tg iter (tMI X.K g ε mi)) (hg:PG X tg t) (ig:E9 X.K g ε fg t) (hb:PSs X body (tMS X.K g ε mb))
  (hs:∀x,foldedSetIterable iter X.env x=pure x:=by intro _;rfl):PS X (.For tg iter body [] pos) (tMS X.K g ε (fD mi fg mb)):=by
 refine PS.imp (G1 hp hc hi hg hb hs) fun E σ H ⟨α,env,h,s,w⟩=>?_
 rw[D1] at w
 refine⟨α,env,h,s,w.bind.mono fun sr h1 _ w1 J H1 α1 e1 hr1 rd=>?_⟩
 refine⟨fun i m σ H=>∃α env h,Ext X.K α1 H1 α H/\dz X.K g α H env σ h/\WQ X.K g ε α H (f_ sr.rdr fg mb m i env h) (cG X.K g α H E),⟨sr.fuel h1,α1,env,h1,Ext.refl,s.ext e1 hr1,w1.yZ e1⟩,?_⟩
 rintro i m σ2 H2 ⟨α2,env2,h2,x2,s2,w2⟩
 have q:=rd α2 H2 h2 x2 s2.heap i
 unfold f_ at w2
 cases e:sr.rdr h2 i with
 | none=>rw[e] at w2;exact w2.elim
 | some od=>
  rw[e] at w2 q
  cases od with
  | none=>exact .inl ⟨q,s2.nx Ext.refl w2⟩
  | some d=>
   cases m with
   | zero=>exact w2.elim
   | succ m=>
    have w3:=WQ.bind (show WQ X.K g ε α2 H2 ((fg d env2 h2).bind _) _ from w2)
    refine .inr ⟨q.1,fun σ' H'=>∃α env h,Ext X.K α1 H1 α H'/\dz X.K g α H' env σ' h/\WQ X.K g ε α H' (f_ sr.rdr fg mb m (i+1) env h) (cG X.K g α H' E),fun σ' H' z=>⟨m,Nat.lt_succ_self _,z⟩,fun x H3 y=>?_⟩
    obtain⟨α3,x3,hr3,rx⟩:=q.2 x H3 y
    refine ig α3 H3 h2 env2 σ2 d x _ (s2.ext x3 hr3) rx ((w3.ext x3).mono fun e4 h4 _ w4 σ4 H4 α4 x4 s4=>?_)
    refine tMS.use s4 ((w4.ext x3).ext x4).bind fun fl h5 H5 α5 x5 hr5 w5=>?_
    have tr:Ext X.K α2 H2 α5 H5:=x3.trans (x4.trans x5)
    cases fl with
    | nx e=>exact fun σ' s'=>⟨α5,e,h5,x2.trans tr,s',((w5.ext x5)).mono fun _ _ _ p=>p.ext tr⟩
    | ct e=>exact fun σ' s'=>⟨α5,e,h5,x2.trans tr,s',((w5.ext x5)).mono fun _ _ _ p=>p.ext tr⟩
    | bk e=>exact fun σ' s'=>(show cG X.K g α2 H2 E (.nx e) h5 from w5) H5 α5 tr hr5 σ' s'.vs
    | rt d=>exact fun v rv=>(show cG X.K g α2 H2 E (.rt d) h5 from w5) H5 α5 tr hr5 v rv
theorem aS.lst {K:PySem.W.Frag} {α:List Addr} {H:Hp} {h:Hh} {n:Nat} {ds:List D} (r:aS K g α H h) (e:ax h n=some ds) {p:Addr} (hp:α[n]?=some p):∃vs,H p=some (.lst vs)/\ay K g α H ds vs:=by
 unfold ax at e
 cases o:h[n]? with
 | none=>rw[o] at e;cases e
 | some o'=>
  rw[o] at e
  have q:=r.here n p o' hp o
  cases o' with
  | lst ds'=>cases e;obtain⟨vs,a,b⟩:=q;exact⟨vs,a,b⟩
  | set n=>cases e
  | dic k=>cases e
  | dit k=>cases e
noncomputable def vq:D->Hh->R Src
 | .tup ds,h=>.ok (.snap ds) h
 | .frl ds,h=>.ok (.snap ds) h
 | .scr ds,h=>.ok (.snap ds) h
 | .ref n,h=>match ax h n with
  | some _=>.ok (.live n) h
  | none=>.bad
 | _,_=>.bad
noncomputable def cN (a:ME):MI:=fun env h=>(a env h).bind vq
noncomputable def K_ (K:PySem.W.Frag) (tl:TE):TI:=fun σ H R=>tl σ H fun x H1=>∃a,x=.ref a/\(((∃xs,SqL K H1 a xs)/\R (Itl K a) H1)\/((∃xs,SqT K H1 a xs)/\R (Itt K a) H1))
theorem Hu {tg l:Expr} {tl:TE} (hl:PE X l tl):PI X tg l (K_ X.K tl):=by
 intro pins s σ H R I h
 refine thn (hl pins s σ H _ I h) fun v s1 ⟨x,H1,I1,r1,q1⟩=>?_
 obtain⟨a,e,q⟩:=q1
 subst e
 cases r1
 rcases q with⟨⟨xs,hq⟩,q⟩ | ⟨⟨xs,hq⟩,q⟩
 ·obtain⟨its,rv,p,hz⟩:=I1.list hq
  refine wpAny_pyIter_list p.isList ?_
  refine⟨s1.heap.objs.size,[s1.heap.objs.size],_,_,H1,rfl,I1.kept (t':=s1.toks) fun b o e=>Heap.get?_push_of_some _ e,zp a _,⟨_,Heap.get?_push_size _ rfl,rfl,rfl⟩,fun b hb=>?_,q⟩
  have e:b=s1.heap.objs.size:=by simpa using hb
  subst e
  exact I1.E2 (Nat.le_refl _) (I1.hok.fresh (Nat.le_refl _))
 ·obtain⟨its,rv,p,hz⟩:=I1.tuple hq
  refine wpAny_pyIter_tuple (show s1.heap.IsTuple a its.toArray from p) ?_
  refine⟨s1.heap.objs.size,[s1.heap.objs.size],_,_,H1,rfl,I1.kept (t':=s1.toks) fun b o e=>Heap.get?_push_of_some _ e,wO a _,⟨_,Heap.get?_push_size _ rfl,rfl,rfl⟩,fun b hb=>?_,q⟩
  have e:b=s1.heap.objs.size:=by simpa using hb
  subst e
  exact I1.E2 (Nat.le_refl _) (I1.hok.fresh (Nat.le_refl _))
theorem Aa {K:PySem.W.Frag} {α:List Addr} {H:Hp} {a:Addr} {ds:List D} {vs:List V} (hq':H a=some (.tup vs)) (rs:ay K g α H ds vs):Reads K g (Itt K a) (Src.snap ds).rdr α H:=by
 intro α2 H2 h2 x2 hr i
 have hq2:SqT K H2 a vs:=SqT.of (x2.tup _ _ hq')
 have rs2:=rs.ext x2
 show match some ds[i]? with | none=>True | some none=>_ | some (some d)=>_
 cases e:ds[i]? with
 | none=>
  have:ds.length<=i:=List.getElem?_eq_none_iff.mp e
  exact⟨vs,hq2,by rw[<- rs.length];exact this⟩
 | some d=>
  obtain⟨v,ev,rv⟩:=rs2.get e
  refine⟨⟨vs,v,hq2,ev⟩,fun x H' y=>?_⟩
  obtain⟨e1,e2⟩:=y
  subst e1
  have:=e2 vs hq2
  rw[ev] at this
  cases this
  exact⟨α2,Ext.refl,hr,rv⟩
theorem sJ {K:PySem.W.Frag} {α:List Addr} {H:Hp} {a:Addr} {ds:List D} {vs:List V} (hq:Fro K H a vs) (rs:ay K g α H ds vs):Reads K g (Itl K a) (Src.snap ds).rdr α H:=by
 intro α2 H2 h2 x2 hr i
 have hq2:=x2.fro _ _ hq
 have rs2:=rs.ext x2
 show match some ds[i]? with | none=>True | some none=>_ | some (some d)=>_
 cases e:ds[i]? with
 | none=>
  have:ds.length<=i:=List.getElem?_eq_none_iff.mp e
  exact⟨vs,hq2.sq,by rw[<- rs.length];exact this⟩
 | some d=>
  obtain⟨v,ev,rv⟩:=rs2.get e
  refine⟨⟨vs,v,hq2.sq,ev⟩,fun x H' y=>?_⟩
  obtain⟨e1,e2⟩:=y
  subst e1
  have:=e2 vs hq2.sq
  rw[ev] at this
  cases this
  exact⟨α2,Ext.refl,hr,rv⟩
theorem zC {K:PySem.W.Frag} {α:List Addr} {H:Hp} {a:Addr} {n:Nat} (ha:α[n]?=some a):Reads K g (Itl K a) (Src.live n).rdr α H:=by
 intro α2 H2 h2 x2 hr i
 show match (ax h2 n).map fun ds=>ds[i]? with | none=>True | some none=>_ | some (some d)=>_
 cases e:ax h2 n with
 | none=>trivial
 | some ds=>
  obtain⟨vs,hq',rs⟩:=hr.lst e (x2.get ha)
  have hq:SqL K H2 a vs:=SqL.of hq'
  show match some ds[i]? with | none=>True | some none=>_ | some (some d)=>_
  cases ei:ds[i]? with
  | none=>
   have:ds.length<=i:=List.getElem?_eq_none_iff.mp ei
   exact⟨vs,hq,by rw[<- rs.length];exact this⟩
  | some d=>
   obtain⟨v,ev,rv⟩:=rs.get ei
   refine⟨⟨vs,v,hq,ev⟩,fun x H' y=>?_⟩
   obtain⟨e1,e2⟩:=y
   subst e1
   have:=e2 vs hq
   rw[ev] at this
   cases this
   exact⟨α2,Ext.refl,hr,rv⟩
theorem iA {tg e:Expr} {me:ME} (he:PE X e (tM X.K g ε me)):PI X tg e (tMI X.K g ε (cN me)):=
 PI.imp (Hu he) fun σ H T ⟨α,env,h,s,w⟩=>tM.use s w.bind fun d1 h1 v1 H1 α1 e1 s1 r1 w1=>by
  unfold vq at w1
  cases r1 with
  | tup hq rs=>exact⟨_,rfl,.inr ⟨⟨_,SqT.of hq⟩,w1 _ H1 α1 e1 s1.heap (Aa hq rs)⟩⟩
  | frl hq rs=>exact⟨_,rfl,.inl ⟨⟨_,hq.sq⟩,w1 _ H1 α1 e1 s1.heap (sJ hq.fro rs)⟩⟩
  | scr hq rs=>exact⟨_,rfl,.inl ⟨⟨_,hq.sq⟩,w1 _ H1 α1 e1 s1.heap (sJ hq rs)⟩⟩
  | @ref n p hp=>
   cases el:ax h1 n with
   | none=>simp only[el] at w1;exact w1.elim
   | some ds=>
    simp only[el] at w1
    obtain⟨vs,hq,_⟩:=s1.heap.lst el hp
    exact⟨p,rfl,.inl ⟨⟨_,SqL.of hq⟩,w1 _ H1 α1 e1 s1.heap (zC hp)⟩⟩
  | _=>exact w1.elim
noncomputable def eK (ds:List D):List D:=(List.range ds.length).map fun(i:Nat)=>D.tup [.int i,ds.getD i .non]
noncomputable def rJ:D->Hh->R Src
 | .tup ds,h=>.ok (.snap (eK ds)) h
 | .frl ds,h=>.ok (.snap (eK ds)) h
 | .ref n,h=>match ax h n with
  | some _=>.ok (.liveE n) h
  | none=>.bad
 | _,_=>.bad
noncomputable def jl (a:ME):MI:=fun env h=>(a env h).bind rJ
theorem sH {ds:List D} {i:Nat}:(eK ds)[i]?=(ds[i]?).map fun d=>D.tup [.int i,d]:=by
 unfold eK
 rw[List.getElem?_map]
 by_cases hi:i<ds.length
 ·have e:ds.getD i .non=ds[i]:=by rw[List.getD_eq_getElem?_getD,List.getElem?_eq_getElem hi];rfl
  rw[List.getElem?_range hi,List.getElem?_eq_getElem hi,Option.map_some,Option.map_some,e]
 ·rw[List.getElem?_eq_none (by simpa using hi),List.getElem?_eq_none (by omega)];rfl
theorem pY {K:PySem.W.Frag} {α:List Addr} {H:Hp} {h:Hh} {i:Nat} {d:D} {v:V} {p:Addr} (hr:aS K g α H h) (rv:aI K g α H d v) (hp:H p=none) :
  ∃α',Ext K α H α' (upd H p (.tup [.int i,v]))/\aS K g α' (upd H p (.tup [.int i,v])) h/\aI K g α' (upd H p (.tup [.int i,v])) (.tup [.int i,d]) (.ref p):=
 ⟨α,Ext.fresh hp,hr.grow hp,.tup a8 (.cons (.int _) (.cons (rv.ext (Ext.fresh hp)) .nil))⟩
theorem vY {K:PySem.W.Frag} {α:List Addr} {H:Hp} {a:Addr} {ds:List D} {vs:List V} (hq':H a=some (.tup vs)) (rs:ay K g α H ds vs):Reads K g (Iet K a) (Src.snap (eK ds)).rdr α H:=by
 intro α2 H2 h2 x2 hr i
 have hq2:SqT K H2 a vs:=SqT.of (x2.tup _ _ hq')
 have rs2:=rs.ext x2
 show match some (eK ds)[i]? with | none=>True | some none=>_ | some (some d)=>_
 rw[sH]
 cases e:ds[i]? with
 | none=>
  have:ds.length<=i:=List.getElem?_eq_none_iff.mp e
  exact⟨vs,hq2,by rw[<- rs.length];exact this⟩
 | some d=>
  obtain⟨v,ev,rv⟩:=rs2.get e
  refine⟨⟨vs,v,hq2,ev⟩,fun x H' y=>?_⟩
  obtain⟨p,v',e1,hp,e2,e3⟩:=y
  subst e1 e3
  have:=e2 vs hq2
  rw[ev] at this
  cases this
  exact pY hr rv hp
theorem vA {K:PySem.W.Frag} {α:List Addr} {H:Hp} {a:Addr} {ds:List D} {vs:List V} (hq:Fro K H a vs) (rs:ay K g α H ds vs):Reads K g (Iel K a) (Src.snap (eK ds)).rdr α H:=by
 intro α2 H2 h2 x2 hr i
 have hq2:SqL K H2 a vs:=(x2.fro _ _ hq).sq
 have rs2:=rs.ext x2
 show match some (eK ds)[i]? with | none=>True | some none=>_ | some (some d)=>_
 rw[sH]
 cases e:ds[i]? with
 | none=>
  have:ds.length<=i:=List.getElem?_eq_none_iff.mp e
  exact⟨vs,hq2,by rw[<- rs.length];exact this⟩
 | some d=>
  obtain⟨v,ev,rv⟩:=rs2.get e
  refine⟨⟨vs,v,hq2,ev⟩,fun x H' y=>?_⟩
  obtain⟨p,v',e1,hp,e2,e3⟩:=y
  subst e1 e3
  have:=e2 vs hq2
  rw[ev] at this
  cases this
  exact pY hr rv hp
theorem vM {K:PySem.W.Frag} {α:List Addr} {H:Hp} {a:Addr} {n:Nat} (ha:α[n]?=some a):Reads K g (Iel K a) (Src.liveE n).rdr α H:=by
 intro α2 H2 h2 x2 hr i
 show match (ax h2 n).map fun ds=>(ds[i]?).map fun d=>D.tup [.int i,d] with | none=>True | some none=>_ | some (some d)=>_
 cases e:ax h2 n with
 | none=>trivial
 | some ds=>
  obtain⟨vs,hq',rs⟩:=hr.lst e (x2.get ha)
  have hq:SqL K H2 a vs:=SqL.of hq'
  show match some ((ds[i]?).map fun d=>D.tup [.int i,d]) with | none=>True | some none=>_ | some (some d)=>_
  cases ei:ds[i]? with
  | none=>
   have:ds.length<=i:=List.getElem?_eq_none_iff.mp ei
   exact⟨vs,hq,by rw[<- rs.length];exact this⟩
  | some d=>
   obtain⟨v,ev,rv⟩:=rs.get ei
   refine⟨⟨vs,v,hq,ev⟩,fun x H' y=>?_⟩
   obtain⟨p,v',e1,hp,e2,e3⟩:=y
   subst e1 e3
   have:=e2 vs hq
   rw[ev] at this
   cases this
   exact pY hr rv hp
theorem tf {elts:List Expr} {kt:Nat} {tp p pos:Pos} {e:Expr} {me:ME} (hg:Gl X "enumerate") (hm:X.mg "enumerate" = none) (he:PE X e (tM X.K g ε me)) (hs:starEach [e] X.env=[(false,eval e X.env)]:=by rfl):PI X (.Tuple elts kt tp) (.Call (.Name "enumerate" p) [e] [] pos) (tMI X.K g ε (jl me)):=
 PI.imp (Fe hg hm he hs) fun σ H T ⟨α,env,h,s,w⟩=>tM.use s w.bind fun d1 h1 v1 H1 α1 e1 s1 r1 w1=>by
  unfold rJ at w1
  cases r1 with
  | tup hq rs=>exact⟨_,rfl,.inr ⟨⟨_,SqT.of hq⟩,w1 _ H1 α1 e1 s1.heap (vY hq rs)⟩⟩
  | frl hq rs=>exact⟨_,rfl,.inl ⟨⟨_,hq.sq⟩,w1 _ H1 α1 e1 s1.heap (vA hq.fro rs)⟩⟩
  | @ref n p hp=>
   cases el:ax h1 n with
   | none=>simp only[el] at w1;exact w1.elim
   | some ds=>
    simp only[el] at w1
    obtain⟨vs,hq,_⟩:=s1.heap.lst el hp
    exact⟨p,rfl,.inl ⟨⟨_,SqL.of hq⟩,w1 _ H1 α1 e1 s1.heap (vM hp)⟩⟩
  | _=>exact w1.elim
noncomputable def cM (lo:Int) (n:Nat):List D:=(List.range n).map fun(i:Nat)=>D.int (lo+i)
noncomputable def ft:List D->Hh->R Src
 | [.int j],h=>if j.natAbs<=1000000 then .ok (.snap (cM 0 j.toNat)) h else .bad
 | _,_=>.bad
noncomputable def xX:List D->Hh->R Src
 | [.int i,.int j],h=>if i.natAbs<=1000000/\j.natAbs<=1000000 then .ok (.snap (cM i (j - i).toNat)) h else .bad
 | _,_=>.bad
noncomputable def fk (f:List D->Hh->R Src) (a:MA):MI:=fun env h=>(a env h).bind f
theorem sL {K:PySem.W.Frag} {α:List Addr} {H:Hp} {lo:Int} {n:Nat}:Reads K g (Itr lo n) (Src.snap (cM lo n)).rdr α H:=by
 intro α2 H2 h2 x2 hr i
 show match some (cM lo n)[i]? with | none=>True | some none=>_ | some (some d)=>_
 unfold cM
 rw[List.getElem?_map]
 by_cases hi:i<n
 ·rw[List.getElem?_range hi]
  refine⟨hi,fun x H' y=>?_⟩
  obtain⟨e1,e2⟩:=y
  subst e1 e2
  exact⟨α2,Ext.refl,hr,.int _⟩
 ·rw[List.getElem?_eq_none (by simpa using hi)]
  exact Nat.le_of_not_lt hi
theorem dB {tg a:Expr} {ma:MA} {p pos:Pos} (hg:Gl X "range") (hm:X.mg "range" = none) (ha:PA X [a] (tMA X.K g ε ma)) (hs:starEach [a] X.env=[(false,eval a X.env)]:=by rfl):PI X tg (.Call (.Name "range" p) [a] [] pos) (tMI X.K g ε (fk ft ma)):=
 PI.imp (zq hg hm ha hs) fun σ H T ⟨α,env,h,s,w⟩=>tMA.use s w.bind fun d1 h1 v1 H1 α1 e1 s1 r1 w1=>by
  unfold ft at w1
  cases r1 with
  | nil=>exact w1.elim
  | cons ra rr=>
   cases rr with
   | cons _ _=>cases ra<;>exact w1.elim
   | nil=>
    cases ra with
    | int j=>
     obtain⟨hj,w2⟩:=WQ.dD w1
     exact⟨j,rfl,by omega,by omega,w2 _ H1 α1 e1 s1.heap sL⟩
    | _=>exact w1.elim
theorem Ex {tg a b:Expr} {ma:MA} {p pos:Pos} (hg:Gl X "range") (hm:X.mg "range" = none) (ha:PA X [a,b] (tMA X.K g ε ma)) (hs:starEach [a,b] X.env=[(false,eval a X.env),(false,eval b X.env)]:=by rfl) (hs2:starEach [b] X.env=[(false,eval b X.env)]:=by rfl):PI X tg (.Call (.Name "range" p) [a,b] [] pos) (tMI X.K g ε (fk xX ma)):=
 PI.imp (Ab hg hm ha hs hs2) fun σ H T ⟨α,env,h,s,w⟩=>tMA.use s w.bind fun d1 h1 v1 H1 α1 e1 s1 r1 w1=>by
  unfold xX at w1
  split at w1
  ·cases r1 with
   | cons ra rr=>
    cases ra
    cases rr with
    | cons rb rr=>
     cases rb
     cases rr
     obtain⟨hj,w2⟩:=WQ.dD w1
     exact⟨_,_,rfl,⟨by omega,by omega,by omega,by omega⟩,w2 _ H1 α1 e1 s1.heap sL⟩
  ·exact w1.elim
end
noncomputable abbrev E00:EE:=fun _ _ _=>False
noncomputable abbrev MF:=List D->Hh->R D
noncomputable def cn (n:Nat) (m:MS):MF:=fun ds h=>(m (ds.map some++List.replicate (n - ds.length) none) h).bind fun fl h1=>match fl with
 | .rt d=>.ok d h1
 | .nx _=>.ok .non h1
 | _=>.bad
noncomputable def spG (K:PySem.W.Frag) (g:GG) (ε:XK->EE) (np:Nat) (m:MF):Sp:=fun vs H Q E=>vs.length=np/\∃α ds h,ay K g α H ds vs/\aS K g α H h/\WQ K g (ε E) α H (m ds h) (aJ K g α H Q)
noncomputable abbrev spM (K:PySem.W.Frag) (g:GG) (np:Nat) (m:MF):Sp:=spG K g (fun _=>E00) np m
theorem jP {K:PySem.W.Frag} {g:GG} {α:List Addr} {H:Hp} {N:List Str} {ds:List D} {vs:List V} (r:ay K g α H ds vs):jV K g α H (ds.map some++List.replicate (N.length - ds.length) none) (start N vs):=by
 have hl:=r.length
 refine⟨by simp[start,hl],fun i d h=>?_⟩
 by_cases hi:i<ds.length
 ·rw[List.getElem?_append_left (by simpa using hi),List.getElem?_map] at h
  cases e:ds[i]? with
  | none=>rw[e] at h;cases h
  | some d'=>
   rw[e] at h
   cases h
   obtain⟨v,ev,rv⟩:=r.get e
   refine⟨v,?_,rv⟩
   unfold start
   rw[List.getElem?_append_left (by simp;omega),List.getElem?_map,ev]
   rfl
 ·rw[List.getElem?_append_right (by simpa using hi),List.getElem?_replicate] at h
  split at h<;>cases h
section
variable {P:Program} {w:World} {K:PySem.W.Frag} {mg:Str->Option Value} {base:Heap} {g:GG}
theorem gx {x qual:Str} {st:Stmt} {f:Addr} {fd:FuncData} {N ps:List Str} {k:Nat} {mb:MS} (F:Fun K x qual st f fd) (S:aH N ps (ai st))
  (hb:∀(cdv:Value) (A:Around) (outer:List Env) (s:Shared) (H:Hp) (E:XK),cB k (A.deeper (envOfC qual (ai st) s.heap.objs.size f cdv)) →
   PSs (dE CX0 P w K mg base N qual (ai st) f cdv A outer s H E).nox (bu st) (tMS K g E00 mb)):cQ P w K mg base CX0 (k+1) f fd ps (spM K g ps.length (cn N.length mb)):=by
 refine F.ok S (fun vs H Q E h=>h.1) fun cdv A outer s H vs Q E hr h=>⟨_,hb cdv A outer s H E hr,?_⟩
 obtain⟨hl,α,ds,h,rs,hh,w⟩:=h
 refine tMS.use ⟨hh,jP rs⟩ w.bind fun fl h' H' α' e r kk=>?_
 cases fl with
 | nx e'=>exact fun σ' s'=>(show aJ K g α H Q .non h' from kk) _ H' α' e r .non
 | bk e'=>exact kk.elim
 | ct e'=>exact kk.elim
 | rt d=>exact fun v rv=>(show aJ K g α H Q d h' from kk) _ H' α' e r rv
end
section
variable {X:Cx} {g:GG}
theorem aN {k:Nat} {f:Addr} {fd:FuncData} {ps:List Str} {m:MF} {np:Nat} {x:Str} {p pos:Pos} {e:Expr} {es:List Expr} {mr:MA} (F:cQ X.prog X.w X.K X.mg X.base CX0 k f fd ps (spM X.K g np m)) (hr:cB k X.A) (hg:Gl X x) (hm:X.mg x=some (.ref f)) (hk:PySem.W.keepIn X.K (.ref f)=true) (hb:Binds X.K fd ps [])
  (ha:PA X (e::es) (tMA X.K g E00 mr)) (hlen:∀env h ds h',mr env h=.ok ds h'->ds.length=np) (hdb:(x == ("__debug__" : Str))=false:=by decide) (he:starEach (e::es) X.env=(false,eval e X.env)::starEach es X.env:=by rfl) (hpl:(backTo pos (starEach es X.env)).any (·.1)=false:=by rfl) :
  PE X (.Call (.Name x p) (e::es) [] pos) (tM X.K g E00 (aj m mr)):=
 PE.imp (yb F hr hg hm hk hb .nil HS ha hdb he hpl) fun σ H Q ⟨α,env,h,s,w⟩=>⟨α,env,h,s,w.bind.mono fun d1 h1 eq w1 v1 H1 α1 e1 hr1 r1=>by
  show spM X.K g np m (v1++[]) H1 Q E0
  rw[List.append_nil]
  refine⟨?_,α1,d1,h1,r1,hr1,w1.post e1⟩
  rw[<- r1.length]
  exact hlen env h d1 h1 eq⟩
theorem aD:∀env h ds h',ao env h=.ok ds h'->ds.length=0:=fun env h ds h' e=>by cases e;rfl
theorem ah {a:ME} {r:MA} {n:Nat} (q:∀env h ds h',r env h=.ok ds h'->ds.length=n):∀env h ds h',aa a r env h=.ok ds h'->ds.length=n+1:=fun env h ds h' e=>by
 unfold aa at e
 cases e1:a env h with
 | ok d h1=>
  rw[e1] at e
  cases e2:r env h1 with
  | ok ds2 h2=>
   have e3:(R.ok (d::ds2) h2:R (List D))=.ok ds h':=by simpa [R.bind,e2] using e
   cases e3
   simp[q env h1 ds2 h' e2]
  | err x h2=>simp[R.bind,e2] at e
  | bad=>simp[R.bind,e2] at e
 | err x h2=>rw[e1] at e;cases e
 | bad=>rw[e1] at e;cases e
end
noncomputable def kM (ix:List Nat) (env:En) (d:D):En:=some d::ix.map fun i=>(env[i]?).join
noncomputable def tt1:MT:=fun _ h=>.ok true h
noncomputable def iV (rd:Rdr) (tt:MT) (te:ME) (ee:D->En):Nat->Nat->List D->Hh->R (List D)
 | k,i,acc,h=>match rd h i with
  | none=>.bad
  | some none=>.ok acc h
  | some (some d)=>match k with
   | 0=>.bad
   | k+1=>(tt (ee d) h).bind fun b h1=>if b=true then (te (ee d) h1).bind fun y h2=>iV rd tt te ee k (i+1) (acc++[y]) h2 else iV rd tt te ee k (i+1) acc h1
noncomputable def cy (tt:MT) (te:ME) (ee:D->En):List D->Hh->R (List D)
 | [],h=>.ok [] h
 | d::ds,h=>(tt (ee d) h).bind fun b h1=>if b=true then (te (ee d) h1).bind fun y h2=>(cy tt te ee ds h2).bind fun ys h3=>.ok (y::ys) h3 else cy tt te ee ds h1
theorem bS {β γ δ:Type} (r:R β) (f:β->Hh->R γ) (k:γ->Hh->R δ):(r.bind f).bind k=r.bind fun b h=>(f b h).bind k:=by cases r<;>rfl
theorem Bq (tt:MT) (te:ME) (ee:D->En) (all:List D):∀(ds:List D) (i:Nat) (acc:List D) (h:Hh),all.drop i=ds->iV (Src.snap all).rdr tt te ee ds.length i acc h=(cy tt te ee ds h).bind fun ys h'=>.ok (acc++ys) h':=by
 intro ds
 induction ds with
 | nil=>
  intro i acc h e
  have:all[i]?=none:=by
   have:=congrArg List.length e
   simp at this
   exact List.getElem?_eq_none (by omega)
  unfold iV cy Src.rdr
  simp[this,R.bind]
 | cons d ds ih=>
  intro i acc h e
  have h0:all[i]?=some d:=by
   have:=congrArg (fun l=>l[0]?) e
   simpa using this
  have h1:all.drop (i+1)=ds:=by
   have:=congrArg List.tail e
   simpa using this
  unfold iV cy
  have:(Src.snap all).rdr h i=some (some d):=by unfold Src.rdr;simp[h0]
  rw[this]
  show((tt (ee d) h).bind _)=_
  rw[bS]
  congr 1
  funext b h2
  cases b with
  | false=>rw[if_neg Bool.false_ne_true,if_neg Bool.false_ne_true];exact ih (i+1) acc h2 h1
  | true=>
   rw[if_pos rfl,if_pos rfl,bS]
   congr 1
   funext y h3
   rw[bS]
   have:=ih (i+1) (acc++[y]) h3 h1
   rw[this]
   congr 1
   funext ys h4
   show R.ok (acc++[y]++ys) h4=R.ok (acc++(y::ys)) h4
   simp
noncomputable def cx (nl:NL) (mi:MI) (ix:List Nat) (tt:MT) (te:ME):ME:=fun env h=>(mi env h).bind fun sr h1=>if sr.fuel h1<=1000000 then
 (match sr with
  | .snap ds=>cy tt te (kM ix env) ds h1
  | .live n=>iV (Src.live n).rdr tt te (kM ix env) ((ax h1 n).getD []).length 0 [] h1
  | .liveE n=>iV (Src.liveE n).rdr tt te (kM ix env) ((ax h1 n).getD []).length 0 [] h1).bind nl else .bad
theorem BM {nl:NL} {mi:MI} {ix:List Nat} {tt:MT} {te:ME} {env:En} {h:Hh}:cx nl mi ix tt te env h=(mi env h).bind fun sr h1=>if sr.fuel h1<=1000000 then (iV sr.rdr tt te (kM ix env) (sr.fuel h1) 0 [] h1).bind nl else .bad:=by
 unfold cx
 congr 1
 funext sr h1
 cases sr with
 | snap ds=>
  have:=Bq tt te (kM ix env) ds ds 0 [] h1 rfl
  simp only[List.nil_append] at this
  have e:(Src.snap ds).fuel h1=ds.length:=rfl
  rw[e,this,bS]
  rfl
 | live n=>rfl
 | liveE n=>rfl
theorem Ea {K:PySem.W.Frag} {g:GG} {α:List Addr} {H:Hp} {env:En} {σ:St} {ix:List Nat} {d:D} {v:V} (s:jV K g α H env σ) (r:aI K g α H d v):jV K g α H (kM ix env d) ((rY ix σ).set 0 (some v)):=by
 refine⟨by simp[kM,rY],fun i e h=>?_⟩
 cases i with
 | zero=>
  have:d=e:=by simpa [kM] using h
  subst this
  exact⟨v,by simp[rY],r⟩
 | succ i=>
  have h':(ix.map fun i=>(env[i]?).join)[i]?=some (some e):=by simpa [kM] using h
  rw[List.getElem?_map] at h'
  cases ei:ix[i]? with
  | none=>rw[ei] at h';cases h'
  | some j=>
   rw[ei] at h'
   have h2:(env[j]?).join=some e:=by simpa using h'
   cases ej:env[j]? with
   | none=>rw[ej] at h2;cases h2
   | some oe=>
    rw[ej] at h2
    have h3:oe=some e:=by simpa using h2
    subst h3
    obtain⟨u,eu,ru⟩:=s.vars j e ej
    refine⟨u,?_,ru⟩
    simp only[rY,List.set_cons_zero,List.getElem?_cons_succ,List.getElem?_map,ei,Option.map_some,eu]
    rfl
section
variable {X:Cx} {g:GG}
theorem C4:PTs X [] (tMT X.K g E00 tt1):=fun pins s σ H Q I ⟨α,env,h,s',w⟩=>DM pins s σ H Q I (w H α Ext.refl s'.heap)
theorem gb {c:Expr} {mt:MT} (h:PT X c (tMT X.K g E00 mt)):PTs X [c] (tMT X.K g E00 mt):=E4 h
theorem uX {K:PySem.W.Frag} {nl:NL} [nO nl] {mi:MI} {tt:MT} {te:ME} {ix:List Nat} {σ:St} {H:Hp} {Q R:VK} (hR:∀v H,lz Q v H->R v H) (t:tM K g E00 (cx nl mi ix tt te) σ H Q):Ft (tMI K g E00 mi) ix (tMT K g E00 tt) (tM K g E00 te) σ H R:=by
 obtain⟨α,env,h,s,w⟩:=t
 rw[BM] at w
 refine⟨α,env,h,s,w.bind.mono fun sr h1 _ w1 J H1 α1 e1 hr1 rd=>fun acc hacc=>?_⟩
 obtain⟨hf,w1⟩:=WQ.dD w1
 have s1:=s.ext e1 hr1
 refine⟨fun i m ys H=>∃α h as,Ext K α1 H1 α H/\aS K g α H h/\ay K g α H as ys/\H acc=some (.lst ys)/\acc∉α/\as.length+m<=1000000 ∧
  WQ K g E00 α1 H1 ((iV sr.rdr tt te (kM ix env) m i as h).bind nl) (aJ K g α1 H1 Q),
  ⟨sr.fuel h1,α1,h1,[],Ext.fresh hacc,hr1.grow hacc,.nil,a8,hr1.free hacc,by simpa using hf,w1.post e1⟩,?_⟩
 rintro i m ys H2 ⟨α2,h2,as,x2,hr2,ra,ha,hna,hm,w2⟩
 have q:=rd α2 H2 h2 x2 hr2 i
 unfold iV at w2
 cases e:sr.rdr h2 i with
 | none=>rw[e] at w2;exact w2.elim
 | some od=>
  rw[e] at w2 q
  cases od with
  | none=>
   refine .inl ⟨q,?_⟩
   exact hR _ _ <| nO.at' (show WQ K g E00 α1 H1 (nl as h2) _ from w2) (fun _ _ z=>z) x2 hr2 ra ha hna hacc
  | some d=>
   cases m with
   | zero=>exact w2.elim
   | succ m=>
    rw[bS] at w2
    have w3:=WQ.bind (show WQ K g E00 α1 H1 ((tt (kM ix env d) h2).bind _) _ from w2)
    refine .inr ⟨q.1,fun x H3 y=>?_⟩
    obtain⟨α3,x3,hr3,rx⟩:=q.2 x H3 y
    have ha3:=x3.keep _ _ ha hna
    have hna3:acc∉α3:=fun z=>by have:=x3.new _ z hna;rw[ha] at this;cases this
    have s3:dz K g α3 H3 (kM ix env d) ((rY ix σ).set 0 (some x)) h2:=⟨hr3,Ea (s1.vs.ext (x2.trans x3)) rx⟩
    refine tMT.use s3 ((w3.ext x2).ext x3) fun b h4 H4 α4 x4 s4 w4=>?_
    have ha4:=x4.keep _ _ ha3 hna3
    have hna4:acc∉α4:=fun z=>by have:=x4.new _ z hna3;rw[ha3] at this;cases this
    cases b with
    | false=>
     rw[if_neg Bool.false_ne_true] at w4 ⊢
     exact⟨m,Nat.lt_succ_self _,α4,h4,as,x2.trans (x3.trans x4),s4.heap,ra.ext (x3.trans x4),ha4,hna4,by omega,w4⟩
    | true=>
     rw[if_pos rfl] at w4 ⊢
     rw[bS] at w4
     refine tM.use s4 (((WQ.bind w4).ext x2).ext (x3.trans x4)) fun y h5 v5 H5 α5 x5 s5 r5 w5=>?_
     have ha5:=x5.keep _ _ ha4 hna4
     have hna5:acc∉α5:=fun z=>by have:=x5.new _ z hna4;rw[ha4] at this;cases this
     have soft:DH H5 acc:=.inr ⟨_,ha5,fun _ z=>(nomatch z),fun _ _ z=>(nomatch z),fun _ z=>nomatch z⟩
     have x6:Ex0 K α5 H5 α5 (upd H5 acc (.lst (ys++[v5]))):=Ex0.upd soft
     have tr:=x2.trans (x3.trans (x4.trans x5))
     refine⟨ha5,?_,m,Nat.lt_succ_self _,α5,h5,as++[y],⟨tr.toEx0.trans x6,fun p o z n nt=>?_,tr.new⟩,s5.heap.off soft hna5,((ra.ext (x3.trans (x4.trans x5))).append (.cons r5 .nil)).ex0 x6,a8,hna5,by rw[List.length_append];simp;omega,w5⟩
     ·rw[<- ra.length,sizeLine_eq];omega
     ·rw[aA (aK z hacc)];exact tr.kept p o z n nt
end
noncomputable def sml (i:Int):Bool:=decide (i.natAbs<2 ^ 1900)
theorem pe {i:Int} (h:sml i=true):Builtin.Int.intBits i<=1900:=by
 have h':i.natAbs<2 ^ 1900:=of_decide_eq_true h
 unfold Builtin.Int.intBits
 split
 ·omega
 ·rename_i z
  have z':i.natAbs≠0:=by
   intro q
   apply z
   have:i=0:=Int.natAbs_eq_zero.mp q
   rw[this];rfl
  have:=(Nat.log2_lt z').mpr h'
  omega
theorem tU {i:Int} (h:sml i=true):i.natAbs.log2<1900:=by
 have h':i.natAbs<2 ^ 1900:=of_decide_eq_true h
 by_cases z:i.natAbs=0
 ·rw[z];decide
 ·exact(Nat.log2_lt z).mpr h'
theorem F4 {i:Int} (h:i.natAbs<=10 ^ 560):sml i=true:=by
 refine decide_eq_true (Nat.lt_of_le_of_lt h (by decide +kernel))
section
variable {X:Cx} {K:PySem.W.Frag} {g:GG} {ε:EE}
theorem OpR.or {f:Value->Value->Sem Value} {r r':R2} (h:OpR X f r) (h':OpR X f r'):OpR X f (fun x y H Q=>r x y H Q\/r' x y H Q):=fun pins s σ H x y v u Q I rx ry q=>q.elim (h pins s σ H x y v u Q I rx ry) (h' pins s σ H x y v u Q I rx ry)
noncomputable def lN (d:D) (h:Hh):Option (List D):=match d with
 | .frl ds=>some ds
 | .ref n=>ax h n
 | _=>none
theorem t8 {α:List Addr} {H:Hp} {h:Hh} {d:D} {x:V} {ds:List D} (r:aS K g α H h) (rd:aI K g α H d x) (e:lN d h=some ds):∃p vs,x=.ref p/\Rd H p (.lst vs)/\ay K g α H ds vs:=by
 unfold lN at e
 cases rd with
 | frl hq rs=>cases e;exact⟨_,_,rfl,hq.rd,rs⟩
 | ref hp=>obtain⟨vs,hv,rs⟩:=r.lst e hp;exact⟨_,vs,rfl,.inl hv,rs⟩
 | _=>cases e
noncomputable def FA:R2:=fun x y H Q=>∃l b xs zs,x=.ref l/\y=.ref b/\Rd H l (.lst xs)/\Rd H b (.lst zs)/\xs.length+zs.length<=sizeLine/\∀p,H p=none->Q (.ref p) (upd H p (.lst (xs++zs)))
theorem Dt {X:Cx} {pins:List (Addr × Obj)} {σ:St} {H:Hp} {s:Shared} {l:Addr} {xs:List V} (I:Inv X pins σ H s) (h:Rd H l (.lst xs)):∃(its:List Value) (n:Nat),xs.length<=sizeLine/\Vals xs its/\xs.length=its.length/\s.heap.get? l=some { cls:=.type "list", data:=.seq its.toArray n }:=by
 obtain⟨z,its,n,r,e⟩:=h.ok I.hok
 exact⟨its,n,z,r,r.length,e⟩
theorem D8:OpR X (binaryOp .Add) FA:=by
 intro pins s σ H x y v u Q I rx ry h
 obtain⟨l,b,xs,zs,rfl,rfl,hH,hB,hz,q⟩:=h
 cases rx
 cases ry
 obtain⟨its,n,z,r,hl,e⟩:=Dt I hH
 obtain⟨its2,n2,z2,r2,hl2,e2⟩:=Dt I hB
 refine PySem.P.add_list e e2 ?_ (by rw[List.size_toArray,List.size_toArray];omega)
 have ea:its.toArray++its2.toArray=(its++its2).toArray:=by simp
 rw[ea]
 exact⟨.ref _,_,I.Ek (t':=s.toks) (r.append r2) (by rw[List.length_append];omega),rfl,q _ I.fresh⟩
noncomputable def cL (nl:NL):D->D->Hh->R D:=fun x y h=>match x,y with
 | .int i,.int j=>.ok (.int (i+j)) h
 | .tup a,.tup b=>if a.length+b.length<=1000000 then .ok (.tup (a++b)) h else .bad
 | .str a,.str b=>if a.length+b.length<=1000000 then .ok (.str (a++b)) h else .bad
 | x,y=>match lN x h,lN y h with
  | some a,some b=>if a.length+b.length<=1000000 then nl (a++b) h else .bad
  | _,_=>.bad
noncomputable abbrev Cb (K:PySem.W.Frag):R2:=fun x y H Q=>(rI0 fun i j=>.int (i+j)) x y H Q\/(Fw K x y H Q\/Bh K x y H Q)\/FA x y H Q\/∃i j,x=.str i/\y=.str j/\i.length+j.length<=sizeLine/\Q (.str (i++j)) H
theorem cR:OpR X (binaryOp .Add) (fun x y H Q=>Cb X.K x y H (lz Q)):=OpR.frz (OpR.or FZ (OpR.or (OpR.or E6 Co) (OpR.or D8 xQ)))
theorem aJ.Ak {α:List Addr} {H:Hp} {h:Hh} {Q:VK} {d:D} {v:V} (p:aJ K g α H Q d h) (r:aS K g α H h) (rd:aI K g α H d v):lz Q v H:=.inl (p.now r rd)
theorem c_ {nl:NL} [nO nl]:eJ K g ε (cL nl) (fun x y H Q=>Cb K x y H (lz Q)):=by
 intro α H h a b x y Q r ra rb w
 have gen:∀{a b:D} {x y:V},aI K g α H a x->aI K g α H b y->WQ K g ε α H (match lN a h,lN b h with
  | some a,some b=>if a.length+b.length<=1000000 then nl (a++b) h else .bad
  | _,_=>.bad) (aJ K g α H Q)->Cb K x y H (lz Q):=by
  intro a b x y ra rb w
  cases e1:lN a h with
  | none=>simp only[e1] at w;exact w.elim
  | some da=>
   cases e2:lN b h with
   | none=>simp only[e1,e2] at w;exact w.elim
   | some db=>
    simp only[e1,e2] at w
    obtain⟨p,va,rfl,hva,rsa⟩:=t8 r ra e1
    obtain⟨q,vb,rfl,hvb,rsb⟩:=t8 r rb e2
    obtain⟨hl,w⟩:=WQ.dD w
    refine .inr (.inr (.inl ⟨p,q,va,vb,rfl,rfl,hva,hvb,gE (by rw[<- rsa.length,<- rsb.length];exact hl),fun l hl'=>?_⟩))
    exact NL.post w r (rsa.append rsb) hl'
 unfold cL at w
 split at w
 ·cases ra
  cases rb
  exact .inl ⟨_,_,rfl,rfl,aJ.Ak w r (.int _)⟩
 ·cases ra with
  | @tup da pa va ha rsa=>
   cases rb with
   | @tup db pb vb hb rsb=>
    obtain⟨hl,w⟩:=WQ.dD w
    refine .inr (.inl ?_)
    cases va with
    | nil=>
     cases rsa
     exact .inr ⟨_,_,_,rfl,rfl,SqT.of ha,SqT.of hb,aJ.Ak w r (.tup hb rsb)⟩
    | cons z zs=>
     refine .inl ⟨_,_,_,_,rfl,rfl,SqT.of ha,SqT.of hb,by simp,gE (by rw[<- rsa.length,<- rsb.length];exact hl),fun e=>?_,fun _ p hp=>.inl (aJ.tup w r (rsa.append rsb) hp)⟩
     subst e
     cases rsb
     refine aJ.Ak w r (.tup ha ?_)
     rw[List.append_nil];exact rsa
 ·cases ra
  cases rb
  obtain⟨hl,w⟩:=WQ.dD w
  exact .inr (.inr (.inr ⟨_,_,rfl,rfl,gE hl,aJ.Ak w r (.str _)⟩))
 ·exact gen ra rb w
noncomputable def dg:D->D->Hh->R D
 | .int i,.int j,h=>.ok (.int (i - j)) h
 | _,_,_=>.bad
theorem cE:eJ K g ε dg (rI0 fun i j=>.int (i - j)):=by
 intro α H h a b x y Q r ra rb w
 unfold dg at w
 cases ra with
 | int i=>
  cases rb with
  | int j=>exact⟨i,j,rfl,rfl,aJ.now w r (.int _)⟩
  | _=>exact w.elim
 | _=>exact w.elim
noncomputable def Fm:R2:=fun x y H Q=>∃l k xs,x=.ref l/\y=.int k/\Rd H l (.lst xs)/\-(2 ^ 63)<=k/\k<2 ^ 63/\xs.length*k.toNat<=sizeLine ∧
 ∀p,H p=none->Q (.ref p) (upd H p (.lst (List.replicate k.toNat xs).flatten))
theorem D7:OpR X (binaryOp .Mult) Fm:=by
 intro pins s σ H x y v u Q I rx ry h
 obtain⟨l,k,xs,rfl,rfl,hH,h1,h2,hz,q⟩:=h
 cases rx
 obtain⟨t,rfl⟩:=ry
 obtain⟨its,n,z,r,hl,e⟩:=Dt I hH
 have hlen:its.toArray.size*k.toNat<=sizeLine:=by rw[List.size_toArray,<- hl];exact hz
 have hcap:¬ its.toArray.size*k.toNat > (2 ^ 63 - 1) / 8:=by
  have:(sizeLine:Nat)<=(2 ^ 63 - 1) / 8:=by decide
  omega
 have hfit:¬ (!Builtin.List.listFitsIndex k)=true:=by
  rw[fitsIndex_both h1 h2]
  exact Bool.false_ne_true
 have hlong:¬ Builtin.List.listTooLong (its.toArray.size*k.toNat)=true:=by
  rw[vj hlen]
  exact Bool.false_ne_true
 have hnew:List.foldl (fun x1 x2=>x1++x2) #[] (List.replicate (if its.toArray.isEmpty=true then 0 else k.toNat) its.toArray)=(List.replicate k.toNat its).flatten.toArray:=by
  have f0:∀m:Nat,List.foldl (fun x1 x2=>x1++x2) #[] (List.replicate m its.toArray)=(List.replicate m its).flatten.toArray:=fun m=>by
   have:=foldl_rep its m []
   rw[List.nil_append] at this
   exact this
  rw[f0]
  cases its with
  | nil=>simp
  | cons a r'=>rw[if_neg (by simp)]
 refine wpAny_binaryOp_repeat_ref (T:="list") (U:="int") (by decide) ⟨_,e,rfl⟩ (fun s'=>typeIs_int s' k t) noFill_list_mul F.fills_int_mul F.slot_int_rmul repeat_list F.slot_int_index.lookup
  (call_meets F.slot_int_rmul (typeIs_int s k t) F.entry_int_rmul (F.args_int_rmul_2 _ _) (int___rmul___int_list k t l its.toArray n)
   ⟨e,rfl,⟨_,e,rfl⟩,call_meets F.slot_list_mul ⟨_,e,rfl⟩ F.entry_list_mul (F.args_list_mul_2 _ _) (AutoListH.list___mul___list_int_3 l its.toArray n k t hfit hcap hlong) ⟨e,?_⟩⟩)
 rw[hnew]
 exact⟨.ref _,_,I.Ek (t':=s.toks) (r.rep k.toNat) (by rw[len_rep,Nat.mul_comm];exact hz),rfl,q _ I.fresh⟩
noncomputable def vn (nl:NL):D->D->Hh->R D:=fun x y h=>match x,y with
 | .int i,.int j=>if sml i=true/\sml j=true then .ok (.int (i*j)) h else .bad
 | x,.int k=>match lN x h with
  | some ds=>if k.natAbs<=1000000/\ds.length*k.toNat<=1000000 then nl (List.replicate k.toNat ds).flatten h else .bad
  | none=>.bad
 | _,_=>.bad
theorem DE:OpR X (binaryOp .Mult) (rI (fun i j=>sml i=true/\sml j=true) fun i j=>.int (i*j)):=opI fun _ _ _ _ _ _ _ hc q=>mul_int q (IntMulOk.of_bits (Nat.le_trans (pe hc.1) (by decide)) (Nat.le_trans (pe hc.2) (by decide)))
noncomputable abbrev Cp:R2:=fun x y H Q=>(rI (fun i j=>sml i=true/\sml j=true) fun i j=>.int (i*j)) x y H Q\/Fm x y H Q
theorem xn:OpR X (binaryOp .Mult) (fun x y H Q=>Cp x y H (lz Q)):=OpR.frz (OpR.or DE D7)
theorem xH {nl:NL} [nO nl]:eJ K g ε (vn nl) (fun x y H Q=>Cp x y H (lz Q)):=by
 intro α H h a b x y Q r ra rb w
 have gen:∀{a:D} {k:Int} {x:V},aI K g α H a x->WQ K g ε α H (match lN a h with
  | some ds=>if k.natAbs<=1000000/\ds.length*k.toNat<=1000000 then nl (List.replicate k.toNat ds).flatten h else .bad
  | none=>.bad) (aJ K g α H Q)->Cp x (.int k) H (lz Q):=by
  intro a k x ra w
  cases e1:lN a h with
  | none=>simp only[e1] at w;exact w.elim
  | some ds=>
   simp only[e1] at w
   obtain⟨hl,w⟩:=WQ.dD w
   obtain⟨p,vs,rfl,hv,rs⟩:=t8 r ra e1
   refine .inr ⟨p,k,vs,rfl,rfl,hv,by omega,by omega,gE (by rw[<- rs.length];exact hl.2),fun l hl'=>?_⟩
   exact NL.post w r (rs.flat k.toNat) hl'
 unfold vn at w
 split at w
 ·cases ra
  cases rb
  obtain⟨hc,w⟩:=WQ.dD w
  exact .inl ⟨_,_,rfl,rfl,hc,aJ.Ak w r (.int _)⟩
 ·cases rb
  exact gen ra w
 ·exact w.elim
noncomputable def B9:D->D->Hh->R D
 | .int i,.int j,h=>if 0<j/\sml j=true then .ok (.int (i / j)) h else .bad
 | _,_,_=>.bad
theorem vW:OpR X (binaryOp .FloorDiv) (rI (fun i j=>0<j/\sml j=true) fun i j=>.int (i / j)):=opI fun i j _ _ _ _ _ hc q=>by
 have e:i.fdiv j=i / j:=Int.fdiv_eq_ediv_of_nonneg _ (by omega)
 refine floordiv_int (by omega) ?_ (.inl (PyProof.noPylong_of_log2 (Nat.lt_trans (tU hc.2) (by decide))))
 rw[e];exact q
theorem Dg:eJ K g ε B9 (rI (fun i j=>0<j/\sml j=true) fun i j=>.int (i / j)):=by
 intro α H h a b x y Q r ra rb w
 unfold B9 at w
 cases ra with
 | int i=>
  cases rb with
  | int j=>
   obtain⟨hc,w⟩:=WQ.dD w
   exact⟨i,j,rfl,rfl,hc,aJ.now w r (.int _)⟩
  | _=>exact w.elim
 | _=>exact w.elim
noncomputable def uL:D->D->Hh->R D
 | .int i,.int j,h=>if 0<j then .ok (.int (i % j)) h else .bad
 | _,_,_=>.bad
theorem mm:eJ K g ε uL (rI (fun _ j=>0<j) fun i j=>.int (i % j)):=by
 intro α H h a b x y Q r ra rb w
 unfold uL at w
 cases ra with
 | int i=>
  cases rb with
  | int j=>
   obtain⟨hc,w⟩:=WQ.dD w
   exact⟨i,j,rfl,rfl,hc,aJ.now w r (.int _)⟩
  | _=>exact w.elim
 | _=>exact w.elim
noncomputable def E3:D->D->Hh->R D
 | .int i,.int j,h=>if 0<=j/\j.natAbs<=1000/\sml i=true then .ok (.int (i ^ j.toNat)) h else .bad
 | _,_,_=>.bad
theorem EZ:OpR X (binaryOp .Pow) (rI (fun i j=>0<=j/\j.natAbs<=1000/\sml i=true) fun i j=>.int (i ^ j.toNat)):=opI fun i j _ _ _ _ _ hc q=>pow_int hc.1 (by
 have:=pe hc.2.2
 have h1:((Builtin.Int.intBits i:Nat):Int)<=1900:=by exact_mod_cast this
 calc ((Builtin.Int.intBits i:Nat):Int)*j<=1900*j:=Int.mul_le_mul_of_nonneg_right h1 hc.1
  _<=1900*1000:=Int.mul_le_mul_of_nonneg_left (show j<=1000 by have:=hc.2.1;omega) (by decide)
  _<=2 ^ 27:=by decide) q
theorem GF:eJ K g ε E3 (rI (fun i j=>0<=j/\j.natAbs<=1000/\sml i=true) fun i j=>.int (i ^ j.toNat)):=by
 intro α H h a b x y Q r ra rb w
 unfold E3 at w
 cases ra with
 | int i=>
  cases rb with
  | int j=>
   obtain⟨hc,w⟩:=WQ.dD w
   exact⟨i,j,rfl,rfl,hc,aJ.now w r (.int _)⟩
  | _=>exact w.elim
 | _=>exact w.elim
noncomputable def jm:D->Hh->R D
 | .int i,h=>.ok (.int (-i)) h
 | _,_=>.bad
theorem kz:Ji K g ε jm (rU fun i=>.int (-i)):=by
 intro α H h a x Q r ra w
 unfold jm at w
 cases ra with
 | int i=>exact⟨i,rfl,aJ.now w r (.int _)⟩
 | _=>exact w.elim
noncomputable def zS (p:Int->Int->Bool):D->D->Hh->R D
 | .int i,.int j,h=>.ok (.bl (p i j)) h
 | _,_,_=>.bad
noncomputable def ltI:Int->Int->Bool
 | .ofNat a,.ofNat b=>Nat.blt a b
 | .ofNat _,.negSucc _=>false
 | .negSucc _,.ofNat _=>true
 | .negSucc a,.negSucc b=>Nat.blt b a
theorem oA:ltI=fun i j=>decide (i<j):=by
 funext i j
 cases i with
 | ofNat a=>
  cases j with
  | ofNat b=>
   show Nat.blt a b=_
   rw[Bool.eq_iff_iff,Nat.blt_eq,decide_eq_true_iff]
   exact Int.ofNat_lt.symm
  | negSucc b=>exact(decide_eq_false (by have:Int.ofNat a=(a:Int):=rfl;omega)).symm
 | negSucc a=>
  cases j with
  | ofNat b=>exact(decide_eq_true (by have:Int.ofNat b=(b:Int):=rfl;omega)).symm
  | negSucc b=>
   show Nat.blt b a=_
   rw[Bool.eq_iff_iff,Nat.blt_eq,decide_eq_true_iff]
   omega
noncomputable def leI (i j:Int):Bool:=!ltI j i
theorem tD:leI=fun i j=>decide (i<=j):=by
 funext i j
 unfold leI
 rw[oA,Bool.eq_iff_iff]
 simp
noncomputable def dLt:D->D->Hh->R D:=zS ltI
noncomputable def dLe:D->D->Hh->R D:=zS leI
noncomputable def dGt:D->D->Hh->R D:=zS fun i j=>ltI j i
noncomputable def dGe:D->D->Hh->R D:=zS fun i j=>leI j i
theorem uH {p:Int->Int->Bool}:eJ K g ε (zS p) (rI0 fun i j=>.bl (p i j)):=by
 intro α H h a b x y Q r ra rb w
 unfold zS at w
 cases ra with
 | int i=>
  cases rb with
  | int j=>exact⟨i,j,rfl,rfl,aJ.now w r (.bl _)⟩
  | _=>exact w.elim
 | _=>exact w.elim
theorem lh:eJ K g ε dLt (rI0 fun i j=>.bl (decide (i<j))):=by
 unfold dLt;rw[oA];exact uH
theorem Cw:eJ K g ε dLe (rI0 fun i j=>.bl (decide (i<=j))):=by
 unfold dLe;rw[tD];exact uH
theorem oJ:eJ K g ε dGt (rI0 fun i j=>.bl (decide (j<i))):=by
 unfold dGt;rw[oA];exact uH
theorem Ju:eJ K g ε dGe (rI0 fun i j=>.bl (decide (j<=i))):=by
 unfold dGe;rw[tD];exact uH
noncomputable def iW (d:D) (h:Hh):Option (List D):=match d with
 | .tup ds=>some ds
 | .frl ds=>some ds
 | .scr ds=>some ds
 | .ref n=>ax h n
 | _=>none
theorem tJ {α:List Addr} {H:Hp} {h:Hh} {d:D} {x:V} {ds:List D} (r:aS K g α H h) (rd:aI K g α H d x) (e:iW d h=some ds):∃p vs,x=.ref p/\(SqL K H p vs\/SqT K H p vs)/\ay K g α H ds vs:=by
 unfold iW at e
 cases rd with
 | tup hq rs=>cases e;exact⟨_,_,rfl,.inr (SqT.of hq),rs⟩
 | frl hq rs=>cases e;exact⟨_,_,rfl,.inl hq.sq,rs⟩
 | scr hq rs=>cases e;exact⟨_,_,rfl,.inl hq.sq,rs⟩
 | ref hp=>obtain⟨vs,hv,rs⟩:=r.lst e hp;exact⟨_,vs,rfl,.inl (SqL.of hv),rs⟩
 | _=>cases e
noncomputable def dIx:D->D->Hh->R D:=fun a b h=>match iW a h,b with
 | some ds,.int i=>match atI ds i with
  | some d=>.ok d h
  | none=>.bad
 | _,_=>.bad
theorem yo {α:List Addr} {H:Hp} {ds:List D} {vs:List V} {i:Int} {d:D} (rs:ay K g α H ds vs) (e:atI ds i=some d):∃v,atI vs i=some v/\aI K g α H d v:=by
 unfold atI at e ⊢
 rw[<- rs.length]
 cases e1:ixN ds.length i with
 | none=>rw[e1] at e;cases e
 | some j=>
  rw[e1] at e
  exact rs.get e
theorem cT:eJ K g ε dIx (rIx K):=by
 intro α H h a b x y Q r ra rb w
 unfold dIx at w
 cases e1:iW a h with
 | none=>simp only[e1] at w;exact w.elim
 | some ds=>
  simp only[e1] at w
  obtain⟨p,vs,rfl,hq,rs⟩:=tJ r ra e1
  cases rb with
  | int i=>
   cases e2:atI ds i with
   | none=>simp only[e2] at w;exact w.elim
   | some d=>
    simp only[e2] at w
    obtain⟨v,ev,rv⟩:=yo rs e2
    rcases hq with hq | hq
    ·exact .inl ⟨p,vs,i,v,rfl,rfl,hq,ev,aJ.now w r rv⟩
    ·exact .inr (.inl ⟨p,vs,i,v,rfl,rfl,hq,ev,aJ.now w r rv⟩)
  | _=>exact w.elim
noncomputable def iE:D->D->D->Hh->R Unit:=fun o i v h=>match o,i with
 | .ref n,.int k=>match ax h n with
  | some ds=>match ixN ds.length k with
   | some j=>.ok () (h.set n (.lst (ds.set j v)))
   | none=>.bad
  | none=>.bad
 | _,_=>.bad
theorem qe:JJ K g ε iE FI:=by
 intro α H h o i v x y z Q r ro ri rv w
 unfold iE at w
 cases ro with
 | @ref n p hp=>
  cases ri with
  | int k=>
   cases e1:ax h n with
   | none=>simp only[e1] at w;exact w.elim
   | some ds=>
    simp only[e1] at w
    cases e2:ixN ds.length k with
    | none=>simp only[e2] at w;exact w.elim
    | some j=>
     simp only[e2] at w
     obtain⟨vs,hv,rs⟩:=r.lst e1 hp
     refine⟨p,vs,k,j,rfl,rfl,hv,by rw[<- rs.length];exact e2,?_⟩
     have x:=Ext.write (o:=.lst (vs.set j z)) r hp
     exact w _ α x (r.write hp ⟨_,a8,(rs.set rv j).ext x⟩)
  | _=>exact w.elim
 | _=>exact w.elim
noncomputable def cutD (xs:List D) (lo hi:Option Int):List D:=(xs.drop (HT.sIx xs.length 0 lo)).take (HT.sIx xs.length xs.length hi - HT.sIx xs.length 0 lo)
theorem k4 {α:List Addr} {H:Hp} {ds:List D} {vs:List V} (rs:ay K g α H ds vs) (lo hi:Option Int):ay K g α H (cutD ds lo hi) (rz vs lo hi):=by
 unfold cutD rz
 rw[<- rs.length]
 exact(rs.drop _).take _
noncomputable abbrev MO:=En->Hh->R (Option Int)
noncomputable def jK:MO:=fun _ h=>.ok none h
noncomputable def jW (a:ME):MO:=fun env h=>(a env h).bind fun d h1=>match d with
 | .int i=>.ok (some i) h1
 | _=>.bad
noncomputable def tMO (K:PySem.W.Frag) (g:GG) (ε:EE) (m:MO):TO:=fun σ H Q=>∃α env h,dz K g α H env σ h/\WQ K g ε α H (m env h) fun o h'=>∀H' α',Ext K α H α' H'->aS K g α' H' h'->Q o H'
theorem PO.imp {e:Option Expr} {t t':TO} (h:PO X e t) (i:∀σ H Q,t' σ H Q->t σ H Q):PO X e t':=fun pins s σ H Q I w=>h pins s σ H Q I (i σ H Q w)
theorem zc:PO X none (tMO X.K g ε jK):=PO.imp Eh fun σ H Q ⟨α,env,h,s,w⟩=>w H α Ext.refl s.heap
theorem nW {e:Expr} {me:ME} (he:PE X e (tM X.K g ε me)):PO X (some e) (tMO X.K g ε (jW me)):=PO.imp (Eg he) fun σ H Q ⟨α,env,h,s,w⟩=>tM.use s w.bind fun d1 h1 v1 H1 α1 e1 s1 r1 w1=>by
 cases r1 with
 | int i=>exact⟨i,rfl,w1 H1 α1 e1 s1.heap⟩
 | _=>exact w1.elim
noncomputable def Cr (nl:NL):D->Option Int->Option Int->Hh->R D:=fun d lo hi h=>match d with
 | .tup ds=>.ok (.tup (cutD ds lo hi)) h
 | .frl ds=>nl (cutD ds lo hi) h
 | .scr ds=>nl (cutD ds lo hi) h
 | .ref n=>match ax h n with
  | some ds=>nl (cutD ds lo hi) h
  | none=>.bad
 | _=>.bad
noncomputable def i8 (nl:NL) (a:ME) (l u:MO):ME:=fun env h=>(a env h).bind fun x h1=>(l env h1).bind fun lo h2=>(u env h2).bind fun hi h3=>Cr nl x lo hi h3
theorem tMO.use {α:List Addr} {H:Hp} {env:En} {σ:St} {h:Hh} {m:MO} {Q:Option Int->Hp->Prop} {k:Option Int->Hh->Prop} (s:dz K g α H env σ h) (w:WQ K g ε α H (m env h) k)
  (q:∀d h' H' α',Ext K α H α' H'->dz K g α' H' env σ h'->k d h'->Q d H'):tMO K g ε m σ H Q:=
 ⟨α,env,h,s,w.mono fun d h' _ kk H' α' e r=>q d h' H' α' e (s.ext e r) kk⟩
theorem oB {nl:NL} [nO nl] {e:Expr} {me:ME} {lo hi:Option Expr} {ml mh:MO} {p2 pos:Pos} (he:PE X e (tM X.K g ε me)) (hl:PO X lo (tMO X.K g ε ml)) (hu:PO X hi (tMO X.K g ε mh)):PE X (.Subscript e (.Slice lo hi none p2) pos) (tM X.K g ε (i8 nl me ml mh)):=
 PE.imp (PE.frz (Bo (SlR.or Dz (SlR.or HG DZ)) he hl hu)) fun σ H Q ⟨α,env,h,s,w⟩=>tM.use s w.bind fun d1 h1 v1 H1 α1 e1 s1 r1 w1=>tMO.use s1 (w1.ext e1).bind fun o2 h2 H2 α2 e2 s2 w2=>tMO.use s2 (w2.ext e2).bind fun o3 h3 H3 α3 e3 s3 w3=>by
  have tr:=e1.trans (e2.trans e3)
  have r3:=r1.ext (e2.trans e3)
  have w4:=(w3.ext e3).mono fun _ _ _ p=>aJ.ext tr p
  unfold Cr at w4
  cases r3 with
  | @frl ds p vs hq rs=>exact .inl ⟨_,_,rfl,hq.sq,fun l hl=>NL.post w4 s3.heap (k4 rs _ _) hl⟩
  | @scr ds p vs hq rs=>exact .inl ⟨_,_,rfl,hq.sq,fun l hl=>NL.post w4 s3.heap (k4 rs _ _) hl⟩
  | @ref n p hp=>
   cases e1:ax h3 n with
   | none=>simp only[e1] at w4;exact w4.elim
   | some ds=>
    simp only[e1] at w4
    obtain⟨vs,hv,rs⟩:=s3.heap.lst e1 hp
    exact .inl ⟨_,_,rfl,SqL.of hv,fun l hl=>NL.post w4 s3.heap (k4 rs _ _) hl⟩
  | @tup ds p vs hq rs=>
   refine .inr ?_
   by_cases hw:HT.sIx vs.length 0 o2=0/\HT.sIx vs.length vs.length o3=vs.length
   ·refine .inr ⟨_,_,rfl,SqT.of hq,hw.1,hw.2,?_⟩
    refine aJ.Ak w4 s3.heap (.tup hq ?_)
    have:rz vs o2 o3=vs:=by unfold rz;rw[hw.1,hw.2];simp
    have q:=k4 rs o2 o3
    rw[this] at q
    exact q
   ·exact .inl ⟨_,_,rfl,SqT.of hq,hw,fun l hl=>.inl (aJ.tup w4 s3.heap (k4 rs _ _) hl)⟩
  | _=>exact w4.elim
end
noncomputable def fK:D->Bool
 | .non=>true | .bl _=>true | .int _=>true | .str _=>true
 | _=>false
noncomputable def eqF:D->D->Bool
 | .non,.non=>true
 | .bl a,.bl b=>a == b
 | .bl a,.int b=>(if a then 1 else 0) == b
 | .int a,.bl b=>a == (if b then 1 else 0)
 | .int a,.int b=>a == b
 | .str a,.str b=>a == b
 | _,_=>false
noncomputable def eqL (f:D->D->Option Bool):List D->List D->Option Bool
 | x::xs,y::ys=>match f x y,eqL f xs ys with
  | some b,some c=>some (b&&c)
  | _,_=>none
 | [],[]=>some true
 | _,_=>some false
inductive Vw where
 | fl | tp (ds:List D) | ls (ds:List D) | no
noncomputable def vw (d:D) (h:Hh):Vw:=match d with
 | .non=>.fl | .bl _=>.fl | .int _=>.fl | .str _=>.fl
 | .tup ds=>.tp ds
 | .frl ds=>.ls ds
 | .scr ds=>.ls ds
 | .ref n=>match ax h n with
  | some ds=>.ls ds
  | none=>.no
 | _=>.no
noncomputable def eqD:Nat->Hh->D->D->Option Bool
 | 0,_,_,_=>none
 | k+1,h,a,b=>match vw a h,vw b h with
  | .fl,.fl=>some (eqF a b)
  | .tp xs,.tp ys=>eqL (eqD k h) xs ys
  | .ls xs,.ls ys=>if xs.length=ys.length then eqL (eqD k h) xs ys else some false
  | .fl,.tp _=>some false
  | .fl,.ls _=>some false
  | .tp _,.fl=>some false
  | .tp _,.ls _=>some false
  | .ls _,.fl=>some false
  | .ls _,.tp _=>some false
  | _,_=>none
section
variable {K:PySem.W.Frag} {g:GG} {α:List Addr} {H:Hp} {h:Hh}
theorem oE {f:D->D->Option Bool} (hf:∀a b x c,aI K g α H a x->aI K g α H b x->f a b=some c->c=true):∀{xs ys:List D} {vs:List V} {c:Bool},ay K g α H xs vs->ay K g α H ys vs->eqL f xs ys=some c->c=true
 | _,_,_,_,.nil,.nil,e=>by simp[eqL] at e;exact e
 | _,_,_,c,.cons r t,.cons r' t',e=>by
  unfold eqL at e
  split at e
  ·rename_i b c' h1 h2
   have e1:=hf _ _ _ _ r r' h1
   have e2:=oE hf t t' h2
   subst e1 e2
   exact(Option.some.inj e).symm
  ·cases e
theorem mM {d:D} {x:V} (rd:aI K g α H d x) (e:vw d h=.fl):fK d=true:=by
 cases rd with
 | ref hp=>unfold vw at e;simp only at e;split at e<;>cases e
 | _=>first | rfl | cases e
theorem mW {d:D} {x:V} {ds:List D} (rd:aI K g α H d x) (e:vw d h=.tp ds):∃p vs,x=.ref p/\SqT K H p vs/\ay K g α H ds vs:=by
 cases rd with
 | tup hp rs=>cases e;exact⟨_,_,rfl,SqT.of hp,rs⟩
 | ref hp=>unfold vw at e;simp only at e;split at e<;>cases e
 | _=>cases e
theorem mX {d:D} {x:V} {ds:List D} (r:aS K g α H h) (rd:aI K g α H d x) (e:vw d h=.ls ds):∃p vs,x=.ref p/\SqL K H p vs/\ay K g α H ds vs:=by
 cases rd with
 | frl hp rs=>cases e;exact⟨_,_,rfl,hp.sq,rs⟩
 | scr hp rs=>cases e;exact⟨_,_,rfl,hp.sq,rs⟩
 | @ref n p hp=>
  unfold vw at e
  simp only at e
  cases el:ax h n with
  | none=>rw[el] at e;cases e
  | some ds'=>
   rw[el] at e;cases e
   obtain⟨vs,hv,rs⟩:=r.lst el hp
   exact⟨_,_,rfl,SqL.of hv,rs⟩
 | _=>cases e
theorem yq {f:D->D->Option Bool}:∀{xs ys:List D} {c:Bool},eqL f xs ys=some c →
  (∀(j:Nat) (x y:D),xs[j]?=some x->ys[j]?=some y->∃b,f x y=some b)/\c=((List.range (min xs.length ys.length)).all (fun j=>((f (xs.getD j .non) (ys.getD j .non)).getD false))&&xs.length == ys.length)
 | [],[],c,e=>by
  simp[eqL] at e
  refine⟨fun j x y h=>by simp at h,?_⟩
  simp[<- e]
 | [],_::_,c,e=>by
  simp[eqL] at e
  exact⟨fun j x y h=>by simp at h,by simp[<- e]⟩
 | _::_,[],c,e=>by
  simp[eqL] at e
  exact⟨fun j x y _ h=>by simp at h,by simp[<- e]⟩
 | x::xs,y::ys,c,e=>by
  unfold eqL at e
  split at e
  ·rename_i b c' h1 h2
   obtain⟨q1,q2⟩:=yq h2
   refine⟨fun j x' y' hx hy=>?_,?_⟩
   ·cases j with
    | zero=>simp at hx hy;subst hx hy;exact⟨b,h1⟩
    | succ j=>exact q1 j x' y' (by simpa using hx) (by simpa using hy)
   ·have e':=(Option.some.inj e).symm
    rw[e',q2]
    have hm:min (x::xs).length (y::ys).length=min xs.length ys.length+1:=by simp[Nat.succ_min_succ]
    rw[hm,List.range_succ_eq_map,List.all_cons,List.all_map]
    have h0:(f ((x::xs).getD 0 .non) ((y::ys).getD 0 .non)).getD false=b:=by
     show(f x y).getD false=b
     rw[h1];rfl
    rw[h0]
    have hlen:((x::xs).length == (y::ys).length)=(xs.length == ys.length):=by simp
    rw[hlen,Bool.and_assoc]
    rfl
  ·cases e
end
section
variable {X:Cx} {g:GG} {pins:List (Addr × Obj)} {σ:St} {H:Hp} {s:Shared} {α:List Addr} {h:Hh}
open PySem.SeqAt
theorem EA {A:Around} {a b:D} {x y:V} {u v:Value} {K:PySem.W.Frag} (ra:aI K g α H a x) (rb:aI K g α H b y) (ru:RelV x u) (rv:RelV y v) (fa:fK a=true) (fb:fK b=true) :
  EqAt A s u v (eqF a b)/\RcAt A s u v (eqF a b)/\RcNeAt A s u v (!eqF a b):=by
 cases ra with
 | non=>
  cases ru
  cases rb with
  | non=>cases rv;exact⟨.same _,.none_none,.none_none⟩
  | bl z=>cases rv;exact⟨.none_bool z,.none_bool z,.none_bool z⟩
  | int z=>obtain⟨t,rfl⟩:=rv;exact⟨.none_int z t,.none_int z t,.none_int z t⟩
  | str z=>obtain⟨t,rfl⟩:=rv;exact⟨.none_str z t,.none_str z t,.none_str z t⟩
  | _=>cases fb
 | bl q=>
  cases ru
  cases rb with
  | non=>cases rv;exact⟨.bool_none q,.bool_none q,.bool_none q⟩
  | bl z=>cases rv;exact⟨.bool_bool q z,.bool_bool q z,.bool_bool q z⟩
  | int z=>obtain⟨t,rfl⟩:=rv;exact⟨.bool_int q z t,.bool_int q z t,.bool_int q z t⟩
  | str z=>obtain⟨t,rfl⟩:=rv;exact⟨.bool_str q z t,.bool_str q z t,.bool_str q z t⟩
  | _=>cases fb
 | int q=>
  obtain⟨t',rfl⟩:=ru
  cases rb with
  | non=>cases rv;exact⟨.int_none q t',.int_none q t',.int_none q t'⟩
  | bl z=>cases rv;exact⟨.int_bool q t' z,.int_bool q t' z,.int_bool q t' z⟩
  | int z=>obtain⟨t,rfl⟩:=rv;exact⟨.int_int q t' z t,.int_int q t' z t,.int_int q t' z t⟩
  | str z=>obtain⟨t,rfl⟩:=rv;exact⟨.int_str q t' z t,.int_str q t' z t,.int_str q t' z t⟩
  | _=>cases fb
 | str q=>
  obtain⟨t',rfl⟩:=ru
  cases rb with
  | non=>cases rv;exact⟨.str_none q t',.str_none q t',.str_none q t'⟩
  | bl z=>cases rv;exact⟨.str_bool q t' z,.str_bool q t' z,.str_bool q t' z⟩
  | int z=>obtain⟨t,rfl⟩:=rv;exact⟨.str_int q t' z t,.str_int q t' z t,.str_int q t' z t⟩
  | str z=>obtain⟨t,rfl⟩:=rv;exact⟨.str_str q t' z t,.str_str q t' z t,.str_str q t' z t⟩
  | _=>cases fb
 | _=>cases fa
theorem uW {A:Around} {b:D} {y:V} {v:Value} {p:Addr} {its:Array Value} {K:PySem.W.Frag} (ht:s.heap.IsTuple p its) (hu:A.units<cLine) (rb:aI K g α H b y) (rv:RelV y v) (fb:fK b=true) :
  (EqAt A s (.ref p) v false/\RcAt A s (.ref p) v false/\RcNeAt A s (.ref p) v true)/\(EqAt A s v (.ref p) false/\RcAt A s v (.ref p) false/\RcNeAt A s v (.ref p) true):=by
 cases rb with
 | non=>cases rv;exact⟨⟨.tuple_none ht hu,.tuple_none ht hu,.tuple_none ht hu⟩,.none_tuple ht hu,.none_tuple ht hu,.none_tuple ht hu⟩
 | bl z=>cases rv;exact⟨⟨.tuple_bool z ht hu,.tuple_bool z ht hu,.tuple_bool z ht hu⟩,.bool_tuple z ht hu,.bool_tuple z ht hu,.bool_tuple z ht hu⟩
 | int z=>obtain⟨t,rfl⟩:=rv;exact⟨⟨.tuple_int z t ht hu,.tuple_int z t ht hu,.tuple_int z t ht hu⟩,.int_tuple z t ht hu,.int_tuple z t ht hu,.int_tuple z t ht hu⟩
 | str z=>obtain⟨t,rfl⟩:=rv;exact⟨⟨.tuple_str z t ht hu,.tuple_str z t ht hu,.tuple_str z t ht hu⟩,.str_tuple z t ht hu,.str_tuple z t ht hu,.str_tuple z t ht hu⟩
 | _=>cases fb
theorem vB {A:Around} {b:D} {y:V} {v:Value} {p:Addr} {its:Array Value} {K:PySem.W.Frag} (ht:s.heap.IsList p its) (hu:A.units<cLine) (rb:aI K g α H b y) (rv:RelV y v) (fb:fK b=true) :
  (EqAt A s (.ref p) v false/\RcAt A s (.ref p) v false/\RcNeAt A s (.ref p) v true)/\(EqAt A s v (.ref p) false/\RcAt A s v (.ref p) false/\RcNeAt A s v (.ref p) true):=by
 cases rb with
 | non=>cases rv;exact⟨⟨.list_none ht hu,.list_none ht hu,.list_none ht hu⟩,.none_list ht hu,.none_list ht hu,.none_list ht hu⟩
 | bl z=>cases rv;exact⟨⟨.list_bool z ht hu,.list_bool z ht hu,.list_bool z ht hu⟩,.bool_list z ht hu,.bool_list z ht hu,.bool_list z ht hu⟩
 | int z=>obtain⟨t,rfl⟩:=rv;exact⟨⟨.list_int z t ht hu,.list_int z t ht hu,.list_int z t ht hu⟩,.int_list z t ht hu,.int_list z t ht hu,.int_list z t ht hu⟩
 | str z=>obtain⟨t,rfl⟩:=rv;exact⟨⟨.list_str z t ht hu,.list_str z t ht hu,.list_str z t ht hu⟩,.str_list z t ht hu,.str_list z t ht hu,.str_list z t ht hu⟩
 | _=>cases fb
theorem wA {A:Around} {k:Nat} {ds es:List D} {vs us:List V} {its jts:List Value} {c:Bool} (r:aS X.K g α H h)
  (ih:∀(a b:D) (x y:V) (u v:Value) (c:Bool),aI X.K g α H a x->aI X.K g α H b y->RelV x u->RelV y v->eqD k h a b=some c->EqAt A.in1 s u v c)
  (rs:ay X.K g α H ds vs) (rt:ay X.K g α H es us) (rv:Vals vs its) (ru:Vals us jts) (e:eqL (eqD k h) ds es=some c) :
  (∀j (h1:j<its.toArray.size) (h2:j<jts.toArray.size),EqAt A.in1 s its.toArray[j] jts.toArray[j] ((fun(j:Nat)=>(eqD k h (ds.getD j .non) (es.getD j .non)).getD false) j)) ∧
  c=((List.range (min its.toArray.size jts.toArray.size)).all (fun(j:Nat)=>(eqD k h (ds.getD j .non) (es.getD j .non)).getD false)&&its.toArray.size == jts.toArray.size):=by
 obtain⟨q1,q2⟩:=yq e
 have l1:its.toArray.size=ds.length:=by rw[List.size_toArray,<- rv.length,rs.length]
 have l2:jts.toArray.size=es.length:=by rw[List.size_toArray,<- ru.length,rt.length]
 refine⟨fun j h1 h2=>?_,by rw[l1,l2];exact q2⟩
 have hd:ds[j]?=some (ds.getD j .non):=by rw[List.getD_eq_getElem?_getD,List.getElem?_eq_getElem (by omega)];rfl
 have he:es[j]?=some (es.getD j .non):=by rw[List.getD_eq_getElem?_getD,List.getElem?_eq_getElem (by omega)];rfl
 obtain⟨b,hb⟩:=q1 j _ _ hd he
 obtain⟨x,hx,rx⟩:=rs.get hd
 obtain⟨y,hy,ry⟩:=rt.get he
 obtain⟨u,hu,rxu⟩:=rv.get hx
 obtain⟨v,hv,ryv⟩:=ru.get hy
 have eu:its.toArray[j]=u:=by
  have:=List.getElem?_eq_getElem (l:=its) (i:=j) (by simpa using h1)
  rw[hu] at this
  simpa using(Option.some.inj this).symm
 have ev:jts.toArray[j]=v:=by
  have:=List.getElem?_eq_getElem (l:=jts) (i:=j) (by simpa using h2)
  rw[hv] at this
  simpa using(Option.some.inj this).symm
 rw[eu,ev]
 show EqAt A.in1 s u v ((eqD k h (ds.getD j .non) (es.getD j .non)).getD false)
 rw[hb]
 exact ih _ _ _ _ _ _ _ rx ry rxu ryv hb
theorem yQ (I:Inv X pins σ H s) {p:Addr} {vs us:List V} (a:SqT X.K H p vs) (b:SqL X.K H p us):False:=by
 obtain⟨its,r1,⟨o,e,c,_⟩,_⟩:=I.tuple a
 obtain⟨jts,r2,⟨o',n',e',c',_⟩,_⟩:=I.list b
 rw[e] at e';cases e';rw[c] at c';injection c' with z;exact absurd z (by decide)
theorem oo (I:Inv X pins σ H s) (r:aS X.K g α H h):∀(k:Nat) (a b:D) (x:V) (c:Bool),aI X.K g α H a x->aI X.K g α H b x->eqD k h a b=some c->c=true
 | 0,_,_,_,_,_,_,e=>by cases e
 | k+1,a,b,x,c,ra,rb,e=>by
  unfold eqD at e
  cases ea:vw a h with
  | no=>simp[ea] at e
  | fl=>
   have fa:=mM ra ea
   cases eb:vw b h with
   | no=>simp[ea,eb] at e
   | fl=>
    simp only[ea,eb] at e
    cases e
    have fb:=mM rb eb
    cases ra with
    | non=>cases rb with
     | non=>rfl
    | bl z=>cases rb with
     | bl _=>simp[eqF]
    | int z=>cases rb with
     | int _=>simp[eqF]
    | str z=>cases rb with
     | str _=>simp[eqF]
    | _=>cases fa
   | tp ds=>obtain⟨p,vs,rfl,_⟩:=mW rb eb;cases ra<;>cases fa
   | ls ds=>obtain⟨p,vs,rfl,_⟩:=mX r rb eb;cases ra<;>cases fa
  | tp da=>
   obtain⟨p,va,rfl,hp,rs⟩:=mW ra ea
   cases eb:vw b h with
   | no=>simp[ea,eb] at e
   | fl=>have fb:=mM rb eb;cases rb<;>cases fb
   | tp db=>
    simp only[ea,eb] at e
    obtain⟨q,vb,hpq,hq,rt⟩:=mW rb eb
    cases hpq
    have:=I.lW hp hq
    subst this
    exact oE (fun a b x c=>oo I r k a b x c) rs rt e
   | ls db=>
    obtain⟨q,vb,hpq,hq,rt⟩:=mX r rb eb
    cases hpq
    exact(yQ I hp hq).elim
  | ls da=>
   obtain⟨p,va,rfl,hp,rs⟩:=mX r ra ea
   cases eb:vw b h with
   | no=>simp[ea,eb] at e
   | fl=>have fb:=mM rb eb;cases rb<;>cases fb
   | tp db=>
    obtain⟨q,vb,hpq,hq,rt⟩:=mW rb eb
    cases hpq
    exact(yQ I hq hp).elim
   | ls db=>
    simp only[ea,eb] at e
    obtain⟨q,vb,hpq,hq,rt⟩:=mX r rb eb
    cases hpq
    have:=I.oW hp hq
    subst this
    rw[if_pos (by rw[rs.length,rt.length])] at e
    exact oE (fun a b x c=>oo I r k a b x c) rs rt e
theorem xS (I:Inv X pins σ H s) (r:aS X.K g α H h):∀(k:Nat) (A:Around) (a b:D) (x y:V) (u v:Value) (c:Bool),A.units+k<cLine->aI X.K g α H a x->aI X.K g α H b y->RelV x u->RelV y v->eqD k h a b=some c →
  EqAt A s u v c/\RcAt A s u v c/\RcNeAt A s u v (!c)
 | 0,_,_,_,_,_,_,_,_,_,_,_,_,_,e=>by cases e
 | k+1,A,a,b,x,y,u,v,c,hu,ra,rb,ru,rv,e=>by
  have hu0:A.units<cLine:=by omega
  have ih:∀(a b:D) (x y:V) (u v:Value) (c:Bool),aI X.K g α H a x->aI X.K g α H b y->RelV x u->RelV y v->eqD k h a b=some c->EqAt A.in1 s u v c:=
   fun a b x y u v c h1 h2 h3 h4 h5=>(xS I r k A.in1 a b x y u v c (by show A.units+1+k<_;omega) h1 h2 h3 h4 h5).1
  have whole:=fun x ra rb=>oo I r (k+1) a b x c ra rb e
  unfold eqD at e
  cases ea:vw a h with
  | no=>simp[ea] at e
  | fl=>
   have fa:=mM ra ea
   cases eb:vw b h with
   | no=>simp[ea,eb] at e
   | fl=>simp only[ea,eb] at e;cases e;exact EA ra rb ru rv fa (mM rb eb)
   | tp db=>
    simp only[ea,eb] at e;cases e
    obtain⟨q,vb,rfl,hq,rt⟩:=mW rb eb
    cases rv
    obtain⟨its,r1,ht,_⟩:=I.tuple hq
    exact(uW ht hu0 ra ru fa).2
   | ls db=>
    simp only[ea,eb] at e;cases e
    obtain⟨q,vb,rfl,hq,rt⟩:=mX r rb eb
    cases rv
    obtain⟨its,r1,ht,_⟩:=I.list hq
    exact(vB ht.isList hu0 ra ru fa).2
  | tp da=>
   obtain⟨p,va,rfl,hp,rs⟩:=mW ra ea
   cases ru
   obtain⟨its,r1,ht,_⟩:=I.tuple hp
   cases eb:vw b h with
   | no=>simp[ea,eb] at e
   | fl=>simp only[ea,eb] at e;cases e;exact(uW ht hu0 rb rv (mM rb eb)).1
   | tp db=>
    simp only[ea,eb] at e
    obtain⟨q,vb,rfl,hq,rt⟩:=mW rb eb
    cases rv
    obtain⟨jts,r2,ht2,_⟩:=I.tuple hq
    obtain⟨h1,h2⟩:=wA r ih rs rt r1 r2 e
    have rc:RcAt A s (.ref p) (.ref q) c:=by rw[h2];exact RcAt.tuples ht ht2 hu0 h1
    refine⟨?_,rc,by rw[h2];exact RcNeAt.tuples ht ht2 hu0 h1⟩
    by_cases hpq:p=q
    ·subst hpq
     rw[whole _ ra rb]
     exact .same _
    ·exact .of_refs hpq rc
   | ls db=>
    simp only[ea,eb] at e;cases e
    obtain⟨q,vb,rfl,hq,rt⟩:=mX r rb eb
    cases rv
    obtain⟨jts,r2,ht2,_⟩:=I.list hq
    exact⟨.tuple_list ht ht2.isList hu0,.tuple_list ht ht2.isList hu0,.tuple_list ht ht2.isList hu0⟩
  | ls da=>
   obtain⟨p,va,rfl,hp,rs⟩:=mX r ra ea
   cases ru
   obtain⟨its,r1,ht',_⟩:=I.list hp
   have ht:=ht'.isList
   cases eb:vw b h with
   | no=>simp[ea,eb] at e
   | fl=>simp only[ea,eb] at e;cases e;exact(vB ht hu0 rb rv (mM rb eb)).1
   | tp db=>
    simp only[ea,eb] at e;cases e
    obtain⟨q,vb,rfl,hq,rt⟩:=mW rb eb
    cases rv
    obtain⟨jts,r2,ht2,_⟩:=I.tuple hq
    exact⟨.list_tuple ht ht2 hu0,.list_tuple ht ht2 hu0,.list_tuple ht ht2 hu0⟩
   | ls db=>
    simp only[ea,eb] at e
    obtain⟨q,vb,rfl,hq,rt⟩:=mX r rb eb
    cases rv
    obtain⟨jts,r2,ht2',_⟩:=I.list hq
    have ht2:=ht2'.isList
    have l1:its.toArray.size=da.length:=by rw[List.size_toArray,<- r1.length,rs.length]
    have l2:jts.toArray.size=db.length:=by rw[List.size_toArray,<- r2.length,rt.length]
    have fin:RcAt A s (.ref p) (.ref q) c/\RcNeAt A s (.ref p) (.ref q) (!c):=by
     by_cases hl:da.length=db.length
     ·rw[if_pos hl] at e
      obtain⟨h1,h2⟩:=wA r ih rs rt r1 r2 e
      have hsz:its.toArray.size=jts.toArray.size:=by omega
      have h2':c=(List.range its.toArray.size).all (fun(j:Nat)=>(eqD k h (da.getD j .non) (db.getD j .non)).getD false):=by
       rw[h2,<- hsz,Nat.min_self];simp
      exact⟨by rw[h2'];exact RcAt.lists ht ht2 hsz hu0 h1,by rw[h2'];exact RcNeAt.lists ht ht2 hsz hu0 h1⟩
     ·rw[if_neg hl] at e
      have e2:c=false:=(Option.some.inj e).symm
      have hsz:(its.toArray.size != jts.toArray.size)=true:=by
       rw[l1,l2];simpa using hl
      rw[e2]
      exact⟨RcAt.lists_lengths ht ht2 hsz hu0,RcNeAt.lists_lengths ht ht2 hsz hu0⟩
    refine⟨?_,fin⟩
    by_cases hpq:p=q
    ·subst hpq
     rw[whole _ ra rb]
     exact .same _
    ·exact .of_refs hpq fin.1
noncomputable abbrev eqN:Nat:=12
noncomputable def dEq:D->D->Hh->R D:=fun a b h=>match eqD eqN h a b with
 | some c=>.ok (.bl c) h
 | none=>.bad
noncomputable def dNe:D->D->Hh->R D:=fun a b h=>match eqD eqN h a b with
 | some c=>.ok (.bl (!c)) h
 | none=>.bad
noncomputable def DC (K:PySem.W.Frag) (g:GG) (neg:Bool):R2:=fun x y H Q=>∃α h a b c,aS K g α H h/\aI K g α H a x/\aI K g α H b y/\eqD eqN h a b=some c/\Q (.bl (if neg then !c else c)) H
theorem dq (hu:X.A.units+64<cLine):OpR X (compareOp .Eq) (DC X.K g false):=by
 intro pins s σ H x y v u Q I rx ry ⟨α,h,a,b,c,r,ra,rb,e,q⟩
 exact(xS I r eqN X.A a b x y v u c (by show X.A.units+12<_;omega) ra rb rx ry e).2.1 _ _ _ _ ⟨.bl c,H,I,rfl,q⟩
theorem wV (hu:X.A.units+64<cLine):OpR X (compareOp .NotEq) (DC X.K g true):=by
 intro pins s σ H x y v u Q I rx ry ⟨α,h,a,b,c,r,ra,rb,e,q⟩
 exact(xS I r eqN X.A a b x y v u c (by show X.A.units+12<_;omega) ra rb rx ry e).2.2 _ _ _ _ ⟨.bl (!c),H,I,rfl,q⟩
theorem fJ {ε:EE} {K:PySem.W.Frag}:eJ K g ε dEq (DC K g false):=by
 intro α H h a b x y Q r ra rb w
 unfold dEq at w
 cases e:eqD eqN h a b with
 | none=>simp only[e] at w;exact w.elim
 | some c=>simp only[e] at w;exact⟨α,h,a,b,c,r,ra,rb,e,aJ.now w r (.bl _)⟩
theorem Bn {ε:EE} {K:PySem.W.Frag}:eJ K g ε dNe (DC K g true):=by
 intro α H h a b x y Q r ra rb w
 unfold dNe at w
 cases e:eqD eqN h a b with
 | none=>simp only[e] at w;exact w.elim
 | some c=>simp only[e] at w;exact⟨α,h,a,b,c,r,ra,rb,e,aJ.now w r (.bl _)⟩
end
noncomputable def eC (f:D->Option PyData):List D->Option (List PyData)
 | []=>some []
 | d::ds=>match f d,eC f ds with
  | some p,some ps=>some (p::ps)
  | _,_=>none
noncomputable def toPy:Nat->Hh->D->Option PyData
 | 0,_,_=>none
 | k+1,h,d=>match d with
  | .non=>some .none
  | .bl b=>some (.bool b)
  | .int i=>if sml i=true then some (.int i) else none
  | .str x=>if x.cps.toList.all (fun c=>decide (c<16 ^ 8))=true then some (.str x) else none
  | .tup ds=>(eC (toPy k h) ds).map .tuple
  | .frl ds=>(eC (toPy k h) ds).map .list
  | .ref n=>match ax h n with
   | some ds=>(eC (toPy k h) ds).map .list
   | none=>none
  | _=>none
structure Jt (k:Nat) (d:PyData):Prop where
 sh:d.showable=true
 nd:d.hasDict=false
 dp:d.depth<=k
 lv:d.leavesShort 1921=true
structure H_ (k:Nat) (ds:List PyData):Prop where
 sh:PyData.showableAll ds=true
 nd:PyData.hasDictAll ds=false
 dp:PyData.depthAll ds<=k
 lv:PyData.leavesShortAll 1921 ds=true
section
variable {K:PySem.W.Frag} {g:GG} {α:List Addr} {H:Hp} {h:Hh}
theorem lK {f:D->Option PyData} {k:Nat} (hf:∀d x p,aI K g α H d x->f d=some p->RdD K H x p/\Jt k p):∀{ds:List D} {vs:List V} {ps:List PyData},ay K g α H ds vs->eC f ds=some ps →
  H_ k ps/\vs.length=ps.length/\∀(i:Nat) x d,vs[i]?=some x->ps[i]?=some d->RdD K H x d
 | _,_,_,.nil,e=>by
  cases e
  exact⟨⟨by simp[PyData.showableAll],by simp[PyData.hasDictAll],by simp[PyData.depthAll],by simp[PyData.leavesShortAll]⟩,rfl,fun i x d h=>by simp at h⟩
 | _,_,_,.cons r t,e=>by
  unfold eC at e
  split at e
  ·rename_i p ps h1 h2
   cases e
   obtain⟨a1,a2⟩:=hf _ _ _ r h1
   obtain⟨b1,b2,b3⟩:=lK hf t h2
   refine⟨⟨by rw[PyData.showableAll,a2.sh,b1.sh];rfl,by rw[PyData.hasDictAll,a2.nd,b1.nd];rfl,by rw[PyData.depthAll];exact Nat.max_le.mpr ⟨a2.dp,b1.dp⟩,by rw[PyData.leavesShortAll,a2.lv,b1.lv];rfl⟩,by simp[b2],fun i x d hx hd=>?_⟩
   cases i with
   | zero=>simp at hx hd;subst hx hd;exact a1
   | succ i=>exact b3 i x d (by simpa using hx) (by simpa using hd)
  ·cases e
theorem og (r:aS K g α H h):∀(k:Nat) (d:D) (x:V) (p:PyData),aI K g α H d x->toPy k h d=some p->RdD K H x p/\Jt k p
 | 0,_,_,_,_,e=>by cases e
 | k+1,d,x,p,rd,e=>by
  unfold toPy at e
  cases rd with
  | non=>cases e;exact⟨.non,by simp[PyData.showable],by simp[PyData.hasDict],by simp[PyData.depth],by simp[PyData.leavesShort]⟩
  | bl b=>cases e;exact⟨.bl b,by simp[PyData.showable],by simp[PyData.hasDict],by simp[PyData.depth],by simp[PyData.leavesShort]⟩
  | int i=>
   simp only at e
   split at e
   ·rename_i hs
    cases e
    have hl:i.natAbs.log2<1920:=Nat.lt_trans (tU hs) (by decide)
    exact⟨.int i,by simp[PyData.showable,hl],by simp[PyData.hasDict],by simp[PyData.depth],by simp only[PyData.leavesShort,decide_eq_true_eq];exact int_text_len_1921 hl⟩
   ·cases e
  | str z=>
   simp only at e
   split at e
   ·rename_i hs
    cases e
    exact⟨.str z,by simp[PyData.showable],by simp[PyData.hasDict],by simp[PyData.depth],by simpa only[PyData.leavesShort] using hs⟩
   ·cases e
  | tup hp rs=>
   simp only at e
   cases e1:eC (toPy k h) _ with
   | none=>rw[e1] at e;cases e
   | some ps=>
    rw[e1] at e
    cases e
    obtain⟨b1,b2,b3⟩:=lK (fun d x p=>og r k d x p) rs e1
    exact⟨.tup (SqT.of hp) b2 b3,by rw[PyData.showable];exact b1.sh,by rw[PyData.hasDict];exact b1.nd,by rw[PyData.depth];exact Nat.succ_le_succ b1.dp,by rw[PyData.leavesShort];exact b1.lv⟩
  | @ref n p hp=>
   simp only at e
   cases el:ax h n with
   | none=>rw[el] at e;cases e
   | some ds=>
    rw[el] at e
    simp only at e
    obtain⟨vs,hv,rs⟩:=r.lst el hp
    cases e1:eC (toPy k h) ds with
    | none=>rw[e1] at e;cases e
    | some ps=>
     rw[e1] at e
     cases e
     obtain⟨b1,b2,b3⟩:=lK (fun d x p=>og r k d x p) rs e1
     exact⟨.lst (SqL.of hv) b2 b3,by rw[PyData.showable];exact b1.sh,by rw[PyData.hasDict];exact b1.nd,by rw[PyData.depth];exact Nat.succ_le_succ b1.dp,by rw[PyData.leavesShort];exact b1.lv⟩
  | frl hp rs=>
   simp only at e
   cases e1:eC (toPy k h) _ with
   | none=>rw[e1] at e;cases e
   | some ps=>
    rw[e1] at e
    cases e
    obtain⟨b1,b2,b3⟩:=lK (fun d x p=>og r k d x p) rs e1
    exact⟨.lst hp.sq b2 b3,by rw[PyData.showable];exact b1.sh,by rw[PyData.hasDict];exact b1.nd,by rw[PyData.depth];exact Nat.succ_le_succ b1.dp,by rw[PyData.leavesShort];exact b1.lv⟩
  | fn _=>cases e
  | edic _=>cases e
  | exc _ _ _ _ _=>cases e
  | clo=>cases e
  | scr _ _=>cases e
end
noncomputable def oq (d:D) (h:Hh):R D:=match toPy 12 h d with
 | some p=>if p.bulk<=8000 then .ok (.str p.shown) h else .bad
 | none=>.bad
noncomputable def kR:List D->Hh->R D:=fun ds h=>match ds with
 | [.int i]=>if sml i=true then .ok (.str (toString i)) h else .bad
 | [.tup ds]=>oq (.tup ds) h
 | [.ref n]=>oq (.ref n) h
 | [.frl ds]=>oq (.frl ds) h
 | _=>.bad
section
variable {X:Cx} {K:PySem.W.Frag} {g:GG} {ε:EE}
noncomputable abbrev xq (K:PySem.W.Frag):List V->Hp->VK->Prop:=fun vs H Q=>(∃p d,vs=[.ref p]/\RdD K H (.ref p) d/\d.showable=true/\d.hasDict=false/\d.depth<=60/\d.shown.length<=sizeLine/\Q (.str d.shown) H)\/∃i,vs=[.int i]/\i.natAbs.log2<1920/\Q (.str (toString i)) H
theorem yD (hg:X.A.guards=some []) (hu:X.A.units+64<cLine):cP X (.builtin "repr") (xq X.K):=cP.or (zA hg hu) xR
theorem y0:tj K g ε kR (xq K):=by
 intro α H h a x Q r ra w
 unfold kR at w
 cases ra with
 | nil=>exact w.elim
 | cons rd rr=>
  cases rr with
  | cons _ _=>cases rd<;>exact w.elim
  | nil=>
   have gen:∀{d:D} {v:V},aI K g α H d v->(∃p,v=.ref p)->WQ K g ε α H (oq d h) (aJ K g α H Q)->xq K [v] H Q:=by
    intro d v rd ⟨p,hp⟩ w
    subst hp
    unfold oq at w
    cases e:toPy 12 h d with
    | none=>simp only[e] at w;exact w.elim
    | some pd=>
     simp only[e] at w
     obtain⟨hb,w⟩:=WQ.dD w
     obtain⟨q1,q2⟩:=og r 12 d _ pd rd e
     have:=PyData.shown_le_bulk 1921 (by decide) pd q2.lv
     exact .inl ⟨p,pd,rfl,q1,q2.sh,q2.nd,Nat.le_trans q2.dp (by decide),by rw[sizeLine_eq];omega,aJ.now w r (.str _)⟩
   cases rd with
   | int i=>
    obtain⟨hs,w⟩:=WQ.dD w
    exact .inr ⟨i,rfl,Nat.lt_trans (tU hs) (by decide),aJ.now w r (.str _)⟩
   | tup hp rs=>exact gen (.tup hp rs) ⟨_,rfl⟩ w
   | ref hp=>exact gen (.ref hp) ⟨_,rfl⟩ w
   | frl hp rs=>exact gen (.frl hp rs) ⟨_,rfl⟩ w
   | _=>exact w.elim
noncomputable def eI:List D->Hh->R D:=fun ds h=>match ds with
 | [.tup ds]=>.ok (.int ds.length) h
 | [.frl ds]=>.ok (.int ds.length) h
 | [.scr ds]=>.ok (.int ds.length) h
 | [.str x]=>if x.length<=1000000 then .ok (.int x.length) h else .bad
 | [.ref n]=>match h[n]? with
  | some (.lst ds)=>.ok (.int ds.length) h
  | some (.set k)=>.ok (.int k.length) h
  | _=>.bad
 | _=>.bad
noncomputable abbrev Fy (K:PySem.W.Frag):List V->Hp->VK->Prop:=fun xs H Q=>(∃p ys,xs=[.ref p]/\(SqL K H p ys\/SqT K H p ys)/\Q (.int ys.length) H)\/(∃p S n,xs=[.ref p]/\H p=some (.set S n)/\Q (.int n) H)\/∃z,xs=[.str z]/\z.length<=sizeLine/\Q (.int z.length) H
theorem eF:cP X (.builtin "len") (Fy X.K):=cP.or ur (cP.or qX tW)
theorem uM {α:List Addr} {H:Hp} {h:Hh} {ds:List D} {vs:List V} {f:List D->Hh->R D} {Q:VK} (hf:∀d e r h,f (d::e::r) h=.bad) (hf0:∀h,f [] h=.bad) (rs:ay K g α H ds vs) (w:WQ K g ε α H (f ds h) (aJ K g α H Q)):∃d v,ds=[d]/\vs=[v]/\aI K g α H d v:=by
 cases rs with
 | nil=>rw[hf0] at w;exact w.elim
 | cons r t=>
  cases t with
  | nil=>exact⟨_,_,rfl,rfl,r⟩
  | cons _ _=>rw[hf] at w;exact w.elim
theorem dR:tj K g ε eI (Fy K):=by
 intro α H h a x Q r ra w
 obtain⟨d,v,rfl,rfl,rd⟩:=uM (f:=eI) (fun d _ _ _=>by cases d<;>rfl) (fun _=>rfl) ra w
 unfold eI at w
 cases rd with
 | tup hp rs=>exact .inl ⟨_,_,rfl,.inr (SqT.of hp),aJ.now w r (by rw[<- rs.length];exact .int _)⟩
 | frl hp rs=>exact .inl ⟨_,_,rfl,.inl hp.sq,aJ.now w r (by rw[<- rs.length];exact .int _)⟩
 | scr hp rs=>exact .inl ⟨_,_,rfl,.inl hp.sq,aJ.now w r (by rw[<- rs.length];exact .int _)⟩
 | str z=>
  obtain⟨hl,w⟩:=WQ.dD w
  exact .inr (.inr ⟨z,rfl,gE hl,aJ.now w r (.int _)⟩)
 | @ref n p hp=>
  simp only at w
  cases e:h[n]? with
  | none=>rw[e] at w;exact w.elim
  | some o=>
   rw[e] at w
   have q:=r.here n p o hp e
   cases o with
   | lst ds=>obtain⟨vs,hv,rs⟩:=q;exact .inl ⟨p,vs,rfl,.inl (SqL.of hv),aJ.now w r (by rw[<- rs.length];exact .int _)⟩
   | set k=>exact .inr (.inl ⟨p,_,_,rfl,q,aJ.now w r (.int _)⟩)
   | dic k=>exact w.elim
   | dit k=>exact w.elim
 | _=>exact w.elim
noncomputable def lZ:List D->Hh->R D:=fun ds h=>match ds with
 | [.tup ds]=>.ok (.tup ds) h
 | [.frl ds]=>.ok (.tup ds) h
 | [.ref n]=>match ax h n with
  | some ds=>.ok (.tup ds) h
  | none=>.bad
 | _=>.bad
theorem vO:tj K g ε lZ (fun xs H Q=>∃p ys,xs=[.ref p]/\((SqL K H p ys/\∀l,H l=none->Q (.ref l) (upd H l (.tup ys)))\/(SqT K H p ys/\Q (.ref p) H))):=by
 intro α H h a x Q r ra w
 obtain⟨d,v,rfl,rfl,rd⟩:=uM (f:=lZ) (fun d _ _ _=>by cases d<;>rfl) (fun _=>rfl) ra w
 unfold lZ at w
 cases rd with
 | tup hp rs=>exact⟨_,_,rfl,.inr ⟨SqT.of hp,aJ.now w r (.tup hp rs)⟩⟩
 | frl hp rs=>exact⟨_,_,rfl,.inl ⟨hp.sq,fun l hl=>aJ.tup w r rs hl⟩⟩
 | @ref n p hp=>
  simp only at w
  cases e:ax h n with
  | none=>rw[e] at w;exact w.elim
  | some ds=>
   rw[e] at w
   obtain⟨vs,hv,rs⟩:=r.lst e hp
   exact⟨p,vs,rfl,.inl ⟨SqL.of hv,fun l hl=>aJ.tup w r rs hl⟩⟩
 | _=>exact w.elim
noncomputable def intsOf:List D->Option (List Int)
 | []=>some []
 | .int i::ds=>(intsOf ds).map (i::·)
 | _::_=>none
theorem gC:∀{ds:List D} {ns:List Int},intsOf ds=some ns->ds=ns.map D.int
 | [],ns,e=>by cases e;rfl
 | .int i::ds,ns,e=>by
  unfold intsOf at e
  cases e1:intsOf ds with
  | none=>rw[e1] at e;cases e
  | some ms=>rw[e1] at e;cases e;rw[gC e1];rfl
 | .non::_,_,e=>by cases e
 | .bl _::_,_,e=>by cases e
 | .str _::_,_,e=>by cases e
 | .tup _::_,_,e=>by cases e
 | .frl _::_,_,e=>by cases e
 | .ref _::_,_,e=>by cases e
 | .fn _::_,_,e=>by cases e
 | .edic::_,_,e=>by cases e
 | .exc _ _::_,_,e=>by cases e
 | .clo _ _::_,_,e=>by cases e
 | .scr _::_,_,e=>by cases e
theorem kH:∀(ns:List Int),intsOf (ns.map D.int)=some ns
 | []=>rfl
 | n::r=>by rw[List.map_cons,intsOf,kH r];rfl
noncomputable def rE:List D->Hh->R D:=fun ds h=>match ds with
 | [.int i,.int j]=>.ok (.int (if j > i then j else i)) h
 | _=>.bad
theorem CH {α:List Addr} {H:Hp} {h:Hh} {ds:List D} {vs:List V} {t:Int->Int->Int} {Q:VK} (r:aS K g α H h) (rs:ay K g α H ds vs) (w:WQ K g ε α H (match ds with | [.int i,.int j]=>.ok (.int (t i j)) h | _=>.bad) (aJ K g α H Q)):∃i j,vs=[.int i,.int j]/\Q (.int (t i j)) H:=by
 split at w
 ·cases rs with
  | cons r1 t1=>
   cases r1
   cases t1 with
   | cons r2 t2=>
    cases r2
    cases t2
    exact⟨_,_,rfl,aJ.now w r (.int _)⟩
 ·exact w.elim
theorem yh:tj K g ε rE (fun xs H Q=>∃i j,xs=[.int i,.int j]/\Q (.int (if j > i then j else i)) H):=fun α H h a x Q r ra w=>CH (t:=fun i j=>if j > i then j else i) r ra w
noncomputable def kN:List D->Hh->R D:=fun ds h=>match ds with
 | [.int i]=>.ok (.int i) h
 | [.bl b]=>.ok (.int (if b then 1 else 0)) h
 | _=>.bad
theorem pM:tj K g ε kN (fun xs H Q=>(∃i,xs=[.int i]/\Q (.int i) H)\/∃k,xs=[.bl k]/\Q (.int (if k then 1 else 0)) H):=by
 intro α H h a x Q r ra w
 obtain⟨d,v,rfl,rfl,rd⟩:=uM (f:=kN) (fun d _ _ _=>by cases d<;>rfl) (fun _=>rfl) ra w
 unfold kN at w
 cases rd with
 | int i=>exact .inl ⟨i,rfl,aJ.now w r (.int _)⟩
 | bl b=>exact .inr ⟨b,rfl,aJ.now w r (.int _)⟩
 | _=>exact w.elim
noncomputable def tyD (d:D) (h:Hh):Option String:=match d with
 | .non=>some "NoneType"
 | .bl _=>some "bool"
 | .int _=>some "int"
 | .str _=>some "str"
 | .tup _=>some "tuple"
 | .frl _=>some "list"
 | .edic=>some "dict"
 | .ref n=>match h[n]? with
  | some (.lst _)=>some "list"
  | some (.dic _)=>some "dict"
  | some (.dit _)=>some "dict"
  | _=>none
 | _=>none
noncomputable def zg (t n:String):Option Bool:=
 if n="int" then (if t="int" then some true else if t="bool" then some true else if t="NoneType" \/ t="str" \/ t="tuple" \/ t="list" \/ t="dict" then some false else none)
 else if n="bool" \/ n="tuple" \/ n="list" \/ n="str" then (if t=n then some true else if t="int" \/ t="bool" \/ t="NoneType" \/ t="str" \/ t="tuple" \/ t="list" \/ t="dict" then some false else none)
 else none
noncomputable def pS (n:String):D->Hh->R D:=fun d h=>match tyD d h with
 | some t=>match zg t n with
  | some b=>.ok (.bl b) h
  | none=>.bad
 | none=>.bad
theorem Js {α:List Addr} {H:Hp} {h:Hh} {d:D} {v:V} {t:String} (r:aS K g α H h) (rd:aI K g α H d v) (e:tyD d h=some t):kI K H v (.type t):=by
 unfold tyD at e
 cases rd with
 | non=>cases e;exact .non
 | bl b=>cases e;exact .bl b
 | int i=>cases e;exact .int i
 | str i=>cases e;exact .str i
 | tup hp rs=>cases e;exact .tup hp
 | frl hp rs=>cases e;obtain⟨o,hp⟩:=hp;exact .frz hp
 | edic hp=>cases e;exact .eV hp
 | @ref n p hp=>
  simp only at e
  cases eo:h[n]? with
  | none=>rw[eo] at e;cases e
  | some o=>
   rw[eo] at e
   have q:=r.here n p o hp eo
   cases o with
   | lst ds=>cases e;obtain⟨vs,hv,_⟩:=q;exact .lst hv
   | set k=>cases e
   | dic k=>cases e;obtain⟨vs,hv,_⟩:=q;exact .dK hv
   | dit k=>cases e;obtain⟨vs,hv,_⟩:=q;exact .dT hv
 | _=>cases e
theorem EY (K:PySem.W.Frag):PySem.W.kitOne K (.type "int") (.type "int")=some true/\PySem.W.kitOne K (.type "bool") (.type "int")=some true/\PySem.W.kitOne K (.type "NoneType") (.type "int")=some false/\PySem.W.kitOne K (.type "str") (.type "int")=some false
  /\ PySem.W.kitOne K (.type "tuple") (.type "int")=some false/\PySem.W.kitOne K (.type "list") (.type "int")=some false/\PySem.W.kitOne K (.type "dict") (.type "int")=some false:=⟨rfl,rfl,rfl,rfl,rfl,rfl,rfl⟩
theorem CW (K:PySem.W.Frag):PySem.W.kitOne K (.type "int") (.type "bool")=some false/\PySem.W.kitOne K (.type "bool") (.type "bool")=some true/\PySem.W.kitOne K (.type "NoneType") (.type "bool")=some false/\PySem.W.kitOne K (.type "str") (.type "bool")=some false
  /\ PySem.W.kitOne K (.type "tuple") (.type "bool")=some false/\PySem.W.kitOne K (.type "list") (.type "bool")=some false/\PySem.W.kitOne K (.type "dict") (.type "bool")=some false:=⟨rfl,rfl,rfl,rfl,rfl,rfl,rfl⟩
theorem kit_tuple (K:PySem.W.Frag):PySem.W.kitOne K (.type "int") (.type "tuple")=some false/\PySem.W.kitOne K (.type "bool") (.type "tuple")=some false/\PySem.W.kitOne K (.type "NoneType") (.type "tuple")=some false/\PySem.W.kitOne K (.type "str") (.type "tuple")=some false
  /\ PySem.W.kitOne K (.type "tuple") (.type "tuple")=some true/\PySem.W.kitOne K (.type "list") (.type "tuple")=some false/\PySem.W.kitOne K (.type "dict") (.type "tuple")=some false:=⟨rfl,rfl,rfl,rfl,rfl,rfl,rfl⟩
theorem Df (K:PySem.W.Frag):PySem.W.kitOne K (.type "int") (.type "list")=some false/\PySem.W.kitOne K (.type "bool") (.type "list")=some false/\PySem.W.kitOne K (.type "NoneType") (.type "list")=some false/\PySem.W.kitOne K (.type "str") (.type "list")=some false
  /\ PySem.W.kitOne K (.type "tuple") (.type "list")=some false/\PySem.W.kitOne K (.type "list") (.type "list")=some true/\PySem.W.kitOne K (.type "dict") (.type "list")=some false:=⟨rfl,rfl,rfl,rfl,rfl,rfl,rfl⟩
theorem DF (K:PySem.W.Frag):PySem.W.kitOne K (.type "int") (.type "str")=some false/\PySem.W.kitOne K (.type "bool") (.type "str")=some false/\PySem.W.kitOne K (.type "NoneType") (.type "str")=some false/\PySem.W.kitOne K (.type "str") (.type "str")=some true
  /\ PySem.W.kitOne K (.type "tuple") (.type "str")=some false/\PySem.W.kitOne K (.type "list") (.type "str")=some false/\PySem.W.kitOne K (.type "dict") (.type "str")=some false:=⟨rfl,rfl,rfl,rfl,rfl,rfl,rfl⟩
theorem Gy {t n:String} {b:Bool} (e:zg t n=some b):PySem.W.kitOne K (.type t) (.type n)=some b:=by
 unfold zg at e
 obtain⟨a1,a2,a3,a4,a5,a6,a7⟩:=EY K
 obtain⟨b1,b2,b3,b4,b5,b6,b7⟩:=CW K
 obtain⟨c1,c2,c3,c4,c5,c6,c7⟩:=kit_tuple K
 obtain⟨d1,d2,d3,d4,d5,d6,d7⟩:=Df K
 obtain⟨e1,e2,e3,e4,e5,e6,e7⟩:=DF K
 split at e
 ·rename_i hn;subst hn
  split at e
  ·rename_i h;subst h;cases e;exact a1
  ·split at e
   ·rename_i h;subst h;cases e;exact a2
   ·split at e
    ·rename_i h;cases e;rcases h with rfl | rfl | rfl | rfl | rfl<;>assumption
    ·cases e
 ·split at e
  ·rename_i hn
   split at e
   ·rename_i h;subst h;cases e;rcases hn with rfl | rfl | rfl | rfl<;>assumption
   ·rename_i hne
    split at e
    ·rename_i h;cases e;rcases hn with rfl | rfl | rfl | rfl<;>rcases h with rfl | rfl | rfl | rfl | rfl | rfl | rfl<;>first | assumption | exact absurd rfl hne
    ·cases e
  ·cases e
theorem wG {e:Expr} {me:ME} {n:String} {x:Str} {p1 p2 pos:Pos} (he:PE X e (tM X.K g ε me)) (hg:Gl X "isinstance") (hm:X.mg "isinstance" = none) (hg2:Gl X x) (hm2:X.mg x=none) (hb:bootBuiltins x=some (.type n)) (hn:x≠"__name__" := by decide) (hd:(x == ("__debug__" : Str))=false:=by decide)
  (hs1:starEach [e,.Name x p2] X.env=(false,eval e X.env)::starEach [.Name x p2] X.env:=by rfl) (hs2:starEach [.Name x p2] X.env=[(false,eval (.Name x p2) X.env)]:=by rfl) (hpl:(backTo pos (starEach [.Name x p2] X.env)).any (·.1)=false:=by rfl) :
  PE X (.Call (.Name "isinstance" p1) [e,.Name x p2] [] pos) (tM X.K g ε (cUn (pS n) me)):=
 PE.imp (lC vC hg hm PyProof.Rows.boot_isinstance (fM he (fM (yR (v:=.ty n) hg2 hm2 hb rfl hn hd) l6 hs2) hs1) (by decide) (by decide) hs1 hpl) fun σ H Q ⟨α,env,h,s,w⟩=>tM.use s w.bind fun d1 h1 v1 H1 α1 e1 s1 r1 w1=>by
  unfold pS at w1
  cases et:tyD d1 h1 with
  | none=>simp only[et] at w1;exact w1.elim
  | some t=>
   simp only[et] at w1
   cases es:zg t n with
   | none=>simp only[es] at w1;exact w1.elim
   | some b=>
    simp only[es] at w1
    exact⟨v1,.type t,n,b,rfl,Js s1.heap r1 et,Gy es,aJ.now (aJ.ext e1 w1) s1.heap (.bl b)⟩
end
section
variable {X:Cx} {K:PySem.W.Frag} {g:GG} {ε:EE}
noncomputable def lP:D->Hh->R Bool:=fun d h=>match d with
 | .non=>.ok false h
 | .bl b=>.ok b h
 | .int i=>.ok (i != 0) h
 | .tup ds=>.ok (!ds.isEmpty) h
 | .frl ds=>.ok (!ds.isEmpty) h
 | .ref n=>match ax h n with
  | some ds=>.ok (!ds.isEmpty) h
  | none=>.bad
 | _=>.bad
theorem ay.isEmpty {α:List Addr} {H:Hp} {ds:List D} {vs:List V} (r:ay K g α H ds vs):ds.isEmpty=vs.isEmpty:=by cases r<;>rfl
theorem pG:HR K g ε lP (fun x H Q=>∃k,Eo K x H k/\Q k H):=by
 intro α H h a x Q r ra w
 unfold lP at w
 have now:∀{b:Bool},mU K g α H Q b h->Q b H:=fun p=>p H α Ext.refl r
 cases ra with
 | non=>exact⟨false,rfl,now w⟩
 | bl b=>exact⟨b,rfl,now w⟩
 | int i=>exact⟨_,rfl,now w⟩
 | tup hp rs=>exact⟨_,.inr (.inl ⟨_,SqT.of hp,rfl⟩),now (by rw[<- rs.isEmpty];exact w)⟩
 | frl hp rs=>exact⟨_,.inl ⟨_,hp.sq,rfl⟩,now (by rw[<- rs.isEmpty];exact w)⟩
 | @ref n p hp=>
  simp only at w
  cases e:ax h n with
  | none=>rw[e] at w;exact w.elim
  | some ds=>
   rw[e] at w
   obtain⟨vs,hv,rs⟩:=r.lst e hp
   exact⟨_,.inl ⟨vs,SqL.of hv,rfl⟩,now (by rw[<- rs.isEmpty];exact w)⟩
 | _=>exact w.elim
theorem Ba {α:List Addr} {H:Hp} {d:D} {v:V} (r:aI K g α H d v) (f:fK d=true):j_ v=true:=by
 cases r<;>first | rfl | cases f
theorem Jr {α:List Addr} {H:Hp} {d e:D} {v u:V} (r:aI K g α H d v) (q:aI K g α H e u) (f:fK d=true) (f':fK e=true):eqF d e=eqV v u:=by
 cases r<;>first | (cases f;done) | (cases q<;>first | rfl | cases f')
theorem FG {α:List Addr} {H:Hp}:∀{ds:List D} {vs:List V},ay K g α H ds vs->ds.all fK=true->vs.all j_=true
 | _,_,.nil,_=>rfl
 | _,_,.cons r t,f=>by
  rw[List.all_cons,Bool.and_eq_true] at f ⊢
  exact⟨Ba r f.1,FG t f.2⟩
theorem Fn {α:List Addr} {H:Hp} {e:D} {u:V} (q:aI K g α H e u) (f':fK e=true):∀{ds:List D} {vs:List V},ay K g α H ds vs->ds.all fK=true->(ds.any fun d=>eqF d e)=vs.any fun y=>eqV y u
 | _,_,.nil,_=>rfl
 | _,_,.cons r t,f=>by
  rw[List.all_cons,Bool.and_eq_true] at f
  rw[List.any_cons,List.any_cons,Jr r q f.1 f',Fn q f' t f.2]
noncomputable def dIn (neg:Bool):D->D->Hh->R D:=fun a b h=>match iW b h with
 | some ds=>if fK a=true/\ds.all fK=true then .ok (.bl (if neg then !(ds.any fun d=>eqF d a) else ds.any fun d=>eqF d a)) h else .bad
 | none=>.bad
theorem r_ {neg:Bool}:eJ K g ε (dIn neg) (rIn K neg):=by
 intro α H h a b x y Q r ra rb w
 unfold dIn at w
 cases e:iW b h with
 | none=>rw[e] at w;exact w.elim
 | some ds=>
  rw[e] at w
  obtain⟨p,vs,rfl,hq,rs⟩:=tJ r rb e
  obtain⟨⟨f1,f2⟩,w⟩:=WQ.dD w
  refine⟨p,vs,rfl,hq,Ba ra f1,FG rs f2,?_⟩
  have e2:(ds.any fun d=>eqF d a)=inV x vs:=Fn ra f1 rs f2
  rw[<- e2]
  exact aJ.now w r (.bl _)
noncomputable def isL (d:D) (h:Hh):Bool:=match d with
 | .ref n=>(ax h n).isSome
 | .frl _=>true
 | _=>false
noncomputable def eA (f:D->List D->Hh->R D) (o:ME) (a:MA):ME:=fun env h=>(o env h).bind fun x h1=>if isL x h1=true then (a env h1).bind fun xs h2=>f x xs h2 else .bad
theorem Ee {α:List Addr} {H:Hp} {h:Hh} {d:D} {x:V} (r:aS K g α H h) (rd:aI K g α H d x) (e:isL d h=true):tyV K "list" x H:=by
 unfold isL at e
 cases rd with
 | @ref n p hp=>
  simp only at e
  obtain⟨ds,e⟩:=Option.isSome_iff_exists.mp e
  obtain⟨vs,hv,_⟩:=r.lst e hp
  exact .inl ⟨rfl,vs,SqL.of hv⟩
 | frl hq rs=>exact .inl ⟨rfl,_,hq.sq⟩
 | _=>cases e
theorem jC {o e:Expr} {es:List Expr} {mo:ME} {mr:MA} {name:Str} {apos cpos:Pos} {id:String} {r:V->List V->Hp->VK->Prop} {f:D->List D->Hh->R D} (slot:Slot "list" name id) (hty:typeOf (.builtin id)=pure (.type "method_descriptor")) (hm:MtM X id r) (im:zF X.K g ε f r) (ho:PE X o (tM X.K g ε mo)) (ha:PA X (e::es) (tMA X.K g ε mr))
  (hbase:attributeBase o name X.env (eval o X.env)=eval o X.env:=by rfl)
  (hfew:((backTo cpos (starEach (e::es) X.env)).all (fun x=>!x.1)&&(backToKw cpos (keywordEach [] X.env)).all (fun x=>x.1.isSome)
   && decide ((e::es).length+([]:List Keyword).length+(if ([]:List Keyword).isEmpty then 0 else 1)<30))=true:=by rfl)
  (hline:(apos.endLine == cpos.line)=true:=by rfl) (hs:starEach (e::es) X.env=(false,eval e X.env)::starEach es X.env:=by rfl) (hplain:(backTo cpos (starEach es X.env)).any (·.1)=false:=by rfl) :
  PE X (.Call (.Attribute o name apos) (e::es) [] cpos) (tM X.K g ε (eA f mo mr)):=
 PE.imp (IY PySem.F.plainAttrs_list slot hty hm ho ha hbase hfew hline hs hplain) fun σ H Q ⟨α,env,h,s,w⟩=>tM.use s w.bind fun d1 h1 v1 H1 α1 e1 s1 r1 w1=>by
  obtain⟨hl,w1⟩:=WQ.dD w1
  refine⟨Ee s1.heap r1 hl,tMA.use s1 (w1.ext e1).bind fun d2 h2 v2 H2 α2 e2 s2 r2 w2=>?_⟩
  exact im α2 H2 h2 d1 d2 v1 v2 Q s2.heap (r1.ext e2) r2 ((w2.ext e2).mono fun _ _ _ p=>aJ.ext (e1.trans e2) p)
noncomputable def fP:D->List D->Hh->R D:=fun o ds h=>match o,ds with
 | .ref n,[d]=>match ax h n with
  | some xs=>if xs.length<1000000 then .ok .non (h.set n (.lst (xs++[d]))) else .bad
  | none=>.bad
 | _,_=>.bad
theorem r9:zF K g ε fP yY:=by
 intro α H h o a y x Q r ro ra w
 unfold fP at w
 cases ro with
 | @ref n p hp=>
  cases ra with
  | nil=>exact w.elim
  | @cons d v _ _ rd rr=>
   cases rr with
   | cons _ _=>exact w.elim
   | nil=>
    simp only at w
    cases e:ax h n with
    | none=>rw[e] at w;exact w.elim
    | some xs=>
     rw[e] at w
     obtain⟨hl,w⟩:=WQ.dD w
     obtain⟨vs,hv,rs⟩:=r.lst e hp
     refine⟨p,vs,_,rfl,rfl,hv,by rw[<- rs.length,sizeLine_eq];omega,?_⟩
     have x:=Ext.write (o:=.lst (vs++[v])) r hp
     exact(show aJ K g α H Q _ _ from w) _ _ α x (r.write hp ⟨_,a8,(rs.append (.cons rd .nil)).ext x⟩) .non
 | _=>exact w.elim
noncomputable def vg:V->List V->Hp->VK->Prop:=fun x vs H Q=>∃l b xs zs,x=.ref l/\vs=[.ref b]/\H l=some (.lst xs)/\Rd H b (.lst zs)/\xs.length+zs.length<=sizeLine/\Q .non (upd H l (.lst (xs++zs)))
theorem pT:MtM X "list.extend" vg:=by
 intro pins s σ H x vs v us Q I rx rv h
 obtain⟨l,b,xs,zs,rfl,rfl,hH,hB,hz,q⟩:=h
 cases rx
 obtain⟨u,rfl,ru⟩:=rv.one
 cases ru
 obtain⟨z,its,n,r,hl,e⟩:=I.Jy hH
 obtain⟨its2,n2,z2,r2,hl2,e2⟩:=Dt I hB
 have hsz:its.toArray.size+its2.toArray.size<=sizeLine:=by rw[List.size_toArray,List.size_toArray];omega
 have hlong:¬ (!its.toArray.isEmpty&&Builtin.List.listTooLong (its.toArray.size+its2.toArray.size))=true:=by
  rw[vj hsz,Bool.and_false]
  exact Bool.false_ne_true
 refine call_meets F.slot_list_extend ⟨_,e,rfl⟩ F.entry_list_extend (F.args_list_extend_2 _ _)
  (AutoSeq1.list_extend_list_list_0 l its.toArray n b its2.toArray n2 hlong (by rw[List.size_toArray];omega) (by omega)) ⟨e,e2,?_⟩
 refine⟨.non,_,I.JL (its':=its++its2) hH e (by simp) (r.append r2) ?_,rfl,q⟩
 rw[List.length_append]
 omega
noncomputable def dP:D->List D->Hh->R D:=fun o ds h=>match o,ds with
 | .ref n,[d]=>match ax h n,lN d h with
  | some xs,some ys=>if xs.length+ys.length<=1000000 then .ok .non (h.set n (.lst (xs++ys))) else .bad
  | _,_=>.bad
 | _,_=>.bad
theorem rR:zF K g ε dP vg:=by
 intro α H h o a y x Q r ro ra w
 unfold dP at w
 cases ro with
 | @ref n p hp=>
  cases ra with
  | nil=>exact w.elim
  | cons rd rr=>
   cases rr with
   | cons _ _=>exact w.elim
   | nil=>
    simp only at w
    cases e:ax h n with
    | none=>rw[e] at w;exact w.elim
    | some xs=>
     rw[e] at w
     cases e2:lN _ h with
     | none=>rw[e2] at w;exact w.elim
     | some ys=>
      rw[e2] at w
      obtain⟨hl,w⟩:=WQ.dD w
      obtain⟨vs,hv,rs⟩:=r.lst e hp
      obtain⟨q,us,rfl,hu,rt⟩:=t8 r rd e2
      refine⟨p,q,vs,us,rfl,rfl,hv,hu,gE (by rw[<- rs.length,<- rt.length];exact hl),?_⟩
      have x:=Ext.write (o:=.lst (vs++us)) r hp
      exact(show aJ K g α H Q _ _ from w) _ _ α x (r.write hp ⟨_,a8,(rs.append rt).ext x⟩) .non
 | _=>exact w.elim
theorem mZ (ns:List Int):∀k,k<=ns.length->preSum (fun i=>ns.getD i 0) k=(ns.take k).sum
 | 0,_=>by simp[preSum]
 | k+1,h=>by
  rw[preSum,mZ ns k (by omega),List.take_succ,List.sum_append]
  rw[List.getD_eq_getElem?_getD,List.getElem?_eq_getElem (by omega)]
  simp
theorem zD (hc:X.calm=true):cP X (.builtin "sum") (fun vs H Q=>∃(p:Addr) (ns:List Int),vs=[.ref p]/\(SqL X.K H p (ns.map V.int)\/SqT X.K H p (ns.map V.int))/\Q (.int ns.sum) H):=by
 intro pins s σ H xs us Q I r h
 obtain⟨p,ns,rfl,hq,q⟩:=h
 obtain⟨u,rfl,rx⟩:=vals1 r
 cases rx
 have hh:X.A.in1.handled=none:=I.ok.hd hc
 have fin:∀{its:List Value} {o:Obj},Vals (ns.map V.int) its->∀s',Moved [s.heap.objs.size] (fun a b=>b=a) { s with heap:=s.heap.push o } s'->∀t',EP X pins σ Q (.int (preSum (fun i=>ns.getD i 0) its.toArray.size) t') s':=fun{its o} rv s' mv t'=>by
  have hl:its.toArray.size=ns.length:=by rw[List.size_toArray,<- rv.length,List.length_map]
  have keep:∀b u,s.heap.get? b=some u->s'.heap.get? b=some u:=fun b u e=>mv.heap b u (by simp;exact Nat.ne_of_lt (Heap.lt_size e)) (Heap.get?_push_of_some _ e)
  have I':Inv X pins σ H s':=by
   obtain⟨hp,gs,dr,tk,os⟩:=s'
   have e1:gs=s.gens:=mv.gens
   have e2:dr=s.drawn:=mv.drawn
   have e3:os=s.os:=mv.os
   subst e1 e2 e3
   exact I.kept (h':=hp) (t':=tk) keep
  refine⟨.int ns.sum,H,I',⟨t',?_⟩,q⟩
  rw[hl,mZ ns _ (Nat.le_refl _),List.take_length]
 have val:∀{its:List Value},Vals (ns.map V.int) its->∀i v,its.toArray[i]?=some v->∃t:Tok,v=Value.int (ns.getD i 0) t:=fun{its} rv i v e=>by
  obtain⟨x,hx,rxv⟩:=rv.get' (show its[i]?=some v by simpa using e)
  rw[List.getElem?_map] at hx
  cases en:ns[i]? with
  | none=>rw[en] at hx;cases hx
  | some z=>
   rw[en] at hx
   cases hx
   obtain⟨t,e⟩:=rxv
   exact⟨t,by rw[List.getD_eq_getElem?_getD,en];exact e⟩
 rcases hq with hq | hq
 ·obtain⟨its,rv,pl,hz⟩:=I.list hq
  have plt:p<s.heap.objs.size:=by obtain⟨o,e,_⟩:=pl.isList;exact Heap.lt_size e
  have hne:p≠s.heap.objs.size:=Nat.ne_of_lt plt
  refine call_sum_walkAnyS (wpAny_pyIter_list pl.isList ?_)
  refine⟨s.heap.objs.size,_,_,_,its.toArray.size,_,_,fun i=>ns.getD i 0,rfl,(Walks.list (prog:=X.prog) (w:=X.w) hh s.heap.objs.size p hne its.toArray).toS,⟨⟨_,Heap.get?_push_size _ rfl,rfl,rfl⟩,?_⟩,fun b hb=>?_,val rv,fun s' t' mv=>fin rv s' mv t'⟩
  ·exact pl.isList.at fun o e=>Heap.get?_push_of_some _ e
  ·simp at hb
   rcases hb with rfl | rfl
   ·exact Heap.lt_size (Heap.get?_push_size _ rfl)
   ·exact Nat.lt_trans plt (Heap.lt_size (Heap.get?_push_size _ rfl))
 ·obtain⟨its,rv,pl,hz⟩:=I.tuple hq
  have pt:s.heap.IsTuple p its.toArray:=pl
  have hne:p≠s.heap.objs.size:=Nat.ne_of_lt pl.lt
  refine call_sum_walkAnyS (wpAny_pyIter_tuple pt ?_)
  refine⟨s.heap.objs.size,_,_,_,its.toArray.size,_,_,fun i=>ns.getD i 0,rfl,(Walks.tuple (prog:=X.prog) (w:=X.w) hh s.heap.objs.size p hne its.toArray).toS,⟨⟨_,Heap.get?_push_size _ rfl,rfl,rfl⟩,?_⟩,fun b hb=>?_,val rv,fun s' t' mv=>fin rv s' mv t'⟩
  ·exact pt.at fun o e=>Heap.get?_push_of_some _ e
  ·simp at hb
   rcases hb with rfl | rfl
   ·exact Heap.lt_size (Heap.get?_push_size _ rfl)
   ·exact Nat.lt_trans pl.lt (Heap.lt_size (Heap.get?_push_size _ rfl))
noncomputable def wU:List D->Hh->R D:=fun ds h=>match ds with
 | [d]=>match iW d h with
  | some xs=>match intsOf xs with
   | some ns=>.ok (.int ns.sum) h
   | none=>.bad
  | none=>.bad
 | _=>.bad
theorem GL:tj K g ε wU (fun vs H Q=>∃(p:Addr) (ns:List Int),vs=[.ref p]/\(SqL K H p (ns.map V.int)\/SqT K H p (ns.map V.int))/\Q (.int ns.sum) H):=by
 intro α H h a x Q r ra w
 obtain⟨d,v,rfl,rfl,rd⟩:=uM (f:=wU) (fun _ _ _ _=>rfl) (fun _=>rfl) ra w
 unfold wU at w
 simp only at w
 cases e:iW d h with
 | none=>rw[e] at w;exact w.elim
 | some ds=>
  rw[e] at w
  simp only at w
  cases e2:intsOf ds with
  | none=>rw[e2] at w;exact w.elim
  | some ns=>
   rw[e2] at w
   obtain⟨p,vs,rfl,hq,rs⟩:=tJ r rd e
   have e3:=gC e2
   subst e3
   have e4:=rs.yu
   subst e4
   exact⟨p,ns,rfl,hq,aJ.now w r (.int _)⟩
noncomputable def vK:D->D->Hh->R D
 | .int i,.int j,h=>.ok (.int (i+j)) h
 | _,_,_=>.bad
theorem Gu:eJ K g ε vK (ipI fun i j=>i+j):=by
 intro α H h a b x y Q r ra rb w
 unfold vK at w
 cases ra with
 | int i=>
  cases rb with
  | int j=>exact⟨i,j,rfl,rfl,aJ.now w r (.int _)⟩
  | _=>exact w.elim
 | _=>exact w.elim
end
section
variable {P:Program} {w:World} {K:PySem.W.Frag} {mg:Str->Option Value} {base:Heap} {g:GG}
noncomputable def aM (K:PySem.W.Frag) (mg:Str->Option Value) (x:Str) (st:Stmt):Prop:=∃f fd,mg x=some (.ref f)/\Fun K x x st f fd
noncomputable def bQ (K:PySem.W.Frag) (x:Str) (st:Stmt):Prop:=∃f fd,PySem.W.nsIn K mainGlobals x=some (some (.ref f))/\Fun K x x st f fd
theorem bj {x:Str} {st:Stmt} {f:Addr} {oc:Value} {od an:Option Addr} {osl:Array (Option Value)} {kV doc pm cdv ct:Value} (a:PySem.W.nsIn K mainGlobals x=some (some (.ref f)))
  (l:K.lookup f=some ⟨oc,od,.func (PySem.W.fnOf x x (dU st) (bu st) (ai st) .none kV doc pm an cdv ct),osl⟩) (c:PySem.W.codeIn K cdv x=true) (k:PySem.W.keepIn K (.ref f)=true):bQ K x st:=⟨f,_,a,xx l c k⟩
theorem aM.of {h:Heap} {x:Str} {st:Stmt} (X:K.In h) (G:h.Ns mainGlobals mg) (d:bQ K x st):aM K mg x st:=
 let ⟨f,fd,a,F⟩:=d;⟨f,fd,PySem.W.mg_of X G a,F⟩
noncomputable def Has (P:Program) (w:World) (K:PySem.W.Frag) (mg:Str->Option Value) (base:Heap) (g:GG) (x:Str) (k:Nat) (ps:List Str) (m:MF):Prop:=
 ∃f fd,cQ P w K mg base CX0 k f fd ps (spM K g ps.length m)/\PySem.W.keepIn K (.ref f)=true/\Binds K fd ps []/\mg x=some (.ref f)/\∃(oc:Value) (od:Option Addr) (osl:Array (Option Value)),K.lookup f=some ⟨oc,od,.func fd,osl⟩
noncomputable def gOf (mg:Str->Option Value):GG:=fun x=>match mg x with
 | some (.ref f)=>some f
 | _=>none
theorem bh {x:Str} {st:Stmt} {f:Addr} {fd:FuncData} (F:Fun K x x st f fd):∃(oc:Value) (od:Option Addr) (osl:Array (Option Value)),K.lookup f=some ⟨oc,od,.func fd,osl⟩:=by
 obtain⟨oc,od,kV,doc,pm,an,cdv,ct,osl,rfl,lk,hcd⟩:=F.ex
 exact⟨oc,od,osl,lk⟩
theorem Hb {x:Str} {st:Stmt} {f:Addr} {fd:FuncData} {k:Nat} {ps:List Str} {m:MF} (F:Fun K x x st f fd) (hm:mg x=some (.ref f)) (h:Has P w K mg base g x k ps m):cQ P w K mg base CX0 k f fd ps (spM K g ps.length m):=by
 obtain⟨f2,fd2,G,_,_,hm2,oc,od,osl,l2⟩:=h
 obtain⟨oc',od',osl',l1⟩:=bh F
 rw[hm] at hm2
 cases hm2
 rw[l1] at l2
 cases l2
 exact G
end
section
variable {X:Cx} {g:GG} {ε:EE}
noncomputable def A5 (i j:Nat) (m:ME):MS:=fun env h=>(m env h).bind fun d h1=>(gT2 i j d env h1).bind fun e h2=>.ok (.nx e) h2
theorem Jp {i j:Nat} {x y:Str} {e:Expr} {me:ME} {px py pt pos:Pos} {kt} (hc:X.calm=true) (hN:X.N.Nodup) (hi:X.N[i]?=some x) (hj:X.N[j]?=some y) (he:PE X e (tM X.K g ε me))
  (hx:Loc X.env.scope x:=by first | exact Or.inl rfl | exact Or.inr rfl) (hy:Loc X.env.scope y:=by first | exact Or.inl rfl | exact Or.inr rfl)
  (fx:X.fn x=true\/X.env.scope.names.lookup x=some .local:=by first | exact .inl rfl | exact .inr rfl) (fy:X.fn y=true\/X.env.scope.names.lookup y=some .local:=by first | exact .inl rfl | exact .inr rfl)
  (hs:swapsWithSole [.Tuple [.Name x px,.Name y py] kt pt] e pos.line X.env=pure false:=by rfl) (hw:swappedStores [.Tuple [.Name x px,.Name y py] kt pt] e X.env=pure none:=by rfl) :
  PS X (.Assign [.Tuple [.Name x px,.Name y py] kt pt] e pos) (tMS X.K g ε (A5 i j me)):=
 PS.imp (wI he (pI hc (cX (bC hN hi hx fx) (cX (bC hN hj hy fy) lE))) hs hw rfl) fun E σ H ⟨α,env,h,s,w⟩=>tM.use s w.bind fun d1 h1 v1 H1 α1 e1 s1 r1 w1=>by
  refine t5 (ε:=ε) α1 H1 h1 env σ d1 v1 _ s1 r1 ((w1.ext e1).bind.mono fun e' h2 _ w2 σ2 H2 α2 e2 s2=>?_)
  exact(show cG X.K g α H E (.nx e') h2 from w2) H2 α2 (e1.trans e2) s2.heap σ2 s2.vs
theorem GZ {i j:Nat} {x y:Str} {a b:Expr} {ma:MA} {px py pt pos:Pos} {kt k2 pt2} (hc:X.calm=true) (hN:X.N.Nodup) (hi:X.N[i]?=some x) (hj:X.N[j]?=some y) (hij:i≠j) (ha:PA X [a,b] (tMA X.K g ε ma))
  (hx:X.env.scope.names.lookup x=some .local:=by rfl) (hy:X.env.scope.names.lookup y=some .local:=by rfl)
  (hw:swappedStores [.Tuple [.Name x px,.Name y py] kt pt] (.Tuple [a,b] k2 pt2) X.env=pure (some [x,y]):=by rfl)
  (hs:swapsWithSole [.Tuple [.Name x px,.Name y py] kt pt] (.Tuple [a,b] k2 pt2) pos.line X.env=pure false:=by rfl) :
  PS X (.Assign [.Tuple [.Name x px,.Name y py] kt pt] (.Tuple [a,b] k2 pt2) pos) (tMS X.K g ε (zM i j ma)):=JE hc hN hi hj hij hx hy ha hw hs
end
section
variable {X:Cx} {K:PySem.W.Frag} {g:GG} {ε:EE}
noncomputable def BZ:D->D->Hh->R D:=fun a b h=>match a with
 | .ref n=>dIx (.ref n) b h
 | _=>.bad
noncomputable def uj (o i v:ME):MS:=fun env h=>(o env h).bind fun x h1=>(i env h1).bind fun y h2=>(BZ x y h2).bind fun z h3=>(v env h3).bind fun u h4=>(vK z u h4).bind fun t h5=>(iE x y t h5).bind fun _ h6=>.ok (.nx env) h6
theorem ER:IK X (fun x y H Q=>Hg X.K x y H Q):=by
 intro pins s σ H o i ov iv Q I ro ri h
 obtain⟨p,xs,k,z,rfl,rfl,hq,he,q⟩:=h
 cases ro
 obtain⟨t,rfl⟩:=ri
 obtain⟨its,r,pl,hz⟩:=I.list hq
 obtain⟨j,h1,h2,h3,h4,h5⟩:=n8 he
 obtain⟨w,ew,rw'⟩:=r.get h2
 have hl:=r.length
 have hn:=jb
 have fin:EP X pins σ Q w s:=⟨z,H,I,rw',q⟩
 by_cases h0:0<=k
 ·have hj:k.toNat=j:=by
   rw[seqIndex_of h0 h5] at h1
   exact Option.some.inj h1
  exact wpAny_getItem_list pl.isList h0 (by omega) (by rw[hj];simpa using ew) fin
 ·have hj:(k+(its.toArray.size:Int)).toNat=j:=by
   rw[seqIndex_neg (by omega) h4] at h1
   rw[List.size_toArray,<- hl]
   exact Option.some.inj h1
  exact wpAny_getItem_list_neg pl.isList (by omega) (by rw[List.size_toArray]<;>omega) (by omega) (by rw[hj];simpa using ew) fin
theorem EK {o i e:Expr} {mo mi me:ME} {tpos pos:Pos} (ho:PE X o (tM X.K g ε mo)) (hi:PE X i (tM X.K g ε mi)) (he:PE X e (tM X.K g ε me))
  (ha:∀ov iv new,augStore i ov iv new=(do holding [new,ov,iv] (setItem ov iv new);release [new,ov,iv] [];pure .next):=by intros;rfl):PS X (.AugAssign (.Subscript o i tpos) .Add e pos) (tMS X.K g ε (uj mo mi me)):=
 PS.imp (EN ho hi ER he Hk set_list ha) fun E σ H ⟨α,env,h,s,w⟩=>tM.use s w.bind fun d1 h1 v1 H1 α1 e1 s1 r1 w1=>tM.use s1 (w1.ext e1).bind fun d2 h2 v2 H2 α2 e2 s2 r2 w2=>by
  have w3:=(w2.ext e2).bind
  have r1':=r1.ext e2
  unfold BZ at w3
  cases r1' with
  | @ref n p hp=>
   simp only[dIx] at w3
   cases eq:iW (.ref n) h2 with
   | none=>simp only[eq] at w3;exact w3.elim
   | some ds=>
    simp only[eq] at w3
    cases r2 with
    | int k=>
     cases ea:atI ds k with
     | none=>simp only[ea] at w3;exact w3.elim
     | some z=>
      simp only[ea] at w3
      have w4:WQ X.K g ε α2 H2 ((me env h2).bind _) _:=w3
      have eq':ax h2 n=some ds:=eq
      obtain⟨vs',hv',rs'⟩:=s2.heap.lst eq' hp
      obtain⟨v',ev',rv'⟩:=yo rs' ea
      refine⟨p,vs',k,v',rfl,rfl,SqL.of hv',ev',tM.use s2 w4.bind fun d3 h3 v3 H3 α3 e3 s3 r3 w5=>?_⟩
      refine Gu (K:=X.K) (g:=g) (ε:=ε) α3 H3 h3 z d3 v' v3 _ s3.heap (rv'.ext e3) r3 ((w5.ext e3).bind.mono fun t h4 _ w6 v4 H4 α4 e4 hr4 r4=>?_)
      refine qe (K:=X.K) (g:=g) (ε:=ε) α4 H4 h4 (.ref n) (.int k) t (.ref p) (.int k) v4 _ hr4 (.ref ((e3.trans e4).get hp)) (.int k) r4 (((w6.ext e4)).bind.mono fun _ h5 _ w7 H5 α5 e5 hr5=>?_)
      exact(show cG X.K g α H E (.nx env) h5 from w7) H5 α5 (e1.trans (e2.trans (e3.trans (e4.trans e5)))) hr5 _ (s3.vs.ext (e4.trans e5))
    | _=>exact w3.elim
  | _=>exact w3.elim
end
mutual
noncomputable def g8 (k:Nat):D->Bool
 | .ref n=>decide (n<k)
 | .tup ds=>bD k ds
 | .frl ds=>bD k ds
 | .scr ds=>bD k ds
 | .clo _ ds=>bD k ds
 | _=>true
noncomputable def bD (k:Nat):List D->Bool
 | []=>true
 | d::ds=>g8 k d&&bD k ds
end
noncomputable def jS (k:Nat):O->Bool
 | .lst ds=>bD k ds
 | .set _=>true
 | .dic kvs=>bD k (kvs.map (·.2))
 | .dit kvs=>bD k (kvs.map (·.2))
noncomputable def kh (f:D->Option D):List D->Option (List D)
 | []=>some []
 | d::ds=>match f d,kh f ds with
  | some e,some es=>some (e::es)
  | _,_=>none
noncomputable def eV (k:Nat) (h:Hh):Nat->D->Option D
 | 0,_=>none
 | f+1,d=>match d with
  | .ref n=>if n<k then some (.ref n) else match ax h n with
   | some ds=>(kh (eV k h f) ds).map .frl
   | none=>none
  | .tup ds=>(kh (eV k h f) ds).map .tup
  | .frl ds=>(kh (eV k h f) ds).map .frl
  | .scr _=>none
  | .clo f ds=>if bD 0 ds=true then some (.clo f ds) else none
  | d=>some d
noncomputable def bU (h:Hh):D->Hh->R D:=fun d h'=>if (h'.take h.length).all (jS h.length)=true then match eV h.length h' 8 d with
 | some e=>.ok e (h'.take h.length)
 | none=>.bad else .bad
noncomputable def hZ (h:Hh):D->Hh->R D:=fun d h'=>if (h'.take h.length).all (jS h.length)=true then match d with
 | .ref n=>if h.length<=n then match ax h' n with
  | some ds=>match kh (eV h.length (h'.set n (.set [])) 8) ds with
   | some es=>.ok (.ref h.length) (h'.take h.length++[.lst es])
   | none=>.bad
  | none=>.bad else .bad
 | _=>.bad else .bad
open Classical in
noncomputable def gy (S:Addr->Prop) (o:Addr->Obj) (H:Hp):Hp:=fun p=>if S p then (H p).map (.frz (o p)) else H p
theorem GQ {P:Program} {w:World} {H:Hp} {h:Heap} {p:Addr} {u:HO} (q:bI P w H h p u) (mu:Mut (some u)):∃o,h.get? p=some o:=by
 cases u with
 | lst xs=>obtain⟨_,_,_,_,e'⟩:=q;exact⟨_,e'⟩
 | dK kvs=>obtain⟨_,_,_,_,o,_,_,e',_⟩:=q;exact⟨_,e'⟩
 | dT kvs=>obtain⟨_,_,_,_,o,_,_,e',_⟩:=q;exact⟨_,e'⟩
 | set S n=>obtain⟨o,_,_,_,e',_⟩:=q;exact⟨_,e'⟩
 | ins C dx fs=>obtain⟨_,_,_,e',_⟩:=q;exact⟨_,e'⟩
 | ext φ=>obtain⟨_,⟨_,e'⟩,_⟩:=q;exact⟨_,e'⟩
 | _=>exact absurd mu (fun z=>z)
theorem Bz {outer:List Env} {P:Program} {w:World} {H:Hp} {s:Shared} {Q Q':VK} {u:Value} {s':Shared} (h:CE outer P w H s Q' u s')
  (hQ:∀v H',Q' v H'->∃S:Addr->Prop,(∀p,S p->∃u,H' p=some u/\Mut (some u))/\∀o:Addr->Obj,Q v (gy S o H')):CE outer P w H s Q u s':=by
 obtain⟨v,H',os,bare,un,hok,r,q⟩:=h
 obtain⟨S,hS,q⟩:=hQ v H' q
 have hS1:∀p,S p->∀u,H' p=some u->Mut (some u):=fun p z u e=>by obtain⟨u',e',m⟩:=hS p z;rw[e] at e';cases e';exact m
 have off:∀(o:Addr->Obj) b u,H' b=some u->¬ Mut (some u)->gy S o H' b=some u:=fun o b u e m=>by
  unfold gy
  rw[if_neg fun z=>m (hS1 b z u e)];exact e
 have offn:∀(o:Addr->Obj) b,H' b=none->gy S o H' b=none:=fun o b e=>by
  unfold gy
  split
  ·rw[e];rfl
  ·exact e
 let o:Addr->Obj:=fun b=>(s'.heap.get? b).getD { cls:=.none,data:=.fields #[] }
 refine⟨v,gy S o H',os,bare,⟨un.keep,un.slot,fun b ob e n hx=>offn o b (un.free b ob e n hx),un.there,fun b xs e=>off o b _ (un.ku b xs e) fun z=>z,fun b ob xs e=>off o b _ (un.jT b ob xs e) fun z=>z,fun b ps e=>?_⟩,?_,r,q o⟩
 ·obtain⟨more,e1⟩:=un.kB b ps e
  exact⟨more,off o b _ e1 fun z=>z⟩
 ·intro b u e
  have st:∀u,bI P w H' s'.heap b u->bI P w (gy S o H') s'.heap b u:=fun u x=>x.jU (fun _ _ _ z=>z) (fun c z=>off o c _ z fun z=>z) fun c xs z=>off o c _ z fun z=>z
  unfold gy at e
  split at e
  ·rename_i hb
   obtain⟨u',e',m⟩:=hS b hb
   rw[e'] at e
   cases e
   have x:=hok b u' e'
   obtain⟨ob,eo⟩:=GQ x m
   refine⟨?_,st _ x⟩
   show s'.heap.get? b=some ((s'.heap.get? b).getD _)
   rw[eo];rfl
  ·exact st u (hok b u e)
section
variable {K:PySem.W.Frag} {g:GG} {α α':List Addr} {H H' H2:Hp} {k:Nat}
structure pQ (K:PySem.W.Frag) (α α':List Addr) (H' H2:Hp) (k:Nat):Prop where
 pre:∀n,n<k->α[n]?=α'[n]?
 tup:∀p xs,H' p=some (.tup xs)->H2 p=some (.tup xs)
 frz:∀p (o:Obj) (u:HO),H' p=some (.frz o u)->H2 p=some (.frz o u)
mutual
theorem n5 (L:pQ K α α' H' H2 k):∀{d:D} {v:V},g8 k d=true->aI K g α' H' d v->aI K g α H2 d v
 | _,_,_,.non=>.non
 | _,_,_,.bl b=>.bl b
 | _,_,_,.int i=>.int i
 | _,_,_,.str x=>.str x
 | _,_,hl,.ref h=>.ref (by rw[L.pre _ (by simpa [g8] using hl)];exact h)
 | _,_,hl,.tup h r=>.tup (L.tup _ _ h) (fh L (by simpa [g8] using hl) r)
 | _,_,hl,.frl h r=>.frl (let ⟨o,h⟩:=h;⟨o,L.frz _ _ _ h⟩) (fh L (by simpa [g8] using hl) r)
 | _,_,hl,.scr h r=>.scr (h.elim (fun⟨o,h⟩=>.inl ⟨o,L.frz _ _ _ h⟩) .inr) (fh L (by simpa [g8] using hl) r)
 | _,_,_,.fn h=>.fn h
 | _,_,_,.edic h=>.edic (L.frz _ _ _ h)
 | _,_,_,.exc hg h hc hd hf=>.exc hg (L.frz _ _ _ h) hc hd (hf.elim .inl fun⟨dx,od,a,b⟩=>.inr ⟨dx,od,a,L.frz _ _ _ b⟩)
 | _,_,hl,.clo h l hc hd hv cs r=>.clo (L.frz _ _ _ h) l (L.frz _ _ _ hc) hd hv (L2.Paired.qS cs fun _ _ ⟨c,o,u,l,a,b⟩=>⟨c,o,u,l,L.frz _ _ _ a,b⟩) (fh L (by simpa [g8] using hl) r)
theorem fh (L:pQ K α α' H' H2 k):∀{ds:List D} {vs:List V},bD k ds=true->ay K g α' H' ds vs->ay K g α H2 ds vs
 | _,_,_,.nil=>.nil
 | _,_,hl,.cons r t=>by
  simp only[bD,Bool.and_eq_true] at hl
  exact .cons (n5 L hl.1 r) (fh L hl.2 t)
end
theorem jo {f:D->Option D} (hf:∀d e v,f d=some e->aI K g α' H' d v->aI K g α H2 e v):∀{ds es:List D} {vs:List V},kh f ds=some es->ay K g α' H' ds vs->ay K g α H2 es vs
 | [],es,_,e,.nil=>by cases e;exact .nil
 | d::ds,es,_,e,.cons r t=>by
  unfold kh at e
  split at e
  ·rename_i e1 es1 h1 h2
   cases e
   exact .cons (hf _ _ _ h1 r) (jo hf h2 t)
  ·cases e
theorem kX {h' hx:Hh} (L:pQ K α α' H' H2 k) (r:aS K g α' H' h') (hx':∀n ds,ax hx n=some ds->ax h' n=some ds) (fz:∀n p ds vs,k<=n->ax hx n=some ds->α'[n]?=some p->H' p=some (.lst vs)->Fr1 H2 p vs) :
  ∀(f:Nat) (d e:D) (v:V),eV k hx f d=some e->aI K g α' H' d v->aI K g α H2 e v
 | 0,_,_,_,e,_=>by cases e
 | f+1,d,e,v,he,rd=>by
  unfold eV at he
  cases rd with
  | non=>cases he;exact .non
  | bl b=>cases he;exact .bl b
  | int i=>cases he;exact .int i
  | str x=>cases he;exact .str x
  | fn h=>cases he;exact .fn h
  | edic h=>cases he;exact .edic (L.frz _ _ _ h)
  | exc hg h hc hd hf=>cases he;exact .exc hg (L.frz _ _ _ h) hc hd (hf.elim .inl fun⟨dx,od,a,b⟩=>.inr ⟨dx,od,a,L.frz _ _ _ b⟩)
  | scr _ _=>cases he
  | clo h l hc hd hv cs rs=>
   simp only at he
   split at he
   ·rename_i lo
    cases he
    exact .clo (L.frz _ _ _ h) l (L.frz _ _ _ hc) hd hv (L2.Paired.qS cs fun _ _ ⟨c,o,u,l,a,b⟩=>⟨c,o,u,l,L.frz _ _ _ a,b⟩) (fh (k:=0) ⟨fun n hn=>absurd hn (Nat.not_lt_zero _),L.tup,L.frz⟩ lo rs)
   ·cases he
  | tup h rs=>
   simp only at he
   cases e1:kh (eV k hx f) _ with
   | none=>rw[e1] at he;cases he
   | some es=>rw[e1] at he;cases he;exact .tup (L.tup _ _ h) (jo (fun d e v=>kX L r hx' fz f d e v) e1 rs)
  | frl h rs=>
   simp only at he
   cases e1:kh (eV k hx f) _ with
   | none=>rw[e1] at he;cases he
   | some es=>rw[e1] at he;cases he;exact .frl (let ⟨o,h⟩:=h;⟨o,L.frz _ _ _ h⟩) (jo (fun d e v=>kX L r hx' fz f d e v) e1 rs)
  | @ref n p hp=>
   simp only at he
   split at he
   ·rename_i hn
    cases he
    exact .ref (by rw[L.pre n hn];exact hp)
   ·rename_i hn
    cases el:ax hx n with
    | none=>rw[el] at he;cases he
    | some ds=>
     rw[el] at he
     simp only at he
     cases e1:kh (eV k hx f) ds with
     | none=>rw[e1] at he;cases he
     | some es=>
      rw[e1] at he;cases he
      obtain⟨vs,hv,rs⟩:=r.lst (hx' n ds el) hp
      exact .frl (fz n p ds vs (by omega) el hp hv) (jo (fun d e v=>kX L r hx' fz f d e v) e1 rs)
end
theorem pV {β:Type} {l:List β} {k n:Nat} {x:β} (e:(l.take k)[n]?=some x):n<k/\l[n]?=some x:=by
 rw[List.getElem?_take] at e
 split at e
 ·exact⟨by assumption,e⟩
 ·cases e
theorem ip {α α':List Addr} (h:α <+: α') {n:Nat} (hn:n<α.length):α[n]?=α'[n]?:=by
 obtain⟨t,rfl⟩:=h
 rw[List.getElem?_append_left hn]
theorem Fc {β:Type} {l:List β} {f:β->Bool} (h:l.all f=true) {n:Nat} {x:β} (e:l[n]?=some x):f x=true:=List.all_eq_true.mp h x (List.mem_of_getElem? e)
theorem qf {K:PySem.W.Frag} {g:GG} {α α' α2:List Addr} {H H' H2:Hp} {h h':Hh} (r0:α.length=h.length) (e:Ext K α H α' H') (r:aS K g α' H' h') (hl:(h'.take h.length).all (jS h.length)=true)
  (L:pQ K α2 α' H' H2 h.length) (kp:∀n p u,n<h.length->α'[n]?=some p->H' p=some u->H2 p=some u):∀(n:Nat) (p:Addr) (o:O),n<h.length->α'[n]?=some p->(h'.take h.length)[n]?=some o->OAt K g α2 H2 p o:=by
 intro n p o hn hp ho
 have lo:=Fc hl ho
 obtain⟨_,ho'⟩:=pV ho
 have q:=r.here n p o hp ho'
 cases o with
 | lst ds=>obtain⟨vs,a,b⟩:=q;exact⟨vs,kp n p _ hn hp a,fh L lo b⟩
 | set m=>exact kp n p _ hn hp q
 | dic kvs=>
  obtain⟨kws,a,b⟩:=q
  refine⟨kws,kp n p _ hn hp a,?_⟩
  replace lo:bD h.length (kvs.map (·.2))=true:=lo
  clear a ho ho'
  induction b with
  | nil=>exact .nil
  | cons x t ih=>
   simp only[List.map_cons,bD,Bool.and_eq_true] at lo
   exact .cons ⟨x.1,n5 L lo.1 x.2⟩ (ih lo.2)
 | dit kvs=>
  obtain⟨kws,a,b⟩:=q
  refine⟨kws,kp n p _ hn hp a,?_⟩
  replace lo:bD h.length (kvs.map (·.2))=true:=lo
  clear a ho ho'
  induction b with
  | nil=>exact .nil
  | cons x t ih=>
   simp only[List.map_cons,bD,Bool.and_eq_true] at lo
   exact .cons ⟨x.1,n5 L lo.1 x.2⟩ (ih lo.2)
section
variable {P:Program} {w:World} {K:PySem.W.Frag} {mg:Str->Option Value} {base:Heap} {g:GG} {k np:Nat} {f:Addr} {fd:FuncData} {ps:List Str} {m:MF}
theorem gH {CX:CXT} {ε:XK->EE} (F:cQ P w K mg base CX k f fd ps (spG K g ε np m)):cQ P w K mg base CX k f fd ps (spG K g ε np fun ds h=>(m ds h).bind (bU h)):=by
 refine⟨fun vs H Q E h=>?_,fun A outer s H args us vs Q E hr e0 hb hv hsp=>?_⟩
 ·obtain⟨hl,α,ds,h,rs,hh,w⟩:=h
  exact F.len vs H (fun _ _=>True) E ⟨hl,α,ds,h,rs,hh,w.bind.mono fun _ _ _ _ _ _ _ _ _ _=>trivial⟩
 ·obtain⟨hl,α,ds,h,rs,hh,w⟩:=hsp
  refine codeAny_mono (F.run A outer s H args us vs (fun v H'=>∃α' d h',Ext K α H α' H'/\aS K g α' H' h'/\aI K g α' H' d v/\WQ K g (ε E) α H (bU h d h') (aJ K g α H Q)) E hr e0 hb hv ⟨hl,α,ds,h,rs,hh,w.bind.mono fun d h' _ w1 v H' α' e r rd=>⟨α',d,h',e,r,rd,w1⟩⟩) fun res s' q=>?_
  cases res with
  | error e=>exact q
  | ok fl=>
   cases fl with
   | ret u=>
    refine Bz (show CE outer P _ H s _ u s' from q) fun v H' ⟨α',d,h',e,r,rd,w⟩=>?_
    refine⟨fun p=>∃n ds,h.length<=n/\α'[n]?=some p/\ax h' n=some ds,fun p ⟨n,ds,_,hp,hn⟩=>?_,fun o=>?_⟩
    ·obtain⟨vs,hv,_⟩:=r.lst hn hp
     exact⟨_,hv,trivial⟩
    ·unfold bU at w
     obtain⟨hl,w⟩:=WQ.dD w
     cases ez:eV h.length h' 8 d with
     | none=>rw[ez] at w;exact w.elim
     | some e'=>
      rw[ez] at w
      generalize hS:(fun p=>∃n ds,h.length<=n/\α'[n]?=some p/\ax h' n=some ds)=S
      have inS:∀p,S p↔∃n ds,h.length<=n/\α'[n]?=some p/\ax h' n=some ds:=fun p=>by rw[<- hS]
      have k0:α.length=h.length:=hh.len
      have notS:∀p u,H' p=some u->(∀vs,u≠.lst vs)->¬ S p:=fun p u e1 e2 z=>by
       obtain⟨n,ds,_,hp,hn⟩:=(inS p).mp z
       obtain⟨vs,hv,_⟩:=r.lst hn hp
       rw[e1] at hv;cases hv;exact e2 vs rfl
      have off:∀p,¬ S p->gy S o H' p=H' p:=fun p z=>by unfold gy;rw[if_neg z]
      have offT:∀(p:Addr) (ps:Array Value),H' p=some (.tbl ps)->gy S o H' p=some (.tbl ps):=fun p ps z=>by rw[off p (notS p _ z fun vs z=>nomatch z)];exact z
      have L:pQ K α α' H' (gy S o H') h.length:=⟨fun n hn=>ip e.pre (by omega),fun p xs z=>by rw[off p (notS p _ z fun vs z=>nomatch z)];exact z,fun p o u z=>by rw[off p (notS p _ z fun vs z=>nomatch z)];exact z⟩
      have kp:∀n p u,n<h.length->α'[n]?=some p->H' p=some u->gy S o H' p=some u:=fun n p u hn hp e1=>by
       rw[off p fun z=>?_];exact e1
       obtain⟨m,ds,hm,hp',_⟩:=(inS p).mp z
       have:=r.inj n m p hp hp'
       omega
      have rd2:aI K g α (gy S o H') e' v:=kX L r (fun _ _ z=>z) (fun n p ds vs hn hl hp hv=>⟨o p,by unfold gy;rw[if_pos ((inS p).mpr ⟨n,ds,hn,hp,hl⟩),hv];rfl⟩) 8 d e' v ez rd
      refine(show aJ K g α H Q e' (h'.take h.length) from w) v _ α ⟨⟨List.prefix_refl _,fun p xs z=>L.tup p xs (e.tup p xs z),fun p o u z=>L.frz p o u (e.frz p o u z),fun p ps z=>(e.tbl p ps z).imp fun _ q=>offT p _ q⟩,fun p u z n nt=>?_,fun _ z n=>absurd z n⟩ ⟨?_,fun n m p h1 h2=>hh.inj n m p h1 h2,fun n p ob h1 h2=>?_,r.tab.mono offT L.frz⟩ rd2
      ·rw[off p fun z'=>?_];exact e.kept p u z n nt
       obtain⟨m,ds,_,hp',_⟩:=(inS p).mp z'
       have:=e.new p (List.mem_of_getElem? hp') n
       rw[z] at this;cases this
      ·rw[List.length_take,<- r.len,k0]
       have:=e.pre.length_le
       omega
      ·have hn:n<h.length:=(pV h2).1
       rw[ip e.pre (by omega)] at h1
       exact qf k0 e r hl L kp n p ob hn h1 h2
   | next=>exact q
   | brk=>exact q
   | cont=>exact q
theorem qj {CX:CXT} {ε:XK->EE} (F:cQ P w K mg base CX k f fd ps (spG K g ε np m)):cQ P w K mg base CX k f fd ps (spG K g ε np fun ds h=>(m ds h).bind (hZ h)):=by
 refine⟨fun vs H Q E h=>?_,fun A outer s H args us vs Q E hr e0 hb hv hsp=>?_⟩
 ·obtain⟨hl,α,ds,h,rs,hh,w⟩:=h
  exact F.len vs H (fun _ _=>True) E ⟨hl,α,ds,h,rs,hh,w.bind.mono fun _ _ _ _ _ _ _ _ _ _=>trivial⟩
 ·obtain⟨hl,α,ds,h,rs,hh,w⟩:=hsp
  refine codeAny_mono (F.run A outer s H args us vs (fun v H'=>∃α' d h',Ext K α H α' H'/\aS K g α' H' h'/\aI K g α' H' d v/\WQ K g (ε E) α H (hZ h d h') (aJ K g α H Q)) E hr e0 hb hv ⟨hl,α,ds,h,rs,hh,w.bind.mono fun d h' _ w1 v H' α' e r rd=>⟨α',d,h',e,r,rd,w1⟩⟩) fun res s' q=>?_
  cases res with
  | error e=>exact q
  | ok fl=>
   cases fl with
   | ret u=>
    refine Bz (show CE outer P _ H s _ u s' from q) fun v H' ⟨α',d,h',e,r,rd,w⟩=>?_
    unfold hZ at w
    obtain⟨hl,w⟩:=WQ.dD w
    cases rd with
    | @ref n0 p0 hp0=>
     obtain⟨hk,w⟩:=WQ.dD w
     cases el:ax h' n0 with
     | none=>rw[el] at w;exact w.elim
     | some ds=>
      rw[el] at w
      simp only at w
      cases ez:kh (eV h.length (h'.set n0 (.set [])) 8) ds with
      | none=>rw[ez] at w;exact w.elim
      | some es=>
       rw[ez] at w
       have hx:∀n ds,ax (h'.set n0 (.set [])) n=some ds->n≠n0/\ax h' n=some ds:=fun n ds z=>by
        by_cases hn:n=n0
        ·subst hn
         unfold ax at z
         rw[List.getElem?_set] at z
         rw[if_pos rfl] at z
         split at z
         ·rename_i q;split at q<;>cases q
         ·cases z
        ·unfold ax at z ⊢
         rw[List.getElem?_set_ne (Ne.symm hn)] at z
         exact⟨hn,z⟩
       refine⟨fun p=>∃n ds,h.length<=n/\n≠n0/\α'[n]?=some p/\ax h' n=some ds,fun p ⟨n,ds,_,_,hp,hn⟩=>?_,fun o=>?_⟩
       ·obtain⟨vs,hv,_⟩:=r.lst hn hp
        exact⟨_,hv,trivial⟩
       ·generalize hS:(fun p=>∃n ds,h.length<=n/\n≠n0/\α'[n]?=some p/\ax h' n=some ds)=S
        have inS:∀p,S p↔∃n ds,h.length<=n/\n≠n0/\α'[n]?=some p/\ax h' n=some ds:=fun p=>by rw[<- hS]
        have k0:α.length=h.length:=hh.len
        have notS:∀p u,H' p=some u->(∀vs,u≠.lst vs)->¬ S p:=fun p u e1 e2 z=>by
         obtain⟨n,ds,_,_,hp,hn⟩:=(inS p).mp z
         obtain⟨vs,hv,_⟩:=r.lst hn hp
         rw[e1] at hv;cases hv;exact e2 vs rfl
        have off:∀p,¬ S p->gy S o H' p=H' p:=fun p z=>by unfold gy;rw[if_neg z]
        have offT:∀(p:Addr) (ps:Array Value),H' p=some (.tbl ps)->gy S o H' p=some (.tbl ps):=fun p ps z=>by rw[off p (notS p _ z fun vs z=>nomatch z)];exact z
        have L:pQ K (α++[p0]) α' H' (gy S o H') h.length:=⟨fun n hn=>by rw[List.getElem?_append_left (by omega)];exact ip e.pre (by omega),fun p xs z=>by rw[off p (notS p _ z fun vs z=>nomatch z)];exact z,fun p o u z=>by rw[off p (notS p _ z fun vs z=>nomatch z)];exact z⟩
        have kp:∀n p u,n<h.length->α'[n]?=some p->H' p=some u->gy S o H' p=some u:=fun n p u hn hp e1=>by
         rw[off p fun z=>?_];exact e1
         obtain⟨m,ds,hm,_,hp',_⟩:=(inS p).mp z
         have:=r.inj n m p hp hp'
         omega
        obtain⟨vs0,hv0,rs0⟩:=r.lst el hp0
        have p0S:¬ S p0:=fun z=>by
         obtain⟨m,ds,hm,hne,hp',_⟩:=(inS p0).mp z
         exact hne (r.inj m n0 p0 hp' hp0)
        have p0α:p0∉α:=fun z=>by
         obtain⟨m,hm,em⟩:=List.getElem_of_mem z
         have h1:α'[m]?=some p0:=by rw[<- ip e.pre hm,List.getElem?_eq_getElem hm,em]
         have:=r.inj m n0 p0 h1 hp0
         omega
        have rs2:ay K g (α++[p0]) (gy S o H') es vs0:=jo (fun d e v=>kX L r (fun n ds z=>(hx n ds z).2) (fun n p ds vs hn hl hp hv=>⟨o p,by unfold gy;rw[if_pos ((inS p).mpr ⟨n,ds,hn,(hx n ds hl).1,hp,(hx n ds hl).2⟩),hv];rfl⟩) 8 d e v) ez rs0
        have tl:(h'.take h.length).length=h.length:=by
         rw[List.length_take,<- r.len]
         have:=e.pre.length_le
         omega
        refine(show aJ K g α H Q (.ref h.length) (h'.take h.length++[.lst es]) from w) _ _ (α++[p0]) ⟨⟨List.prefix_append _ _,fun p xs z=>L.tup p xs (e.tup p xs z),fun p o u z=>L.frz p o u (e.frz p o u z),fun p ps z=>(e.tbl p ps z).imp fun _ q=>offT p _ q⟩,fun p u z n nt=>?_,fun p z n=>?_⟩ ⟨?_,fun n m p h1 h2=>?_,fun n p ob h1 h2=>?_,r.tab.mono offT L.frz⟩ (.ref ?_)
        ·rw[off p fun z'=>?_];exact e.kept p u z n nt
         obtain⟨m,ds,_,_,hp',_⟩:=(inS p).mp z'
         have:=e.new p (List.mem_of_getElem? hp') n
         rw[z] at this;cases this
        ·rcases List.mem_append.mp z with z | z
         ·exact absurd z n
         ·rw[List.mem_singleton.mp z]
          exact e.new p0 (List.mem_of_getElem? hp0) p0α
        ·rw[List.length_append,List.length_append,tl,k0];rfl
        ·have key:∀i,(α++[p0])[i]?=some p->(i<α.length/\α[i]?=some p)\/(i=α.length/\p=p0):=fun i hi=>by
          by_cases hl:i<α.length
          ·rw[List.getElem?_append_left hl] at hi;exact .inl ⟨hl,hi⟩
          ·rw[List.getElem?_append_right (by omega)] at hi
           by_cases h0:i - α.length=0
           ·rw[h0] at hi;simp at hi;exact .inr ⟨by omega,hi.symm⟩
           ·rw[List.getElem?_eq_none (by simp;omega)] at hi;cases hi
         rcases key n h1 with⟨a1,a2⟩ | ⟨a1,a2⟩<;>rcases key m h2 with⟨b1,b2⟩ | ⟨b1,b2⟩
         ·exact hh.inj n m p a2 b2
         ·rw[b2] at a2;exact absurd (List.mem_of_getElem? a2) p0α
         ·rw[a2] at b2;exact absurd (List.mem_of_getElem? b2) p0α
         ·omega
        ·by_cases hn:n<h.length
         ·rw[List.getElem?_append_left (by omega),ip e.pre (by omega)] at h1
          rw[List.getElem?_append_left (by omega)] at h2
          exact qf k0 e r hl L kp n p ob hn h1 h2
         ·rw[List.getElem?_append_right (by omega)] at h2
          rw[List.getElem?_append_right (by omega)] at h1
          by_cases h0:n - h.length=0
          ·rw[tl,h0] at h2
           rw[k0,h0] at h1
           simp at h1 h2
           subst h1 h2
           exact⟨vs0,by rw[off _ p0S];exact hv0,rs2⟩
          ·rw[k0,List.getElem?_eq_none (by simp;omega)] at h1;cases h1
        ·rw[<- k0,List.getElem?_append_right (Nat.le_refl _)];simp
    | _=>exact w.elim
   | next=>exact q
   | brk=>exact q
   | cont=>exact q
end
section
variable {X:Cx} {g:GG} {ε:EE}
noncomputable def gT3 (i j k:Nat):D->En->Hh->R En:=fun d env h=>match d with
 | .tup [x,y,z]=>.ok (((env.set i (some x)).set j (some y)).set k (some z)) h
 | _=>.bad
theorem BN {K:PySem.W.Frag} {g:GG} {ε:EE} {i j k:Nat}:E9 K g ε (gT3 i j k) (Hw K 3 (r8 (fj i) (r8 (fj j) (r8 (fj k) F6)))):=fun α H h env σ d x Q s r w=>by
 unfold gT3 at w
 cases r with
 | tup hq rs=>
  cases rs with
  | nil=>exact w.elim
  | cons ra rr=>
   cases rr with
   | nil=>exact w.elim
   | cons rb rr=>
    cases rr with
    | nil=>exact w.elim
    | cons rc rr=>
     cases rr with
     | nil=>exact⟨_,_,rfl,SqT.of hq,rfl,_,_,rfl,_,_,rfl,_,_,rfl,rfl,w _ H α Ext.refl ⟨s.heap,((s.vs.set ra).set rb).set rc⟩⟩
     | cons _ _=>exact w.elim
 | _=>exact w.elim
noncomputable def Bm (i j k:Nat) (m:ME):MS:=fun env h=>(m env h).bind fun d h1=>(gT3 i j k d env h1).bind fun e h2=>.ok (.nx e) h2
theorem Ja {i j k:Nat} {x y z:Str} {e:Expr} {me:ME} {px py pz pt pos:Pos} {kt} (hc:X.calm=true) (hN:X.N.Nodup) (hi:X.N[i]?=some x) (hj:X.N[j]?=some y) (hk:X.N[k]?=some z) (he:PE X e (tM X.K g ε me))
  (hx:Loc X.env.scope x:=by first | exact Or.inl rfl | exact Or.inr rfl) (hy:Loc X.env.scope y:=by first | exact Or.inl rfl | exact Or.inr rfl) (hz:Loc X.env.scope z:=by first | exact Or.inl rfl | exact Or.inr rfl)
  (fx:X.fn x=true\/X.env.scope.names.lookup x=some .local:=by first | exact .inl rfl | exact .inr rfl) (fy:X.fn y=true\/X.env.scope.names.lookup y=some .local:=by first | exact .inl rfl | exact .inr rfl) (fz:X.fn z=true\/X.env.scope.names.lookup z=some .local:=by first | exact .inl rfl | exact .inr rfl)
  (hs:swapsWithSole [.Tuple [.Name x px,.Name y py,.Name z pz] kt pt] e pos.line X.env=pure false:=by rfl) (hw:swappedStores [.Tuple [.Name x px,.Name y py,.Name z pz] kt pt] e X.env=pure none:=by rfl) :
  PS X (.Assign [.Tuple [.Name x px,.Name y py,.Name z pz] kt pt] e pos) (tMS X.K g ε (Bm i j k me)):=
 PS.imp (wI he (pI hc (cX (bC hN hi hx fx) (cX (bC hN hj hy fy) (cX (bC hN hk hz fz) lE)))) hs hw rfl) fun E σ H ⟨α,env,h,s,w⟩=>tM.use s w.bind fun d1 h1 v1 H1 α1 e1 s1 r1 w1=>by
  refine BN (ε:=ε) α1 H1 h1 env σ d1 v1 _ s1 r1 ((w1.ext e1).bind.mono fun e' h2 _ w2 σ2 H2 α2 e2 s2=>?_)
  exact(show cG X.K g α H E (.nx e') h2 from w2) H2 α2 (e1.trans e2) s2.heap σ2 s2.vs
end
section
variable {X:Cx} {g:GG} {ε:EE} {K:PySem.W.Frag}
noncomputable def mP:List D->Option (List Bool)
 | []=>some []
 | .bl b::r=>(mP r).map (b::·)
 | _=>none
theorem kC:∀{ds:List D} {bs:List Bool},mP ds=some bs->ds=bs.map D.bl
 | [],_,e=>by cases e;rfl
 | d::ds,bs,e=>by
  cases d with
  | bl b=>
   simp only[mP] at e
   cases e2:mP ds with
   | none=>rw[e2] at e;cases e
   | some cs=>
    rw[e2] at e
    cases e
    rw[kC e2];rfl
  | _=>cases e
theorem ay.FV {α:List Addr} {H:Hp}:∀{bs:List Bool} {vs:List V},ay K g α H (bs.map D.bl) vs->vs=bs.map V.bl
 | [],_,.nil=>rfl
 | b::bs,_,.cons r t=>by
  cases r
  rw[ay.FV t];rfl
noncomputable def AB (m:MF):MF:=fun ds h=>if bD 0 ds=true then match m ds [] with
  | .ok d _=>if g8 0 d=true then .ok d h else .bad
  | _=>.bad
 else m ds h
theorem yr {α α':List Addr} {H H':Hp} (e:Ext K [] H α' H'):Ext K α H α H':=
 ⟨⟨List.prefix_refl _,e.tup,e.frz,e.tbl⟩,fun p o h _ t=>e.kept p o h (by simp) t,fun p a b=>absurd a b⟩
theorem B6 {α α':List Addr} {H H':Hp} {h:Hh} (e:Ext K [] H α' H') (r:aS K g α H h) (t:jj K H'):aS K g α H' h:=
 ⟨r.len,r.inj,fun n p o a b=>(r.here n p o a b).ex0 (yr (α:=α) e).toEx0 fun u hu=>e.kept p u hu (by simp) (by obtain⟨u',e1,_,_,e4⟩:=(r.here n p o a b).isS;rw[hu] at e1;cases e1;exact e4),t⟩
theorem CV {np:Nat} {m:MF} {vs:List V} {H:Hp} {Q:VK} {E} (h:spM K g np (AB m) vs H Q E):spM K g np m vs H Q E:=by
 obtain⟨hl,α,ds,h,rs,hh,w⟩:=h
 unfold AB at w
 by_cases lo:bD 0 ds=true
 ·rw[if_pos lo] at w
  cases e:m ds [] with
  | bad=>rw[e] at w;exact w.elim
  | err x h1=>rw[e] at w;exact w.elim
  | ok d h1=>
   rw[e] at w
   simp only at w
   obtain⟨ld,w⟩:=WQ.dD w
   refine⟨hl,[],ds,[],fh ⟨fun n hn=>absurd hn (Nat.not_lt_zero _),fun _ _ z=>z,fun _ _ _ z=>z⟩ lo rs,⟨rfl,fun n m p a=>by simp at a,fun n p o a=>by simp at a,hh.tab⟩,?_⟩
   rw[e]
   exact fun v H' α' ex hr' rd=>(show aJ K g α H Q d h from w) v H' α (yr ex) (B6 ex hh hr'.tab) (n5 ⟨fun n hn=>absurd hn (Nat.not_lt_zero _),fun _ _ z=>z,fun _ _ _ z=>z⟩ ld rd)
 ·rw[if_neg lo] at w
  exact⟨hl,α,ds,h,rs,hh,w⟩
theorem GK {P:Program} {w:World} {mg:Str->Option Value} {base:Heap} {k np:Nat} {f:Addr} {fd:FuncData} {ps:List Str} {m:MF} (F:cQ P w K mg base CX0 k f fd ps (spM K g np m)):cQ P w K mg base CX0 k f fd ps (spM K g np (AB m)):=
 ⟨fun vs H Q E h=>F.len vs H Q E (CV h),fun A outer s H args us vs Q E hr e0 hb hv hsp=>F.run A outer s H args us vs Q E hr e0 hb hv (CV hsp)⟩
end
section
variable {X:Cx} {g:GG} {ε:EE} {K:PySem.W.Frag}
theorem GW {mg:Str->Option Value} {x:Str} {f:Addr} (e:g=gOf mg) (h:mg x=some (.ref f)):g x=some f:=by rw[e];simp[gOf,h]
end
theorem ke {P:Program} {w:World} {H:Hp} {h:Heap} {p:Addr} {o:Obj} (ok:HOk P w H h) (e:H p=some (AtO p o)):h.get? p=some o:=(show bI P w H h p (AtO p o) from ok p _ e).1
theorem dI {a:Str} {b:Pos} {rest:List Expr} {env:Env}:starEach (.Name a b::rest) env=(false,eval (.Name a b) env)::starEach rest env:=by rfl
theorem hJ {pos:Pos} {t:Sem Value} {r:List (Bool × Sem Value)}:backTo pos ((false,t)::r)=(false,t)::backTo pos r:=rfl
theorem mR {env:Env} {pos:Pos} {x:Str} {p2:Pos}:∀qs:List (Str × Pos),(backTo pos (starEach (qs.map (fun y=>Expr.Name y.1 y.2)++[.Name x p2]) env)).any (·.1)=false
 | []=>by rw[List.map_nil,List.nil_append,dI,hJ];rfl
 | q::qs=>by
  rw[List.map_cons,List.cons_append,dI,hJ,List.any_cons,mR qs];rfl
section
variable {P:Program} {w:World} {K:PySem.W.Frag} {mg:Str->Option Value} {base:Heap} {H:Hp} {clos:List (Str × Addr)} {scope:Scope} {env:Env} {A:Around} {E:Value->Shared->Prop} {s:Shared} {m:Str->Option Value}
theorem rN {x:Str} {p2 pos:Pos} {u:Value} (hs:env.scope.kind=.function) (hcl:env.cells=clos) (hok:HOk P w H s.heap) (hx:env.kindOf x=some .local) (hxd:(x == ("__debug__" : Str))=false) (hn:s.heap.Ns env.locals m) (hm:m x=some u) :
  ∀(qs:List (Str × Pos)) (vs:List V) (Q:List Value->Shared->Prop),kT H clos (qs.map (·.1)) vs->(∀y∈qs.map (·.1),env.kindOf y=some .free/\(y == ("__debug__" : Str))=false/\(y == ("__classdict__" : Str))=false) →
   (∀us,Vals vs us->Q (us++[u]) s)->wpAny (model P w) A (spliced (backTo pos (starEach (qs.map (fun y=>Expr.Name y.1 y.2)++[.Name x p2]) env))) Q E s
 | [],_,Q,.nil,_,h=>by
  rw[List.map_nil,List.nil_append,dI,hJ]
  exact Calls.spliced_cons (wpAny_Name (wpAny_loadName_local hs hx hn hm (Calls.spliced_nil (h [] .nil))) hxd)
 | q::qs,_,Q,.cons ⟨c,o,z,hl,hc,hd,r⟩ t,hf,h=>by
  rw[List.map_cons,List.cons_append,dI,hJ]
  obtain⟨f1,f2,f3⟩:=hf q.1 (by simp)
  refine Calls.spliced_cons (wpAny_Name (wpAny_loadName_free (v:=z) hs f1 (by rw[hcl];exact hl) ⟨o,ke hok hc,hd⟩ ?_ f3) f2)
  exact rN hs hcl hok hx hxd hn hm qs _ _ t (fun y hy=>hf y (by simp only[List.map_cons,List.mem_cons];exact .inr hy)) fun us r2=>h (z::us) (.cons r r2)
end
theorem E5 {P:Program} {w:World} {K:PySem.W.Frag} {mg:Str->Option Value} {base:Heap} {k:Nat} {f:Addr} {fd:FuncData} {ps:List Str} {sp:Sp} {fn x qual:Str} {ys:List Str} {params:Arguments} {body:Expr} {scope:Scope}
  (F:cQ P w K mg base CX0 k f fd ps sp) (hkp:PySem.W.keepIn K (.ref f)=true) (hb:Binds K fd ps []) (hm:mg fn=some (.ref f)) (T:ym fn x qual ys params body scope)
  {A:Around} {outer:List Env} {s:Shared} {H:Hp} {u:Value} {v:V} {Q:VK} {E E1:XK} {p c':Addr} {clos:List (Str × Addr)} {pm ctv:Value} {oc:Obj} {vc:Array Value} {t:Tok} {cv:List V} (hr:cB (k+1) A) (e0:vm P w K mg base A outer s H)
  (hp:H p=some (AtO p (PySem.W.kla_obj "<lambda>" qual params body scope clos pm c' ctv))) (hc:H c'=some (AtO c' oc)) (hd:oc.data=.fields vc) (hv:vc[1]?=some (.str qual t)) (cs:kT H clos ys cv) (rv:RelV v u)
  (h:sp (cv++[v]) H Q E1):codeAny (model P w) A (.call (.ref p) ⟨[u],[]⟩) (CR CX0 outer P w H s Q E) s:=by
 refine PySem.W.kla_callFunE hr.depth (ke e0.hok hp) rfl T.co T.gen rfl ⟨c',oc,vc,t,rfl,ke e0.hok hc,hd,hv⟩ ?_
 rw[T.bind]
 refine wpAny_pure (wpAny_newFunctionEnv T.GY (by intro y hy;simp at hy;subst hy;exact T.loc) (fun h₁ hns hsb=>?_) T.kind)
 have keep1:∀b o,s.heap.get? b=some o->h₁.get? b=some o:=fun b o e=>hsb.extBut b o (Nat.ne_of_lt (Heap.lt_size e)) (Heap.get?_push_of_some _ e)
 refine⟨(e0.mod.nolimit.keeps fun b o e=>(e0.bs b o e).1).keeps keep1,?_⟩
 show codeAny _ _ (.expr body (PySem.W.envX qual scope s.heap.objs.size p (.ref c') clos)) _ _
 refine PySem.W.kla_codeExpr ?_
 obtain⟨p0,p2,p3,qs,rfl,rfl⟩:=T.tx
 have KX:K.In h₁:=(e0.mod.kin.keeps fun b o e=>(e0.bs b o e).1).keeps keep1
 have hok1:HOk P w H h₁:=e0.hok.kept keep1
 refine wpAny_Call_Name_kw (Calls.Name_function_global T.kind T.glob (Calls.loadGlobal_global ((e0.mod.glob.keeps fun b o e=>(e0.bs b o e).1).keeps keep1) hm ?_) T.nd.1)
 have hL:frs (PySem.W.envX qual scope s.heap.objs.size p (.ref c') clos::outer)=s.heap.objs.size::frs outer:=rfl
 have sz:s.heap.objs.size<=h₁.objs.size:=by
  by_cases z:s.heap.objs.size=0
  ·rw[z];exact Nat.zero_le _
  ·exact Nat.le_of_lt hns.lt
 have e1:vm P w K mg base (A.deeper (PySem.W.envX qual scope s.heap.objs.size p (.ref c') clos)) (PySem.W.envX qual scope s.heap.objs.size p (.ref c') clos::outer) { s with heap:=h₁,toks:=s.toks+1 } H:=
  ⟨Around.frames_deeper e0.frames,e0.mod,fun b o e=>⟨keep1 b o (e0.bs b o e).1,(e0.bs b o e).2⟩,Nat.le_trans e0.bsz sz,
   Heap.FunFrames.cons (by show scope.kind≠_;rw[T.kind];decide) rfl hns (Heap.get?_none_of_le e0.bsz) (Heap.FunFrames.of_keeps (fun b o e _=>⟨o,keep1 b o e,rfl⟩) e0.i5),
   fun b hb'=>by
    rw[hL] at hb'
    rcases List.mem_cons.mp hb' with z | z
    ·rw[z];exact e0.hok.fresh (Nat.le_refl _)
    ·exact e0.frf b z,hok1,e0.bare⟩
 have fin:∀us:List Value,Vals cv us->wpAny (model P w) (A.deeper (PySem.W.envX qual scope s.heap.objs.size p (.ref c') clos)) (call (.ref f) ([]++(us++[u]))) (fun z s'=>CR CX0 outer P w H s Q E (.ok (.ret z)) s')
   (fun e' s'=>wpAny (model P w) (A.deeper (PySem.W.envX qual scope s.heap.objs.size p (.ref c') clos)) (leaving (PySem.W.envX qual scope s.heap.objs.size p (.ref c') clos) e') (fun _ s''=>CR CX0 outer P w H s Q E (.error e') s'') (fun e'' s''=>CR CX0 outer P w H s Q E (.error e'') s'') s') { s with heap:=h₁,toks:=s.toks+1 }:=fun us r2=>by
  have rr:Vals (cv++[v]) (us++[u]):=r2.append (.cons rv .nil)
  have hl:(us++[u]).length=ps.length:=by rw[<- rr.length];exact F.len _ _ _ _ h
  have hb2:=hb { s with heap:=h₁,toks:=s.toks+1 } (us++[u]) KX (by rw[List.append_nil];exact hl)
  rw[List.append_nil] at hb2
  refine wpAny_call (codeAny_mono (F.run _ _ _ H ⟨us++[u],[]⟩ (us++[u]) (cv++[v]) Q E1 (hr.deeper _) e1 hb2 rr h) fun r s' hq=>?_)
  cases r with
  | error e=>exact False.elim hq
  | ok fl=>
   cases fl with
   | ret z=>
    obtain⟨y,H',os,bare,un,hok,r,q⟩:=(show CE _ P w H _ Q z s' from hq)
    have old:∀{b:Addr} {o:Obj},s.heap.get? b=some o->b∉frs outer->b∉frs (PySem.W.envX qual scope s.heap.objs.size p (.ref c') clos::outer):=fun{b o} e n z=>by
     rw[hL] at z
     rcases List.mem_cons.mp z with z | z
     ·exact absurd (Heap.lt_size e) (by rw[z];exact Nat.lt_irrefl _)
     ·exact n z
    exact⟨y,H',os,bare,⟨fun b o e n hb' hx=>un.keep b o (keep1 b o e) n (old e hb') hx,fun b o e n hb' hx=>un.slot b o (keep1 b o e) n (by rw[hL];exact List.mem_cons_of_mem _ hb') hx,fun b o e n hx=>un.free b o (keep1 b o e) n hx,fun b o e hx=>un.there b o (keep1 b o e) hx,un.ku,un.jT,un.kB⟩,hok,r,q⟩
   | next=>exact False.elim hq
   | brk=>exact False.elim hq
   | cont=>exact False.elim hq
 have main:=rN (P:=P) (w:=w) (H:=H) (clos:=clos) (env:=PySem.W.envX qual scope s.heap.objs.size p (.ref c') clos) (A:=A.deeper (PySem.W.envX qual scope s.heap.objs.size p (.ref c') clos)) (s:={ s with heap:=h₁,toks:=s.toks+1 }) (x:=x) (p2:=p2) (pos:=p3) (u:=u)
  (E:=fun e' s'=>wpAny (model P w) (A.deeper (PySem.W.envX qual scope s.heap.objs.size p (.ref c') clos)) (leaving (PySem.W.envX qual scope s.heap.objs.size p (.ref c') clos) e') (fun _ s''=>CR CX0 outer P w H s Q E (.error e') s'') (fun e'' s''=>CR CX0 outer P w H s Q E (.error e'') s'') s')
  T.kind rfl hok1 T.loc T.nd.2 hns (by simp) qs cv (fun us s2=>K.In s2.heap/\wpAny (model P w) (A.deeper (PySem.W.envX qual scope s.heap.objs.size p (.ref c') clos)) (call (.ref f) ([]++us)) (fun z s'=>CR CX0 outer P w H s Q E (.ok (.ret z)) s')
   (fun e' s'=>wpAny (model P w) (A.deeper (PySem.W.envX qual scope s.heap.objs.size p (.ref c') clos)) (leaving (PySem.W.envX qual scope s.heap.objs.size p (.ref c') clos) e') (fun _ s''=>CR CX0 outer P w H s Q E (.error e') s'') (fun e'' s''=>CR CX0 outer P w H s Q E (.error e'') s'') s') s2) cs T.free fun us r2=>⟨KX,fin us r2⟩
 cases qs with
 | nil=>exact PySem.W.callWith_K (h₀:=h₁) KX hkp main dI rfl
 | cons q qs=>exact PySem.W.callWith_K (h₀:=h₁) KX hkp main dI (mR qs)
noncomputable def p8 (tab:Str->Option (Nat × MF)) (f:ME) (a:MA):ME:=fun env h=>(f env h).bind fun d h1=>match d with
 | .clo x ds=>match tab x with
  | some (np,m)=>if ds.length+1=np then (a env h1).bind fun es h2=>m (ds++es) h2 else .bad
  | none=>.bad
 | _=>.bad
theorem CZ {X:Cx} {g:GG} {k:Nat} {tab:Str->Option (Nat × MF)} {fe e:Expr} {pos:Pos} {mf:ME} {mr:MA}
  (T:∀x np m,tab x=some (np,m)->∃f fd ps,X.mg x=some (.ref f)/\cQ X.prog X.w X.K X.mg X.base CX0 k f fd ps (spM X.K g np m)/\PySem.W.keepIn X.K (.ref f)=true/\Binds X.K fd ps [])
  (hr:cB (k+1) X.A) (hf:PE X fe (tM X.K g E00 mf)) (ha:PA X [e] (tMA X.K g E00 mr)) (hlen:∀env h ds h',mr env h=.ok ds h'->ds.length=1)
  (hc:eval (.Call fe [e] [] pos) X.env=(do callWith pos (← eval fe X.env) [] (backTo pos (starEach [e] X.env)) (backToKw pos (keywordEach [] X.env))):=by rfl)
  (he:starEach [e] X.env=(false,eval e X.env)::starEach [] X.env:=by rfl) :
  PE X (.Call fe [e] [] pos) (tM X.K g E00 (p8 tab mf mr)):=by
 intro pins s σ H Q I ⟨α,env,h,s0,w⟩
 refine Call_ (thn (hf pins s σ H (fun v H1=>∃α1 h1 p o clos ys cv c' oc qual t vc x ds np m,v=.ref p/\H1 p=some (AtO p o)/\Fh x clos ys o c' qual/\H1 c'=some (AtO c' oc)/\oc.data=.fields vc/\vc[1]?=some (.str qual t)/\kT H1 clos ys cv/\ay X.K g α1 H1 ds cv ∧
   tab x=some (np,m)/\ds.length+1=np/\dz X.K g α1 H1 env σ h1/\WQ X.K g E00 α1 H1 ((mr env h1).bind fun es h2=>m (ds++es) h2) (aJ X.K g α1 H1 Q)) I ?_) fun v s1 ⟨x,H1,I1,r1,q1⟩=>?_) hc
 ·refine tM.use s0 w.bind fun d1 h1 v1 H1 α1 e1 s1 r1 w1=>?_
  cases r1 with
  | @clo x ds p o clos ys vs c' oc qual t vc hp hl hc' hd hv cs rs=>
   simp only at w1
   cases et:tab x with
   | none=>rw[et] at w1;exact w1.elim
   | some q=>
    obtain⟨np,m⟩:=q
    rw[et] at w1
    obtain⟨hn,w1⟩:=WQ.dD w1
    exact⟨α1,h1,p,o,clos,ys,vs,c',oc,qual,t,vc,x,ds,np,m,rfl,hp,hl,hc',hd,hv,cs,rs,et,hn,s1,WQ.post e1 w1⟩
  | _=>exact w1.elim
 ·obtain⟨α1,h1,p,o,clos,ys,cv,c',oc,qual,t,vc,x,ds,np,m,rfl,hp,⟨params,body,scope,pm,ctv,xa,rfl,tx⟩,hc',hd,hv,cs,rs,et,hn,s2,w2⟩:=q1
  cases r1
  obtain⟨f,fd,ps,hm,F,hk,hb⟩:=T x np m et
  have fn:∀{h:Heap},h.get? p=some (PySem.W.kla_obj "<lambda>" qual params body scope clos pm c' ctv)->PySem.W.FnAt p h:=fun e=>⟨_,_,_,_,e⟩
  refine PySem.W.callWith_F (fn (ke I1.hok hp)) (thn (ha pos pins s1 σ H1 (fun vs H2=>∃v,vs=[v]/\H2 p=some (AtO p (PySem.W.kla_obj "<lambda>" qual params body scope clos pm c' ctv))/\H2 c'=some (AtO c' oc)/\kT H2 clos ys cv/\spM X.K g np m (cv++[v]) H2 Q E0) I1 ?_) fun us s3 ⟨vs,H2,I2,r,v,ev,hp2,hc2,cs2,q⟩=>⟨fn (ke I2.hok hp2),?_⟩) he rfl
  ·refine⟨α1,env,h1,s2,w2.bind.mono fun es h3 eq w3 v3 H3 α3 e3 hr3 r3=>?_⟩
   have l1:=hlen env h1 es h3 eq
   obtain⟨d,rfl⟩:∃d,es=[d]:=List.length_eq_one_iff.mp l1
   cases r3 with
   | @cons _ v _ _ rd rn=>
    cases rn
    refine⟨v,rfl,e3.frz _ _ _ hp,e3.frz _ _ _ hc',L2.Paired.qS cs fun _ _ ⟨c,o,u,l,a,b⟩=>⟨c,o,u,l,e3.frz _ _ _ a,b⟩,?_,α3,ds++[d],h3,(rs.ext e3).append (.cons rd .nil),hr3,w3.post e3⟩
    rw[List.length_append,<- rs.length];exact hn
  ·subst ev
   cases r with
   | @cons _ u _ _ ru rn=>
    cases rn
    refine wpAny_call (codeAny_mono (E5 F hk hb hm tx (E:=E0) hr I2.HN hp2 hc2 hd hv cs2 ru q) fun r s' hq=>?_)
    cases r with
    | error e=>exact False.elim hq
    | ok fl=>
     cases fl with
     | ret u=>exact I2.after hq
     | next=>exact False.elim hq
     | brk=>exact False.elim hq
     | cont=>exact False.elim hq
open Classical in
noncomputable def mkH (S:Addr->Prop) (h2:Heap) (PT:Addr) (T:Array Value) (H1:Hp):Hp:=fun b=>if S b then (h2.get? b).map (AtO b) else if b=PT then some (.tbl T) else H1 b
structure MkS (P:Program) (w:World) (S:Addr->Prop) (h1 h2:Heap) (PT:Addr) (ps more:Array Value) (H1:Hp):Prop where
 hok:HOk P w H1 h1
 hPT:H1 PT=some (.tbl ps)
 k:∀b o,b≠PT->h1.get? b=some o->h2.get? b=some o
 hT:h2.get? PT=some (PySem.W.tabObj (ps++more))
 hS:∀b,S b->b≠PT/\(∃o,h2.get? b=some o)/\(H1 b=none\/∃o,H1 b=some (AtO b o))
section
variable {P:Program} {w:World} {S:Addr->Prop} {h0 h1 h2:Heap} {PT:Addr} {ps more:Array Value} {H H1:Hp} {K:PySem.W.Frag} {g:GG} {α:List Addr} {h:Hh} {fs:List Addr}
theorem MkS.at_ (M:MkS P w S h1 h2 PT ps more H1) {b:Addr} (hb:S b) {o:Obj} (e:h2.get? b=some o):mkH S h2 PT (ps++more) H1 b=some (AtO b o):=by
 unfold mkH;rw[if_pos hb,e];rfl
theorem MkS.pt (M:MkS P w S h1 h2 PT ps more H1):mkH S h2 PT (ps++more) H1 PT=some (.tbl (ps++more)):=by
 unfold mkH;rw[if_neg fun z=>(M.hS PT z).1 rfl,if_pos rfl]
theorem MkS.off (M:MkS P w S h1 h2 PT ps more H1) {b:Addr} {o:HO} (e:H1 b=some o) (n:b≠PT):mkH S h2 PT (ps++more) H1 b=some o:=by
 by_cases hb:S b
 ·obtain⟨_,⟨o2,e2⟩,z | ⟨o1,z⟩⟩:=M.hS b hb
  ·rw[e] at z;cases z
  ·rw[e] at z;cases z
   have e1:=M.k b o1 n (ke M.hok e)
   exact M.at_ hb e1
 ·unfold mkH;rw[if_neg hb,if_neg n];exact e
theorem MkS.non (M:MkS P w S h1 h2 PT ps more H1) {b:Addr} (e:H1 b=none) (n:¬ S b):mkH S h2 PT (ps++more) H1 b=none:=by
 unfold mkH;rw[if_neg n,if_neg (aK M.hPT e).symm];exact e
theorem MkS.Lb (M:MkS P w S h1 h2 PT ps more H1):HOk P w (mkH S h2 PT (ps++more) H1) h2:=by
 intro b u e
 by_cases hb:S b
 ·obtain⟨_,⟨o2,e2⟩,_⟩:=M.hS b hb
  rw[M.at_ hb e2] at e
  cases e
  exact⟨e2,e2,⟨o2,e2⟩,fun a c x y=>y _ x⟩
 ·by_cases hp:b=PT
  ·subst hp
   rw[M.pt] at e
   cases e
   exact M.hT
  ·have e1:H1 b=some u:=by unfold mkH at e;rw[if_neg hb,if_neg hp] at e;exact e
   refine(M.hok b u e1).jU (fun c x hc hx=>M.k c x ?_ hx) (fun c z=>M.off z fun q=>?_) fun c xs z=>M.off z fun q=>?_
   ·rcases hc with rfl | hc
    ·exact hp
    ·rintro rfl;rw[M.hPT] at hc;cases hc
   ·subst q;rw[M.hPT] at z;cases z
   ·subst q;rw[M.hPT] at z;cases z
theorem MkS.un (M:MkS P w S h1 h2 PT ps more H1) (u:Un fs [] H H1 h0 h1) (hn:∀b,S b->h0.objs.size<=b\/H1 b≠none):Un fs [] H (mkH S h2 PT (ps++more) H1) h0 h2:=by
 have nt:∀b o,h0.get? b=some o->H b=none->b≠PT:=fun b o e n=>(aK M.hPT (u.free b o e n (by simp))).symm
 refine⟨fun b o e n hf hx=>M.k b o (nt b o e n) (u.keep b o e n hf hx),fun b o e n hf hx=>?_,fun b o e n hx=>?_,fun b o e hx=>?_,fun b xs e=>M.off (u.ku b xs e) fun z=>?_,fun b o x e=>M.off (u.jT b o x e) fun z=>?_,fun b qs e=>?_⟩
 ·obtain⟨sl,e1⟩:=u.slot b o e n hf hx
  exact⟨sl,M.k b _ (nt b o e n) e1⟩
 ·have z:=u.free b o e n hx
  refine M.non z fun hb=>?_
  rcases hn b hb with q | q
  ·exact absurd (Heap.lt_size e) (Nat.not_lt.mpr q)
  ·exact q z
 ·obtain⟨o1,e1⟩:=u.there b o e hx
  by_cases z:b=PT
  ·exact⟨_,z ▸ M.hT⟩
  ·exact⟨o1,M.k b o1 z e1⟩
 ·have:=u.ku b xs e;rw[z,M.hPT] at this;cases this
 ·have:=u.jT b o x e;rw[z,M.hPT] at this;cases this
 ·obtain⟨m1,e1⟩:=u.kB b qs e
  by_cases z:b=PT
  ·subst z
   rw[M.hPT] at e1
   cases e1
   exact⟨m1++more,by rw[M.pt,Array.append_assoc]⟩
  ·exact⟨m1,M.off e1 z⟩
theorem MkS.ext (M:MkS P w S h1 h2 PT ps more H1):Ext K α H1 α (mkH S h2 PT (ps++more) H1):=
 ⟨⟨List.prefix_refl _,fun p xs e=>M.off e (fun z=>by rw[z,M.hPT] at e;cases e),fun p o x e=>M.off e (fun z=>by rw[z,M.hPT] at e;cases e),fun p qs e=>by
  by_cases z:p=PT
  ·subst z
   rw[M.hPT] at e;cases e
   exact⟨more,M.pt⟩
  ·exact⟨#[],by rw[M.off e z];simp⟩⟩,fun p o e _ t=>M.off e (fun z=>by rw[z,M.hPT] at e;cases e;exact t _ rfl),fun _ z n=>absurd z n⟩
theorem MkS.Kc (M:MkS P w S h1 h2 PT ps more H1) (r:aS K g α H1 h) {ns:Pos × Str} (uq:∀f q,k_ K f=some q->q.1=PT->q.2=ns) (t:vp (mkH S h2 PT (ps++more) H1) (PT,ns)):aS K g α (mkH S h2 PT (ps++more) H1) h:=by
 refine⟨r.len,r.inj,fun n p o a b=>(r.here n p o a b).ex0 M.ext.toEx0 fun x e=>M.off e fun z=>?_,fun f q e=>?_⟩
 ·obtain⟨u,e1,_,_,nt⟩:=r.mem (List.mem_of_getElem? a)
  rw[z,M.hPT] at e1;cases e1;exact nt _ rfl
 ·by_cases z:q.1=PT
  ·have:=uq f q e z
   obtain⟨a,b⟩:=q
   cases z;cases this
   exact t
  ·rcases r.tab f q e with x | ⟨c',oc,vc,tk,x,hc,hd⟩
   ·exact .inl (M.off x z)
   ·exact .inr ⟨c',oc,vc,tk,M.off x z,M.off hc (fun y=>by rw[y,M.hPT] at hc;cases hc),hd⟩
end
theorem z_ {h h':Heap} {mg:Str->Option Value} {PT:Addr} (k:∀b o,h.get? b=some o->h'.get? b=some o) (x:h.BuiltinsAt mg PT):h'.BuiltinsAt mg PT:=
 let ⟨bm,o,a,b,c,d,e,r⟩:=x;⟨bm,o,a,b,c,d,k _ _ e,r⟩
theorem uQ {last:Stmt} {env:Env}:∀rows:List Stmt,execs (rows++[last]) env=(execs rows env >>= fun f=>match f with
  | .next=>exec last env
  | f=>pure f)
 | []=>by
  show(exec last env >>= fun f=>match f with | .next=>pure .next | f=>pure f)=_
  rw[show(execs [] env:Sem Flow)=pure .next from rfl,pure_bind]
  refine Eq.trans ?_ (bind_pure _)
  congr 1
  funext f
  cases f<;>rfl
 | r::rows=>by
  show(exec r env >>= fun f=>match f with | .next=>execs (rows++[last]) env | f=>pure f)=((exec r env >>= fun f=>match f with | .next=>execs rows env | f=>pure f) >>= _)
  rw[bind_assoc]
  congr 1
  funext f
  cases f with
  | next=>exact uQ rows
  | ret v=>exact(pure_bind _ _).symm
  | brk=>exact(pure_bind _ _).symm
  | cont=>exact(pure_bind _ _).symm
theorem Ez {CX:CXT} {P:Program} {w:World} {K:PySem.W.Frag} {mg:Str->Option Value} {base:Heap} {k:Nat} {f:Addr} {name qual:Str} {params:Arguments} {body rows:List Stmt} {last:Stmt} {scope:Scope} {dV kV doc pm cdv ct oc:Value} {an od:Option Addr}
  {osl:Array (Option Value)} {N ps:List Str} {sp:Sp} (lk:K.lookup f=some ⟨oc,od,.func (PySem.W.fnOf name qual params body scope dV kV doc pm an cdv ct),osl⟩) (hcd:PySem.W.codeIn K cdv qual=true) (S:aH N ps scope)
  (len:∀vs H Q E,sp vs H Q E->vs.length=ps.length) (hbd:body=rows++[last])
  (hbody:∀(A:Around) (outer:List Env) (s:Shared) (H:Hp) (vs:List V) (Q:VK) (E:XK),cB k (A.deeper (envOfC qual scope s.heap.objs.size f cdv))->sp vs H Q E →
   ∃t R,PSs (dE CX P w K mg base N qual scope f cdv A outer s H E) rows t/\t { nx:=R,rt:=fun _ _=>False } (start N vs) H/\∀σ H1 s1,Inv (dE CX P w K mg base N qual scope f cdv A outer s H E) [] σ H1 s1->R σ H1 →
    wpAny (model P w) (dE CX P w K mg base N qual scope f cdv A outer s H E).A (exec last (envOfC qual scope s.heap.objs.size f cdv)) (fun fl s2=>∃u,fl=.ret u/\CE outer P w H s Q u s2) (dE CX P w K mg base N qual scope f cdv A outer s H E).xe s1) :
  cQ P w K mg base CX (k+1) f (PySem.W.fnOf name qual params body scope dV kV doc pm an cdv ct) ps sp:=by
 subst hbd
 refine⟨len,fun A outer s H args us vs Q E hr e0 hb r hsp=>?_⟩
 have hl:=len _ _ _ _ hsp
 have KX:K.In s.heap:=e0.mod.kin.keeps fun b o e=>(e0.bs b o e).1
 have lim:s.heap.NoLimit:=e0.mod.nolimit.keeps fun b o e=>(e0.bs b o e).1
 have hkind:∀y∈ps.zip us,scope.names.lookup y.1=some .local\/(scope.names.lookup y.1=some .cell/\((cellsFrom (s.heap.objs.size+1) scope.names []).lookup y.1).isSome=true):=fun⟨n,v⟩ hy=>by
  rcases S.par n (List.of_mem_zip hy).1 with q | q
  ·exact .inl q
  ·exact .inr ⟨q,PySem.W.cellsFrom_some _ _ _ (.inl q)⟩
 refine codeAny_call_function hr.depth (KX _ _ lk) rfl S.co S.gen rfl (PySem.W.codeRec_of KX hcd) (hb _ _ _ _ ?_)
 refine wpAny_newFunctionEnv_cells S.kind hkind fun env he s1 x=>?_
 subst he
 refine⟨lim.keeps x.toInCall.keep,codeAny_func ?_⟩
 obtain⟨t,R,ht,hq,hlast⟩:=hbody A outer s H vs Q E (hr.deeper _) hsp
 have I:Inv (dE CX P w K mg base N qual scope f cdv A outer s H E) [] (start N vs) H s1:=mE S hr.hd e0 hl r x
 rw[uQ]
 refine wpAny_mono (wpAny_bind (thn (ht [] s1 (start N vs) H _ I hq) fun fl s' hs=>?_)) (Q:=fun fl s2=>∃u,fl=Flow.ret u/\CE outer P w H s Q u s2) (fun fl s' hs=>?_) fun e s' hs=>hs
 ·cases fl with
  | next=>
   obtain⟨σ',H',J,q⟩:=hs
   exact hlast σ' H' s' J q
  | ret u=>obtain⟨_,_,_,_,_,q⟩:=hs;exact False.elim q
  | brk=>obtain⟨_,_,_,q⟩:=hs;exact False.elim q
  | cont=>obtain⟨_,_,_,q⟩:=hs;exact False.elim q
 ·obtain⟨u,rfl,q⟩:=hs
  exact q
noncomputable def xk:List Nat->En->Option (List D)
 | [],_=>some []
 | i::r,e=>match (e[i]?:Option (Option D)),xk r e with
  | some (some d),some ds=>some (d::ds)
  | _,_=>none
theorem uY {K:PySem.W.Frag} {g:GG} {α:List Addr} {H:Hp} {N:List Str} {σ:St} {e:En} (v:jV K g α H e σ):∀{ix:List Nat} {ys:List Str} {cs:List D},ix.map (fun i=>N[i]?)=ys.map some->xk ix e=some cs →
  ∃vs,Paired (fun y v=>∃i:Nat,N[i]?=some y/\σ[i]?=some (some v)) ys vs/\ay K g α H cs vs
 | [],[],_,_,h=>by cases h;exact⟨[],.nil,.nil⟩
 | [],_::_,_,e,_=>by cases e
 | _::_,[],_,e,_=>by cases e
 | i::ix,y::ys,cs,hi,h=>by
  simp only[List.map_cons,List.cons.injEq] at hi
  unfold xk at h
  split at h
  ·rename_i d ds e1 e2
   cases h
   obtain⟨u,hu,ru⟩:=v.vars i d e1
   obtain⟨vs,p,r⟩:=uY v hi.2 e2
   exact⟨u::vs,.cons ⟨i,hi.1,hu⟩ p,.cons ru r⟩
  ·cases h
noncomputable def mkU (K:PySem.W.Frag):Bool:=(K.filterMap fun p=>k_ K p.1).all fun a=>(K.filterMap fun p=>k_ K p.1).all fun b=>!(Nat.beq a.1 b.1) || decide (a.2=b.2)
theorem BF {K:PySem.W.Frag} {f:Addr} {o:Obj} (h:K.lookup f=some o):∃p∈K,p.1=f:=by
 induction K with
 | nil=>cases h
 | cons q r ih=>
  rw[List.lookup_cons] at h
  split at h
  ·rename_i e;exact⟨q,List.mem_cons_self ..,(beq_iff_eq.mp e).symm⟩
  ·obtain⟨p,a,b⟩:=ih h;exact⟨p,List.mem_cons_of_mem _ a,b⟩
theorem tN {K:PySem.W.Frag} {f:Addr} {q:Addr × Pos × Str} (h:k_ K f=some q):q∈K.filterMap fun p=>k_ K p.1:=by
 cases e:K.lookup f with
 | none=>unfold k_ at h;rw[e] at h;cases h
 | some o=>
  obtain⟨p,hp,e1⟩:=BF e
  exact List.mem_filterMap.mpr ⟨p,hp,by rw[e1];exact h⟩
theorem F0 {K:PySem.W.Frag} (u:mkU K=true) {f f':Addr} {q q':Addr × Pos × Str} (h:k_ K f=some q) (h':k_ K f'=some q') (e:q'.1=q.1):q'.2=q.2:=by
 have:=List.all_eq_true.mp (List.all_eq_true.mp u q' (tN h')) q (tN h)
 rw[e,show Nat.beq q.1 q.1=true from Nat.beq_refl _] at this
 simpa using this
structure Mkr (K:PySem.W.Frag) (mg:Str->Option Value) (base:Heap) (fd:FuncData) (c PT:Addr):Prop where
 code:fd.code=.ref c
 hd:PySem.W.codeHdIn K c PT=true
 bat:base.BuiltinsAt mg PT
 ne:mainGlobals≠PT
 uq:mkU K=true
theorem Em {K:PySem.W.Frag} {c PT:Addr} (e:PySem.W.codeHdIn K c PT=true):∃k d vs s,K.lookup c=some ⟨k,d,.fields vs,s⟩/\vs[11]?=some (.ref PT):=by
 unfold PySem.W.codeHdIn at e
 split at e
 ·rename_i vs _ hk
  simp only[Bool.and_eq_true] at e
  obtain⟨⟨⟨⟨⟨e1,_⟩,_⟩,_⟩,_⟩,_⟩:=e
  split at e1
  ·rename_i P' h11
   have hP:P'=PT:=beq_iff_eq.mp e1
   subst hP
   exact⟨_,_,vs,_,hk,h11⟩
  ·cases e1
 ·cases e
theorem DY {K:PySem.W.Frag} {f c PT:Addr} {fd:FuncData} {pos:Pos} {oc:Value} {od:Option Addr} {osl:Array (Option Value)} (lk:K.lookup f=some ⟨oc,od,.func fd,osl⟩) (hc:fd.code=.ref c) (C:PySem.W.codeHdIn K c PT=true) (hm:EJ fd=some pos) :
  k_ K f=some (PT,pos,fd.qualname++".<locals>." ++ "<lambda>"):=by
 obtain⟨k,d,vs,s,e,e11⟩:=Em C
 unfold k_
 rw[lk]
 simp only[hm,hc,e,e11]
noncomputable def i4 (ts:List Addr) (Hs:Hp):Hp:=fun b=>if b∈ts then some (.tbl #[]) else Hs b
theorem Ag {P:Program} {w:World} {K:PySem.W.Frag} {mg mb:Str->Option Value} {k:Nat} {fa a:Addr} {fd:FuncData} {x:Str} {sp:Sp} {s₁:Shared} {vs:List Value} {ns:List Int} {ts:List Addr}
  (KX:K.In s₁.heap) (hns:s₁.heap.Ns mainGlobals mg) (hb:s₁.heap.Ns builtinsNs mb) (hbb:∀x:Str,x≠"__name__" -> mb x=bootBuiltins x) (hlim:s₁.heap.NoLimit) (hg:s₁.gens = #[])
  (hbm:∃bm ob,mg "__builtins__" = some (.ref bm)/\bm≠builtinsNs/\s₁.heap.get? bm=some ob/\ob.cls=.type "module" /\ ob.dict=some builtinsNs/\ob.data=.plain)
  (hts:∀P∈ts,s₁.heap.get? P=some (PySem.W.tabObj #[])) (hct:∀P∈ts,∃c,PySem.W.CodeHd s₁.heap c P) (hKt:∀P∈ts,K.lookup P=none)
  (ha:s₁.heap.get? a=some { cls:=.type "list", data:=.seq vs.toArray }) (hi:IntsAre vs ns) (hl:ns.length<=sizeLine) (hr:cB k callerA)
  (F:∀base:Heap,K.In base->base.Ns mainGlobals mg->(∀P∈ts,base.BuiltinsAt mg P)->cQ P w K mg base CX0 k fa fd [x] sp) (hbind:∀(s:Shared) (u:Value),BindsTo s fd ⟨[u],[]⟩ [(x,u)])
  (hsp:∀H:Hp,(∀P∈ts,H P=some (.tbl #[]))->Fro K H a (ns.map V.int)->sp [.ref a] H (fun v _=>v=.bl true) fun _ _ _=>False) :
  codeAny (model P w) callerA (.call (.ref fa) ⟨[.ref a],[]⟩) (fun r s'=>r=.ok (.ret (.bool true))/\OldK s₁.heap s'.heap/\s'.os=s₁.os/\AllBare s'.gens) s₁:=by
 have rv:=rZ hi
 have lenV:=hi.length
 have aT:a∉ts:=fun z=>by rw[hts a z] at ha;cases ha
 have core:∀Hs:Hp,K7 Hs->Fro K (i4 ts Hs) a (ns.map V.int)->HOk P w Hs s₁.heap->(∀b,Hs b≠none->b=a)->(Hs a≠none->K.lookup a=none) →
   codeAny (model P w) callerA (.call (.ref fa) ⟨[.ref a],[]⟩) (fun r s'=>r=.ok (.ret (.bool true))/\OldK s₁.heap s'.heap/\s'.os=s₁.os/\AllBare s'.gens) s₁:=by
  intro Hs hO hS hok0 hA hK
  have inT:∀{b:Addr},b∈ts->i4 ts Hs b=some (.tbl #[]):=fun h=>by unfold i4;rw[if_pos h]
  have offT:∀{b:Addr},b∉ts->i4 ts Hs b=Hs b:=fun h=>by unfold i4;rw[if_neg h]
  have hok:HOk P w (i4 ts Hs) s₁.heap:=fun b u e=>by
   by_cases hb:b∈ts
   ·rw[inT hb] at e;cases e;exact hts b hb
   ·rw[offT hb] at e
    refine(hok0 b u e).jU (fun _ _ _ z=>z) (fun c z=>?_) fun c xs z=>?_
    ·rcases hO c with q | ⟨_,_,q⟩
     ·rw[z] at q;cases q
     ·rw[z] at q;cases q
    ·rcases hO c with q | ⟨_,_,q⟩
     ·rw[z] at q;cases q
     ·rw[z] at q;cases q
  have non:∀{b:Addr} {o:Obj},s₁.heap.get? b=some o->(∀a n,o.data≠.seq a n)->(∀a,o.data≠.fields a)->i4 ts Hs b=none:=fun{b o} e d1 d2=>by
   by_cases hb:b∈ts
   ·rw[hts b hb] at e;cases e;exact absurd rfl (d2 _)
   ·rw[offT hb]
    cases q:Hs b with
    | none=>rfl
    | some u=>
     have e':b=a:=hA b (by rw[q];simp)
     subst e'
     rw[ha] at e;cases e;exact absurd rfl (d1 _ _)
  have base_of:∀{b:Addr} {o:Obj},s₁.heap.get? b=some o->i4 ts Hs b=none->(rh s₁.heap (i4 ts Hs)).get? b=some o:=fun e n=>Cn e n
  have nsK:∀{b:Addr} {m:Str->Option Value},s₁.heap.Ns b m->(rh s₁.heap (i4 ts Hs)).Ns b m:=fun{b m} ⟨o,es,ep,e,d,r⟩=>⟨o,es,ep,base_of e (non e (fun _ _ z=>by rw[d] at z;cases z) fun _ z=>by rw[d] at z;cases z),d,r⟩
  have hKb:K.In (rh s₁.heap (i4 ts Hs)):=fun b o e=>base_of (KX b o e) (by
   have hb:b∉ts:=fun z=>by rw[hKt b z] at e;cases e
   rw[offT hb]
   cases q:Hs b with
   | none=>rfl
   | some u=>
    have e':b=a:=hA b (by rw[q];simp)
    subst e'
    rw[hK (by rw[q];simp)] at e;cases e)
  have hM:Mod K mg (rh s₁.heap (i4 ts Hs)):=⟨hKb,nsK hns,⟨mb,nsK hb,hbb⟩,let ⟨mc,h1,h2⟩:=hlim;⟨mc,nsK h1,h2⟩⟩
  have hBA:∀P∈ts,(rh s₁.heap (i4 ts Hs)).BuiltinsAt mg P:=fun PT hP=>by
   obtain⟨bm,ob,b1,b2,b3,b4,b5,b6⟩:=hbm
   refine⟨bm,ob,b1,b2,fun z=>?_,fun z=>?_,base_of b3 (non b3 (fun _ _ z=>by rw[b6] at z;cases z) fun _ z=>by rw[b6] at z;cases z),b4,b5,b6⟩
   ·obtain⟨o,es,ep,e,d,_⟩:=hns
    rw[<- z,b3] at e;cases e;rw[b6] at d;cases d
   ·rw[z,hts PT hP] at b3;cases b3;cases b6
  have e0:vm P w K mg (rh s₁.heap (i4 ts Hs)) callerA [] s₁ (i4 ts Hs):=⟨rfl,hM,fun b o e=>Er e,Nat.le_of_eq (zQ _ _),trivial,fun b hb=>absurd (show b∈([]:List Addr) from hb) (by simp),hok,.of_eq hg⟩
  refine codeAny_mono ((F _ hKb (nsK hns) hBA).run callerA [] s₁ (i4 ts Hs) ⟨[.ref a],[]⟩ [.ref a] [.ref a] _ _ hr e0 (hbind s₁ (.ref a)) (.cons rfl .nil) (hsp _ (fun P hP=>inT hP) hS)) fun r s' h=>?_
  cases r with
  | error e=>exact h.elim
  | ok fl=>
   cases fl with
   | next=>exact False.elim h
   | brk=>exact False.elim h
   | cont=>exact False.elim h
   | ret u=>
    obtain⟨v,H',os,bare,un,hok',r',q⟩:=h
    have q':v=.bl true:=q
    subst q'
    obtain rfl:u=Value.bool true:=r'
    have old:∀b o,s₁.heap.get? b=some o->b∉ts->s'.heap.get? b=some o:=fun b o e hb=>by
     cases q:i4 ts Hs b with
     | none=>exact un.keep b o e q (by intro z;exact absurd (show b∈([]:List Addr) from z) (by simp)) (by simp)
     | some u=>
      rw[offT hb] at q
      rcases hO b with z | ⟨ob,xs,z⟩
      ·rw[q] at z;cases z
      ·have z2:=un.jT b ob _ ((offT hb).trans z)
       obtain⟨e1,_⟩:=hok0 b _ z
       obtain⟨e2,_⟩:=hok' b _ z2
       rw[e] at e1;cases e1
       exact e2
    have grown:∀b∈ts,∃ps,s'.heap.get? b=some (PySem.W.tabObj ps):=fun b hb=>by
     obtain⟨more,e1⟩:=un.kB b _ (inT hb)
     exact⟨_,hok' b _ e1⟩
    refine⟨rfl,⟨fun b o e=>?_,fun b o e=>?_⟩,os,bare⟩
    ·by_cases hb:b∈ts
     ·obtain⟨ps,e1⟩:=grown b hb
      obtain⟨c,C⟩:=hct b hb
      have e2:=hts b hb
      rw[e] at e2;cases e2
      exact .inr (.inl ⟨(C.tab (hts b hb)).isCodeTable,rfl,#[],ps,rfl,by rw[e1];simp⟩)
     ·exact .inl (old b o e hb)
    ·by_cases hb:b∈ts
     ·obtain⟨ps,e1⟩:=grown b hb;exact⟨_,e1⟩
     ·exact⟨o,old b o e hb⟩
 cases hk:K.lookup a with
 | some o=>
  have e:=KX a o hk
  rw[ha] at e
  cases e
  refine core (fun _=>none) (fun _=>.inl rfl) (.inr ⟨_,vs.toArray,_,hk,rfl,rfl,rfl,by rw[List.size_toArray,lenV];exact hl,by simpa using rv⟩) (fun b u z=>by have z':(none:Option HO)=some u:=z;cases z') (fun b z=>absurd rfl z) fun z=>absurd rfl z
 | none=>
  refine core (fun b=>if b=a then some (.frz { cls:=.type "list", data:=.seq vs.toArray } (.lst (ns.map V.int))) else none) (fun b=>?_) (.inl ⟨{ cls:=.type "list", data:=.seq vs.toArray },?_⟩) (fun b u z=>?_) (fun b z=>?_) fun _=>hk
  ·by_cases hb:b=a
   ·exact .inr ⟨_,_,if_pos hb⟩
   ·exact .inl (if_neg hb)
  ·unfold i4;rw[if_neg aT];exact if_pos rfl
  ·by_cases hb:b=a
   ·have z':=(if_pos hb).symm.trans z
    cases z'
    subst hb
    exact⟨ha,by rw[List.length_map];exact hl,vs,_,rv,ha⟩
   ·have z':=(if_neg hb).symm.trans z
    cases z'
  ·by_cases hb:b=a
   ·exact hb
   ·exact absurd (if_neg hb) z
noncomputable def tabOf (K:PySem.W.Frag) (c:Addr):Addr:=match K.lookup c with
 | some ⟨_,_,.fields vs,_⟩=>(match (vs[11]?:Option Value) with | some (.ref P)=>P | _=>0)
 | _=>0
noncomputable def Gv (K:PySem.W.Frag) (ts:List Addr):Bool:=(K.filterMap fun p=>k_ K p.1).all (fun q=>ts.any (Nat.beq q.1))&&ts.all fun P=>(K.lookup P).isNone&&K.any fun p=>match p.2.data with
 | .func fd=>(match fd.code with
  | .ref c=>PySem.W.codeHdIn K c P
  | _=>false)
 | _=>false
noncomputable def Gd (K:PySem.W.Frag) (ts:List Addr) (x:Str) (st:Stmt):Prop:=∃f fd c,PySem.W.nsIn K mainGlobals x=some (some (.ref f))/\Fun K x x st f fd/\fd.code=.ref c/\PySem.W.codeHdIn K c (tabOf K c)=true/\ts.any (Nat.beq (tabOf K c))=true/\Nat.beq mainGlobals (tabOf K c)=false
noncomputable def D5 (K:PySem.W.Frag) (mg:Str->Option Value) (base:Heap) (x:Str) (st:Stmt):Prop:=∀f fd,mg x=some (.ref f)->Fun K x x st f fd->∃c PT,Mkr K mg base fd c PT
theorem Ih {K:PySem.W.Frag} {ts:List Addr} {x:Str} {st:Stmt} {f c:Addr} {oc:Value} {od an:Option Addr} {osl:Array (Option Value)} {kV doc pm ct:Value} (a:PySem.W.nsIn K mainGlobals x=some (some (.ref f)))
  (l:K.lookup f=some ⟨oc,od,.func (PySem.W.fnOf x x (dU st) (bu st) (ai st) .none kV doc pm an (.ref c) ct),osl⟩) (cc:PySem.W.codeIn K (.ref c) x=true) (k:PySem.W.keepIn K (.ref f)=true)
  (h1:PySem.W.codeHdIn K c (tabOf K c)=true) (h2:ts.any (Nat.beq (tabOf K c))=true) (h3:Nat.beq mainGlobals (tabOf K c)=false):Gd K ts x st:=⟨f,_,c,a,xx l cc k,rfl,h1,h2,h3⟩
theorem D5.of {K:PySem.W.Frag} {mg:Str->Option Value} {base h:Heap} {ts:List Addr} {x:Str} {st:Stmt} (X:K.In h) (G:h.Ns mainGlobals mg) (hB:∀P∈ts,base.BuiltinsAt mg P) (hU:mkU K=true) (m:Gd K ts x st):D5 K mg base x st:=by
 intro f fd hm F
 obtain⟨f2,fd2,c,a,F2,hc,h1,h2,h3⟩:=m
 have hm2:=PySem.W.mg_of X G a
 rw[hm] at hm2
 cases hm2
 obtain⟨oc,od,osl,l1⟩:=bh F
 obtain⟨oc',od',osl',l2⟩:=bh F2
 rw[l1] at l2
 cases l2
 obtain⟨P,hP,e⟩:=List.any_eq_true.mp h2
 have e:=Nat.eq_of_beq_eq_true e
 refine⟨c,tabOf K c,hc,h1,hB _ (by rw[e];exact hP),fun z=>?_,hU⟩
 rw[<- z,Nat.beq_refl] at h3;cases h3
theorem EC {k:Nat} {m:MF} {l:PySem.W.OpenLaw} {q:Program} {loose:List Str} {XP:(Str->Option Value)->Heap->Prop} {YP:World->Heap->Prop} {d:DefRec} {K:Params->PySem.W.Frag} {ts:List Addr} (hn:l.most=some 63) (hdf:d.params.defaults=[]) (hr:cB k callerA)
  (hY:∀(w:World) (h:Heap),YP w h->(K w.params).In h) (hT:∀(w:World) (h:Heap),YP w h->∀P∈ts,h.get? P=some (PySem.W.tabObj #[])) (hI:∀P,Gv (K P) ts=true)
  (ok:∀ns:List Int,ns.length<=63->∃h,m [.scr (ns.map D.int)] []=.ok (.bl true) h)
  (F:∀(w:World) (mg:Str->Option Value) (fa:Addr) (h:Heap),(K w.params).In h->h.Ns mainGlobals mg->mg d.name=some (.ref fa) →
   ∃fd:FuncData,(∀(s:Shared) (u:Value),BindsTo s fd ⟨[u],[]⟩ [("_law_script", u)])/\∀base:Heap,(K w.params).In base->base.Ns mainGlobals mg->(∀P∈ts,base.BuiltinsAt mg P)->cQ l.prog w (K w.params) mg base CX0 k fa fd ["_law_script"] (spM (K w.params) (gOf mg) 1 m)) :
  PySem.W.WalkO q loose XP YP l.row.toRowW d [] (fun f vs=>PySem.call f vs):=by
 refine Att.vh hn hdf fun w az s₁ mg mb fa o pm cd doc a vs ns G Y ho hd hcd hmg hobj hints hlen hg=>?_
 have KX:=hY w _ Y
 obtain⟨fd,hb,hF⟩:=F w mg fa _ KX G.T.g hmg
 have i:=hI w.params
 unfold Gv at i
 obtain⟨i1,i2⟩:=Bool.and_eq_true_iff.mp i
 have tq:∀P∈ts,∃c,(K w.params).lookup P=none/\PySem.W.codeHdIn (K w.params) c P=true:=fun P hP=>by
  have z:=Bool.and_eq_true_iff.mp (List.all_eq_true.mp i2 P hP)
  obtain⟨p,_,y⟩:=List.any_eq_true.mp z.2
  split at y
  ·split at y
   ·rename_i c _;exact⟨c,by simpa using z.1,y⟩
   ·cases y
  ·cases y
 refine Ag (sp:=fun vs H Q _=>∃a ns,vs=[V.ref a]/\ns.length<=63/\(∀P∈ts,H P=some (.tbl #[]))/\Fro (K w.params) H a (ns.map V.int)/\∀v H',v=V.bl true->Q v H') KX G.T.g G.T.b G.T.builtins G.T.nolimit hg G.T.bmain (hT w _ Y) (fun P hP=>let ⟨c,_,e⟩:=tq P hP;⟨c,PySem.W.codeHd_of_K KX e⟩) (fun P hP=>let ⟨_,e,_⟩:=tq P hP;e) hobj hints (Nat.le_trans hlen (by decide)) hr
  (fun base kb nb bb=>(hF base kb nb bb).imp fun vs H Q E z=>?_) hb (fun H h1 h2=>⟨a,ns,rfl,hlen,h1,h2,fun _ _ z=>z⟩)
 obtain⟨a,ns,rfl,hl,hO,hS,hQ⟩:=z
 obtain⟨hh,e⟩:=ok ns hl
 refine⟨rfl,[],[.scr (ns.map D.int)],[],.cons (.scr hS (ay.ints ns)) .nil,⟨rfl,fun n m p z=>by simp at z,fun n p o z=>by simp at z,fun f q e=>.inl (hO _ ?_)⟩,?_⟩
 ·obtain⟨p,hp,z⟩:=List.any_eq_true.mp (List.all_eq_true.mp i1 q (tN e))
  rw[Nat.eq_of_beq_eq_true z]
  exact hp
 ·rw[e]
  intro v H' α' _ _ rd
  cases rd
  exact hQ _ _ rfl
noncomputable def iz (cells:List (Str × Addr)):List (Str × NameKind)->List (Str × Addr)->List (Str × Addr)
 | [],cs=>cs
 | (n,k)::r,cs=>iz cells r (if k == .free then (n,(cells.lookup n).getD 0)::cs else cs)
theorem yA {env:Env}:∀(ns:List (Str × NameKind)) (cs:List (Str × Addr)),(∀q∈ns,q.2=.free->(env.cells.lookup q.1).isSome=true) →
  (forIn ns cs fun(x:Str × NameKind) (r:List (Str × Addr))=>match x with
   | (name,kind)=>if (kind == .free)=true then do let c ← cellOf env name;pure (ForInStep.yield ((name,c)::r)) else pure (ForInStep.yield r):Sem (List (Str × Addr)))=pure (iz env.cells ns cs)
 | [],cs,_=>by rfl
 | (n,k)::r,cs,h=>by
  rw[List.forIn_cons]
  have ih:=fun cs=>yA (env:=env) r cs fun q hq=>h q (List.mem_cons_of_mem _ hq)
  by_cases hk:(k == .free)=true
  ·obtain⟨c,hc⟩:=Option.isSome_iff_exists.mp (h (n,k) (List.mem_cons_self ..) (beq_iff_eq.mp hk))
   have hc:env.cells.lookup n=some c:=hc
   simp only[hk,if_true,iz,hc,Option.getD_some,cellOf,pure_bind]
   exact ih _
  ·simp only[Bool.not_eq_true] at hk
   simp only[hk,Bool.false_eq_true,if_false,iz,pure_bind]
   exact ih _
theorem DB {scope:Scope} {env:Env} (h:∀q∈scope.names,q.2=.free->(env.cells.lookup q.1).isSome=true):closureFor scope env=pure (iz env.cells scope.names []):=by
 exact(congrArg (fun m:Sem (List (Str × Addr))=>m >>= fun s=>pure s) (yA scope.names [] h)).trans (pure_bind _ _)
theorem vH {cells:List (Str × Addr)} {z:Str} {c:Addr}:∀(ns:List (Str × NameKind)) (cs:List (Str × Addr)),(∀q∈ns,q.2=.free->(cells.lookup q.1).isSome=true)->(∀z c,cs.lookup z=some c->cells.lookup z=some c)->(iz cells ns cs).lookup z=some c->cells.lookup z=some c
 | [],cs,_,h,e=>h z c e
 | (n,k)::r,cs,hf,h,e=>by
  refine vH r _ (fun q hq=>hf q (List.mem_cons_of_mem _ hq)) (fun z c=>?_) e
  split
  ·rename_i hk
   rw[List.lookup_cons]
   split
   ·rename_i hz
    intro q
    cases q
    obtain⟨c,hc⟩:=Option.isSome_iff_exists.mp (hf (n,k) (List.mem_cons_self ..) (beq_iff_eq.mp hk))
    rw[beq_iff_eq.mp hz,hc];rfl
   ·exact h z c
  ·exact h z c
theorem rO {cells:List (Str × Addr)} {z:Str}:∀(ns:List (Str × NameKind)) (cs:List (Str × Addr)),(∃c,cs.lookup z=some c)->∃c,(iz cells ns cs).lookup z=some c
 | [],cs,h=>h
 | (n,k)::r,cs,h=>by
  refine rO r _ ?_
  split
  ·rw[List.lookup_cons]
   split
   ·exact⟨_,rfl⟩
   ·exact h
  ·exact h
theorem v_ {cells:List (Str × Addr)} {z:Str}:∀(ns:List (Str × NameKind)) (cs:List (Str × Addr)),(z,NameKind.free)∈ns->∃c,(iz cells ns cs).lookup z=some c
 | (n,k)::r,cs,h=>by
  rcases List.mem_cons.mp h with e | e
  ·cases e
   refine rO r _ ?_
   rw[if_pos (by rfl),List.lookup_cons]
   simp
  ·exact v_ r _ e
end L2.FE
namespace L2.FE
open PySem
section
variable {β γ:Type} {h h1:Hh} {env:En}
@[simp] theorem bH {b:β} {f:β->Hh->R γ}:(R.ok b h).bind f=f b h:=Eq.trans rfl rfl
@[simp] theorem A4 {x:Xc} {f:β->Hh->R γ}:(R.err x h).bind f=.err x h:=Eq.trans rfl rfl
@[simp] theorem Jm {f:β->Hh->R γ}:(R.bad).bind f=.bad:=Eq.trans rfl rfl
@[simp] theorem Ii {c:Prop} [Decidable c] {a b:R β} {f:β->Hh->R γ}:(if c then a else b).bind f=if c then a.bind f else b.bind f:=by split<;>rfl
@[simp] theorem e_C {d:D}:cC d env h=.ok d h:=Eq.trans rfl rfl
@[simp] theorem Kp {d:D} {r:En}:ae 0 (some d::r) h=.ok d h:=Eq.trans rfl rfl
@[simp] theorem Kt {i:Nat} {x:Option D} {r:En}:ae (i+1) (x::r) h=ae i r h:=Eq.trans rfl rfl
@[simp] theorem Ik {f:D->D->Hh->R D} {a b:ME}:aq f a b env h=(a env h).bind fun x h1=>(b env h1).bind fun y h2=>f x y h2:=Eq.trans rfl rfl
@[simp] theorem L9 {f:D->Hh->R D} {a:ME}:cUn f a env h=(a env h).bind fun x h1=>f x h1:=Eq.trans rfl rfl
@[simp] theorem LK:ao env h=.ok [] h:=Eq.trans rfl rfl
@[simp] theorem Ku {a:ME} {r:MA}:aa a r env h=(a env h).bind fun x h1=>(r env h1).bind fun xs h2=>.ok (x::xs) h2:=Eq.trans rfl rfl
@[simp] theorem Kr {f:List D->Hh->R D} {a:MA}:aj f a env h=(a env h).bind f:=Eq.trans rfl rfl
@[simp] theorem JT {f:D->List D->Hh->R D} {o:ME} {a:MA}:eA f o a env h=(o env h).bind fun x h1=>if isL x h1=true then (a env h1).bind fun xs h2=>f x xs h2 else .bad:=Eq.trans rfl rfl
@[simp] theorem FY {f:D->Hh->R Bool} {a:ME}:aC f a env h=(a env h).bind f:=Eq.trans rfl rfl
@[simp] theorem Kw {a:MT}:j1 a env h=(a env h).bind fun b h1=>.ok (!b) h1:=Eq.trans rfl rfl
@[simp] theorem Km {a b:MT}:Bb a b env h=(a env h).bind fun x h1=>if x=true then b env h1 else .ok false h1:=Eq.trans rfl rfl
@[simp] theorem Lz {a b:MT}:wk a b env h=(a env h).bind fun x h1=>if x=true then .ok true h1 else b env h1:=Eq.trans rfl rfl
@[simp] theorem GV {c:MT} {a b:ME}:cIf c a b env h=(c env h).bind fun x h1=>if x=true then a env h1 else b env h1:=Eq.trans rfl rfl
@[simp] theorem LQ {b:Bool}:asB (.bl b) h=.ok b h:=Eq.trans rfl rfl
@[simp] theorem Lp {a b:ME}:oU a b env h=(a env h).bind fun x h1=>(asB x h1).bind fun k h2=>if k=true then b env h2 else .ok (.bl false) h2:=Eq.trans rfl rfl
@[simp] theorem KD {a:ME}:CY a env h=(a env h).bind fun x h1=>(asB x h1).bind fun k h2=>.ok (.bl (!k)) h2:=Eq.trans rfl rfl
@[simp] theorem J1 {f f':D->D->Hh->R D} {a b c:ME}:mj f f' a b c env h=(a env h).bind fun x h1=>(b env h1).bind fun y h2=>(f x y h2).bind fun z h3=>(asB z h3).bind fun k h4=>if k=true then (c env h4).bind fun w h5=>f' y w h5 else .ok (.bl false) h4:=Eq.trans rfl rfl
@[simp] theorem Jq:jK env h=.ok none h:=Eq.trans rfl rfl
noncomputable def FJ:D->Hh->R (Option Int):=fun d h1=>match d with
 | .int i=>.ok (some i) h1
 | _=>.bad
@[simp] theorem JW {i:Int}:FJ (.int i) h=.ok (some i) h:=Eq.trans rfl rfl
@[simp] theorem Kz {a:ME}:jW a env h=(a env h).bind FJ:=Eq.trans rfl rfl
@[simp] theorem uK {nl:NL} {a:ME} {l u:MO}:i8 nl a l u env h=(a env h).bind fun x h1=>(l env h1).bind fun lo h2=>(u env h2).bind fun hi h3=>Cr nl x lo hi h3:=Eq.trans rfl rfl
@[simp] theorem Ke:b9 env h=.ok (.nx env) h:=Eq.trans rfl rfl
noncomputable def GD (b:MS):Fl->Hh->R Fl:=fun fl h1=>match fl with
 | .nx e=>b e h1
 | fl=>.ok fl h1
@[simp] theorem L8 {b:MS} {e:En}:GD b (.nx e) h=b e h:=Eq.trans rfl rfl
@[simp] theorem L6 {b:MS} {d:D}:GD b (.rt d) h=.ok (.rt d) h:=Eq.trans rfl rfl
@[simp] theorem Lx {a b:MS}:aF a b env h=(a env h).bind (GD b):=by
 unfold aF
 first | rfl | (congr 1;funext fl h1;cases fl<;>rfl)
@[simp] theorem K6 {a:ME}:fi a env h=(a env h).bind fun _ h1=>.ok (.nx env) h1:=Eq.trans rfl rfl
@[simp] theorem LZ {a:ME}:bB a env h=(a env h).bind fun d h1=>.ok (.rt d) h1:=Eq.trans rfl rfl
@[simp] theorem LL {c:MT} {a b:MS}:dN c a b env h=(c env h).bind fun x h1=>if x=true then a env h1 else b env h1:=Eq.trans rfl rfl
@[simp] theorem IQ {i:Nat} {a:ME}:aV i a env h=(a env h).bind fun d h1=>.ok (.nx (env.set i (some d))) h1:=Eq.trans rfl rfl
noncomputable def Jv (i j:Nat) (env:En):List D->Hh->R Fl:=fun ds h1=>match ds with
 | [x,y]=>.ok (.nx ((env.set i (some x)).set j (some y))) h1
 | _=>.bad
@[simp] theorem Ld {i j:Nat} {x y:D}:Jv i j env [x,y] h=.ok (.nx ((env.set i (some x)).set j (some y))) h:=Eq.trans rfl rfl
@[simp] theorem LB {i j:Nat} {a:MA}:zM i j a env h=(a env h).bind (Jv i j env):=by
 rfl
@[simp] theorem FP {i:Nat} {d:D}:gN i d env h=.ok (env.set i (some d)) h:=Eq.trans rfl rfl
@[simp] theorem Ib {i j:Nat} {x y:D}:gT2 i j (.tup [x,y]) env h=.ok ((env.set i (some x)).set j (some y)) h:=Eq.trans rfl rfl
@[simp] theorem LV {i j:Nat} {a:ME}:A5 i j a env h=(a env h).bind fun d h1=>(gT2 i j d env h1).bind fun e h2=>.ok (.nx e) h2:=Eq.trans rfl rfl
@[simp] theorem JQ {f:D->D->D->Hh->R Unit} {o i v:ME}:kq f o i v env h=(v env h).bind fun x h1=>(o env h1).bind fun y h2=>(i env h2).bind fun z h3=>(f y z x h3).bind fun _ h4=>.ok (.nx env) h4:=Eq.trans rfl rfl
@[simp] theorem JX {o i v:ME}:uj o i v env h=(o env h).bind fun x h1=>(i env h1).bind fun y h2=>(BZ x y h2).bind fun z h3=>(v env h3).bind fun u h4=>(vK z u h4).bind fun t h5=>(iE x y t h5).bind fun _ h6=>.ok (.nx env) h6:=Eq.trans rfl rfl
noncomputable def F9:Fl->Hh->R D:=fun fl h1=>match fl with
 | .rt d=>.ok d h1
 | .nx _=>.ok .non h1
 | _=>.bad
@[simp] theorem L_ {d:D}:F9 (.rt d) h=.ok d h:=Eq.trans rfl rfl
@[simp] theorem L7 {e:En}:F9 (.nx e) h=.ok .non h:=Eq.trans rfl rfl
theorem aX {n:Nat} {m:MS} {ds:List D}:cn n m ds h=(m (ds.map some++List.replicate (n - ds.length) none) h).bind F9:=by
 unfold cn
 first | rfl | (congr 1;funext fl h1;cases fl<;>rfl)
section
variable {nl:NL}
@[simp] theorem Kx {i j:Int}:cL nl (.int i) (.int j) h=.ok (.int (i+j)) h:=Eq.trans rfl rfl
@[simp] theorem JY {i j:Int}:vK (.int i) (.int j) h=.ok (.int (i+j)) h:=Eq.trans rfl rfl
@[simp] theorem Lk {i j:Int}:dg (.int i) (.int j) h=.ok (.int (i - j)) h:=Eq.trans rfl rfl
@[simp] theorem KL {i:Int}:jm (.int i) h=.ok (.int (-i)) h:=Eq.trans rfl rfl
@[simp] theorem LA {i j:Int}:dLt (.int i) (.int j) h=.ok (.bl (decide (i<j))) h:=by unfold dLt;rw[oA];rfl
@[simp] theorem Lu {i j:Int}:dLe (.int i) (.int j) h=.ok (.bl (decide (i<=j))) h:=by unfold dLe;rw[tD];rfl
@[simp] theorem LC {i j:Int}:dGt (.int i) (.int j) h=.ok (.bl (decide (j<i))) h:=by unfold dGt;rw[oA];rfl
@[simp] theorem LF {i j:Int}:dGe (.int i) (.int j) h=.ok (.bl (decide (j<=i))) h:=by unfold dGe;rw[tD];rfl
@[simp] theorem Lm {i j:Int}:vn nl (.int i) (.int j) h=if sml i=true/\sml j=true then .ok (.int (i*j)) h else .bad:=Eq.trans rfl rfl
@[simp] theorem KQ {i j:Int}:B9 (.int i) (.int j) h=if 0<j/\sml j=true then .ok (.int (i / j)) h else .bad:=Eq.trans rfl rfl
@[simp] theorem Lj {i j:Int}:uL (.int i) (.int j) h=if 0<j then .ok (.int (i % j)) h else .bad:=Eq.trans rfl rfl
@[simp] theorem Le {i j:Int}:E3 (.int i) (.int j) h=if 0<=j/\j.natAbs<=1000/\sml i=true then .ok (.int (i ^ j.toNat)) h else .bad:=Eq.trans rfl rfl
@[simp] theorem Lq {i j:Int}:rE [.int i,.int j] h=.ok (.int (max i j)) h:=by
 have:(if j > i then j else i)=max i j:=by split<;>omega
 rw[<- this];rfl
@[simp] theorem KA {b:Bool}:kN [.bl b] h=.ok (.int (if b then 1 else 0)) h:=Eq.trans rfl rfl
@[simp] theorem LU {ds:List D}:b_ ds h=if ds.length<=1000000 then .ok (.tup ds) h else .bad:=Eq.trans rfl rfl
@[simp] theorem LN {ds:List D}:dy nl ds h=if ds.length<=1000000 then nl ds h else .bad:=Eq.trans rfl rfl
@[simp] theorem Kk {ds:List D}:jg ds h=.ok (.ref h.length) (h++[.lst ds]):=Eq.trans rfl rfl
@[simp] theorem K2 {ds:List D}:aR ds h=.ok (.frl ds) h:=Eq.trans rfl rfl
@[simp] theorem La {ds:List D}:eI [.tup ds] h=.ok (.int ds.length) h:=Eq.trans rfl rfl
@[simp] theorem K3 {ds:List D}:eI [.frl ds] h=.ok (.int ds.length) h:=Eq.trans rfl rfl
@[simp] theorem Kf {ds:List D}:eI [.scr ds] h=.ok (.int ds.length) h:=Eq.trans rfl rfl
noncomputable def ixK (ds:List D) (i:Int) (h:Hh):R D:=match atI ds i with
 | some d=>.ok d h
 | none=>.bad
@[simp] theorem JI {ds:List D} {i:Int}:dIx (.tup ds) (.int i) h=ixK ds i h:=Eq.trans rfl rfl
@[simp] theorem LS {ds:List D} {i:Int}:dIx (.frl ds) (.int i) h=ixK ds i h:=Eq.trans rfl rfl
@[simp] theorem LW {ds:List D} {i:Int}:dIx (.scr ds) (.int i) h=ixK ds i h:=Eq.trans rfl rfl
theorem oF {n:Nat} {ds:List D} {i:Int} (e:ax h n=some ds):dIx (.ref n) (.int i) h=ixK ds i h:=by
 have z:iW (.ref n) h=some ds:=e
 delta dIx;rw[z];rfl
theorem Hy {ds:List D} {i:Int} {d:D} (e:atI ds i=some d):ixK ds i h=.ok d h:=by simp only[ixK,e]
theorem Cm {β:Type} {xs:List β} {j:Nat} {v:β} {i:Int} (h:xs[j]?=some v) (e:i=(j:Int)):atI xs i=some v:=by rw[e];exact DL h
theorem k9 {ds:List D} {i:Int} {j:Nat} {d:D} (e:i=(j:Int)) (e2:ds[j]?=some d):ixK ds i h=.ok d h:=Hy (Cm e2 e)
noncomputable def gI (ns:List Int) (i:Nat):Int:=ns.getD i 0
theorem fL {ns:List Int} {j:Nat} (hj:j<ns.length):gI ns j=ns[j]:=by
 unfold gI;rw[List.getD_eq_getElem?_getD,List.getElem?_eq_getElem hj];rfl
theorem jJ {ns:List Int} {i:Int} {j:Nat} (e:i=(j:Int)) (hj:j<ns.length):ixK (ns.map D.int) i h=.ok (.int (gI ns j)) h:=by
 refine k9 e ?_
 rw[List.getElem?_map,List.getElem?_eq_getElem hj,fL hj];rfl
@[simp] theorem L5 {d:D} {ds:List D}:ixK (d::ds) 0 h=.ok d h:=k9 (j:=0) rfl rfl
@[simp] theorem LI {d d1:D} {ds:List D}:ixK (d::d1::ds) 1 h=.ok d1 h:=k9 (j:=1) rfl rfl
@[simp] theorem KY {ds:List D} {lo hi:Option Int}:Cr nl (.tup ds) lo hi h=.ok (.tup (cutD ds lo hi)) h:=Eq.trans rfl rfl
@[simp] theorem Kn {ds:List D} {lo hi:Option Int}:Cr nl (.scr ds) lo hi h=nl (cutD ds lo hi) h:=Eq.trans rfl rfl
@[simp] theorem KO {a b:List D}:cL nl (.tup a) (.tup b) h=if a.length+b.length<=1000000 then .ok (.tup (a++b)) h else .bad:=Eq.trans rfl rfl
@[simp] theorem KJ {a b:List D}:cL nl (.frl a) (.frl b) h=if a.length+b.length<=1000000 then nl (a++b) h else .bad:=Eq.trans rfl rfl
@[simp] theorem K5 {a:List D} {k:Int}:vn nl (.frl a) (.int k) h=if k.natAbs<=1000000/\a.length*k.toNat<=1000000 then nl (List.replicate k.toNat a).flatten h else .bad:=Eq.trans rfl rfl
@[simp] theorem Ks {ds:List D}:lZ [.frl ds] h=.ok (.tup ds) h:=Eq.trans rfl rfl
@[simp] theorem KR {ns:List Int}:wU [.frl (ns.map D.int)] h=.ok (.int ns.sum) h:=by simp only[wU,iW,kH]
@[simp] theorem K8 {b:Bool}:lP (.bl b) h=.ok b h:=Eq.trans rfl rfl
@[simp] theorem LG {i j:Int}:dEq (.int i) (.int j) h=.ok (.bl (i == j)) h:=Eq.trans rfl rfl
@[simp] theorem Ly {i j:Int}:dNe (.int i) (.int j) h=.ok (.bl (!(i == j))) h:=Eq.trans rfl rfl
@[simp] theorem Ls {i j:Str}:dNe (.str i) (.str j) h=.ok (.bl (!(i == j))) h:=Eq.trans rfl rfl
@[simp] theorem KS {i:Int}:pS "int" (.int i) h=.ok (.bl true) h:=Eq.trans rfl rfl
@[simp] theorem Ln {i:Int}:pS "bool" (.int i) h=.ok (.bl false) h:=Eq.trans rfl rfl
@[simp] theorem cb {ds:List D} {t:Hh}:ax (h++.lst ds::t) h.length=some ds:=by
 unfold ax;rw[List.getElem?_append_right (Nat.le_refl _)];simp
@[simp] theorem lD {o o':O} {t:Hh}:(h++o::t).set h.length o'=h++o'::t:=by
 rw[List.set_append_right _ _ (Nat.le_refl _)];simp
@[simp] theorem CJ {o:O} {p p':O} {t:Hh}:(h++o::p::t).set (h.length+1) p'=h++o::p'::t:=by
 rw[List.set_append_right _ _ (by omega)];simp
theorem uB {n:Nat} {ds:List D} (e:ax h n=some ds):isL (.ref n) h=true:=by simp[isL,e]
theorem B5 {n:Nat} {ds:List D} {d:D} (e:ax h n=some ds):fP (.ref n) [d] h=if ds.length<1000000 then .ok .non (h.set n (.lst (ds++[d]))) else .bad:=by delta fP;dsimp only;rw[e]
theorem n_ {n:Nat} {ds:List D} {i:Int} {j:Nat} {v:D} (e:ax h n=some ds) (e2:ixN ds.length i=some j):iE (.ref n) (.int i) v h=.ok () (h.set n (.lst (ds.set j v))):=by delta iE;dsimp only;rw[e];dsimp only;rw[e2]
theorem BV {n:Nat} {xs ys:List D} {d:D} (e:ax h n=some xs) (e2:lN d h=some ys):dP (.ref n) [d] h=if xs.length+ys.length<=1000000 then .ok .non (h.set n (.lst (xs++ys))) else .bad:=by delta dP;dsimp only;rw[e,e2]
@[simp] theorem Ky {ds:List D} {t:Hh}:isL (.ref h.length) (h++.lst ds::t)=true:=uB cb
@[simp] theorem Ah {ds:List D} {d:D} {t:Hh}:fP (.ref h.length) [d] (h++.lst ds::t)=if ds.length<1000000 then .ok .non (h++.lst (ds++[d])::t) else .bad:=by rw[B5 cb,lD]
@[simp] theorem LY {ds:List D} {i:Int} {t:Hh}:dIx (.ref h.length) (.int i) (h++.lst ds::t)=ixK ds i (h++.lst ds::t):=oF cb
@[simp] theorem sj {ds ys:List D} {t:Hh}:dP (.ref h.length) [.frl ys] (h++.lst ds::t)=if ds.length+ys.length<=1000000 then .ok .non (h++.lst (ds++ys)::t) else .bad:=by rw[BV cb rfl,lD]
theorem Et {n j:Nat} {i:Int} (e:i=(j:Int)) (hj:j<n):ixN n i=some j:=by
 subst e
 unfold ixN
 rw[if_pos (by omega),if_pos (by omega)];simp
end
@[simp] theorem Lo {a:MA}:fk ft a env h=(a env h).bind ft:=Eq.trans rfl rfl
@[simp] theorem Ll {a:MA}:fk xX a env h=(a env h).bind xX:=Eq.trans rfl rfl
@[simp] theorem Kh {j:Int}:ft [.int j] h=if j.natAbs<=1000000 then .ok (.snap (cM 0 j.toNat)) h else .bad:=Eq.trans rfl rfl
@[simp] theorem KP {i j:Int}:xX [.int i,.int j] h=if i.natAbs<=1000000/\j.natAbs<=1000000 then .ok (.snap (cM i (j - i).toNat)) h else .bad:=Eq.trans rfl rfl
@[simp] theorem LR {a:ME}:cN a env h=(a env h).bind vq:=Eq.trans rfl rfl
@[simp] theorem Kg {a:ME}:jl a env h=(a env h).bind rJ:=Eq.trans rfl rfl
@[simp] theorem LM {ds:List D}:vq (.tup ds) h=.ok (.snap ds) h:=Eq.trans rfl rfl
@[simp] theorem LO {ds:List D}:vq (.frl ds) h=.ok (.snap ds) h:=Eq.trans rfl rfl
@[simp] theorem L4 {i j k:Nat} {x y z:D}:gT3 i j k (.tup [x,y,z]) env h=.ok (((env.set i (some x)).set j (some y)).set k (some z)) h:=Eq.trans rfl rfl
@[simp] theorem LJ {i j k:Nat} {a:ME}:Bm i j k a env h=(a env h).bind fun d h1=>(gT3 i j k d env h1).bind fun e h2=>.ok (.nx e) h2:=Eq.trans rfl rfl
@[simp] theorem JV {ds:List D}:rJ (.frl ds) h=.ok (.snap (eK ds)) h:=Eq.trans rfl rfl
theorem CP {n:Nat} {ds:List D} (e:ax h n=some ds):vq (.ref n) h=.ok (.live n) h:=by simp only[vq,e]
noncomputable def Dx (tg:D->En->Hh->R En) (body:MS) (env:En):Src->Hh->R Fl:=fun sr h1=>match sr with
 | .snap ds=>eR tg body ds env h1
 | .live n=>f_ (Src.live n).rdr tg body ((ax h1 n).getD []).length 0 env h1
 | .liveE n=>f_ (Src.liveE n).rdr tg body ((ax h1 n).getD []).length 0 env h1
@[simp] theorem K0 {tg:D->En->Hh->R En} {body:MS} {ds:List D}:Dx tg body env (.snap ds) h=eR tg body ds env h:=Eq.trans rfl rfl
@[simp] theorem LX {mi:MI} {tg:D->En->Hh->R En} {body:MS}:fD mi tg body env h=(mi env h).bind (Dx tg body env):=by
 unfold fD
 congr 1
noncomputable def Jb (nl:NL) (tt:MT) (te:ME) (ee:D->En):Src->Hh->R D:=fun sr h1=>if sr.fuel h1<=1000000 then
 (match sr with
  | .snap ds=>cy tt te ee ds h1
  | .live n=>iV (Src.live n).rdr tt te ee ((ax h1 n).getD []).length 0 [] h1
  | .liveE n=>iV (Src.liveE n).rdr tt te ee ((ax h1 n).getD []).length 0 [] h1).bind nl else .bad
@[simp] theorem Ki {nl:NL} {mi:MI} {ix:List Nat} {tt:MT} {te:ME}:cx nl mi ix tt te env h=(mi env h).bind (Jb nl tt te (kM ix env)):=Eq.trans rfl rfl
@[simp] theorem JR {nl:NL} {tt:MT} {te:ME} {ee:D->En} {ds:List D}:Jb nl tt te ee (.snap ds) h=if ds.length<=1000000 then (cy tt te ee ds h).bind nl else .bad:=Eq.trans rfl rfl
@[simp] theorem HP {lo:Int} {n:Nat}:(cM lo n).length=n:=by simp[cM]
@[simp] theorem LD {ix:List Nat}:kM ix env=fun d=>some d::ix.map fun i=>(env[i]?).join:=Eq.trans rfl rfl
@[simp] theorem JO:tt1 env h=.ok true h:=Eq.trans rfl rfl
noncomputable def Im (tg:D->En->Hh->R En) (body:MS) (ds:List D):Fl->Hh->R Fl:=fun fl h2=>match fl with
 | .nx e=>eR tg body ds e h2
 | .ct e=>eR tg body ds e h2
 | .bk e=>.ok (.nx e) h2
 | .rt d=>.ok (.rt d) h2
theorem oj {tg:D->En->Hh->R En} {body:MS}:eR tg body [] env h=.ok (.nx env) h:=rfl
theorem jH {tg:D->En->Hh->R En} {body:MS} {d:D} {ds:List D}:eR tg body (d::ds) env h=(tg d env h).bind fun e1 h1=>(body e1 h1).bind (Im tg body ds):=rfl
@[simp] theorem LP {tg:D->En->Hh->R En} {body:MS} {ds:List D} {e:En}:Im tg body ds (.nx e) h=eR tg body ds e h:=Eq.trans rfl rfl
theorem rB (ns:List Int):eK (ns.map D.int)=(List.range ns.length).map fun(i:Nat)=>D.tup [.int i,.int (gI ns i)]:=by
 unfold eK
 rw[List.length_map]
 apply List.map_congr_left
 intro i hi
 have hi:i<ns.length:=List.mem_range.mp hi
 rw[List.getD_eq_getElem?_getD,List.getElem?_map,List.getElem?_eq_getElem hi,fL hi];rfl
theorem comp_map {X:Type} {tt:MT} {te:ME} {ee:D->En} (enc:X->D) (p:X->Bool) (g:X->D):∀(xs:List X),(∀x∈xs,tt (ee (enc x)) h=.ok (p x) h/\(p x=true->te (ee (enc x)) h=.ok (g x) h)) →
  cy tt te ee (xs.map enc) h=.ok ((xs.filter p).map g) h
 | [],_=>rfl
 | x::xs,st=>by
  obtain⟨e1,e2⟩:=st x List.mem_cons_self
  have ih:=comp_map enc p g xs fun y hy=>st y (List.mem_cons_of_mem _ hy)
  rw[List.map_cons,cy,e1,bH]
  cases hp:p x with
  | false=>rw[if_neg Bool.false_ne_true,ih,List.filter_cons_of_neg (by simp[hp])]
  | true=>rw[if_pos rfl,e2 hp,bH,ih,bH,List.filter_cons_of_pos hp,List.map_cons]
theorem Ct {X:Type} {te:ME} {ee:D->En} (enc:X->D) (g:X->D) (xs:List X) (st:∀x∈xs,te (ee (enc x)) h=.ok (g x) h):cy tt1 te ee (xs.map enc) h=.ok (xs.map g) h:=by
 have:=comp_map (tt:=tt1) (ee:=ee) (h:=h) enc (fun _=>true) g xs fun x hx=>⟨rfl,fun _=>st x hx⟩
 rw[List.filter_eq_self.mpr fun _ _=>rfl] at this
 exact this
theorem fR (n:Nat):cM 0 n=(List.range n).map fun(i:Nat)=>D.int i:=by
 unfold cM
 apply List.map_congr_left
 intro i _
 rw[Int.zero_add]
theorem vR {n:Nat} {tt:MT} {te:ME} {ee:D->En} (p:Nat->Bool) (g:Nat->D) (st:∀i,i<n->tt (ee (.int (i:Nat))) h=.ok (p i) h/\(p i=true->te (ee (.int (i:Nat))) h=.ok (g i) h)) :
  cy tt te ee (cM 0 n) h=.ok (((List.range n).filter p).map g) h:=by
 rw[fR,comp_map (fun(i:Nat)=>D.int i) p g (List.range n) fun i hi=>st i (List.mem_range.mp hi)]
theorem zX {n:Nat} {te:ME} {ee:D->En} (g:Nat->D) (st:∀i,i<n->te (ee (.int (i:Nat))) h=.ok (g i) h) :
  cy tt1 te ee (cM 0 n) h=.ok ((List.range n).map g) h:=by
 rw[fR,Ct (fun(i:Nat)=>D.int i) g (List.range n) fun i hi=>st i (List.mem_range.mp hi)]
theorem yN {σ:Type} {tg:D->En->Hh->R En} {body:MS} (enc:Nat->D) (n:Nat) (E:σ->En) (G:σ->Hh) (f:σ->Nat->σ) (I:Nat->σ->Prop) (s:σ) (i0:I 0 s)
  (st:∀i s,i<n->I i s->I (i+1) (f s i)/\((tg (enc i) (E s) (G s)).bind body=.ok (.nx (E (f s i))) (G (f s i))\/(tg (enc i) (E s) (G s)).bind body=.ok (.ct (E (f s i))) (G (f s i)))) :
  eR tg body ((List.range n).map enc) (E s) (G s)=.ok (.nx (E ((List.range n).foldl f s))) (G ((List.range n).foldl f s))/\I n ((List.range n).foldl f s):=by
 have key:∀(k:Nat) (xs:List Nat) (s:σ),(∀j x,xs[j]?=some x->x=k+j/\x<n)->I k s->eR tg body (xs.map enc) (E s) (G s)=.ok (.nx (E (xs.foldl f s))) (G (xs.foldl f s))/\I (k+xs.length) (xs.foldl f s):=by
  intro k xs
  induction xs generalizing k with
  | nil=>intro s _ i;exact⟨rfl,i⟩
  | cons x xs ih=>
   intro s hx i
   obtain⟨h1,h2⟩:=hx 0 x rfl
   have h1:x=k:=by omega
   subst h1
   obtain⟨i1,e⟩:=st x s h2 i
   obtain⟨e2,i2⟩:=ih (x+1) (f s x) (fun j y hj=>by have:=hx (j+1) y hj;omega) i1
   refine⟨?_,by rw[List.length_cons,List.foldl_cons];rw[show x+(xs.length+1)=x+1+xs.length by omega];exact i2⟩
   rw[List.map_cons,eR,<- bS]
   rcases e with e | e<;>rw[e]<;>exact e2
 have hr:∀j x,(List.range n)[j]?=some x->x=0+j/\x<n:=fun j x hj=>by
  have hl:j<n:=by
   by_cases hl:j<n
   ·exact hl
   ·rw[List.getElem?_eq_none (by simpa using hl)] at hj;cases hj
  rw[List.getElem?_range hl] at hj
  cases hj
  omega
 have:=key 0 (List.range n) s hr i0
 rw[List.length_range,Nat.zero_add] at this
 exact this
theorem Bp {σ:Type} {tg:D->En->Hh->R En} {body:MS} (lo:Int) (n:Nat) (E:σ->En) (G:σ->Hh) (f:σ->Nat->σ) (I:Nat->σ->Prop) (s:σ) (i0:I 0 s)
  (st:∀i s,i<n->I i s->I (i+1) (f s i)/\((tg (.int (lo+(i:Nat))) (E s) (G s)).bind body=.ok (.nx (E (f s i))) (G (f s i))\/(tg (.int (lo+(i:Nat))) (E s) (G s)).bind body=.ok (.ct (E (f s i))) (G (f s i)))) :
  eR tg body (cM lo n) (E s) (G s)=.ok (.nx (E ((List.range n).foldl f s))) (G ((List.range n).foldl f s))/\I n ((List.range n).foldl f s):=
 yN (fun(i:Nat)=>D.int (lo+i)) n E G f I s i0 st
noncomputable def Wf (h:Hh):Prop:=h.all (jS h.length)=true
mutual
theorem An {j k:Nat} (h:j<=k):∀(d:D),g8 j d=true->g8 k d=true
 | .non,_=>rfl | .bl _,_=>rfl | .int _,_=>rfl | .str _,_=>rfl | .fn _,_=>rfl | .edic,_=>rfl | .exc _ _,_=>rfl
 | .clo _ ds,e=>by simp only[g8] at e ⊢;exact cV h ds e
 | .ref n,e=>by simp only[g8,decide_eq_true_eq] at e ⊢;omega
 | .tup ds,e=>by simp only[g8] at e ⊢;exact cV h ds e
 | .frl ds,e=>by simp only[g8] at e ⊢;exact cV h ds e
 | .scr ds,e=>by simp only[g8] at e ⊢;exact cV h ds e
theorem cV {j k:Nat} (h:j<=k):∀(ds:List D),bD j ds=true->bD k ds=true
 | [],_=>rfl
 | d::ds,e=>by
  simp only[bD,Bool.and_eq_true] at e ⊢
  exact⟨An h d e.1,cV h ds e.2⟩
end
theorem zm {j k:Nat} (h:j<=k) (o:O) (e:jS j o=true):jS k o=true:=by
 cases o with
 | lst ds=>exact cV h ds e
 | set n=>rfl
 | dic kvs=>exact cV h _ e
 | dit kvs=>exact cV h _ e
theorem g9 {k:Nat}:∀{ds:List D},(∀d∈ds,g8 k d=true)->bD k ds=true
 | [],_=>rfl
 | d::ds,h=>by simp only[bD,Bool.and_eq_true];exact⟨h d List.mem_cons_self,g9 fun e he=>h e (List.mem_cons_of_mem _ he)⟩
@[simp] theorem lT {X:Type} {k:Nat} {f:X->D} {xs:List X} (h:∀x,g8 k (f x)=true):bD k (xs.map f)=true:=g9 fun d hd=>by
 obtain⟨x,_,rfl⟩:=List.mem_map.mp hd;exact h x
@[simp] theorem pW {k:Nat} {ns:List Int}:bD k (ns.map D.int)=true:=lT fun _=>rfl
theorem Wf.nil:Wf []:=rfl
theorem Wf.app {h:Hh} {o:O} (w:Wf h) (l:jS (h.length+1) o=true):Wf (h++[o]):=by
 unfold Wf at w ⊢
 rw[List.all_append,List.length_append,List.length_singleton]
 simp only[List.all_cons,List.all_nil,Bool.and_true,Bool.and_eq_true]
 refine⟨?_,l⟩
 rw[List.all_eq_true] at w ⊢
 exact fun x hx=>zm (Nat.le_succ _) x (w x hx)
noncomputable def deep:Nat->D->Bool
 | 0,_=>false
 | f+1,d=>match d with
  | .ref _=>false
  | .scr _=>false
  | .tup ds=>ds.all (deep f)
  | .frl ds=>ds.all (deep f)
  | .clo _ ds=>bD 0 ds
  | _=>true
theorem gA {f:D->Option D}:∀{ds:List D},(∀d∈ds,f d=some d)->kh f ds=some ds
 | [],_=>rfl
 | d::ds,h=>by simp only[kh,h d List.mem_cons_self,gA fun e he=>h e (List.mem_cons_of_mem _ he)]
theorem dJ {k:Nat} {h:Hh}:∀(f:Nat) (d:D),deep f d=true->eV k h f d=some d
 | 0,_,e=>by cases e
 | f+1,d,e=>by
  unfold deep at e
  unfold eV
  cases d with
  | ref n=>cases e
  | scr n=>cases e
  | tup ds=>simp only[List.all_eq_true] at e;show Option.map D.tup (kh (eV k h f) ds)=_;rw[gA (f:=eV k h f) fun d hd=>dJ f d (e d hd)];rfl
  | frl ds=>simp only[List.all_eq_true] at e;show Option.map D.frl (kh (eV k h f) ds)=_;rw[gA (f:=eV k h f) fun d hd=>dJ f d (e d hd)];rfl
  | clo g ds=>show(if bD 0 ds=true then some (D.clo g ds) else none)=_;rw[if_pos (show bD 0 ds=true from e)]
  | _=>rfl
theorem gr {d:D} {t:Hh} (w:Wf h) (e:deep 8 d=true):bU h d (h++t)=.ok d h:=by
 unfold bU
 rw[List.take_left' rfl,if_pos (show h.all (jS h.length)=true from w),dJ 8 d e]
theorem rL {ds:List D} {t:Hh} (w:Wf h) (e:ds.all (deep 7)=true):bU h (.ref h.length) (h++.lst ds::t)=.ok (.frl ds) h:=by
 unfold bU
 rw[List.take_left' rfl,if_pos (show h.all (jS h.length)=true from w)]
 have:eV h.length (h++.lst ds::t) 8 (.ref h.length)=some (.frl ds):=by
  unfold eV
  simp only[Nat.lt_irrefl,if_false,cb]
  rw[List.all_eq_true] at e
  rw[gA fun d hd=>dJ 7 d (e d hd)];rfl
 rw[this]
theorem Av {ds:List D} {t:Hh} (w:Wf h) (e:ds.all (deep 8)=true):hZ h (.ref h.length) (h++.lst ds::t)=.ok (.ref h.length) (h++[.lst ds]):=by
 unfold hZ
 rw[List.take_left' rfl,if_pos (show h.all (jS h.length)=true from w)]
 simp only[Nat.le_refl,if_true,cb]
 rw[List.all_eq_true] at e
 rw[gA fun d hd=>dJ 8 d (e d hd)]
@[simp] theorem I_ {f:Nat} {i:Int}:deep (f+1) (.int i)=true:=rfl
@[simp] theorem JU {f:Nat} {i:Bool}:deep (f+1) (.bl i)=true:=rfl
@[simp] theorem Jd {f:Nat} {i:Str}:deep (f+1) (.str i)=true:=rfl
@[simp] theorem HY {f:Nat}:deep (f+1) .non=true:=rfl
@[simp] theorem HQ {f:Nat}:deep (f+1) .edic=true:=rfl
@[simp] theorem IW {f:Nat} {ds:List D}:deep (f+1) (.tup ds)=ds.all (deep f):=rfl
@[simp] theorem Jx {f:Nat} {ds:List D}:deep (f+1) (.frl ds)=ds.all (deep f):=rfl
end
noncomputable def Ok {β:Type} (r:R β) (Q:β->Hh->Prop):Prop:=∃b h,r=.ok b h/\Q b h
section
variable {β γ:Type} {Q:β->Hh->Prop} {h h1 h2:Hh}
theorem Ok.mono {r:R β} {Q':β->Hh->Prop} (o:Ok r Q) (q:∀b h,Q b h->Q' b h):Ok r Q':=let ⟨b,h,e,z⟩:=o;⟨b,h,e,q b h z⟩
end
theorem sO {X:Type} {tg:D->En->Hh->R En} {body:MS} {QS:Fl->Hh->Prop} (enc:X->D) (I:En->Hh->Prop) :
  ∀(xs:List X) (env:En) (h:Hh),I env h->(∀x e h,x∈xs->I e h->Ok ((tg (enc x) e h).bind body) fun fl h2=>match fl with
   | .nx e=>I e h2
   | .ct e=>I e h2
   | .bk e=>QS (.nx e) h2
   | .rt d=>QS (.rt d) h2)->(∀e h,I e h->QS (.nx e) h)->Ok (eR tg body (xs.map enc) env h) QS
 | [],env,h,i,_,q=>⟨_,_,rfl,q _ _ i⟩
 | x::xs,env,h,i,st,q=>by
  obtain⟨fl,h2,e,z⟩:=st x env h List.mem_cons_self i
  rw[List.map_cons,eR,<- bS,e,bH]
  cases fl with
  | nx e'=>exact sO enc I xs e' h2 z (fun y e h hy=>st y e h (List.mem_cons_of_mem _ hy)) q
  | ct e'=>exact sO enc I xs e' h2 z (fun y e h hy=>st y e h (List.mem_cons_of_mem _ hy)) q
  | bk e=>exact⟨_,_,rfl,z⟩
  | rt d=>exact⟨_,_,rfl,z⟩
end L2.FE
namespace L2.FE
open PySem PySem.Spec PyProof.Rows
noncomputable def Fi (h:Hh) (n:Nat):Option (List (Key × D)):=match h[n]? with
 | some (.dic kvs)=>some kvs
 | _=>none
noncomputable abbrev PD (K:PySem.W.Frag) (g:GG) (α:List Addr) (H:Hp):List (Key × D)->List (Key × V)->Prop:=Paired (fun(a:Key × D) (b:Key × V)=>a.1=b.1/\aI K g α H a.2 b.2)
section
variable {K:PySem.W.Frag} {g:GG} {α:List Addr} {H:Hp} {h:Hh}
theorem aS.dic {n:Nat} {p:Addr} {kvs:List (Key × D)} (r:aS K g α H h) (e:Fi h n=some kvs) (hp:α[n]?=some p):∃kws,H p=some (.dK kws)/\PD K g α H kvs kws:=by
 unfold Fi at e
 cases eo:h[n]? with
 | none=>rw[eo] at e;cases e
 | some o=>
  rw[eo] at e
  cases o with
  | dic k=>cases e;exact r.here n p _ hp eo
  | _=>cases e
theorem PD.ext {α':List Addr} {H':Hp} {kvs:List (Key × D)} {kws:List (Key × V)} (e:Ext K α H α' H') (r:PD K g α H kvs kws):PD K g α' H' kvs kws:=Paired.Jl e.toEx0 r
theorem aJ.dic {Q:VK} {kvs:List (Key × D)} {kws:List (Key × V)} {p:Addr} (w:aJ K g α H Q (.ref h.length) (h++[.dic kvs])) (r:aS K g α H h) (rs:PD K g α H kvs kws) (hp:H p=none):Q (.ref p) (upd H p (.dK kws)):=by
 have x:=Ext.push (K:=K) (α:=α) (o:=.dK kws) hp
 exact w _ _ _ x (r.push hp ⟨_,a8,rs.ext x⟩) (.ref (by rw[<- r.len];simp))
end
noncomputable def F8:D->Option Key
 | .int i=>some (.inl i)
 | .str x=>some (.inr x)
 | _=>none
theorem G5 {K:PySem.W.Frag} {g:GG} {α:List Addr} {H:Hp} {d:D} {v:V} {k:Key} (r:aI K g α H d v) (e:F8 d=some k):v=kV k:=by
 cases r<;>cases e<;>rfl
section
variable {X:Cx} {g:GG} {ε:EE} {o i e f:Expr} {mo mi me mf:ME} {pos:Pos}
theorem un1 {A:Around} (h:A.units+64<cLine):A.units+1<cLine:=by omega
end
end L2.FE
namespace L2
open PySem PySem.Spec PyProof.Rows
theorem CM (o:Obj) (f:Array Value->Array Value):(Obj.mapFields f o).cls=o.cls:=Obj.cls_mapFields _ _
theorem As (o:Obj) (f:Array Value->Array Value):(Obj.mapFields f o).dict=o.dict:=by
 unfold Obj.mapFields
 split<;>rfl
structure Gn (h h':Heap):Prop where
 up:h.UpToSlots h'
 there:∀b o,h.get? b=some o->∃o',h'.get? b=some o'
theorem Gn.trans {h h1 h2:Heap} (a:Gn h h1) (b:Gn h1 h2):Gn h h2:=⟨a.up.trans b.up,fun c o q=>let ⟨_,q'⟩:=a.there c o q;b.there c _ q'⟩
structure Fly (B:Heap) (l:List Env) (e:Addr) (C:Value) (dc:Option Addr) (fl:Value) (h:Heap):Prop where
 stays:B.StaysIn h
 new:B.get? e=none
 fr:h.FunFrames B l
 obj:∃oe ws T oT ts,h.get? e=some oe/\oe.cls=C/\oe.dict=dc/\oe.data=.fields ws/\ws[1]?=some (.ref T)/\B.get? T=none/\T≠e/\h.get? T=some oT/\oT.data=.fields ts/\ts[3]?=some fl
theorem Fly.pop {B:Heap} {env:Env} {l:List Env} {e:Addr} {C:Value} {dc:Option Addr} {fl:Value} {h:Heap} (x:Fly B (env::l) e C dc fl h):Fly B l e C dc fl h:=
 ⟨x.stays,x.new,x.fr.2.2,x.obj⟩
theorem Fly.there {B:Heap} {l:List Env} {e:Addr} {C:Value} {dc:Option Addr} {fl:Value} {h:Heap} (x:Fly B l e C dc fl h):∃oe ws,h.get? e=some oe/\oe.cls=C/\oe.dict=dc/\oe.data=.fields ws:=by
 obtain⟨oe,ws,T,oT,ts,a,b,c,d,_⟩:=x.obj
 exact⟨oe,ws,a,b,c,d⟩
section
variable {M:Model} {A:Around} {E:Value->Shared->Prop} {s:Shared} {B:Heap} {env:Env} {l outer:List Env} {e L:Addr} {C:Value} {dc:Option Addr} {fl:Value} {Q:Unit->Shared->Prop}
theorem t6 (x:Fly B l e C dc fl s.heap) (k:∀h',Fly B l e C dc .none h'->Gn s.heap h'->Q () { s with heap:=h' }):wpAny M A (setFlight (.ref e) none) Q E s:=by
 obtain⟨st,nw,fr,oe,ws,T,oT,ts,q1,q2,q3,q4,q5,q6,q7,q8,q9,q10⟩:=x
 have hlt:3<ts.size:=(Array.getElem?_eq_some_iff.mp q10).1
 have off:∀b,b≠T->(s.heap.update T (Obj.mapFields (·.setIfInBounds 3 ((none:Option Addr).elim Value.none fun f=>rawInt f)))).get? b=s.heap.get? b:=fun b z=>Heap.get?_update_other _ _ (Ne.symm z)
 have noF:∀b o,s.heap.get? b=some o->(∀vs,o.data≠.fields vs)->b≠T:=by
  rintro b o q n rfl
  rw[q8] at q;cases q;exact n ts q9
 unfold setFlight
 refine wpAny_bind (wpAny_field q1 q4 q5 ?_)
 rw[if_pos (by simp:(Value.ref T != Value.none)=true)]
 refine wpAny_setField q8 q9 hlt (k _ ⟨fun b o q=>(off b ?_).trans (st b o q),nw,fr.of_keeps fun b o q n=>⟨o,(off b (noF b o q n)).trans q,rfl⟩,oe,ws,T,_,_,(off e (Ne.symm q7)).trans q1,q2,q3,q4,q5,q6,q7,Heap.get?_update_self _ q8 (Obj.isFreed_of_fields (Obj.data_mapFields q9 _)),Obj.data_mapFields q9 _,by simp[hlt]⟩
  ⟨fun b o q n=>⟨o.slots,(off b (noF b o q n)).trans q⟩,fun b o q=>?_⟩)
 ·rintro rfl;rw[q6] at q;cases q
 ·by_cases z:b=T
  ·subst z;exact⟨_,Heap.get?_update_self _ q8 (Obj.isFreed_of_fields (Obj.data_mapFields q9 _))⟩
  ·exact⟨o,(off b z).trans q⟩
theorem rM {head:Value} {had:Bool} {oe:Obj} {ws:Array Value} (hA:A.frames=some (env::outer)) (fr:s.heap.FunFrames B (env::outer)) (hL:env.frame=some L) (q1:s.heap.get? e=some oe) (st:B.StaysIn s.heap) (nw:B.get? e=none) (q4:oe.data=.fields ws) (hlt:1<ws.size)
  (k:∀h',Fly B (env::outer) e oe.cls oe.dict (rawInt L) h'->Gn s.heap h'->Q () { s with heap:=h' }) :
  wpAny M A (do let fo ← frameOf env;let pl ← entryPlaceOf L had;let t ← EntryCells.newEntry head fo .none (rawInt L) .none pl;setField (.ref e) 1 t) Q E s:=by
 have hnf:e∉(env::outer).filterMap (·.frame):=fun z=>by
  obtain⟨_,o,ho,n⟩:=fr.mem z
  rw[q1] at ho;cases ho;exact n ws q4
 refine wpAny_bind (wpAny_frameOf_fun hA fr hL fun h1 so=>wpAny_bind (wpAny_entryPlaceOf fun pl hpl=>?_))
 obtain⟨z1,z2,z3⟩:=so
 unfold EntryCells.newEntry newFields
 refine wpAny_bind (wpAny_newObj_type ?_ (hpl.sizeOk5 _ _ _ _ _))
 have e1:h1.get? e=some oe:=by rw[z2 e hnf];exact q1
 have st1:B.StaysIn h1:=fun b o q=>by
  rw[z2 b fun z=>by rw[(fr.mem z).1] at q;cases q]
  exact st b o q
 generalize hT:({ cls:=.type "traceback", dict:=none,data:=.fields ([head,.ref L,.none,rawInt L,.none]++(if pl.isEmpty then List.replicate 6 Value.none else pl)).toArray }:Obj)=oT
 have e2:(h1.push oT).get? e=some oe:=Heap.get?_push_of_some _ e1
 have dT:oT.data=.fields ([head,.ref L,.none,rawInt L,.none]++(if pl.isEmpty then List.replicate 6 Value.none else pl)).toArray:=by rw[<- hT]
 have ne:h1.objs.size≠e:=Nat.ne_of_gt (Heap.lt_size e1)
 refine wpAny_setField e2 q4 hlt (k _ ?_ ?_)
 ·have off:∀b o,b≠e->h1.get? b=some o->((h1.push oT).update e (Obj.mapFields (·.setIfInBounds 1 (Value.ref h1.objs.size)))).get? b=some o:=fun b o n q=>by
   rw[Heap.get?_update_other _ _ (Ne.symm n)]
   exact Heap.get?_push_of_some _ q
  have noF:∀b o,h1.get? b=some o->(∀vs,o.data≠.fields vs)->b≠e:=by
   rintro b o q n rfl
   rw[e1] at q;cases q;exact n ws q4
  refine⟨fun b o q=>off b o ?_ (st1 b o q),nw,?_,_,_,h1.objs.size,oT,_,Heap.get?_update_self _ e2 (Obj.isFreed_of_fields (Obj.data_mapFields q4 _)),CM _ _,As _ _,Obj.data_mapFields q4 _,by simp[hlt],?_,ne,?_,dT,?_⟩
  ·rintro rfl;rw[nw] at q;cases q
  ·exact fr.of_keeps fun b o q n=>by
    obtain⟨sl,q'⟩:=z3 b o q
    exact⟨_,off b _ (noF b _ q' n) q',rfl⟩
  ·cases q:B.get? h1.objs.size with
   | none=>rfl
   | some o=>exact absurd (Heap.lt_size (st1 _ _ q)) (Nat.lt_irrefl _)
  ·rw[Heap.get?_update_other _ _ (Ne.symm ne)]
   rw[<- hT]
   exact Heap.get?_push_size h1 rfl
  ·first | (simp;done) | (rcases hpl with rfl | ⟨_,_,_,_,_,_,_,rfl⟩<;>simp)
 ·refine⟨fun b o q n=>?_,fun b o q=>?_⟩
  ·obtain⟨sl,q'⟩:=z3 b o q
   refine⟨sl,?_⟩
   rw[Heap.get?_update_other _ _ ?_]
   ·exact Heap.get?_push_of_some _ q'
   ·rintro rfl
    rw[q1] at q;cases q;exact n ws q4
  ·obtain⟨sl,q'⟩:=z3 b o q
   by_cases z:b=e
   ·subst z;exact⟨_,Heap.get?_update_self _ e2 (Obj.isFreed_of_fields (Obj.data_mapFields q4 _))⟩
   ·exact⟨_,by rw[Heap.get?_update_other _ _ (Ne.symm z)];exact Heap.get?_push_of_some _ q'⟩
theorem zy {oe:Obj} {ws:Array Value} (hA:A.frames=some (env::outer)) (fr:s.heap.FunFrames B (env::outer)) (hL:env.frame=some L) (q1:s.heap.get? e=some oe) (st:B.StaysIn s.heap) (nw:B.get? e=none) (q4:oe.data=.fields ws) (q5:ws[1]?=some .none)
  (k:∀h',Fly B (env::outer) e oe.cls oe.dict (rawInt L) h'->Gn s.heap h'->Q () { s with heap:=h' }):wpAny M A (noteFrame (.ref e) env) Q E s:=by
 unfold noteFrame
 simp only[hL]
 refine wpAny_bind (wpAny_field q1 q4 q5 ?_)
 rw[if_neg (by decide)]
 exact rM hA fr hL q1 st nw q4 (Array.getElem?_eq_some_iff.mp q5).1 k
theorem BJ (hA:A.frames=some (env::outer)) (hL:env.frame=some L) (x:Fly B (env::outer) e C dc .none s.heap)
  (k:∀h',Fly B (env::outer) e C dc (rawInt L) h'->Gn s.heap h'->Q () { s with heap:=h' }):wpAny M A (noteFrame (.ref e) env) Q E s:=by
 obtain⟨st,nw,fr,oe,ws,T,oT,ts,q1,q2,q3,q4,q5,q6,q7,q8,q9,q10⟩:=x
 have off:∀b,b≠T->(s.heap.update T (Obj.mapFields (·.setIfInBounds 3 Value.none))).get? b=s.heap.get? b:=fun b z=>Heap.get?_update_other _ _ (Ne.symm z)
 have noF:∀b o,s.heap.get? b=some o->(∀vs,o.data≠.fields vs)->b≠T:=by
  rintro b o q n rfl
  rw[q8] at q;cases q;exact n ts q9
 unfold noteFrame
 simp only[hL]
 refine wpAny_bind (wpAny_field q1 q4 q5 ?_)
 rw[if_pos (by simp:(Value.ref T != Value.none)=true)]
 refine wpAny_bind (wpAny_field q8 q9 q10 ?_)
 rw[if_neg (by simp[rawInt]:¬ ((Value.none == rawInt L)=true))]
 refine wpAny_bind (wpAny_setField q8 q9 (Array.getElem?_eq_some_iff.mp q10).1 ?_)
 refine rM (B:=B) (oe:=oe) hA (fr.of_keeps fun b o q n=>⟨o,(off b (noF b o q n)).trans q,rfl⟩) hL ((off e (Ne.symm q7)).trans q1) (fun b o q=>(off b ?_).trans (st b o q)) nw q4 (Array.getElem?_eq_some_iff.mp q5).1 fun h' y u=>?_
 ·rintro rfl;rw[q6] at q;cases q
 ·subst q2 q3
  refine k h' y ⟨fun b o q n=>u.up b o ((off b (noF b o q n)).trans q) n,fun b o q=>?_⟩
  by_cases z:b=T
  ·subst z;exact u.there _ _ (Heap.get?_update_self _ q8 (Obj.isFreed_of_fields (Obj.data_mapFields q9 _)))
  ·exact u.there b o ((off b z).trans q)
end
theorem AS {P:Program} {w:World} {H:Hp} {h:Heap} {a:Addr} {o:HO} (x:bI P w H h a o):∃u,h.get? a=some u:=by
 cases o with
 | lst xs=>obtain⟨_,_,_,_,e⟩:=x;exact⟨_,e⟩
 | tup xs=>obtain⟨_,_,_,ob,e,_⟩:=x;exact⟨_,e⟩
 | dK kvs=>obtain⟨_,_,_,_,o,_,_,e,_⟩:=x;exact⟨_,e⟩
 | dT kvs=>obtain⟨_,_,_,_,o,_,_,e,_⟩:=x;exact⟨_,e⟩
 | set S n=>obtain⟨o,_,_,_,e,_⟩:=x;exact⟨_,e⟩
 | ins C dx fs=>obtain⟨_,_,_,e,_⟩:=x;exact⟨_,e⟩
 | own y=>exact x
 | xd fs=>obtain⟨_,⟨_,_,_,e,_⟩,_⟩:=x;exact⟨_,e⟩
 | rng lo hi=>obtain⟨_,_,_,e⟩:=x;exact⟨_,e⟩
 | frz ob u=>obtain⟨e,_⟩:=x;exact⟨_,e⟩
 | tbl ps=>exact⟨_,(show h.get? a=some _ from x)⟩
 | met f y=>exact⟨_,(show h.get? a=some _ from x)⟩
 | ext φ=>obtain⟨_,e,_⟩:=x;exact e
noncomputable def Arr (B:Heap) (l:List Env) (e:Addr) (C:Value) (dc:Option Addr) (h:Heap):Prop:=
 (B.StaysIn h/\B.get? e=none/\h.FunFrames B l/\∃oe ws,h.get? e=some oe/\oe.cls=C/\oe.dict=dc/\oe.data=.fields ws/\ws[1]?=some .none)\/Fly B l e C dc .none h
theorem Arr.stays {B:Heap} {l:List Env} {e:Addr} {C:Value} {dc:Option Addr} {h:Heap} (x:Arr B l e C dc h):B.StaysIn h:=x.elim (·.1) (·.stays)
theorem Arr.new {B:Heap} {l:List Env} {e:Addr} {C:Value} {dc:Option Addr} {h:Heap} (x:Arr B l e C dc h):B.get? e=none:=x.elim (·.2.1) (·.new)
theorem Arr.fr {B:Heap} {l:List Env} {e:Addr} {C:Value} {dc:Option Addr} {h:Heap} (x:Arr B l e C dc h):h.FunFrames B l:=x.elim (·.2.2.1) (·.fr)
section
variable {M:Model} {A:Around} {E:Value->Shared->Prop} {s:Shared} {B:Heap} {env:Env} {outer:List Env} {e L:Addr} {C:Value} {dc:Option Addr} {Q:Unit->Shared->Prop}
theorem uR (hA:A.frames=some (env::outer)) (hL:env.frame=some L) (x:Arr B (env::outer) e C dc s.heap)
  (k:∀h',Fly B (env::outer) e C dc (rawInt L) h'->Gn s.heap h'->Q () { s with heap:=h' }):wpAny M A (noteFrame (.ref e) env) Q E s:=by
 rcases x with⟨st,nw,fr,oe,ws,q1,rfl,rfl,q4,q5⟩ | x
 ·exact zy hA fr hL q1 st nw q4 q5 k
 ·exact BJ hA hL x k
theorem zK (hA:A.frames=some (env::outer)) (hL:env.frame=some L) (x:Arr B (env::outer) e C dc s.heap)
  (k:∀h',Fly B outer e C dc .none h'->Gn s.heap h'->Q () { s with heap:=h' }):wpAny M A (leaving env (.ref e)) Q E s:=by
 unfold leaving
 exact wpAny_bind (uR hA hL x fun h1 x1 u1=>t6 x1 fun h2 x2 u2=>k h2 x2.pop (u1.trans u2))
end
structure Cov (B:Heap) (fs:List Addr) (aG:Hp) (h₀:Heap) (H':Hp):Prop where
 trk:∀b o,H' b=some o->∃u,B.get? b=some u
 old:∀b o,h₀.get? b=some o->aG b=none->b∉fs->B.get? b=some o
noncomputable def CXE (P:Program) (w:World):CXT:=fun outer H s E e s'=>∃(H':Hp) (B:Heap) (a:Addr) (C:Value) (dc:Option Addr),e=.ref a/\s'.os=s.os/\AllBare s'.gens/\Un (frs outer) [] H H' s.heap s'.heap/\HOk P w H' s'.heap/\Fly B outer a C dc .none s'.heap/\Cov B (frs outer) H s.heap H'/\E C dc H'
noncomputable def XeB (X:Cx) (E:XK) (e:Value) (s':Shared):Prop:=∃(σ:St) (H':Hp) (B:Heap) (a:Addr) (C:Value) (dc:Option Addr),e=.ref a/\Inv X [] σ H' s'/\Arr B X.stack a C dc s'.heap/\Cov B X.fs X.aG X.az.heap H'/\(∀p∈X.pn,B.get? p.1=some p.2)/\E C dc H'
noncomputable def ie (X:Cx) (E:XK):Prop:=∀e s',XeB X E e s'->X.xe e s'
structure Plain (X:Cx):Prop where
 ex:X.ex=[]
 stk:X.stack=X.env::X.outer/\X.env.frame=some X.env.locals
theorem HOk.flew {P:Program} {w:World} {H':Hp} {B h h':Heap} (x:HOk P w H' h) (tr:∀b o,H' b=some o->∃u,B.get? b=some u) (st:B.StaysIn h) (st':B.StaysIn h'):HOk P w H' h':=fun a o e=>
 (x a o e).jU (fun b u hb q=>by
  obtain⟨u',q'⟩:∃u,B.get? b=some u:=by
   rcases hb with rfl | hb
   ·exact tr _ _ e
   ·exact tr _ _ hb
  have:=st _ _ q'
  rw[q] at this;cases this
  exact st' _ _ q') (fun _ q=>q) fun _ _ q=>q
theorem Inv.drop {X:Cx} {pins:List (Addr × Obj)} {σ:St} {H:Hp} {s:Shared} (I:Inv X pins σ H s):Inv X [] σ H s:=
 ⟨I.ok,I.os,I.bare,I.base,I.loc,I.cell,I.free,I.di,fun p hp=>I.pin p (by simp only[List.append_nil] at hp;exact List.mem_append_left _ hp),I.hok,I.len⟩
theorem yE {fs:List Addr} {aG H':Hp} {B h₀ h h':Heap} (u:Un fs [] aG H' h₀ h) (c:Cov B fs aG h₀ H') (st':B.StaysIn h') (g:Gn h h') (nf:∀b∈fs,∀o,h.get? b=some o->∀vs,o.data≠.fields vs):Un fs [] aG H' h₀ h':=
 ⟨fun b o e n hb _=>st' b o (c.old b o e n hb),fun b o e n hb hx=>by
  obtain⟨sl,q⟩:=u.slot b o e n hb hx
  obtain⟨sl',q'⟩:=g.up b _ q (nf b hb _ q)
  exact⟨sl',q'⟩,u.free,fun b o e hx=>by
  obtain⟨o',q⟩:=u.there b o e hx
  exact g.there b o' q,u.ku,u.jT,u.kB⟩
theorem Inv.flew {X:Cx} {σ:St} {H':Hp} {s':Shared} {B h':Heap} {t':Nat} (I:Inv X [] σ H' s') (p:Plain X) (c:Cov B X.fs X.aG X.az.heap H') (pn:∀p∈X.pn,B.get? p.1=some p.2) (st:B.StaysIn s'.heap) (fr:s'.heap.FunFrames B X.stack) (st':B.StaysIn h') (g:Gn s'.heap h'):Inv X [] σ H' { s' with heap:=h',toks:=t' }:=by
 have cellK:∀{c':Addr} {v:Option Value},s'.heap.IsCell c' v->h'.IsCell c' v:=fun{c' v} ⟨o,ho,hd⟩=>by
  obtain⟨sl,q⟩:=g.up c' o ho fun vs z=>by rw[hd] at z;cases z
  exact⟨_,q,hd⟩
 refine⟨I.ok,I.os,I.bare,?_,?_,fun x c' e=>let ⟨v,q⟩:=I.cell x c' e;⟨v,cellK q⟩,I.free,I.di,fun q hq=>?_,I.hok.flew c.trk st st',I.len⟩
 ·have u:=I.base
  rw[p.ex] at u ⊢
  refine yE u c st' g fun b hb o q vs z=>?_
  have:b∈X.stack.filterMap (·.frame):=by
   rw[p.stk.1,List.filterMap_cons,p.stk.2]
   exact List.mem_cons_of_mem _ hb
  obtain⟨_,o',q',n⟩:=fr.mem this
  rw[q] at q';cases q';exact n vs z
 ·obtain⟨m,hn,k⟩:=I.loc
  refine⟨m,g.up.ns hn,fun i x v a b c=>?_⟩
  obtain⟨u,r,l⟩:=k i x v a b c
  refine⟨u,r,l.imp (fun z=>z) fun⟨z,c',e,q⟩=>⟨z,c',e,cellK q⟩⟩
 ·have:=I.pin q hq
  rw[List.append_nil] at hq
  exact⟨st' _ _ (pn q hq),this.2⟩
section
variable {P:Program} {w:World} {K:PySem.W.Frag} {mg:Str->Option Value} {base:Heap}
theorem sN {N:List Str} {qual:Str} {scope:Scope} {f:Addr} {cd:Value} {A:Around} {outer:List Env} {s:Shared} {H:Hp} {E:XK}:ie (dE (CXE P w) P w K mg base N qual scope f cd A outer s H E) E:=by
 rintro e s' ⟨σ,H',B,a,C,dc,rfl,I,ar,c,_,q⟩
 have fr:=ar.fr
 have hA:(dE (CXE P w) P w K mg base N qual scope f cd A outer s H E).A.frames=some (envOfC qual scope s.heap.objs.size f cd::outer):=I.ok.frames
 refine zK hA rfl ar fun h' x g=>?_
 refine⟨H',B,a,C,dc,rfl,I.os,I.bare,yE (show Un (frs outer) [] H H' s.heap s'.heap from I.base) c x.stays g fun b hb o q vs z=>?_,I.hok.flew c.trk ar.stays x.stays,x,c,q⟩
 have:b∈(envOfC qual scope s.heap.objs.size f cd::outer).filterMap (·.frame):=List.mem_cons_of_mem _ hb
 obtain⟨_,o',q',n⟩:=(show s'.heap.FunFrames B (envOfC qual scope s.heap.objs.size f cd::outer) from fr).mem this
 rw[q] at q';cases q';exact n vs z
end
theorem wL {X:Cx} {E:XK} (p:Plain X) (fl:ie X E):Passes (CXE X.prog X.w) X E:=by
 rintro pins σ H s e s' I ⟨H',B,a,C,dc,rfl,os,bare,un,hok,x,c,q⟩
 refine fl _ _ ⟨σ,H',B,a,C,dc,rfl,(I.sD os un hok bare fun b z=>absurd z (by simp)).drop,.inr x,⟨c.trk,fun b o e n hb=>?_⟩,fun p' hp=>?_,q⟩
 rotate_left
 ·obtain⟨q1,q2,q3,q4,q5⟩:=I.pin p' (List.mem_append_left _ hp)
  refine c.old _ _ q1 q2 fun z=>?_
  rcases List.mem_cons.mp (I.eX _ z) with z | z
  ·exact q3 z
  ·exact q4 z
 have hx:b∉X.ex:=by rw[p.ex];simp
 refine c.old b o (I.base.keep b o e n hb hx) (I.base.free b o e n hx) fun z=>?_
 rcases List.mem_cons.mp (I.eX b z) with rfl | z
 ·exact absurd (Heap.lt_size e) (Nat.not_lt_of_le I.ok.above)
 ·exact hb z
theorem AD {X:Cx} {E:XK} {pins:List (Addr × Obj)} {σ:St} {H:Hp} {s:Shared} {a:Addr} {h':Heap} {C:Value} {dc:Option Addr} {oe:Obj} {ws:Array Value} {t':Nat} (p:Plain X) (fl:ie X E) (I:Inv X pins σ H s) (k:∀b o,s.heap.get? b=some o->h'.get? b=some o)
  (nw:s.heap.get? a=none) (q1:h'.get? a=some oe) (q2:oe.cls=C) (q3:oe.dict=dc) (q4:oe.data=.fields ws) (q5:ws[1]?=some .none) (q:E C dc H):X.xe (.ref a) { s with heap:=h',toks:=t' }:=by
 have fr:=I.stack
 have nfr:∀b,b∈frs X.stack->H b=none:=I.jM
 refine fl _ _ ⟨σ,H,PySem.W.hideAll s.heap (frs X.stack),a,C,dc,rfl,(I.kept k).drop,.inl ⟨fun b o z=>k b o (PySem.W.of_hideAll _ z),?_,?_,oe,ws,q1,q2,q3,q4,q5⟩,⟨fun b o z=>?_,fun b o e n hb=>?_⟩,fun p' hp=>?_,q⟩
 rotate_right
 ·obtain⟨q1,q2,q3,q4,q5⟩:=I.pin p' (List.mem_append_left _ hp)
  refine PySem.W.hideAll_get _ q1 fun z=>?_
  rcases List.mem_cons.mp (I.eX _ z) with z | z
  ·exact q3 z
  ·exact q4 z
 ·cases z:(PySem.W.hideAll s.heap (frs X.stack)).get? a with
  | none=>rfl
  | some o=>have:=PySem.W.of_hideAll _ z;rw[nw] at this;cases this
 ·exact(PySem.W.funFrames_hide fr fun env he b hb=>List.mem_filterMap.mpr ⟨env,he,hb⟩).of_keeps fun b o z _=>⟨o,k b o z,rfl⟩
 ·obtain⟨u,hu⟩:=AS (I.hok b o z)
  exact⟨u,PySem.W.hideAll_get _ hu fun hm=>by rw[nfr b hm] at z;cases z⟩
 ·have hx:b∉X.ex:=by rw[p.ex];simp
  refine PySem.W.hideAll_get _ (I.base.keep b o e n hb hx) fun z=>?_
  rcases List.mem_cons.mp (I.eX b z) with rfl | z
  ·exact absurd (Heap.lt_size e) (Nat.not_lt_of_le I.ok.above)
  ·exact hb z
noncomputable abbrev bmV:List Value:=[.type "ValueError", .type "Exception", .type "BaseException", .type "object"]
theorem DG {K:PySem.W.Frag} {h:Heap} {C:Addr} {bmB:List Value} {newId:String} (X:K.In h) (q:PySem.W.excIn K C bmB newId=true) :
  ∃bm N nm q' bs hdct sn sub ab col dd k0 k1 k2 k3 k5 mN,h.get? C=some (excClassObj nm q' C N bs bm hdct sn sub ab col dd k0 k1 k2 k3 k5 newId)/\h.Ns N mN/\mN "__init__" = none/\OwnTail h bmB bm:=by
 unfold PySem.W.excIn at q
 split at q
 ·rename_i dd cd sl ho
  split at q
  ·rename_i C' bm k0 k1 k2 k3 n k5 hm hs
   simp only[Bool.and_eq_true,beq_iff_eq,Bool.not_eq_true'] at q
   obtain⟨⟨⟨⟨⟨rfl,rfl⟩,hdel⟩,ht⟩,hok⟩,hni⟩:=q
   obtain⟨nm,bs,mro,ns,qn,hd,sn,sub,ab,col,del⟩:=cd
   dsimp only at hm hdel hok hni
   subst hm hdel
   obtain rfl:sl = #[k0,k1,k2,k3,some (.builtin n),k5]:=by
    obtain⟨l⟩:=sl
    simp only at hs
    rw[hs]
   exact⟨bm,ns,nm,qn,bs,hd,sn,sub,ab,col,dd,k0,k1,k2,k3,k5,_,X _ _ ho,.of_isNs (PySem.W.isNs_of_in X hok),PySem.W.nsMap_none_of_in X hok hni,PySem.W.tail_of_in X ht⟩
  ·cases q
 ·cases q
theorem Gr {X:Cx} {E:XK} {pins:List (Addr × Obj)} {σ:St} {H:Hp} {s:Shared} {x:Str} {C:Addr} {np cpos pos:Pos} {Q:Flow->Shared->Prop} (p:Plain X) (fl:ie X E) (hc:X.calm=true) (I:Inv X pins σ H s) (hg:Gl X x) (hm:X.mg x=some (.ref C)) (hC:PySem.W.excIn X.K C bmV "ValueError.__new__" = true)
  (q:E (.ref C) none H) (hdb:(x == ("__debug__" : Str))=false:=by decide):wpAny (model X.prog X.w) X.A (exec (.Raise (some (.Call (.Name x np) [] [] cpos)) none pos) X.env) Q X.xe s:=by
 obtain⟨tl,N,nm,q',bs,hdct,sn,sub,ab,col,dd,k0,k1,k2,k3,k5,mN,hC',hN,hni,T⟩:=DG I.kIn hC
 refine wpAny_Raise_call_subT (C:=C) (nm:=nm) (q:=q') (N:=N) (bs:=bs) (bm:=tl) (hdct:=hdct) (sn:=sn) (sub:=sub) (ab:=ab) (col:=col) (dd:=dd) (k0:=k0) (k1:=k1) (k2:=k2) (k3:=k3) (k5:=k5) PySem.F.excBase_ValueError (mN:=mN) (T.hasType PySem.F.excBase_ValueError.hasBase) (I.ok.hd hc) rfl hni (iw I hg hm ⟨rfl,?_⟩ hdb)
 refine evalArgs_empty ⟨rfl,Nat.zero_le _,hC',hN,T,fun h' e me=>?_⟩
 obtain⟨t,he,_,_⟩:=me.there
 exact AD p fl I me.keeps me.new he rfl rfl rfl rfl q
end L2
namespace L2.FE
open PySem PySem.Spec PyProof.Rows
noncomputable def εX (g:GG) (E:XK):EE:=fun _ H' x=>∀(C:Addr) (dc:Option Addr),g x.cls=some C->XFs H' dc x.fs->E (.ref C) dc H'
noncomputable abbrev spE (K:PySem.W.Frag) (g:GG) (np:Nat) (m:MF):Sp:=spG K g (εX g) np m
noncomputable def lI (P:Program) (w:World) (K:PySem.W.Frag) (mg:Str->Option Value) (base:Heap) (g:GG) (x:Str) (k:Nat) (ps:List Str) (m:MF):Prop:=
 ∃f fd,cQ P w K mg base (CXE P w) k f fd ps (spE K g ps.length m)/\PySem.W.keepIn K (.ref f)=true/\Binds K fd ps []/\mg x=some (.ref f)
noncomputable def xB (x:Str):MS:=fun _ h=>.err ⟨x,[]⟩ h
noncomputable def noR {β:Type}:R β->R β
 | .ok b h=>.ok b h
 | _=>.bad
@[simp] theorem KU {β:Type} (b:β) (h:Hh):noR (.ok b h)=.ok b h:=rfl
noncomputable def up {β:Type} (m:En->Hh->R β):En->Hh->R β:=fun env h=>noR (m env h)
theorem pK {K:PySem.W.Frag} {g:GG} {ε:EE} {α:List Addr} {H:Hp} {β:Type} {r:R β} {k:β->Hh->Prop} (w:WQ K g ε α H (noR r) k):WQ K g E00 α H r k:=by
 cases r with
 | ok b h=>exact w
 | err x h=>exact w.elim
 | bad=>exact w.elim
section
variable {P:Program} {w:World} {K:PySem.W.Frag} {mg:Str->Option Value} {base:Heap} {g:GG}
theorem vE {x qual:Str} {st:Stmt} {f:Addr} {fd:FuncData} {N ps:List Str} {k:Nat} {mb:MS} (F:Fun K x qual st f fd) (S:aH N ps (ai st))
  (hb:∀(cdv:Value) (A:Around) (outer:List Env) (s:Shared) (H:Hp) (E:XK),cB k (A.deeper (envOfC qual (ai st) s.heap.objs.size f cdv)) →
   ie (dE (CXE P w) P w K mg base N qual (ai st) f cdv A outer s H E) E->Plain (dE (CXE P w) P w K mg base N qual (ai st) f cdv A outer s H E) →
   PassesOwn (model P w) (A.deeper (envOfC qual (ai st) s.heap.objs.size f cdv)) (envOfC qual (ai st) s.heap.objs.size f cdv) (dE (CXE P w) P w K mg base N qual (ai st) f cdv A outer s H E).xe →
   PSs (dE (CXE P w) P w K mg base N qual (ai st) f cdv A outer s H E) (bu st) (tMS K g (εX g E) mb)):cQ P w K mg base (CXE P w) (k+1) f fd ps (spE K g ps.length (cn N.length mb)):=by
 obtain⟨oc,od,kV,doc,pm,an,cdv,ct,osl,rfl,lk,hcd⟩:=F.ex
 refine Fg lk hcd S (fun vs H Q E h=>h.1) fun A outer s H vs Q E hr hsp=>⟨_,hb cdv A outer s H E hr sN ⟨rfl,rfl,rfl⟩ PassesOwn.leaving,?_⟩
 obtain⟨hl,α,ds,h,rs,hh,w⟩:=hsp
 refine tMS.use ⟨hh,jP rs⟩ w.bind fun fl h' H' α' e r kk=>?_
 cases fl with
 | nx e'=>exact fun σ' s'=>(show aJ K g α H Q .non h' from kk) _ H' α' e r .non
 | bk e'=>exact kk.elim
 | ct e'=>exact kk.elim
 | rt d=>exact fun v rv=>(show aJ K g α H Q d h' from kk) _ H' α' e r rv
end
section
variable {X:Cx} {g:GG} {E:XK} {ε:EE}
theorem E7 {x:Str} {C:Addr} {np cpos pos:Pos} (fl:ie X E) (pl:Plain X) (hc:X.calm=true) (hg:Gl X x) (hm:X.mg x=some (.ref C)) (hgx:g x=some C) (hC:PySem.W.excIn X.K C bmV "ValueError.__new__" = true) (hdb:(x == ("__debug__" : Str))=false:=by decide) :
  PS X (.Raise (some (.Call (.Name x np) [] [] cpos)) none pos) (tMS X.K g (εX g E) (xB x)):=fun pins s σ H D I ⟨α,env,h,sr,w⟩=>
 Gr pl fl hc I hg hm hC (w α H Ext.refl sr.heap C none hgx (.inl ⟨rfl,rfl⟩)) hdb
theorem dQ {k:Nat} {f:Addr} {fd:FuncData} {ps:List Str} {m:MF} {np:Nat} {x:Str} {p pos:Pos} {e:Expr} {es:List Expr} {mr:MA} (fl:ie X E) (pl:Plain X) (F:cQ X.prog X.w X.K X.mg X.base (CXE X.prog X.w) k f fd ps (spE X.K g np m)) (hr:cB k X.A) (hg:Gl X x) (hm:X.mg x=some (.ref f)) (hk:PySem.W.keepIn X.K (.ref f)=true) (hb:Binds X.K fd ps [])
  (ha:PA X (e::es) (tMA X.K g (εX g E) mr)) (hlen:∀env h ds h',mr env h=.ok ds h'->ds.length=np) (hdb:(x == ("__debug__" : Str))=false:=by decide) (he:starEach (e::es) X.env=(false,eval e X.env)::starEach es X.env:=by rfl) (hpl:(backTo pos (starEach es X.env)).any (·.1)=false:=by rfl) :
  PE X (.Call (.Name x p) (e::es) [] pos) (tM X.K g (εX g E) (aj m mr)):=
 PE.imp (yb F hr hg hm hk hb .nil (wL pl fl) ha hdb he hpl) fun σ H Q ⟨α,env,h,s,w⟩=>⟨α,env,h,s,w.bind.mono fun d1 h1 eq w1 v1 H1 α1 e1 hr1 r1=>by
  show spE X.K g np m (v1++[]) H1 Q E
  rw[List.append_nil]
  refine⟨?_,α1,d1,h1,r1,hr1,w1.post e1⟩
  rw[<- r1.length]
  exact hlen env h d1 h1 eq⟩
theorem _root_.L2.PS.nox {e:Stmt} {t:TS} (h:PS X.nox e t):PS X e t:=fun pins s σ H D I hw=>
 wpAny_mono (h pins s σ H D (I.mJ _) hw) (fun _ _ q=>q.fV) fun _ _ z=>False.elim z
theorem cz {e:Expr} {m:ME} (h:PE X.nox e (tM X.K g E00 m)):PE X e (tM X.K g ε (up m)):=PE.imp h.nox fun σ H Q ⟨α,env,h,s,w⟩=>⟨α,env,h,s,pK w⟩
theorem Fv {e:Expr} {m:MT} (h:PT X.nox e (tMT X.K g E00 m)):PT X e (tMT X.K g ε (up m)):=PT.imp h.nox fun σ H Q ⟨α,env,h,s,w⟩=>⟨α,env,h,s,pK w⟩
theorem Iw {e:Stmt} {m:MS} (h:PS X.nox e (tMS X.K g E00 m)):PS X e (tMS X.K g ε (up m)):=PS.imp h.nox fun σ H Q ⟨α,env,h,s,w⟩=>⟨α,env,h,s,pK w⟩
end
end L2.FE
namespace L2
open PySem PySem.Spec PyProof.Rows
noncomputable abbrev unm (A:Around):Around:={ A with handled:=none }
section
variable {X:Cx} {pins:List (Addr × Obj)} {σ:St} {H:Hp} {s:Shared}
noncomputable abbrev Cx.hand (X:Cx) (A:Around) (pn:List (Addr × Obj)) (E:Value->Shared->Prop):Cx:={ X with A:=A,calm:=false,pn:=pn,xe:=E }
theorem Inv.hand (I:Inv X pins σ H s) {A:Around} (hA:A.frames=X.A.frames) {pn pins':List (Addr × Obj)} (hp:∀p∈pn++pins',p∈X.pn++pins) (E:Value->Shared->Prop):Inv (X.hand A pn E) pins' σ H s:=
 ⟨⟨I.ok.mod,I.ok.kind,I.ok.glob,I.ok.blt,I.ok.above,I.ok.inj,I.ok.has,I.ok.cab,fun z=>(nomatch z),hA.trans I.ok.frames,I.ok.stk,I.ok.exf,I.ok.bs,I.ok.bsz,I.ok.qv,I.ok.vV,I.ok.i5,I.ok.frf⟩,I.os,I.bare,I.base,I.loc,I.cell,I.free,I.di,fun p h=>I.pin p (hp p h),I.hok,I.len⟩
noncomputable abbrev Cx.wpn (X:Cx) (pn:List (Addr × Obj)) (E:Value->Shared->Prop):Cx:={ X with pn:=pn,xe:=E }
theorem Inv.wpn (I:Inv X pins σ H s) {pn pins':List (Addr × Obj)} (hp:∀p∈pn++pins',p∈X.pn++pins) (E:Value->Shared->Prop):Inv (X.wpn pn E) pins' σ H s:=
 ⟨⟨I.ok.mod,I.ok.kind,I.ok.glob,I.ok.blt,I.ok.above,I.ok.inj,I.ok.has,I.ok.cab,I.ok.hd,I.ok.frames,I.ok.stk,I.ok.exf,I.ok.bs,I.ok.bsz,I.ok.qv,I.ok.vV,I.ok.i5,I.ok.frf⟩,I.os,I.bare,I.base,I.loc,I.cell,I.free,I.di,fun p h=>I.pin p (hp p h),I.hok,I.len⟩
theorem Inv.back {A:Around} {pn pins':List (Addr × Obj)} {E:Value->Shared->Prop} (J:Inv (X.hand A pn E) pins' σ H s) (ok:X.Ok) (hp:∀p∈X.pn++pins,p∈pn++pins'):Inv X pins σ H s:=
 ⟨ok,J.os,J.bare,J.base,J.loc,J.cell,J.free,J.di,fun p h=>J.pin p (hp p h),J.hok,J.len⟩
theorem Inv.adopt {B:Heap} {a:Addr} {oe:Obj} {ws:Array Value} (I:Inv X [] σ H s) (p:Plain X) (c:Cov B X.fs X.aG X.az.heap H) (pn:∀p∈X.pn,B.get? p.1=some p.2) (fr:s.heap.FunFrames B X.stack) (nw:B.get? a=none) (q1:s.heap.get? a=some oe) (q4:oe.data=.fields ws) :
  H a=none/\Inv X [] σ (upd H a (FE.AtO a oe)) s:=by
 have hn:H a=none:=by
  cases z:H a with
  | none=>rfl
  | some o=>obtain⟨u,hu⟩:=c.trk a o z;rw[nw] at hu;cases hu
 have nfr:∀b∈X.env.locals::X.fs,b≠a:=by
  rintro b hb rfl
  have:b∈X.stack.filterMap (·.frame):=by
   rw[p.stk.1,List.filterMap_cons,p.stk.2]
   exact hb
  obtain⟨_,o',q',n⟩:=fr.mem this
  rw[q1] at q';cases q';exact n ws q4
 refine⟨hn,I.ok,I.os,I.bare,?_,I.loc,I.cell,?_,fun x c' e=>?_,fun q hq=>?_,fun b o e=>?_,I.len⟩
 ·obtain⟨u1,u2,u3,u4,u5,u6,u7⟩:=I.base
  refine⟨u1,u2,fun b o e n hx=>?_,u4,fun b xs q=>?_,fun b o u q=>?_,fun b ps q=>?_⟩
  ·rw[aA ?_];exact u3 b o e n hx
   rintro rfl
   by_cases hb:b∈X.fs
   ·exact nfr b (List.mem_cons_of_mem _ hb) rfl
   ·have:=c.old b o e n hb
    rw[nw] at this;cases this
  ·have:=u5 b xs q
   rw[aA (aK this hn)];exact this
  ·have:=u6 b o u q
   rw[aA (aK this hn)];exact this
  ·obtain⟨more,this⟩:=u7 b ps q
   exact⟨more,by rw[aA (aK this hn)];exact this⟩
 ·rw[aA (nfr _ List.mem_cons_self)];exact I.free
 ·rw[aA ?_];exact I.di x c' e
  rintro rfl
  obtain⟨v,o,ho,hd⟩:=I.cell x c' e
  rw[q1] at ho;cases ho;rw[q4] at hd;cases hd
 ·have z:=I.pin q hq
  refine⟨z.1,?_,z.2.2⟩
  rw[aA ?_];exact z.2.1
  rintro e
  rw[List.append_nil] at hq
  have:=pn q hq
  rw[e,nw] at this;cases this
 ·by_cases hb:b=a
  ·subst hb
   rw[a8] at e;cases e
   exact⟨q1,q1,⟨_,q1⟩,fun h1 h2 z k=>k _ z⟩
  ·rw[aA hb] at e
   exact(I.hok b o e).jU (fun _ _ _ z=>z) (fun c' z=>by rw[aA (aK z hn)];exact z) fun c' xs z=>by rw[aA (aK z hn)];exact z
theorem Inv.forget {i:Nat} {x:Str} {m m':Str->Option Value} {h':Heap} {t':Nat} (I:Inv X pins σ H s) (hN:X.N.Nodup) (hi:X.N[i]?=some x) (hn:s.heap.Ns X.env.locals m) (hn':h'.Ns X.env.locals m') (hm:∀y,y≠x->m' y=m y) (sb:Heap.SameBut X.env.locals s.heap h'):Inv X pins (σ.set i none) H { s with heap:=h',toks:=t' }:=by
 have kp:∀b,b≠X.env.locals->h'.get? b=s.heap.get? b:=fun b n=>sb.2 b n
 have cellK:∀y c v,X.env.cells.lookup y=some c->s.heap.IsCell c v->h'.IsCell c v:=fun y c v e ⟨o,ho,hd⟩=>⟨o,by rw[kp c (I.cne y c e)];exact ho,hd⟩
 refine⟨I.ok,I.os,I.bare,?_,⟨m',hn',fun j y v a b c=>?_⟩,fun y c e=>let ⟨v,q⟩:=I.cell y c e;⟨v,cellK y c v e q⟩,I.free,I.di,fun q hq=>?_,fun b o e=>?_,by rw[List.length_set];exact I.len⟩
 ·obtain⟨u1,u2,u3,u4,u5,u6,u7⟩:=I.base
  have ne:∀b o,X.az.heap.get? b=some o->b≠X.env.locals:=fun b o e=>Nat.ne_of_lt (Nat.lt_of_lt_of_le (Heap.lt_size e) I.ok.above)
  exact⟨fun b o e n h1 h2=>by rw[kp b (ne b o e)];exact u1 b o e n h1 h2,fun b o e n h1 h2=>by rw[kp b (ne b o e)];exact u2 b o e n h1 h2,u3,fun b o e h2=>by rw[kp b (ne b o e)];exact u4 b o e h2,u5,u6,u7⟩
 ·rw[List.getElem?_set] at b
  by_cases hj:i=j
  ·rw[if_pos hj] at b
   split at b<;>cases b
  ·rw[if_neg hj] at b
   obtain⟨m0,hn0,k⟩:=I.loc
   obtain⟨u,r,l⟩:=k j y v a b c
   have hy:y≠x:=by
    rintro rfl
    exact hj ((List.getElem?_inj (List.getElem?_eq_some_iff.mp hi).1 hN).mp (hi.trans a.symm))
   have e0:m0=m:=by
    obtain⟨o1,es1,ep1,a1,a2,a3,a4⟩:=hn0
    obtain⟨o2,es2,ep2,b1,b2,b3,b4⟩:=hn
    rw[a1] at b1;cases b1
    rw[a2] at b2;cases b2
    funext y;rw[<- a4,<- b4]
   subst e0
   refine⟨u,r,l.imp (fun z=>⟨z.1,by rw[hm y hy];exact z.2⟩) fun⟨z,c',e,q⟩=>⟨z,c',e,cellK y c' _ e q⟩⟩
 ·have z:=I.pin q hq
  exact⟨by rw[kp _ z.2.2.1];exact z.1,z.2⟩
 ·exact(I.hok b o e).jU (fun c' u hc q=>by
   rw[kp c' ?_];exact q
   rintro rfl
   rcases hc with rfl | hc
   ·rw[I.free] at e;cases e
   ·rw[I.free] at hc;cases hc) (fun _ q=>q) fun _ _ q=>q
end
structure FnH (P:Program) (w:World) (K:PySem.W.Frag) (mg:Str->Option Value) (base:Heap) (k:Nat) (f:Addr) (fd:FuncData) (ps:List Str) (sp:Sp):Prop where
 len:∀vs H Q E,sp vs H Q E->vs.length=ps.length
 run:∀(A:Around) (outer:List Env) (s:Shared) (H:Hp) (args:Args) (us:List Value) (vs:List V) (Q:VK) (E:XK),cB k (unm A)->vm P w K mg base A outer s H->BindsTo s fd args (ps.zip us)->Vals vs us->sp vs H Q E →
  codeAny (model P w) A (.call (.ref f) args) (CR CX0 outer P w H s Q E) s
theorem FnH.mono {P:Program} {w:World} {K:PySem.W.Frag} {mg:Str->Option Value} {base:Heap} {j k:Nat} {f:Addr} {fd:FuncData} {ps:List Str} {sp:Sp} (F:FnH P w K mg base j f fd ps sp) (h:j<=k):FnH P w K mg base k f fd ps sp:=
 ⟨F.len,fun A outer s H args us vs Q E hr=>F.run A outer s H args us vs Q E (hr.mono h)⟩
section
variable {P:Program} {w:World} {K:PySem.W.Frag} {mg:Str->Option Value} {base:Heap}
noncomputable abbrev cxH (P:Program) (w:World) (K:PySem.W.Frag) (mg:Str->Option Value) (base:Heap) (N:List Str) (qual:Str) (scope:Scope) (f:Addr) (cd:Value) (A:Around) (outer:List Env) (s:Shared) (H:Hp) (E:XK):Cx:=
 (dE CX0 P w K mg base N qual scope f cd A outer s H E).hand (A.deeper (envOfC qual scope s.heap.objs.size f cd)) [] fun _ _=>False
theorem Ge {x qual:Str} {st:Stmt} {f:Addr} {fd:FuncData} {N ps:List Str} {k:Nat} {sp:Sp} (F:Fun K x qual st f fd) (S:aH N ps (ai st)) (len:∀vs H Q E,sp vs H Q E->vs.length=ps.length)
  (hbody:∀(cdv:Value) (A:Around) (outer:List Env) (s:Shared) (H:Hp) (vs:List V) (Q:VK) (E:XK),cB k (unm (A.deeper (envOfC qual (ai st) s.heap.objs.size f cdv)))->sp vs H Q E →
   ∃t,PSs (cxH P w K mg base N qual (ai st) f cdv A outer s H E) (bu st) t/\t { nx:=fun _ H'=>Q .non H',rt:=Q } (start N vs) H):FnH P w K mg base (k+1) f fd ps sp:=by
 obtain⟨oc,od,kV,doc,pm,an,cdv,ct,osl,rfl,lk,hcd⟩:=F.ex
 refine⟨len,fun A outer s H args us vs Q E hr e0 hb r hsp=>?_⟩
 have hl:=len _ _ _ _ hsp
 have KX:K.In s.heap:=e0.mod.kin.keeps fun b o e=>(e0.bs b o e).1
 have lim:s.heap.NoLimit:=e0.mod.nolimit.keeps fun b o e=>(e0.bs b o e).1
 have hkind:∀y∈ps.zip us,(ai st).names.lookup y.1=some .local\/((ai st).names.lookup y.1=some .cell/\((cellsFrom (s.heap.objs.size+1) (ai st).names []).lookup y.1).isSome=true):=fun⟨n,v⟩ hy=>by
  rcases S.par n (List.of_mem_zip hy).1 with q | q
  ·exact .inl q
  ·exact .inr ⟨q,PySem.W.cellsFrom_some _ _ _ (.inl q)⟩
 have hdp:A.depth<recursionLimit:=cB.depth (A:=unm A) hr
 refine codeAny_call_function hdp (KX _ _ lk) rfl S.co S.gen rfl (PySem.W.codeRec_of KX hcd) (hb _ _ _ _ ?_)
 refine wpAny_newFunctionEnv_cells S.kind hkind fun env he s1 x=>?_
 subst he
 refine⟨lim.keeps x.toInCall.keep,codeAny_func ?_⟩
 obtain⟨t,ht,hq⟩:=hbody cdv A outer s H vs Q E (hr.deeper _) hsp
 have I0:Inv (dE CX0 P w K mg base N qual (ai st) f cdv (unm A) outer s H E) [] (start N vs) H s1:=mE S rfl ⟨e0.frames,e0.mod,e0.bs,e0.bsz,e0.i5,e0.frf,e0.hok,e0.bare⟩ hl r x
 have I:Inv (cxH P w K mg base N qual (ai st) f cdv A outer s H E) [] (start N vs) H s1:=
  ⟨⟨I0.ok.mod,I0.ok.kind,I0.ok.glob,I0.ok.blt,I0.ok.above,I0.ok.inj,I0.ok.has,I0.ok.cab,fun z=>(nomatch z),Around.frames_deeper e0.frames,I0.ok.stk,I0.ok.exf,I0.ok.bs,I0.ok.bsz,I0.ok.qv,I0.ok.vV,I0.ok.i5,I0.ok.frf⟩,I0.os,I0.bare,I0.base,I0.loc,I0.cell,I0.free,I0.di,I0.pin,I0.hok,I0.len⟩
 refine wpAny_mono (ht [] s1 (start N vs) H _ I hq) (fun fl s' hs=>?_) fun e s' hs=>hs.elim
 have fin:∀{σ':St} {H':Hp} {v:V} {u:Value},Inv (cxH P w K mg base N qual (ai st) f cdv A outer s H E) [] σ' H' s'->RelV v u->Q v H'->CE outer P w H s Q u s':=
  fun{σ' H' v u} J rv q=>⟨v,H',J.os,J.bare,J.base,J.hok,rv,q⟩
 cases fl with
 | ret u=>
  obtain⟨v,σ',H',J,rv,q⟩:=hs
  exact fin J rv q
 | next=>
  obtain⟨σ',H',J,q⟩:=hs
  exact fin (v:=V.non) (u:=Value.none) J rfl q
 | brk=>
  obtain⟨_,_,_,q⟩:=hs
  exact q.elim
 | cont=>
  obtain⟨_,_,_,q⟩:=hs
  exact q.elim
end
section
variable {X:Cx} {k:Nat} {f:Addr} {fd:FuncData} {ps:List Str} {sp:Sp} {x:Str} {p pos:Pos} {e:Expr} {es:List Expr} {t:TA}
theorem wj (F:FnH X.prog X.w X.K X.mg X.base k f fd ps sp) (hr:cB k (unm X.A)) (hg:Gl X x) (hm:X.mg x=some (.ref f)) (hk:PySem.W.keepIn X.K (.ref f)=true) (hb:Binds X.K fd ps [])
  (ha:PA X (e::es) t) (hdb:(x == ("__debug__" : Str))=false:=by decide) (he:starEach (e::es) X.env=(false,eval e X.env)::starEach es X.env:=by rfl) (hpl:(backTo pos (starEach es X.env)).any (·.1)=false:=by rfl) :
  PE X (.Call (.Name x p) (e::es) [] pos) (Fq sp [] E0 t):=by
 intro pins s σ H Q I h
 refine wpAny_Call_Name_kw (iw I hg hm ?_ hdb)
 refine PySem.W.callWith_K (h₀:=X.base) I.ok.mod.kin hk (thn (ha pos pins s σ H _ I h) fun us s1 ⟨vs,H1,I1,r,q⟩=>⟨I1.kIn,?_⟩) he hpl
 replace q:sp vs H1 Q E0:=by simpa using q
 have hl:us.length=ps.length:=by rw[<- r.length];exact F.len _ _ _ _ q
 have hbb:=hb s1 us I1.kIn (by rw[List.append_nil];exact hl)
 rw[List.append_nil] at hbb
 refine wpAny_call (codeAny_mono (F.run X.A X.stack s1 H1 ⟨us,[]⟩ us vs Q E0 hr I1.HN hbb r q) fun r s' hq=>?_)
 cases r with
 | error e=>exact hq.elim
 | ok fl=>
  cases fl with
  | ret u=>exact I1.after hq
  | next=>exact hq.elim
  | brk=>exact hq.elim
  | cont=>exact hq.elim
end
end L2
namespace L2
open PySem PySem.Spec PyProof.Rows PySem.W
theorem Af:plainId "BaseException.__getattribute__" = true:=by decide +kernel
theorem CC:builtinKind "BaseException.__getattribute__" = some .slot:=by decide +kernel
theorem zJ:splitId "BaseException.__getattribute__" = some ("BaseException", "__getattribute__"):=by decide +kernel
theorem BE (v:Value):bindSpecial (.builtin "BaseException.__getattribute__") v=pure (.builtin "BaseException.__getattribute__", [v]):=F.excAttr_ValueError.ga.bind v
section
variable {prog:Program} {w:World} {A:Around} {E:Value->Shared->Prop} {s:Shared} {K:Frag} {x D:Addr} {ox:Obj} {odo:Option Obj} {name:Str}
theorem D9 {g0 a0:Value} {tk:Tok} {Q:Fin->Shared->Prop} (X:K.In s.heap) (I:InstAt s.heap x ox D odo) (hf:findObj K D odo name=some (.bind g0 a0)) (h:wpAny (model prog w) A (call g0 [a0,.ref x,.ref D]) (fun v s'=>Q (.done (.ret v)) s') E s) :
  wpAny (model prog w) A (Builtin.«object.__getattribute__» ⟨[.ref x,.str name tk],[]⟩) Q E s:=by
 obtain⟨hh,gg,d,t,os⟩:=s
 have L0:=I.type (M:=model prog w)
 have L1:=looks_find (M:=model prog w) X I hf
 unfold Builtin.«object.__getattribute__»
 refine wpAny_bind (wpAny_pure (wpAny_bind (wpAny_pure (wpAny_bind (L0.at (wpAny_bind (L1.at ?_)))))))
 exact wpAny_bind (wpAny_holding (wpAny_mono h (fun v s' z=>wpAny_pure z) fun _ _ z=>z))
theorem By {g0 a0:Value} {tk:Tok} {R:Result->Shared->Prop} (X:K.In s.heap) (I:InstAt s.heap x ox D odo) (hsub:mroIn K D (.type "BaseException")=some true) (hf:findObj K D odo name=some (.bind g0 a0))
  (h:wpAny (model prog w) A.in1 (call g0 [a0,.ref x,.ref D]) (fun v s'=>R (.ok (.ret v)) s') (fun e s'=>R (.error e) s') s) :
  codeAny (model prog w) A (.call (.builtin "BaseException.__getattribute__") ⟨[.ref x,.str name tk],[]⟩) R s:=by
 have L0:=I.type (M:=model prog w)
 have L3:Looks (model prog w) s.heap (isInstance (.ref x) (.type "BaseException")) true:=L0.andThen (looks_mroIn X hsub)
 refine codeAny_call_builtin Af F.entry_bexc_ga ?_
 refine check_slot (i:="BaseException.__getattribute__") CC zJ L3 (F.args_bexc_ga (.ref x) (.str name tk)) ?_
 exact D9 X I hf h
theorem AR {g0 a0 v0:Value} {Q:Option Value->Shared->Prop} (X:K.In s.heap) (I:InstAt s.heap x ox D odo) (hga:findIn K (.ref D) "__getattribute__" = some (some (.builtin "BaseException.__getattribute__"))) (hhk:findIn K (.ref D) "__getattr__" = some none) (hsub:mroIn K D (.type "BaseException")=some true)
  (hf:findObj K D odo name=some (.bind g0 a0)) (hv:handedIn v0=true)
  (h:∀(A:Around) (E:Value->Shared->Prop) (Q':Value->Shared->Prop),Q' v0 { s with toks:=s.toks+1 }->wpAny (model prog w) A (call g0 [a0,.ref x,.ref D]) Q' E { s with toks:=s.toks+1 })
  (q:Q (some v0) { s with toks:=s.toks+1 }):wpAny (model prog w) A (getAttr? (.ref x) name) Q E s:=by
 obtain⟨hh,gg,d,t,os⟩:=s
 have L0:=I.type (M:=model prog w)
 have L1:=looks_findIn (M:=model prog w) X hga
 have L2:=looks_findIn (M:=model prog w) X hhk
 have L3:Looks (model prog w) hh (isInstance (.ref x) (.type "BaseException")) true:=L0.andThen (looks_mroIn X hsub)
 unfold getAttr? getAttrBy? getAttrBy
 refine wpAny_bind (wpAny_mkText (wpAny_bind (wpAny_attempt (wpAny_holding (wpAny_bind (L0.at (wpAny_bind (L1.at ?_))))))))
 dsimp only
 rw[if_neg (show ¬ ((onTheHeap (Value.ref D)&&(Value.builtin "BaseException.__getattribute__" == Value.builtin "object.__getattribute__"))=true) from by rw[show(Value.builtin "BaseException.__getattribute__" == Value.builtin "object.__getattribute__")=false from by decide +kernel,Bool.and_false];decide)]
 unfold getAttrByItsOwn hookBefore
 rw[if_pos (show onTheHeap (.ref D)=true from rfl)]
 refine wpAny_bind (L2.at (wpAny_bind (wpAny_attempt (wpAny_holding ?_))))
 unfold callGetattribute
 rw[if_neg (show ¬ ((false&&_)=true) from by simp)]
 unfold boundAndCalled
 rw[BE]
 refine wpAny_bind (wpAny_pure ?_)
 show wpAny (model prog w) A (call (.builtin "BaseException.__getattribute__") [.ref x,.str name t]) _ _ _
 refine wpAny_call (By (s:=⟨hh,gg,d,t+1,os⟩) X I hsub hf (h _ _ _ ?_))
 exact handed_on hv (wpAny_pure q)
end
theorem Bf {K:Frag} {x D:Addr} {ox:Obj} {odo:Option Obj} (hga:findIn K (.ref D) "__getattribute__" = some (some (.builtin "BaseException.__getattribute__"))) (hhk:findIn K (.ref D) "__getattr__" = some none) (hsub:mroIn K D (.type "BaseException")=some true) (hdct:hasDictIn K D=true) (ha:findIn K (.ref D) "__class__" = some (some (.builtin "object.__class__")))
  (hn:specialIn K (.builtin "object.__class__") "__get__" = some (some (.builtin "getset_descriptor.__get__"))) (htk:takesIn K (.builtin "object.__class__")=some true) (hm:mroIn K D (.type "object")=some true) :
  KitX K (.ref x) (.ref D) (fun h=>InstAt h x ox D odo):=by
 obtain⟨cdD,hcD,_⟩:=any_some hdct
 have hlk:∃c' d' cd' sl',K.lookup D=some ⟨c',d',.cls cd',sl'⟩:=by
  unfold clsIn at hcD
  split at hcD
  ·exact⟨_,_,_,_,by assumption⟩
  ·cases hcD
 obtain⟨c',d',cd',sl',ho⟩:=hlk
 refine⟨fun _ _ _ I=>I.type,fun _ _ X _=>?_,fun h tp dd its n sl X htp=>?_,fun{prog w A E Q s} X I k=>?_⟩
 ·intro A' Q' E' s' k q
  unfold isType loadHead
  exact wpAny_bind (wpAny_loadPart (k _ _ (X _ _ ho)) (wpAny_pure q))
 ·refine Bool.eq_false_iff.mpr fun q=>?_
  have e:D=tp:=Value.ref.inj (beq_iff_eq.mp q)
  subst e
  have z:=(X _ _ ho).symm.trans htp
  cases z
 ·have hf:findObj K D odo "__class__" = some (.bind (.builtin "getset_descriptor.__get__") (.builtin "object.__class__")):=by
   unfold findObj
   rw[hcD,Option.bind_some,ha,Option.bind_some]
   simp[hn,htk]
  exact AR X I hga hhk hsub hf rfl (fun A E Q' q'=>wpAny_call (class_get (s:={ s with toks:=s.toks+1 }) (ox:=ox) (od:=odo) X I hm q')) k
noncomputable abbrev bN:List Str:=["FallError", "NoOrder", "NoNumber", "NoSet", "NoRow", "NoLine", "NoText", "TooGreat"]
noncomputable def xT (c x:Str):Bool:=c == x || x == "FallError"
noncomputable def C6 (c:Str):Bool:=!(c == "NoText" || c == "TooGreat")
noncomputable def xY (K:Frag) (D:Addr):Bool:=findIn K (.ref D) "__getattribute__" == some (some (.builtin "BaseException.__getattribute__"))&&findIn K (.ref D) "__getattr__" == some none&&mroIn K D (.type "BaseException") == some true&&hasDictIn K D&&findIn K (.ref D) "__class__" == some (some (.builtin "object.__class__"))&&specialIn K (.builtin "object.__class__") "__get__" == some (some (.builtin "getset_descriptor.__get__"))&&takesIn K (.builtin "object.__class__") == some true&&mroIn K D (.type "object") == some true
noncomputable def Fu (K:Frag) (l:List (Str × Addr)):Bool:=l.all fun p=>xY K p.2&&kitOne K (.ref p.2) (.type "ValueError") == some true&&(!C6 p.1 || excIn K p.2 bmV "ValueError.__new__")&&l.all fun q=>kitOne K (.ref p.2) (.ref q.2) == some (xT p.1 q.1)&&(!(q.1 == "FallError") || exmOne K (.ref p.2) (.ref q.2) == some true)
noncomputable def Cg (K:Frag):Prop:=∃l:List (Str × Addr),l.map (·.1)=bN/\(∀p∈l,nsIn K mainGlobals p.1=some (some (.ref p.2)))/\Fu K l=true
theorem GR {K:Frag} {a0 a1 a2 a3 a4 a5 a6 a7:Addr} (e0:nsIn K mainGlobals "FallError" = some (some (.ref a0))) (e1:nsIn K mainGlobals "NoOrder" = some (some (.ref a1))) (e2:nsIn K mainGlobals "NoNumber" = some (some (.ref a2))) (e3:nsIn K mainGlobals "NoSet" = some (some (.ref a3)))
  (e4:nsIn K mainGlobals "NoRow" = some (some (.ref a4))) (e5:nsIn K mainGlobals "NoLine" = some (some (.ref a5))) (e6:nsIn K mainGlobals "NoText" = some (some (.ref a6))) (e7:nsIn K mainGlobals "TooGreat" = some (some (.ref a7)))
  (c:Fu K [("FallError", a0),("NoOrder", a1),("NoNumber", a2),("NoSet", a3),("NoRow", a4),("NoLine", a5),("NoText", a6),("TooGreat", a7)]=true):Cg K:=
 ⟨_,rfl,by
  intro p hp
  simp only[List.mem_cons,List.not_mem_nil,or_false] at hp
  rcases hp with rfl | rfl | rfl | rfl | rfl | rfl | rfl | rfl<;>assumption,c⟩
structure rq (K:Frag) (mg:Str->Option Value):Prop where
 at_:∀c∈bN,∃C,mg c=some (.ref C)
 one:∀c∈bN,∀C,mg c=some (.ref C)->xY K C=true/\kitOne K (.ref C) (.type "ValueError")=some true/\(C6 c=true->excIn K C bmV "ValueError.__new__" = true)
 two:∀c∈bN,∀C,mg c=some (.ref C)->∀x∈bN,∀X,mg x=some (.ref X)->kitOne K (.ref C) (.ref X)=some (xT c x)
 exm:∀c∈bN,∀C,mg c=some (.ref C)->∀X,mg "FallError" = some (.ref X)->exmOne K (.ref C) (.ref X)=some true
theorem rq.of {K:Frag} {h:Heap} {mg:Str->Option Value} (X:K.In h) (G:h.Ns mainGlobals mg) (k:Cg K):rq K mg:=by
 obtain⟨l,h1,h2,h3⟩:=k
 have mem:∀c∈bN,∀C,mg c=some (.ref C)->(c,C)∈l:=fun c hc C e=>by
  rw[<- h1] at hc
  obtain⟨p,hp,rfl⟩:=List.mem_map.mp hc
  have:=mg_of X G (h2 p hp)
  rw[e] at this;cases this
  exact hp
 have al:=List.all_eq_true.mp h3
 refine⟨fun c hc=>?_,fun c hc C e=>?_,fun c hc C e x hx D e'=>?_,fun c hc C e D e'=>?_⟩
 ·rw[<- h1] at hc
  obtain⟨p,hp,rfl⟩:=List.mem_map.mp hc
  exact⟨_,mg_of X G (h2 p hp)⟩
 ·have:=al _ (mem c hc C e)
  simp only[Bool.and_eq_true,beq_iff_eq,Bool.or_eq_true,Bool.not_eq_true'] at this
  refine⟨this.1.1.1,this.1.1.2,fun z=>this.1.2.elim (fun y=>?_) fun y=>y⟩
  rw[z] at y;cases y
 ·have:=al _ (mem c hc C e)
  simp only[Bool.and_eq_true] at this
  have:=List.all_eq_true.mp this.2 _ (mem x hx D e')
  simp only[Bool.and_eq_true,beq_iff_eq] at this
  exact this.1
 ·have:=al _ (mem c hc C e)
  simp only[Bool.and_eq_true] at this
  have:=List.all_eq_true.mp this.2 _ (mem "FallError" (by decide) D e')
  simp only[Bool.and_eq_true,beq_iff_eq,Bool.or_eq_true,Bool.not_eq_true'] at this
  rcases this.2 with z | z
  ·exact absurd z (by decide)
  ·exact z
theorem Ao {P:Program} {w:World} {H:Hp} {h:Heap} {p C:Addr} {o:Obj} {fs:List (Str × Int)} (ok:HOk P w H h) (q:H p=some (FE.AtO p o)) (hc:o.cls=.ref C) (hd:∃vs,o.data=.fields vs) (xf:FE.XFs H o.dict fs):∃odo,InstAt h p o C odo:=by
 obtain⟨q1,_⟩:=ok p _ q
 obtain⟨vs,hd⟩:=hd
 have nc:notCls o=true:=by unfold notCls;rw[hd]
 rcases xf with⟨z,_⟩ | ⟨dx,od,z,q2⟩
 ·exact⟨none,q1,hc,nc,by rw[z];trivial⟩
 ·obtain⟨q3,_⟩:=ok dx _ q2
  exact⟨some od,q1,hc,nc,by rw[z];exact q3⟩
end L2
namespace L2.FE
open PySem PySem.Spec PyProof.Rows
section
variable {X:Cx} {g:GG} {ε:EE} {K:PySem.W.Frag}
noncomputable def um (x:Str):D->Hh->R D:=fun d h=>match d with
 | .exc c _=>if (bN.contains c&&bN.contains x)=true then .ok (.bl (xT c x)) h else .bad
 | _=>.bad
noncomputable def HI:D->Hh->R D:=fun d h=>match d with
 | .exc c _=>if bN.contains c=true then .ok (.bl true) h else .bad
 | _=>.bad
theorem kU {mg:Str->Option Value} {x:Str} {f:Addr} (h:gOf mg x=some f):mg x=some (.ref f):=by
 unfold gOf at h
 split at h
 ·cases h;assumption
 ·cases h
theorem wz (hc:rq X.K X.mg) (hgo:g=gOf X.mg):cP X (.builtin "isinstance") (fun vs H Q=>∃p D o c fs C b,vs=[.ref p,D]/\g c=some C/\H p=some (AtO p o)/\o.cls=.ref C/\(∃us,o.data=.fields us)/\XFs H o.dict fs/\bN.contains c=true/\(∀u,RelV D u->PySem.W.kitOne X.K (.ref C) u=some b)/\Q (.bl b) H):=by
 intro pins s σ H xs us Q I r h
 obtain⟨p,D,o,c,fs,C,b,rfl,hg,hp,hcl,hd,xf,hcn,hk,q⟩:=h
 cases r with
 | @cons _ _ _ _ r1 r2=>
  cases r2 with
  | @cons _ u _ _ r3 r4=>
   cases r4
   cases r1
   obtain⟨odo,ia⟩:=Ao I.hok hp hcl hd xf
   subst hgo
   have hC:=kU hg
   have k1:=(hc.one c (by simpa using hcn) C hC).1
   unfold xY at k1
   simp only[Bool.and_eq_true,beq_iff_eq] at k1
   obtain⟨⟨⟨⟨⟨⟨⟨a1,a1b⟩,a1c⟩,a2⟩,a3⟩,a4⟩,a5⟩,a6⟩:=k1
   refine PySem.W.kia_one (Bf a1 a1b a1c a2 a3 a4 a5 a6) I.kIn ia (hk u r3) (by intro z;cases z) fun tk=>?_
   exact⟨.bl b,H,I.kept (h':=s.heap) (t':=tk) fun _ _ z=>z,rfl,q⟩
theorem F5 {x:Str} {p:Pos} {C:Addr} (hg:Gl X x) (hm:X.mg x=some (.ref C)) (hd:(x == ("__debug__" : Str))=false:=by decide):PE X (.Name x p) (tC (.ref C)):=fun pins s σ H Q I h=>iw I hg hm ⟨.ref C,H,I,rfl,h⟩ hd
theorem kl {e:Expr} {me:ME} {x:Str} {p1 p2 pos:Pos} (hc:rq X.K X.mg) (hgo:g=gOf X.mg) (he:PE X e (tM X.K g ε me)) (hg:Gl X "isinstance") (hm:X.mg "isinstance" = none) (hg2:Gl X x) (hx:x∈bN) (hd:(x == ("__debug__" : Str))=false:=by decide)
  (hs1:starEach [e,.Name x p2] X.env=(false,eval e X.env)::starEach [.Name x p2] X.env:=by rfl) (hs2:starEach [.Name x p2] X.env=[(false,eval (.Name x p2) X.env)]:=by rfl) (hpl:(backTo pos (starEach [.Name x p2] X.env)).any (·.1)=false:=by rfl) :
  PE X (.Call (.Name "isinstance" p1) [e,.Name x p2] [] pos) (tM X.K g ε (cUn (um x) me)):=by
 obtain⟨C2,hC2⟩:=hc.at_ x hx
 refine PE.imp (lC (wz hc hgo) hg hm PyProof.Rows.boot_isinstance (fM he (fM (F5 hg2 hC2 hd) l6 hs2) hs1) (by decide) (by decide) hs1 hpl) fun σ H Q ⟨α,env,h,s,w⟩=>tM.use s w.bind fun d1 h1 v1 H1 α1 e1 s1 r1 w1=>?_
 unfold um at w1
 cases r1 with
 | @exc c C p o fs hgc hp hcl hdd xf=>
  obtain⟨hh,w1⟩:=WQ.dD w1
  rw[Bool.and_eq_true] at hh
  refine⟨p,.ref C2,o,c,fs,C,_,rfl,hgc,hp,hcl,hdd,xf,hh.1,fun u ru=>?_,aJ.now (aJ.ext e1 w1) s1.heap (.bl _)⟩
  cases ru
  subst hgo
  exact hc.two c (by simpa using hh.1) C (kU hgc) x hx C2 hC2
 | _=>exact w1.elim
theorem G0 {e:Expr} {me:ME} {p1 p2 pos:Pos} (hc:rq X.K X.mg) (hgo:g=gOf X.mg) (he:PE X e (tM X.K g ε me)) (hg:Gl X "isinstance") (hm:X.mg "isinstance" = none) (hg2:Gl X "ValueError") (hm2:X.mg "ValueError" = none)
  (hs1:starEach [e,.Name "ValueError" p2] X.env=(false,eval e X.env)::starEach [.Name "ValueError" p2] X.env:=by rfl) (hs2:starEach [.Name "ValueError" p2] X.env=[(false,eval (.Name "ValueError" p2) X.env)]:=by rfl) (hpl:(backTo pos (starEach [.Name "ValueError" p2] X.env)).any (·.1)=false:=by rfl) :
  PE X (.Call (.Name "isinstance" p1) [e,.Name "ValueError" p2] [] pos) (tM X.K g ε (cUn HI me)):=by
 refine PE.imp (lC (wz hc hgo) hg hm PyProof.Rows.boot_isinstance (fM he (fM (yR (v:=.ty "ValueError") hg2 hm2 PyProof.Rows.Boot.«ValueError» rfl (by decide) (by decide)) l6 hs2) hs1) (by decide) (by decide) hs1 hpl) fun σ H Q ⟨α,env,h,s,w⟩=>tM.use s w.bind fun d1 h1 v1 H1 α1 e1 s1 r1 w1=>?_
 unfold HI at w1
 cases r1 with
 | @exc c C p o fs hgc hp hcl hdd xf=>
  obtain⟨hh,w1⟩:=WQ.dD w1
  refine⟨p,.ty "ValueError", o,c,fs,C,_,rfl,hgc,hp,hcl,hdd,xf,hh,fun u ru=>?_,aJ.now (aJ.ext e1 w1) s1.heap (.bl _)⟩
  cases ru
  subst hgo
  exact(hc.one c (by simpa using hh) C (kU hgc)).2.1
 | _=>exact w1.elim
theorem oN {h:Heap} {l:Addr} {its:Array Value} (x:h.IsList l its):∃dd n sl,h.get? l=some { cls:=.type "list", dict:=dd,data:=.seq its n,slots:=sl }:=by
 obtain⟨⟨c,d,da,sl⟩,h1,h2,n,h3⟩:=x
 dsimp only at h2 h3
 subst h2 h3
 exact⟨_,_,_,h1⟩
noncomputable def eqB (b:Bool):Value->Bool
 | .bool c=>c == b
 | _=>false
theorem oO:∀{bs:List Bool} {us:List Value},Vals (bs.map V.bl) us->us=bs.map Value.bool
 | [],_,.nil=>rfl
 | b::bs,_,.cons r t=>by
  have e:_=Value.bool b:=r
  rw[e,oO t];rfl
noncomputable def zb (K:PySem.W.Frag):V->List V->Hp->VK->Prop:=fun x vs H Q=>∃(l:Addr) (bs:List Bool) (b:Bool),x=.ref l/\vs=[.bl b]/\SqL K H l (bs.map V.bl)/\Q (.int (bs.countP (· == b):Nat)) H
theorem Ae:MtM X "list.count" (zb X.K):=by
 intro pins s σ H x vs v us Q I rx rv h
 obtain⟨l,bs,b,rfl,rfl,hq,q⟩:=h
 cases rx
 obtain⟨u,rfl,ru⟩:=rv.one
 have e0:u=Value.bool b:=ru
 subst e0
 obtain⟨its,rs,pl,hz⟩:=I.list hq
 have ei:=oO rs
 subst ei
 obtain⟨dd,n,sl,ho⟩:=oN pl.isList
 refine call_meets F.slot_list_count ⟨_,ho,rfl⟩ F.entry_list_count (F.args_list_count_2 _ _) (SeqAt.list_countAt l _ n dd sl (.bool b) (eqB b)) ⟨ho,fun y hy=>?_,?_⟩
 ·obtain⟨c,_,rfl⟩:=List.mem_map.mp (by simpa using hy:y∈bs.map Value.bool)
  exact SeqAt.EqAt.bool_bool c b
 ·refine⟨.int (bs.countP (· == b):Nat),H,I.kept (h':=s.heap) (t':=s.toks+1) fun _ _ z=>z,⟨s.toks,?_⟩,q⟩
  rw[List.toList_toArray,List.countP_map]
  rfl
noncomputable def x8 (K:PySem.W.Frag):V->List V->Hp->VK->Prop:=fun x vs H Q=>∃(l:Addr) (bs:List Bool) (b:Bool) (j:Nat),x=.ref l/\vs=[.bl b]/\SqL K H l (bs.map V.bl)/\bs.findIdx? (· == b)=some j/\bs.length<1000000/\Q (.int (j:Nat)) H
theorem zx:MtM X "list.index" (x8 X.K):=by
 intro pins s σ H x vs v us Q I rx rv h
 obtain⟨l,bs,b,j,rfl,rfl,hq,hj,hlen,q⟩:=h
 cases rx
 obtain⟨u,rfl,ru⟩:=rv.one
 have e0:u=Value.bool b:=ru
 subst e0
 obtain⟨its,rs,pl,hz⟩:=I.list hq
 have ei:=oO rs
 subst ei
 obtain⟨dd,n,sl,ho⟩:=oN pl.isList
 obtain⟨hlt,hit,hno⟩:=List.findIdx?_eq_some_iff_getElem.mp hj
 refine call_meets F.slot_list_index ⟨_,ho,rfl⟩ F.entry_list_index (F.args_list_index_2 _ _) (SeqAt.list_indexAt l _ n dd sl (.bool b) (eqB b) j (by simpa using hlt) (by omega) ?_ ?_) ⟨ho,fun y hy=>?_,?_⟩
 ·simpa [eqB] using hit
 ·intro m hm h2
  have:=hno m h2
  simpa [eqB] using this
 ·obtain⟨c,_,rfl⟩:=List.mem_map.mp (by simpa using hy:y∈bs.map Value.bool)
  exact SeqAt.EqAt.bool_bool c b
 ·exact⟨.int (j:Nat),H,I.kept (h':=s.heap) (t':=s.toks+1) fun _ _ z=>z,⟨s.toks,rfl⟩,q⟩
noncomputable def ue:D->List D->Hh->R D:=fun o ds h=>match o,ds with
 | .frl xs,[.bl b]=>match mP xs with
  | some bs=>.ok (.int (bs.countP (· == b):Nat)) h
  | none=>.bad
 | _,_=>.bad
noncomputable def ub:D->List D->Hh->R D:=fun o ds h=>match o,ds with
 | .frl xs,[.bl b]=>match mP xs with
  | some bs=>match bs.findIdx? (· == b) with
   | some j=>if bs.length<1000000 then .ok (.int (j:Nat)) h else .bad
   | none=>.bad
  | none=>.bad
 | _,_=>.bad
theorem AE:zF K g ε ue (zb K):=by
 intro α H h o a y x Q r ro ra w
 unfold ue at w
 cases ro with
 | @frl ds p vs hq rs=>
  cases ra with
  | nil=>exact w.elim
  | cons rd rr=>
   cases rr with
   | cons _ _=>cases rd<;>exact w.elim
   | nil=>
    cases rd with
    | bl b=>
     simp only at w
     cases e2:mP ds with
     | none=>rw[e2] at w;exact w.elim
     | some bs=>
      rw[e2] at w
      have e3:=kC e2
      subst e3
      have e4:=rs.FV
      subst e4
      exact⟨p,bs,b,rfl,rfl,hq.sq,aJ.now w r (.int _)⟩
    | _=>exact w.elim
 | _=>exact w.elim
theorem Aw:zF K g ε ub (x8 K):=by
 intro α H h o a y x Q r ro ra w
 unfold ub at w
 cases ro with
 | @frl ds p vs hq rs=>
  cases ra with
  | nil=>exact w.elim
  | cons rd rr=>
   cases rr with
   | cons _ _=>cases rd<;>exact w.elim
   | nil=>
    cases rd with
    | bl b=>
     simp only at w
     cases e2:mP ds with
     | none=>rw[e2] at w;exact w.elim
     | some bs=>
      rw[e2] at w
      simp only at w
      cases e5:bs.findIdx? (· == b) with
      | none=>rw[e5] at w;exact w.elim
      | some j=>
       rw[e5] at w
       obtain⟨hl,w⟩:=WQ.dD w
       have e3:=kC e2
       subst e3
       have e4:=rs.FV
       subst e4
       exact⟨p,bs,b,j,rfl,rfl,hq.sq,e5,hl,aJ.now w r (.int _)⟩
    | _=>exact w.elim
 | _=>exact w.elim
end
end L2.FE
namespace L2
open PySem PySem.Spec PyProof.Rows
theorem Inv.IL {X:Cx} {pins pins' pn:List (Addr × Obj)} {σ:St} {H:Hp} {s:Shared} {E:Value->Shared->Prop} (J:Inv (X.wpn pn E) pins' σ H s) (hp:∀p∈X.pn++pins,p∈pn++pins'):Inv X pins σ H s:=
 ⟨⟨J.ok.mod,J.ok.kind,J.ok.glob,J.ok.blt,J.ok.above,J.ok.inj,J.ok.has,J.ok.cab,J.ok.hd,J.ok.frames,J.ok.stk,J.ok.exf,J.ok.bs,J.ok.bsz,J.ok.qv,J.ok.vV,J.ok.i5,J.ok.frf⟩,J.os,J.bare,J.base,J.loc,J.cell,J.free,J.di,fun p h=>J.pin p (hp p h),J.hok,J.len⟩
end L2
namespace L2.FE
open PySem PySem.Spec PyProof.Rows
noncomputable def Ed (P:Program) (w:World) (K:PySem.W.Frag) (mg:Str->Option Value) (base:Heap) (g:GG) (x:Str) (k:Nat) (ps:List Str) (m:MF):Prop:=
 ∃f fd,FnH P w K mg base k f fd ps (spM K g ps.length m)/\PySem.W.keepIn K (.ref f)=true/\Binds K fd ps []/\mg x=some (.ref f)
section
variable {P:Program} {w:World} {K:PySem.W.Frag} {mg:Str->Option Value} {base:Heap} {g:GG}
theorem Fo {x qual:Str} {st:Stmt} {f:Addr} {fd:FuncData} {N ps:List Str} {k:Nat} {mb:MS} (F:Fun K x qual st f fd) (S:aH N ps (ai st))
  (hb:∀(cdv:Value) (A:Around) (outer:List Env) (s:Shared) (H:Hp) (E:XK),cB k (unm (A.deeper (envOfC qual (ai st) s.heap.objs.size f cdv))) →
   PSs (cxH P w K mg base N qual (ai st) f cdv A outer s H E) (bu st) (tMS K g E00 mb)):FnH P w K mg base (k+1) f fd ps (spM K g ps.length (cn N.length mb)):=by
 refine Ge F S (fun vs H Q E h=>h.1) fun cdv A outer s H vs Q E hr h=>⟨_,hb cdv A outer s H E hr,?_⟩
 obtain⟨hl,α,ds,h,rs,hh,w⟩:=h
 refine tMS.use ⟨hh,jP rs⟩ w.bind fun fl h' H' α' e r kk=>?_
 cases fl with
 | nx e'=>exact fun σ' s'=>(show aJ K g α H Q .non h' from kk) _ H' α' e r .non
 | bk e'=>exact kk.elim
 | ct e'=>exact kk.elim
 | rt d=>exact fun v rv=>(show aJ K g α H Q d h' from kk) _ H' α' e r rv
end
section
variable {X:Cx} {g:GG} {ε:EE}
theorem Be {k:Nat} {f:Addr} {fd:FuncData} {ps:List Str} {m:MF} {np:Nat} {x:Str} {p pos:Pos} {e:Expr} {es:List Expr} {mr:MA} (F:FnH X.prog X.w X.K X.mg X.base k f fd ps (spM X.K g np m)) (hr:cB k (unm X.A)) (hg:Gl X x) (hm:X.mg x=some (.ref f)) (hk:PySem.W.keepIn X.K (.ref f)=true) (hb:Binds X.K fd ps [])
  (ha:PA X (e::es) (tMA X.K g E00 mr)) (hlen:∀env h ds h',mr env h=.ok ds h'->ds.length=np) (hdb:(x == ("__debug__" : Str))=false:=by decide) (he:starEach (e::es) X.env=(false,eval e X.env)::starEach es X.env:=by rfl) (hpl:(backTo pos (starEach es X.env)).any (·.1)=false:=by rfl) :
  PE X (.Call (.Name x p) (e::es) [] pos) (tM X.K g E00 (aj m mr)):=
 PE.imp (wj F hr hg hm hk hb ha hdb he hpl) fun σ H Q ⟨α,env,h,s,w⟩=>⟨α,env,h,s,w.bind.mono fun d1 h1 eq w1 v1 H1 α1 e1 hr1 r1=>by
  show spM X.K g np m (v1++[]) H1 Q E0
  rw[List.append_nil]
  refine⟨?_,α1,d1,h1,r1,hr1,w1.post e1⟩
  rw[<- r1.length]
  exact hlen env h d1 h1 eq⟩
noncomputable def sS (mb:MS) (mr:MF):MS:=fun env h=>match mb env h with
 | .ok fl h'=>.ok fl h'
 | .err x h'=>if (bN.contains x.cls&&(h'.take h.length).all (jS h.length))=true then (noR (mr [.exc x.cls x.fs] (h'.take h.length))).bind fun d h2=>.ok (.rt d) h2 else .bad
 | .bad=>.bad
theorem Jg {body:List Stmt} {mb:MS} {mr:MF} {k:Nat} {f:Addr} {fd:FuncData} {ps:List Str} {i:Nat} {n y:Str} {np p1 p2 cpos rpos hpos pos:Pos}
  (hcl:rq X.K X.mg) (hgo:g=gOf X.mg) (pl:Plain X) (hN:X.N.Nodup) (hi:X.N[i]?=some n) (hl:X.env.scope.names.lookup n=some .local) (hgF:Gl X "FallError") (hgR:Gl X y)
  (F:FnH X.prog X.w X.K X.mg X.base k f fd ps (spM X.K g 1 mr)) (hr:cB k (unm X.A)) (hm:X.mg y=some (.ref f)) (hk:PySem.W.keepIn X.K (.ref f)=true) (hb:Binds X.K fd ps [])
  (hbd:∀(pn:List (Addr × Obj)) (xe:Value->Shared->Prop) (E:XK),ie (X.wpn pn xe) E->Plain (X.wpn pn xe)->PassesOwn (model X.prog X.w) X.A X.env xe->PSs (X.wpn pn xe) body (tMS X.K g (εX g E) mb))
  (hdn:(n == ("__debug__" : Str))=false:=by decide) (hdc:(n == ("__classdict__" : Str))=false:=by decide) (hdb:(y == ("__debug__" : Str))=false:=by decide)
  (hst:starEach [.Name n p2] X.env=(false,eval (.Name n p2) X.env)::starEach [] X.env:=by rfl) (hpl:(backTo cpos (starEach [] X.env)).any (·.1)=false:=by rfl) :
  PS X (.Try body [.ExceptHandler (some (.Name "FallError" np)) (some n) [.Return (some (.Call (.Name y p1) [.Name n p2] [] cpos)) rpos] hpos] [] [] pos) (tMS X.K g ε (sS mb mr)):=by
 intro pins s σ H D I ⟨α,env,h,sr,w⟩
 obtain⟨CF,hmF⟩:=hcl.at_ "FallError" (by decide)
 refine wpAny_Try_except ?_
 let K1:Value->Shared->Prop:=fun e s₁=>wpAny (model X.prog X.w) X.A (noteFrame e X.env) (fun _ s₂=>wpAny (model X.prog X.w) X.A (setFlight e none) (fun _ s₃=>wpAny (model X.prog X.w) X.A (handleBy e X.env [.ExceptHandler (some (.Name "FallError" np)) (some n) [.Return (some (.Call (.Name y p1) [.Name n p2] [] cpos)) rpos] hpos]) (SP X pins D) X.xe s₃) X.xe s₂) X.xe s₁
 let E1:XK:=fun C dc H'=>∃α' x h',mb env h=.err x h'/\Ext X.K α H α' H'/\aS X.K g α' H' h'/\(∃C0,C=.ref C0/\g x.cls=some C0)/\XFs H' dc x.fs
 have un:∀{σ:St} {H:Hp} {s:Shared},Inv (X.wpn (X.pn++pins) K1) [] σ H s->Inv X pins σ H s:=fun J=>J.IL fun p hp=>by simpa using hp
 have fl:ie (X.wpn (X.pn++pins) K1) E1:=by
  rintro e s1 ⟨σ1,H1,B,a,C,dc,rfl,J,ar,cv,pn,α',x,h',eq,ext,hr',⟨C0,rfl,hgC⟩,xf⟩
  have ar':Arr B (X.env::X.outer) a (.ref C0) dc s1.heap:=by rw[<- pl.stk.1];exact ar
  have hA:X.A.frames=some (X.env::X.outer):=by rw[<- pl.stk.1];exact J.ok.frames
  have pl1:Plain (X.wpn (X.pn++pins) K1):=⟨pl.ex,pl.stk⟩
  unfold sS at w
  rw[eq] at w
  obtain⟨low,w⟩:=WQ.dD w
  rw[Bool.and_eq_true] at low
  obtain⟨hcn,low⟩:=low
  refine uR hA pl.stk.2 ar' fun h2 y2 g2=>t6 y2 fun h3 y3 g3=>?_
  have J3:Inv (X.wpn (X.pn++pins) K1) [] σ1 H1 { s1 with heap:=h3 }:=J.flew (t':=s1.toks) pl1 cv pn ar.stays ar.fr y3.stays (g2.trans g3)
  refine wpAny_handleBy_cons (codeAny_handlers_test ?_) (by intro q;cases q)
  have J3h:Inv ((X.wpn (X.pn++pins) K1).hand (X.A.mark (some (.ref a))) (X.pn++pins) fun _ _=>False) [] σ1 H1 { s1 with heap:=h3 }:=Inv.hand (A:=X.A.mark (some (.ref a))) (pn:=X.pn++pins) J3 rfl (fun p hp=>hp) _
  refine iw J3h hgF hmF ?_
  obtain⟨ob,ws0,hob,hoc,_,_⟩:=y3.there
  have LT:PySem.W.Looks (model X.prog X.w) h3 (typeOf (.ref a)) (.ref C0):=hoc ▸ (PySem.W.Looks.ld hob).andThen .now
  have hx:PySem.W.exmOne X.K (.ref C0) (.ref CF)=some true:=by
   subst hgo
   exact hcl.exm x.cls (by simpa using hcn) C0 (kU hgC) CF hmF
  refine(PySem.W.exm_one J3.kIn LT hx).here ?_
  refine codeAny_handlers_suite_as ?_
  refine t6 y3 fun h4 y4 g4=>?_
  have J4:Inv (X.wpn (X.pn++pins) K1) [] σ1 H1 { s1 with heap:=h4 }:=J.flew (t':=s1.toks) pl1 cv pn ar.stays ar.fr y4.stays (g2.trans (g3.trans g4))
  obtain⟨oe,ws,q1,q2,q3,q4⟩:=y4.there
  have fr4:h4.FunFrames B X.stack:=by rw[pl.stk.1];exact y4.fr
  obtain⟨hn,J5⟩:=J4.adopt pl1 cv pn fr4 y4.new q1 q4
  refine fY (X:=X.wpn (X.pn++pins) K1) J5 hN hi (.inl hl) (v:=.ref a) (u:=.ref a) rfl (fun s6 J6=>?_) (.inr hl)
  have J7:Inv ((X.wpn (X.pn++pins) K1).hand (X.A.mark (some (.ref a))) (X.pn++pins) fun _ _=>False) [] (σ1.set i (some (.ref a))) (upd H1 a (AtO a oe)) s6:=Inv.hand (A:=X.A.mark (some (.ref a))) (pn:=X.pn++pins) J6 rfl (fun p hp=>hp) _
  have T:=yU (Bl (pos:=rpos) (wj (X:=(X.wpn (X.pn++pins) K1).hand (X.A.mark (some (.ref a))) (X.pn++pins) fun _ _=>False) (p:=p1) (pos:=cpos) F hr hgR hm hk hb (fM (xW (pos:=p2) hi (.inl hl) hdn hdc) l6 hst) hdb hst hpl))
  have lenσ:i<σ1.length:=by rw[J.len];exact(List.getElem?_eq_some_iff.mp hi).1
  refine wpAny_mono (T [] s6 _ _ { nx:=fun _ _=>False,rt:=D.rt } J7 ⟨.ref a,by simp[lenσ],?_⟩) (fun fl s7 q=>?_) fun _ _ z=>z.elim
  ·show spM X.K g 1 mr ([.ref a]++[]) (upd H1 a (AtO a oe)) D.rt E0
   have k0:α.length=h.length:=sr.heap.len
   have fz:∀p o u,H1 p=some (.frz o u)->upd H1 a (AtO a oe) p=some (.frz o u):=fun p o u z=>by rw[aA (aK z hn)];exact z
   have Lw:pQ X.K α α' H1 (upd H1 a (AtO a oe)) h.length:=⟨fun m hm=>ip ext.pre (by omega),fun p xs z=>by rw[aA (aK z hn)];exact z,fz⟩
   have kp:∀m p u,m<h.length->α'[m]?=some p->H1 p=some u->upd H1 a (AtO a oe) p=some u:=fun m p u _ _ z=>by rw[aA (aK z hn)];exact z
   have ex2:Ext X.K α H α (upd H1 a (AtO a oe)):=⟨⟨List.prefix_refl _,fun p xs z=>Lw.tup p xs (ext.tup p xs z),fun p o u z=>fz p o u (ext.frz p o u z),fun p ps z=>by
    obtain⟨m,q⟩:=ext.tbl p ps z
    exact⟨m,by rw[aA (aK q hn)];exact q⟩⟩,fun p u z m nt=>by
    have:=ext.kept p u z m nt
    rw[aA (aK this hn)];exact this,fun _ z m=>absurd z m⟩
   refine⟨rfl,α,[.exc x.cls x.fs],h'.take h.length,.cons (.exc hgC a8 q2 ⟨ws,q4⟩ ?_) .nil,⟨?_,sr.heap.inj,fun m p ob h1 h2=>?_,hr'.tab.upd (.inl hn)⟩,?_⟩
   ·rw[q3]
    exact xf.elim .inl fun⟨dx,od,z1,z2⟩=>.inr ⟨dx,od,z1,fz _ _ _ z2⟩
   ·rw[List.length_take,<- hr'.len,k0]
    have:=ext.pre.length_le
    omega
   ·have hm:m<h.length:=(pV h2).1
    rw[ip ext.pre (by omega)] at h1
    exact qf k0 ext hr' low Lw kp m p ob hm h1 h2
   ·refine((pK w.bind).ext ex2).mono fun d h2 _ kk v H2 α2 e2 r2 rd=>?_
    exact(show cG X.K g α H D (.rt d) h2 from kk) H2 α2 (ex2.trans e2) r2 v rd
  ·cases fl with
   | ret u=>
    obtain⟨v,σ7,H7,J8,rv,q⟩:=q
    obtain⟨m,hm7,_⟩:=J8.loc
    have J9:Inv X pins σ7 H7 s7:=un (Inv.back (pins:=[]) J8 J.ok fun p hp=>hp)
    refine wpAny_nameGoes_keeps hl hm7 (by rw[I.ok.kind];rfl) fun h8 v8 hn8 sb=>?_
    exact⟨v,σ7.set i none,H7,J9.forget hN hi hm7 hn8 (fun z hz=>if_neg hz) sb,rv,q⟩
   | next=>obtain⟨_,_,_,q⟩:=q;exact q.elim
   | brk=>obtain⟨_,_,_,q⟩:=q;exact q.elim
   | cont=>obtain⟨_,_,_,q⟩:=q;exact q.elim
 have I1:Inv (X.wpn (X.pn++pins) K1) [] σ H s:=I.wpn (fun p hp=>by simpa using hp) _
 refine wpAny_mono (hbd (X.pn++pins) K1 E1 fl ⟨pl.ex,pl.stk⟩ PassesOwn.looking [] s σ H D I1 ⟨α,env,h,sr,?_⟩) (fun f s1 q=>?_) fun _ _ z=>z
 ·unfold sS at w
  cases eq:mb env h with
  | ok fl h'=>rw[eq] at w;exact w
  | err x h'=>exact fun α' H' e r C dc hg xf=>⟨α',x,h',eq,e,r,⟨C,rfl,hg⟩,xf⟩
  | bad=>rw[eq] at w;exact w.elim
 ·cases f with
  | next=>obtain⟨σ',H',J,q⟩:=q;exact wpAny_execs_nil ⟨σ',H',un J,q⟩
  | brk=>obtain⟨σ',H',J,q⟩:=q;exact⟨σ',H',un J,q⟩
  | cont=>obtain⟨σ',H',J,q⟩:=q;exact⟨σ',H',un J,q⟩
  | ret u=>obtain⟨v,σ',H',J,r,q⟩:=q;exact⟨v,σ',H',un J,r,q⟩
end
end L2.FE
namespace L2
open PySem PySem.Spec PyProof.Rows
theorem Cz {k:Nat} {A:Around} (h:cB k A):cB k (unm A):=⟨rfl,h.dp,h.un,h.gd⟩
end L2
namespace L2.FE
open PySem PySem.Spec PyProof.Rows
section
variable {X:Cx} {g:GG} {ε:EE} {K:PySem.W.Frag}
noncomputable def eqI (i:Int):Value->Bool
 | .int c _=>c == i
 | _=>false
theorem lM:∀{ns:List Int} {us:List Value} {m:Nat} (h:m<us.length),Vals (ns.map V.int) us->∃(h':m<ns.length) (t:Tok),us[m]=Value.int ns[m] t
 | [],_,m,h,.nil=>absurd h (Nat.not_lt_zero _)
 | n::ns,_,0,h,.cons r t=>by obtain⟨t,e⟩:=r;exact⟨Nat.zero_lt_succ _,t,e⟩
 | n::ns,_::us,m+1,h,.cons r t=>by
  obtain⟨h',t',e⟩:=lM (m:=m) (by simpa using h) t
  exact⟨by simpa using h',t',by simpa using e⟩
end
theorem us0 {P:List Value->Prop} {us:List Value} (hl:us.length=0) (h:P []):P us:=by cases us with | nil=>exact h | cons _ _=>cases hl
theorem us1 {P:List Value->Prop} {us:List Value} (hl:us.length=1) (h:∀a,P [a]):P us:=by cases us with | nil=>cases hl | cons a us=>exact us0 (P:=fun us=>P (a::us)) (Nat.succ.inj hl) (h a)
theorem us2 {P:List Value->Prop} {us:List Value} (hl:us.length=2) (h:∀a b,P [a,b]):P us:=by cases us with | nil=>cases hl | cons a us=>exact us1 (P:=fun us=>P (a::us)) (Nat.succ.inj hl) (h a)
theorem us3 {P:List Value->Prop} {us:List Value} (hl:us.length=3) (h:∀a b c,P [a,b,c]):P us:=by cases us with | nil=>cases hl | cons a us=>exact us2 (P:=fun us=>P (a::us)) (Nat.succ.inj hl) (h a)
theorem us4 {P:List Value->Prop} {us:List Value} (hl:us.length=4) (h:∀a b c d,P [a,b,c,d]):P us:=by cases us with | nil=>cases hl | cons a us=>exact us3 (P:=fun us=>P (a::us)) (Nat.succ.inj hl) (h a)
theorem us5 {P:List Value->Prop} {us:List Value} (hl:us.length=5) (h:∀a b c d e,P [a,b,c,d,e]):P us:=by cases us with | nil=>cases hl | cons a us=>exact us4 (P:=fun us=>P (a::us)) (Nat.succ.inj hl) (h a)
theorem qd {fd:FuncData} {ps:List Str} {us:List Value} (hl:us.length=1) (h:∀a:Value,bindArgs fd ⟨[a],[]⟩=pure (ps.zip [a])):bindArgs fd ⟨us,[]⟩=pure (ps.zip us):=us1 (P:=fun us=>bindArgs fd ⟨us,[]⟩=pure (ps.zip us)) hl h
theorem xj {fd:FuncData} {ps:List Str} {us:List Value} (hl:us.length=2) (h:∀a b:Value,bindArgs fd ⟨[a,b],[]⟩=pure (ps.zip [a,b])):bindArgs fd ⟨us,[]⟩=pure (ps.zip us):=us2 (P:=fun us=>bindArgs fd ⟨us,[]⟩=pure (ps.zip us)) hl h
theorem Dc {fd:FuncData} {ps:List Str} {us:List Value} (hl:us.length=3) (h:∀a b c:Value,bindArgs fd ⟨[a,b,c],[]⟩=pure (ps.zip [a,b,c])):bindArgs fd ⟨us,[]⟩=pure (ps.zip us):=us3 (P:=fun us=>bindArgs fd ⟨us,[]⟩=pure (ps.zip us)) hl h
theorem HK {fd:FuncData} {ps:List Str} {us:List Value} (hl:us.length=4) (h:∀a b c d:Value,bindArgs fd ⟨[a,b,c,d],[]⟩=pure (ps.zip [a,b,c,d])):bindArgs fd ⟨us,[]⟩=pure (ps.zip us):=us4 (P:=fun us=>bindArgs fd ⟨us,[]⟩=pure (ps.zip us)) hl h
theorem w_ {fd:FuncData} {ps:List Str} {us:List Value} (hl:us.length=5) (h:∀a b c d e:Value,bindArgs fd ⟨[a,b,c,d,e],[]⟩=pure (ps.zip [a,b,c,d,e])):bindArgs fd ⟨us,[]⟩=pure (ps.zip us):=us5 (P:=fun us=>bindArgs fd ⟨us,[]⟩=pure (ps.zip us)) hl h
section
variable {X:Cx} {g:GG} {ε:EE} {K:PySem.W.Frag}
noncomputable def yl (K:PySem.W.Frag):V->List V->Hp->VK->Prop:=fun x vs H Q=>∃(l:Addr) (ns:List Int) (i:Int) (j:Nat),x=.ref l/\vs=[.int i]/\SqL K H l (ns.map V.int)/\ns.findIdx? (· == i)=some j/\ns.length<1000000/\Q (.int (j:Nat)) H
theorem sE:MtM X "list.index" (yl X.K):=by
 intro pins s σ H x vs v us Q I rx rv h
 obtain⟨l,ns,i,j,rfl,rfl,hq,hj,hlen0,q⟩:=h
 cases rx
 obtain⟨u,rfl,ru⟩:=rv.one
 obtain⟨t0,rfl⟩:=ru
 obtain⟨its,rs,pl,hz⟩:=I.list hq
 obtain⟨dd,n,sl,ho⟩:=oN pl.isList
 obtain⟨hlt,hit,hno⟩:=List.findIdx?_eq_some_iff_getElem.mp hj
 have hlen:its.length=ns.length:=by have:=rs.length;simpa using this.symm
 refine call_meets F.slot_list_index ⟨_,ho,rfl⟩ F.entry_list_index (F.args_list_index_2 _ _) (SeqAt.list_indexAt l _ n dd sl (.int i t0) (eqI i) j (by simpa [hlen] using hlt) (by simp;omega) ?_ ?_) ⟨ho,fun y hy=>?_,?_⟩
 ·obtain⟨h',t',e⟩:=lM (m:=j) (by omega) rs
  show eqI i its[j]=true
  rw[e];exact hit
 ·intro m hm h2
  obtain⟨h',t',e⟩:=lM (m:=m) (by simpa using hm) rs
  show eqI i its[m]=false
  rw[e]
  have:=hno m h2
  simpa [eqI] using this
 ·obtain⟨m,hm,e⟩:=List.getElem_of_mem (by simpa using hy:y∈its)
  obtain⟨h',t',e'⟩:=lM hm rs
  rw[<- e,e']
  exact SeqAt.EqAt.int_int _ _ _ _
 ·exact⟨.int (j:Nat),H,I.kept (h':=s.heap) (t':=s.toks+1) fun _ _ z=>z,⟨s.toks,rfl⟩,q⟩
noncomputable def gG:D->List D->Hh->R D:=fun o ds h=>match o,ds with
 | .frl xs,[.int i]=>match intsOf xs with
  | some ns=>match ns.findIdx? (· == i) with
   | some j=>if ns.length<1000000 then .ok (.int (j:Nat)) h else .bad
   | none=>.bad
  | none=>.bad
 | _,_=>.bad
theorem rQ:zF K g ε gG (yl K):=by
 intro α H h o a y x Q r ro ra w
 unfold gG at w
 split at w
 ·split at w
  ·split at w
   ·rename_i xs i _ ns e2 _ j e5
    obtain⟨hl,w⟩:=WQ.dD w
    cases ro with
    | @frl _ p vs hq rs=>
     cases ra with
     | cons rd rr=>
      cases rd
      cases rr
      have e3:=gC e2
      subst e3
      have e4:=rs.yu
      subst e4
      exact⟨p,ns,i,j,rfl,rfl,hq.sq,e5,hl,aJ.now w r (.int _)⟩
   ·exact w.elim
  ·exact w.elim
 ·exact w.elim
theorem v9 {ns:List Int} {i:Int} {j:Nat} {h:Hh} (e:ns.findIdx? (· == i)=some j) (hl:ns.length<1000000):gG (.frl (ns.map D.int)) [.int i] h=.ok (.int (j:Nat)) h:=by
 delta gG;dsimp only;rw[kH];dsimp only;rw[e];exact if_pos hl
end
end L2.FE
namespace PySem
open Sem (wp)
section
variable {prog:Program} {w:World} {A:Around} {E:Value->Shared->Prop} {h:Heap} {g:Array GenState} {d:Drawn} {t:Nat} {os:OsState}
variable {nm q:Str} {C N:Addr} {bs bm bmB:List Value} {hdct:Bool} {sn:List Str} {sub:List Value} {ab:Bool} {col:Option Bool} {dd:Option Addr} {k0 k1 k2 k3 k5:Option Value} {B newId initId:String}
theorem ng (F:ExcBaseFacts B newId initId bmB) (T:OwnTail h bmB bm) {mN:Str->Option Value} {rest:List Value} {fI:Addr} {oI:Obj} {Q:Fin->Shared->Prop}
  (hC:h.get? C=some (excClassObj nm q C N bs bm hdct sn sub ab col dd k0 k1 k2 k3 k5 newId)) (hn:h.Ns N mN) (hi:mN "__init__" = some (.ref fI)) (hfI:h.get? fI=some oI) (hfc:oI.cls=.type "function")
  (hq:∀h' e,Heap.MadeExcOf h h' e (.ref C) rest->e=h.objs.size+1->h'.objs.size=h.objs.size+2->wpAny (model prog w) A (call (.ref fI) (.ref e::rest)) (fun r s'=>r=.none/\Q (.done (.ret (.ref e))) s') E ⟨h',g,d,t,os⟩) (hrest:rest.length<=sizeLine) :
  wpAny (model prog w) A (Builtin.«type.__call__» ⟨.ref C::rest,[]⟩) Q E ⟨h,g,d,t,os⟩:=by
 repeat (first | with_reducible refine wpAny_loadPart_at hC ?_ | with_reducible refine wpAny_madeBy_exc hC ?_ | wp_step)
 refine codeAny_call_builtin_code (Code.quiet_builtin _ F.quiet) (wpAny_check_new_subT F T hC ?_)
 refine codeAny_exc_new_subT F T hC ?_ hrest
 show wpAny _ _ _ _ _ _
 have up:∀b o,h.get? b=some o->((h.push { cls:=.type "tuple", data:=.seq rest.toArray }).push { cls:=.ref C,data:=.fields #[.ref h.objs.size,.none,.none,.none,.bool false,.none] }).get? b=some o:=fun b o z=>Heap.get?_push_of_some _ (Heap.get?_push_of_some _ z)
 have hC1:=up _ _ hC
 have hfI1:=up _ _ hfI
 have hn1:((h.push { cls:=.type "tuple", data:=.seq rest.toArray }).push { cls:=.ref C,data:=.fields #[.ref h.objs.size,.none,.none,.none,.bool false,.none] }).Ns N mN:=hn.keeps up
 have hget:((h.push { cls:=.type "tuple", data:=.seq rest.toArray }).push { cls:=.ref C,data:=.fields #[.ref h.objs.size,.none,.none,.none,.bool false,.none] }).get? (h.objs.size+1)=some { cls:=.ref C,data:=.fields #[.ref h.objs.size,.none,.none,.none,.bool false,.none] }:=by heap_get
 have hcC:(Value.ref C::bm).contains (.ref C)=true:=by simp
 have T1:=T.keeps up
 unfold isInstance
 repeat (first | with_reducible refine wpAny_loadPart_at hget ?_ | (with_reducible refine wpAny_isSubtype_exc hC1 ?_;rw[hcC]) | wp_step)
 show wpAny _ _ (typeLookup (.ref C) _) _ _ _
 refine wpAny_typeLookup_tail hC1 hn1 T1 F.mroIs F.init.lookup ?_
 rw[hi]
 refine wpAny_holding (wpAny_bind ?_)
 unfold bindSpecial
 refine wpAny_bind (wpAny_typeOf (T:="function") ⟨_,hfI1,hfc⟩ ?_)
 rw[if_pos (by decide)]
 refine wpAny_pure (wpAny_bind (wpAny_mono (hq _ (h.objs.size+1) ⟨up,Heap.get?_none_of_le (Nat.le_succ _),h.objs.size,hget,Heap.get?_none_of_le (Nat.le_refl _),?_⟩ rfl (by rw[Heap.size_push,Heap.size_push])) (fun r s' hr=>?_) fun _ _ x=>x))
 ·exact Heap.get?_push_of_some _ (Heap.get?_push_at rfl rfl)
 ·obtain⟨rfl,hQ⟩:=hr
  wp_walk
  exact hQ
theorem xr (F:ExcBaseFacts B newId initId bmB) (T:OwnTail h bmB bm) {mN:Str->Option Value} {rest:List Value} {fI:Addr} {oI:Obj} {Q:Value->Shared->Prop}
  (hC:h.get? C=some (excClassObj nm q C N bs bm hdct sn sub ab col dd k0 k1 k2 k3 k5 newId)) (hn:h.Ns N mN) (hi:mN "__init__" = some (.ref fI)) (hfI:h.get? fI=some oI) (hfc:oI.cls=.type "function")
  (hq:∀h' e,Heap.MadeExcOf h h' e (.ref C) rest->e=h.objs.size+1->h'.objs.size=h.objs.size+2->wpAny (model prog w) (A.under (.builtin "type.__call__" ⟨.ref C::rest,[]⟩)) (call (.ref fI) (.ref e::rest)) (fun r s'=>r=.none/\Q (.ref e) s') E ⟨h',g,d,t,os⟩) (hrest:rest.length<=sizeLine) :
  wpAny (model prog w) A (call (.ref C) rest) Q E ⟨h,g,d,t,os⟩:=by
 have f1:=tc_lookup
 have f2:=tc_bind (.ref C)
 have hT:(⟨h,g,d,t,os⟩:Shared).TypeIs (.ref C) "type" := ⟨_,hC,rfl⟩
 refine wpAny_call (codeAny_of_tree ?_)
 show wpAny _ _ (callAny (.ref C) _) _ _ _
 repeat (any_goals (first | assumption | with_reducible refine wpAny_loadPart_at hC ?_ | wp_step))
 refine⟨rfl,?_⟩
 refine codeAny_call_builtin_at (Code.quiet_builtin _ (by decide +kernel)) entry_typeCall (wpAny_check_type_call_sub hC (ng (hrest:=hrest) F T hC hn hi hfI hfc fun h' e hm he hs=>?_))
 exact hq h' e hm he hs
end
end PySem
namespace PySem.W
open PySem PySem.Calls PyProof.Rows PySem.Spec Builtin Builtin.ObjectAttr
noncomputable abbrev Jj:List Value:=[.type "ValueError", .type "Exception", .type "BaseException", .type "object"]
noncomputable def CU:Value->Bool
 | .ref _=>true
 | _=>false
noncomputable def mO (l:List Value):Bool:=l.dropWhile CU == Jj
theorem jn {l:List Value} (e:mO l=true):l=Jj\/∃c r,l=.ref c::r/\mO r=true:=by
 cases l with
 | nil=>cases e
 | cons a r=>
  by_cases h:CU a=true
  ·cases a with
   | ref c=>exact .inr ⟨c,r,rfl,by unfold mO at e ⊢;rw[List.dropWhile_cons_of_pos h] at e;exact e⟩
   | _=>cases h
  ·unfold mO at e
   rw[List.dropWhile_cons_of_neg h] at e
   exact .inl (beq_iff_eq.mp e)
theorem lF (self:Value):∀(n:Nat) {l:List Value},l.length<=n->mO l=true->refuseLoop self "__setattr__" l=pure ()
 | 0,l,hl,e=>by
  have:l=[]:=List.eq_nil_of_length_eq_zero (by omega)
  subst this;cases e
 | n+1,l,hl,e=>by
  rcases jn e with rfl | ⟨c,r,rfl,e'⟩
  ·exact PySem.F.store_ValueError.passes self
  ·rw[refuseLoop_ref];exact lF self n (by simp at hl;omega) e'
theorem sM:∀(n:Nat) {l:List Value},l.length<=n->mO l=true->l.contains (.type "object")=true
 | 0,l,hl,e=>by
  have:l=[]:=List.eq_nil_of_length_eq_zero (by omega)
  subst this;cases e
 | n+1,l,hl,e=>by
  rcases jn e with rfl | ⟨c,r,rfl,e'⟩
  ·simp
  ·rw[List.contains_cons,sM n (by simp at hl;omega) e',Bool.or_true]
noncomputable def gD (K:Frag) (C:Addr):Bool:=(clsIn K C).any fun cd=>mO cd.mro
section
variable {K:Frag} {prog:Program} {w:World} {A:Around} {R:Result->Shared->Prop} {s:Shared} {x C:Addr}
theorem rC {ox:Obj} {od:Option Obj} {name:Str} {tk:Tok} {v:Value} (X:K.In s.heap) (I:InstAt s.heap x ox C od) (hp:gD K C=true) (ht:takerIn K C name=some none)
  (h:∀b,wpAny (model prog w) A.in1 (storeInOwnDict (.ref x) (.ref C) (.str name tk) name v b)
   (fun fin s'=>match fin with | .done f=>R (.ok f) s' | .again c'=>c'.quiet=true/\codeAny (model prog w) A c' R s') (fun e s'=>R (.error e) s') s) :
  codeAny (model prog w) A (.call (.builtin "object.__setattr__") ⟨[.ref x,.str name tk,v],[]⟩) R s:=by
 have SF:=PySem.F.store_object
 obtain⟨cd,hc,ho⟩:=any_some hp
 have ne:cd.mro.isEmpty=false:=by cases q:cd.mro with | nil=>rw[q] at ho;cases ho | cons _ _=>rfl
 have sub:Looks (model prog w) s.heap (isInstance (.ref x) (.type "object")) true:=I.type.andThen (looks_mroIn X (by unfold mroIn;rw[hc,Option.bind_some,if_neg (by rw[ne];decide),sM _ (Nat.le_refl _) ho]))
 refine codeAny_call_builtin SF.slot.plain SF.entry (@check_slot (model prog w) _ _ s "object.__setattr__" "object" "__setattr__" (.ref x) [.str name tk,v] [] _ SF.kind SF.split sub (SF.args (.ref x) (.str name tk) v) ?_)
 obtain⟨attr,ha,hr⟩:=Option.bind_eq_some_iff.mp ht
 have hm:Looks (model prog w) s.heap (mroOf (.ref C)) cd.mro:=(looks_clsIn X hc).andThen .now
 have L3:Looks (model prog w) s.heap (storeTaker? attr) none:=by
  cases attr with
  | none=>exact .now
  | some a=>
   obtain⟨b,hb,hz⟩:=Option.map_eq_some_iff.mp hr
   refine(looks_takesIn X hb).andThen ?_
   cases b with
   | true=>cases hz
   | false=>exact .now
 rw[osa_eq,refuse_eq]
 refine wpAny_bind (wpAny_bind (I.type.here (wpAny_bind (hm.here ?_))))
 rw[lF _ _ (Nat.le_refl _) ho]
 refine wpAny_pure (wpAny_bind (I.type.here (wpAny_bind ((looks_findIn X ha).here (wpAny_bind (L3.here ?_))))))
 exact h _
theorem BB {E:Value->Shared->Prop} {ws:Array Value} {name:Str} {v:Value} {Q:Unit->Shared->Prop} (X:K.In s.heap) (hx:s.heap.get? x=some { cls:=.ref C,data:=.fields ws })
  (hs:findIn K (.ref C) "__setattr__" = some (some (.builtin "object.__setattr__"))) (hp:gD K C=true) (ht:takerIn K C name=some none) (hh:hasDictIn K C=true)
  (h:∀h',h'.get? x=some { cls:=.ref C,dict:=some s.heap.objs.size,data:=.fields ws }->h'.Ns1 s.heap.objs.size (fun y=>if y=name then some v else none) →
   (∀b o,b≠x->s.heap.get? b=some o->h'.get? b=some o)->∀t',Q () { s with heap:=h',toks:=t' }) :
  wpAny (model prog w) A (setAttr (.ref x) name v) Q E s:=by
 have I:InstAt s.heap x { cls:=.ref C,data:=.fields ws } C none:=⟨hx,rfl,rfl,True.intro⟩
 refine set_plain X I hs (rC (s:={ s with toks:=s.toks+1 }) X I hp ht fun b=>?_)
 obtain⟨cd,hc,hd'⟩:=any_some hh
 refine wpAny_bind (wpAny_pure (wpAny_bind (wpAny_bind (wpAny_loadPart hx (wpAny_bind (Looks.here (s:={ s with toks:=s.toks+1 }) (looks_clsIn X hc) ?_))))))
 rw[hd']
 have hx1:(s.heap.push { cls:=.type "dict", data:=.dict #[] }).get? x=some { cls:=.ref C,data:=.fields ws }:=Heap.get?_push_of_some _ hx
 have hxs:x≠s.heap.objs.size:=Nat.ne_of_lt (Heap.lt_size hx)
 refine wpAny_bind (wpAny_alloc' ?_)
 refine wpAny_bind (wpAny_update' hx1 ?_)
 refine wpAny_pure ?_
 have hgd:((s.heap.push { cls:=.type "dict", data:=.dict #[] }).update x fun o=>{ cls:=o.cls,dict:=some s.heap.objs.size,data:=o.data,slots:=o.slots }).get? s.heap.objs.size=some { cls:=.type "dict", data:=.dict #[] }:=
  (Heap.get?_update_ne _ _ _ _ hxs.symm).trans (Heap.get?_push_at rfl rfl)
 have hnd:((s.heap.push { cls:=.type "dict", data:=.dict #[] }).update x fun o=>{ cls:=o.cls,dict:=some s.heap.objs.size,data:=o.data,slots:=o.slots }).Ns s.heap.objs.size (fun _=>none):=
  ⟨_,#[],_,hgd,rfl,fun e he=>absurd he (by simp),fun _=>rfl⟩
 show wpAny _ _ (storeInDict s.heap.objs.size (.str name s.toks) name v) _ _ _
 unfold storeInDict newKeyGuard
 refine wpAny_bind (wpAny_pure (wpAny_bind (wpAny_nsSet1 (Heap.Ns1.of_empty hnd) fun h' hn' hs'=>?_)))
 obtain⟨oD,esD,epD,hoD,hdD,hcD⟩:=hn'.count (PySem.Within.cons name v PySem.Within.nil)
 refine wpAny_bind (wpAny_lookBehind hoD (by rw[hdD];exact pastItsLine_dict (Nat.le_trans hcD (by rw[List.length_cons,List.length_nil,sizeLine_eq];omega))) ?_)
 refine wpAny_pure (h h' ?_ ?_ (fun b o hb z=>?_) _)
 ·refine(hs'.2 x hxs).trans ?_
  exact Heap.get?_update_self _ hx1 rfl
 ·obtain⟨o',es,ep,e1,e2,e3,eu,e4⟩:=hn'
  exact⟨o',es,ep,e1,e2,e3,eu,fun y=>by rw[e4 y]⟩
 ·exact(hs'.2 b (Nat.ne_of_lt (Heap.lt_size z))).trans ((Heap.get?_update_ne _ _ _ _ hb).trans (Heap.get?_push_of_some _ z))
theorem Br {E:Value->Shared->Prop} {ws:Array Value} {dx:Addr} {mA:Str->Option Value} {ns:List Str} {name:Str} {v:Value} {Q:Unit->Shared->Prop} (X:K.In s.heap) (hx:s.heap.get? x=some { cls:=.ref C,dict:=some dx,data:=.fields ws }) (hne:dx≠x) (hn:s.heap.Ns1 dx mA) (hw:PySem.Within mA ns) (hsz:ns.length<=1000)
  (hs:findIn K (.ref C) "__setattr__" = some (some (.builtin "object.__setattr__"))) (hp:gD K C=true) (ht:takerIn K C name=some none) (hh:hasDictIn K C=true)
  (h:∀h',h'.get? x=some { cls:=.ref C,dict:=some dx,data:=.fields ws }->h'.Ns1 dx (fun y=>if y=name then some v else mA y) →
   (∀b o,b≠dx->s.heap.get? b=some o->h'.get? b=some o)->∀t',Q () { s with heap:=h',toks:=t' }) :
  wpAny (model prog w) A (setAttr (.ref x) name v) Q E s:=by
 obtain⟨od,_,_,hod,_⟩:=id hn
 have I:InstAt s.heap x { cls:=.ref C,dict:=some dx,data:=.fields ws } C (some od):=⟨hx,rfl,rfl,hod⟩
 refine set_plain X I hs (rC (s:={ s with toks:=s.toks+1 }) X I hp ht fun b=>?_)
 obtain⟨cd,hc,hd'⟩:=any_some hh
 refine wpAny_bind (wpAny_pure (wpAny_bind (wpAny_bind (wpAny_loadPart hx (wpAny_bind (Looks.here (s:={ s with toks:=s.toks+1 }) (looks_clsIn X hc) ?_))))))
 rw[hd']
 refine wpAny_pure (a:=some dx) (wpAny_bind (wpAny_pure (wpAny_bind ?_)))
 refine wpAny_nsSet1 (s:={ s with toks:=s.toks+1 }) hn fun h' hn' hs'=>?_
 obtain⟨oD,esD,epD,hoD,hdD,hcD⟩:=hn'.count (PySem.Within.cons name v hw)
 refine wpAny_bind (wpAny_lookBehind hoD (by rw[hdD];exact pastItsLine_dict (Nat.le_trans hcD (by rw[List.length_cons,sizeLine_eq];omega))) ?_)
 exact wpAny_pure (h h' ((hs'.2 x hne.symm).trans hx) hn' (fun b o hb z=>(hs'.2 b hb).trans z) _)
end
end PySem.W
namespace PySem
open Sem (wp)
section
variable {M:Model} {A:Around} {E:Value->Shared->Prop} {env:Env}
variable {nm q:Str} {C N:Addr} {bs bm:List Value} {hdct:Bool} {sn:List Str} {sub:List Value} {ab:Bool} {col:Option Bool} {dd:Option Addr} {k0 k1 k2 k3 k5:Option Value} {newId:String}
theorem jF {s:Shared} {x:Sem Value} {Q:Flow->Shared->Prop} (hbase:bm.contains (.type "BaseException")=true) (hh:A.handled=none)
  (h:wpAny M A x (fun v s₁=>∃e oe,v=.ref e/\s₁.heap.get? C=some (excClassObj nm q C N bs bm hdct sn sub ab col dd k0 k1 k2 k3 k5 newId)/\s₁.heap.get? e=some oe/\oe.cls=.ref C/\(∃ws,oe.data=.fields ws/\ws[1]?=some .none)/\E (.ref e) s₁) E s) :
  wpAny M A (raiseStmt env (some x) none) Q E s:=by
 have hcB:(Value.ref C::bm).contains (.type "BaseException")=true:=by rw[List.contains_cons,hbase,Bool.or_true]
 unfold raiseStmt
 refine wpAny_bind (wpAny_mono h (fun v s₁ h₁=>?_) fun _ _ x=>x)
 obtain⟨e,⟨ec,ed,eda,esl⟩,rfl,hC,he,hcl,⟨ws,hda,hw1⟩,hE⟩:=h₁
 dsimp only at hcl hda
 subst hcl hda
 obtain⟨hp,g,d,tk,os⟩:=s₁
 repeat (first | with_reducible refine wpAny_loadPart_at he ?_ | with_reducible refine wpAny_loadPart_at hC ?_ | (with_reducible refine wpAny_isSubtype_exc hC ?_;rw[hcB]) | wp_step)
 rw[hw1]
 refine wpAny_pure ?_
 rw[if_neg (by decide)]
 refine wpAny_pure ?_
 exact wpAny_raiseNew_none hh hE
end
section
variable {prog:Program} {w:World} {A:Around} {E:Value->Shared->Prop} {s:Shared} {env:Env}
variable {nm q:Str} {C N:Addr} {bs bm bmB:List Value} {hdct:Bool} {sn:List Str} {sub:List Value} {ab:Bool} {col:Option Bool} {dd:Option Addr} {k0 k1 k2 k3 k5:Option Value} {newId:String}
theorem xg {x:Str} {np cpos pos:Pos} {args:List Expr} {Q:Flow->Shared->Prop}
  (hbase:bm.contains (.type "BaseException")=true) (hh:A.handled=none) (hplain:(backTo cpos (starEach args env)).any (·.1)=false)
  (h:wpAny (model prog w) A (eval (.Name x np) env) (fun f s₁=>f=.ref C/\wpAny (model prog w) A (evalArgs (.ref C) true (backTo cpos (starEach args env)) [])
   (fun a s₂=>a.kw=[]/\s₂.heap.get? C=some (excClassObj nm q C N bs bm hdct sn sub ab col dd k0 k1 k2 k3 k5 newId) ∧
    wpAny (model prog w) A (call (.ref C) a.pos) (fun v s₃=>s₃.heap.get? C=some (excClassObj nm q C N bs bm hdct sn sub ab col dd k0 k1 k2 k3 k5 newId)/\∃e oe,v=.ref e/\s₃.heap.get? e=some oe/\oe.cls=.ref C/\(∃ws,oe.data=.fields ws/\ws[1]?=some .none)/\E (.ref e) s₃) E s₂) E s₁) E s) :
  wpAny (model prog w) A (exec (.Raise (some (.Call (.Name x np) args [] cpos)) none pos) env) Q E s:=by
 rw[arm_exec_Raise]
 first
  | refine wpAny_bind (wpAny_standAt (jF (C:=C) (nm:=nm) (q:=q) (N:=N) (bs:=bs) (bm:=bm) (hdct:=hdct) (sn:=sn) (sub:=sub) (ab:=ab) (col:=col) (dd:=dd) (k0:=k0) (k1:=k1) (k2:=k2) (k3:=k3) (k5:=k5) (newId:=newId) hbase hh (wpAny_bind (wpAny_mono (wpAny_Call_ofName (wpAny_mono h (fun f s₁ h₁=>?_) fun _ _ x=>x)) (fun v s₃ h₃=>wpAny_bind (wpAny_standAt (wpAny_pure h₃))) fun _ _ x=>x))))
  | (simp only[evalOpt,Option.map];refine wpAny_bind (wpAny_standAt (jF (C:=C) (nm:=nm) (q:=q) (N:=N) (bs:=bs) (bm:=bm) (hdct:=hdct) (sn:=sn) (sub:=sub) (ab:=ab) (col:=col) (dd:=dd) (k0:=k0) (k1:=k1) (k2:=k2) (k3:=k3) (k5:=k5) (newId:=newId) hbase hh (wpAny_bind (wpAny_mono (wpAny_Call_ofName (wpAny_mono h (fun f s₁ h₁=>?_) fun _ _ x=>x)) (fun v s₃ h₃=>wpAny_bind (wpAny_standAt (wpAny_pure h₃))) fun _ _ x=>x)))))
 obtain⟨rfl,h₁⟩:=h₁
 unfold callWith
 refine wpAny_bind (wpAny_holding (wpAny_mono h₁ (fun a s₂ h₂=>wpAny_bind (wpAny_standAt ?_)) fun _ _ x=>x))
 obtain⟨apos,akw⟩:=a
 obtain⟨hkw,hC,h₂⟩:=h₂
 obtain rfl:akw=[]:=hkw
 obtain⟨hp,g,d,tk,os⟩:=s₂
 simp only[hplain]
 refine wpAny_bind (wpAny_keeperOf_exc hC ?_)
 refine wpAny_bind (wpAny_mono h₂ (fun v s₃ h₃=>wpAny_bind (wpAny_holding (wpAny_point (wpAny_pure ?_)))) fun _ _ x=>x)
 obtain⟨hC3,e,oe,rfl,z1,z2,z3,z4⟩:=h₃
 exact⟨e,oe,rfl,hC3,z1,z2,z3,z4⟩
end
end PySem
namespace L2
open PySem PySem.Spec PyProof.Rows PySem.W
theorem wY {K:PySem.W.Frag} {h:Heap} {N:Addr} {mg:Str->Option Value} {n:Str} {v:Value} (X:K.In h) (G:h.Ns N mg) (e:nsIn K N n=some (some v)):mg n=some v:=by
 obtain⟨o,es,ep,ho,hd,_,hf⟩:=G
 unfold nsIn at e
 split at e
 ·rename_i c d es' n' sl q
  have:=X _ _ q
  rw[ho] at this
  cases this
  cases hd
  split at e
  ·rename_i en he
   cases e
   rw[<- hf]
   unfold nsFind findBy
   rw[<- Array.find?_toList,he]
   rfl
  ·split at e<;>cases e
 ·cases e
noncomputable def qp (K:PySem.W.Frag) (C fI:Addr):Bool:=match K.lookup C with
 | some ⟨.type "type", _,.cls cd,sl⟩=>(match cd.mro,sl.toList with
  | .ref C'::bm,[_,_,_,_,some (.builtin n),_]=>C' == C&&n == "ValueError.__new__" && !cd.hasDel&&tailIn K bmV bm&&nsOkIn K cd.ns&&nsIn K cd.ns "__init__" == some (some (.ref fI))
  | _,_=>false)
 | _=>false
theorem pf {K:PySem.W.Frag} {h:Heap} {C fI:Addr} (X:K.In h) (q:qp K C fI=true) :
  ∃bm N nm q' bs hdct sn sub ab col dd k0 k1 k2 k3 k5 mN,h.get? C=some (excClassObj nm q' C N bs bm hdct sn sub ab col dd k0 k1 k2 k3 k5 "ValueError.__new__")/\h.Ns N mN/\mN "__init__" = some (.ref fI)/\OwnTail h bmV bm:=by
 unfold qp at q
 split at q
 ·rename_i dd cd sl ho
  split at q
  ·rename_i C' bm k0 k1 k2 k3 n k5 hm hs
   simp only[Bool.and_eq_true,beq_iff_eq,Bool.not_eq_true'] at q
   obtain⟨⟨⟨⟨⟨rfl,rfl⟩,hdel⟩,ht⟩,hok⟩,hni⟩:=q
   obtain⟨nm,bs,mro,ns,qn,hd,sn,sub,ab,col,del⟩:=cd
   dsimp only at hm hdel hok hni
   subst hm hdel
   obtain rfl:sl = #[k0,k1,k2,k3,some (.builtin "ValueError.__new__"),k5]:=by
    obtain⟨l⟩:=sl
    simp only at hs
    rw[hs]
   exact⟨bm,ns,nm,qn,bs,hd,sn,sub,ab,col,dd,k0,k1,k2,k3,k5,_,X _ _ ho,.of_isNs (isNs_of_in X hok),wY X (.of_isNs (isNs_of_in X hok)) hni,tail_of_in X ht⟩
  ·cases q
 ·cases q
inductive jh:List Stmt->List Str->Prop
 | nil:jh [] []
 | cons {f:Str} {p1 p2 p3 p4:Pos} {r:List Stmt} {fs:List Str}:(f == ("__debug__" : Str))=false->jh r fs->jh (.Assign [.Attribute (.Name "self" p1) f p2] (.Name f p3) p4::r) (f::fs)
noncomputable def bG:Stmt->Stmt
 | .ClassDef _ _ _ (st::_) ..=>st
 | st=>st
structure Ec (K:PySem.W.Frag) (x:Str) (cst:Stmt) (C:Addr) (fs:List Str):Prop where
 ex:∃fI fd qual,qp K C fI=true/\Fun K "__init__" qual (bG cst) fI fd/\Binds K fd ("self" :: fs) []/\typeIn K (.ref fI)=some (.type "function")
 sc:aH ("self" :: fs) ("self" :: fs) (ai (bG cst))
 loc:∀y∈("self" : Str)::fs,(ai (bG cst)).names.lookup y=some .local
 body:jh (bu (bG cst)) fs
 sa:findIn K (.ref C) "__setattr__" = some (some (.builtin "object.__setattr__"))
 ov:gD K C=true
 tk:∀f∈fs,takerIn K C f=some none
 hd:hasDictIn K C=true
 ne:fs≠[]
section
variable {K:PySem.W.Frag} {prog:Program} {w:World} {A:Around} {E:Value->Shared->Prop} {C:Addr} {env:Env} {m:Str->Option Value} {e:Addr} {ws:Array Value}
theorem ly {s:Shared} {y:Str} {p:Pos} {v:Value} {Q:Value->Shared->Prop} (hk:env.scope.kind=.function) (hl:env.kindOf y=some .local) (hn:s.heap.Ns env.locals m) (hv:m y=some v) (hd:(y == ("__debug__" : Str))=false) (h:Q v s):wpAny (model prog w) A (eval (.Name y p) env) Q E s:=
 wpAny_Name (wpAny_loadName_local hk hl hn hv h) hd
theorem ye {h h':Heap} {a:Addr} {m:Str->Option Value} (n:h.Ns a m) (k:∀o,h.get? a=some o->h'.get? a=some o):h'.Ns a m:=let ⟨o,es,ep,q,r⟩:=n;⟨o,es,ep,k o q,r⟩
theorem sC (hk:env.scope.kind=.function) (hls:env.kindOf "self" = some .local) (sa:findIn K (.ref C) "__setattr__" = some (some (.builtin "object.__setattr__"))) (ov:gD K C=true) (hd:hasDictIn K C=true) {dx:Addr} (hms:m "self" = some (.ref e)) (hne:dx≠e) (hLe:env.locals≠e) (hLd:env.locals≠dx) :
  ∀{body:List Stmt} {fs:List Str} (_:jh body fs) (_:∀f∈fs,takerIn K C f=some none/\env.kindOf f=some .local) {us:List Value} (_:us.length=fs.length) (_:∀(i:Nat) (f:Str) (u:Value),fs[i]?=some f->us[i]?=some u->m f=some u) {mA:Str->Option Value} {ns:List Str} (_:PySem.Within mA ns) (_:ns.length+fs.length<=1000) {s:Shared} {Q:Flow->Shared->Prop}
   (_:K.In s.heap) (_:∀a o,K.lookup a=some o->a≠dx) (_:s.heap.get? e=some { cls:=.ref C,dict:=some dx,data:=.fields ws }) (_:s.heap.Ns1 dx mA) (_:s.heap.Ns env.locals m)
   (_:∀h',h'.get? e=some { cls:=.ref C,dict:=some dx,data:=.fields ws }->h'.Ns1 dx ((fs.zip us).foldl (fun mA (p:Str × Value) y=>if y=p.1 then some p.2 else mA y) mA)->(∀b o,b≠dx->s.heap.get? b=some o->h'.get? b=some o)->∀t',Q .next { s with heap:=h',toks:=t' }),
   wpAny (model prog w) A (execs body env) Q E s
 | _,_,.nil,_,us,_,_,mA,ns,_,_,s,Q,X,_,hx,hn,_,h=>wpAny_execs_nil (h s.heap hx hn (fun _ _ _ z=>z) s.toks)
 | _,_,.cons (f:=f) (fs:=fs) hdb ib,hf,[],hl,_,mA,ns,_,_,s,Q,_,_,_,_,_,_=>by cases hl
 | _,_,.cons (f:=f) (fs:=fs) hdb ib,hf,u::us,hl,hm,mA,ns,hw,hz,s,Q,X,hK,hx,hn,hL,h=>by
  refine wpAny_execs_cons (plainObj_wpAny_Assign_Attribute ?_ rfl)
  refine ly hk (hf f (by simp)).2 hL (hm 0 f u rfl rfl) hdb (ly hk hls hL hms (by decide) ?_)
  refine Br X hx hne hn hw (by simp at hz;omega) sa ov (hf f (by simp)).1 hd fun h1 q1 q2 q3 t1=>?_
  refine sC hk hls sa ov hd hms hne hLe hLd ib (fun y hy=>hf y (by simp[hy])) (us:=us) (by simpa using hl) (fun i y v a b=>hm (i+1) y v a b) (PySem.Within.cons f u hw) (by simp at hz ⊢;omega) (s:={ s with heap:=h1,toks:=t1 })
   (fun a o z=>q3 a o (hK a o z) (X a o z)) hK q1 q2 (ye hL fun o z=>q3 _ o hLd z) fun h' r1 r2 r3 t'=>?_
  exact h h' r1 r2 (fun b o hb z=>r3 b o hb (q3 b o hb z)) t'
end
noncomputable abbrev mkM (ps:List (Str × Value)):Str->Option Value:=ps.foldl (fun mA (p:Str × Value) y=>if y=p.1 then some p.2 else mA y) fun _=>none
noncomputable abbrev ws0 (t:Addr):Array Value:=#[.ref t,.none,.none,.none,.bool false,.none]
theorem Bu {K:PySem.W.Frag} {prog:Program} {w:World} {A:Around} {E:Value->Shared->Prop} {x:Str} {cst:Stmt} {C:Addr} {fs:List Str} {s:Shared} {us:List Value} {Q:Value->Shared->Prop} {k:Nat} (ci:Ec K x cst C fs) (X:K.In s.heap) (lim:s.heap.NoLimit) (hr:cB (k+2) A) (hl:us.length=fs.length) (hz:fs.length<=1000)
  (h:∀h' e dx t t',(∀b o,s.heap.get? b=some o->h'.get? b=some o)->s.heap.objs.size<=e->s.heap.objs.size<=dx->dx≠e->h'.get? e=some { cls:=.ref C,dict:=some dx,data:=.fields (ws0 t) }->h'.Ns1 dx (mkM (fs.zip us))->Q (.ref e) { s with heap:=h',toks:=t' }) :
  wpAny (model prog w) A (call (.ref C) us) Q E s:=by
 obtain⟨fI,fd,qual,hex,F,hb,hty⟩:=ci.ex
 obtain⟨bm,N,nm,q',bs,hdct,sn,sub,ab,col,dd,k0,k1,k2,k3,k5,mN,hC,hN,hi,T⟩:=pf X hex
 obtain⟨oc,od,kV,doc,pm,an,cdv,ct,osl,rfl,lk,hcd⟩:=F.ex
 have hfc:oc=.type "function" := by
  have z:(K.lookup fI).map (·.cls)=some (.type "function"):=hty
  rw[lk] at z
  exact Option.some.inj z
 obtain⟨h0,g,d,t,os⟩:=s
 have S:=ci.sc
 have lim2:us.length<=sizeLine:=by rw[sizeLine_eq];omega
 refine xr (Q:=Q) (F:=PySem.F.excBase_ValueError) T hC hN hi (X _ _ lk) hfc (fun h1 e me hee hsz=>?_) lim2
 have X1:K.In h1:=X.keeps me.keeps
 dsimp only at hee hsz
 obtain⟨t0,he,htn,_⟩:=me.there
 have hkind:∀y∈(("self" : Str)::fs).zip (Value.ref e::us),(ai (bG cst)).names.lookup y.1=some .local\/((ai (bG cst)).names.lookup y.1=some .cell/\((cellsFrom (h1.objs.size+1) (ai (bG cst)).names []).lookup y.1).isSome=true):=fun⟨n,v⟩ hy=>.inl (ci.loc n (List.of_mem_zip hy).1)
 have hbb:=hb ⟨h1,g,d,t,os⟩ (Value.ref e::us) X1 (by simp[hl])
 rw[List.append_nil] at hbb
 refine wpAny_call (codeAny_call_function (hr.make C us []).depth (X1 _ _ lk) rfl S.co S.gen rfl (codeRec_of X1 hcd) (hbb _ _ _ _ ?_))
 refine wpAny_newFunctionEnv_cells S.kind hkind fun env henv s1 x1=>?_
 subst henv
 refine⟨(lim.keeps me.keeps).keeps x1.toInCall.keep,codeAny_func ?_⟩
 have ks:∀b o,h1.get? b=some o->s1.heap.get? b=some o:=x1.toInCall.keep
 have X2:K.In s1.heap:=X1.keeps ks
 have he1:=ks _ _ he
 have hL:s1.heap.Ns h1.objs.size (bindL (envOfC qual (ai (bG cst)) h1.objs.size fI cdv).kindOf ((("self" : Str)::fs).zip (Value.ref e::us)) (fun _=>none)):=x1.toInCall.ns
 obtain⟨hp1,tk1,rfl⟩:=x1.toInCall.same
 have kindL:∀y∈("self" : Str)::fs,(envOfC qual (ai (bG cst)) h1.objs.size fI cdv).kindOf y=some .local:=ci.loc
 have hms:bindL (envOfC qual (ai (bG cst)) h1.objs.size fI cdv).kindOf ((("self" : Str)::fs).zip (Value.ref e::us)) (fun _=>none) "self" = some (.ref e):=jN (i:=0) S.nd rfl rfl (kindL _ (by simp))
 have hmf:∀(i:Nat) (f:Str) (u:Value),fs[i]?=some f->us[i]?=some u->bindL (envOfC qual (ai (bG cst)) h1.objs.size fI cdv).kindOf ((("self" : Str)::fs).zip (Value.ref e::us)) (fun _=>none) f=some u:=fun i f u a b=>
  jN (i:=i+1) S.nd (by simpa using a) (by simpa using b) (kindL f (by have:=List.mem_of_getElem? a;simp[this]))
 generalize bindL (envOfC qual (ai (bG cst)) h1.objs.size fI cdv).kindOf ((("self" : Str)::fs).zip (Value.ref e::us)) (fun _=>none)=m at hms hmf hL
 have hLe:h1.objs.size≠e:=Nat.ne_of_gt (Heap.lt_size he)
 have hse:h0.objs.size<=e:=by rw[hee];exact Nat.le_succ _
 have ib:=ci.body
 have tkf:=ci.tk
 obtain⟨f,fs,rfl⟩:∃f fs',fs=f::fs':=by
  cases fs with
  | nil=>exact absurd rfl ci.ne
  | cons f r=>exact⟨f,r,rfl⟩
 obtain⟨u,us,rfl⟩:∃u us',us=u::us':=by
  cases us with
  | nil=>cases hl
  | cons u r=>exact⟨u,r,rfl⟩
 generalize bu (bG cst)=body at ib ⊢
 cases ib with
 | cons hdb ib=>
  refine wpAny_execs_cons (plainObj_wpAny_Assign_Attribute ?_ rfl)
  refine ly S.kind (kindL f (by simp)) hL (hmf 0 f u rfl rfl) hdb (ly S.kind (kindL _ (by simp)) hL hms (by decide) ?_)
  refine BB X2 he1 ci.sa ci.ov (tkf f (by simp)) ci.hd fun h2 q1 q2 q3 t2=>?_
  have hLk:∀o,hp1.get? h1.objs.size=some o->h2.get? h1.objs.size=some o:=fun o z=>q3 _ o hLe z
  have lt1:h1.objs.size<hp1.objs.size:=let ⟨o,_,_,q,_⟩:=hL;Heap.lt_size q
  refine sC (e:=e) S.kind (kindL _ (by simp)) ci.sa ci.ov ci.hd (dx:=hp1.objs.size) hms (Nat.ne_of_gt (Heap.lt_size he1)) hLe (Nat.ne_of_lt lt1) ib (fun y hy=>⟨tkf y (by simp[hy]),kindL y (by simp[hy])⟩) (us:=us) (by simpa using hl) (fun i y v a b=>hmf (i+1) y v a b) (ns:=[f]) (PySem.Within.cons f u PySem.Within.nil) (by simp at hz ⊢;omega) (s:={ heap:=h2,gens:=g,drawn:=d,toks:=t2,os:=os })
   (fun a o z=>q3 a o (fun z2=>?_) (X2 a o z)) (fun a o z=>Nat.ne_of_lt (Heap.lt_size (X2 a o z))) q1 q2 (ye hL hLk) fun h3 r1 r2 r3 t3=>?_
  ·exact absurd (z2 ▸ Heap.lt_size (X a o z):e<h0.objs.size) (Nat.not_lt_of_le hse)
  ·refine⟨rfl,h h3 e hp1.objs.size t0 t3 (fun b o z=>r3 b o (Nat.ne_of_lt (Heap.lt_size (ks _ _ (me.keeps _ _ z)))) (q3 b o ?_ (ks _ _ (me.keeps _ _ z)))) hse ?_ (Nat.ne_of_gt (Heap.lt_size he1)) r1 r2⟩
   ·rintro rfl;have:=me.new;rw[this] at z;cases z
   ·dsimp only;omega
theorem BX (y:Str):∀(ps:List (Str × Value)) (mA:Str->Option Value),(ps.map (·.1)).Nodup->(ps.foldl (fun mA (p:Str × Value) y=>if y=p.1 then some p.2 else mA y) mA) y=(match ps.lookup y with | some v=>some v | none=>mA y)
 | [],mA,_=>rfl
 | (f,v)::r,mA,nd=>by
  rw[List.foldl_cons,BX y r _ (List.nodup_cons.mp nd).2]
  by_cases h:y=f
  ·subst h
   have:r.lookup y=none:=by
    cases q:r.lookup y with
    | none=>rfl
    | some w=>exact absurd (List.mem_map.mpr ⟨_,PySem.mem_of_lookup q,rfl⟩) (List.nodup_cons.mp nd).1
   simp[this,List.lookup]
  ·have hb:(y == f)=false:=by simpa using h
   simp[List.lookup,hb,h]
theorem qk:∀{fs:List Str} {is:List Int} {us:List Value},Vals (is.map V.int) us->∀y,my (((fs.zip is).map fun x=>(x.1,V.int x.2)).lookup y) ((fs.zip us).lookup y)
 | [],_,_,_,y=>True.intro
 | f::fs,[],us,r,y=>by cases r;exact True.intro
 | f::fs,i::is,_,.cons a r,y=>by
  simp only[List.zip_cons_cons,List.map_cons,List.lookup]
  cases h:y == f with
  | true=>exact a
  | false=>exact qk r y
theorem wW {X:Cx} {E:XK} {pins:List (Addr × Obj)} {σ:St} {H:Hp} {s:Shared} {e dx:Addr} {h':Heap} {C:Value} {oe od:Obj} {ws:Array Value} {fs:List (Str × V)} {t':Nat} (p:Plain X) (fl:ie X E) (I:Inv X pins σ H s) (k:∀b o,s.heap.get? b=some o->h'.get? b=some o)
  (he:s.heap.objs.size<=e) (hdx:s.heap.objs.size<=dx) (ne:dx≠e) (q1:h'.get? e=some oe) (q2:oe.cls=C) (q3:oe.dict=some dx) (q4:oe.data=.fields ws) (q5:ws[1]?=some .none) (new:bI X.prog X.w (upd H dx (.frz od (.xd fs))) h' dx (.frz od (.xd fs)))
  (q:E C (some dx) (upd H dx (.frz od (.xd fs)))):X.xe (.ref e) { s with heap:=h',toks:=t' }:=by
 have I1:Inv X pins σ (upd H dx (.frz od (.xd fs))) { s with heap:=h',toks:=t' }:=I.laid k hdx new
 have fr:=I1.stack
 have nfr:∀b,b∈frs X.stack->upd H dx (.frz od (.xd fs)) b=none:=I1.jM
 have hHe:upd H dx (.frz od (.xd fs)) e=none:=by rw[aA (Ne.symm ne)];exact I.hok.fresh he
 refine fl _ _ ⟨σ,_,PySem.W.hideAll h' (e::frs X.stack),e,C,some dx,rfl,I1.drop,.inl ⟨fun b o z=>PySem.W.of_hideAll _ z,PySem.W.hideAll_none _ List.mem_cons_self,?_,oe,ws,q1,q2,q3,q4,q5⟩,⟨fun b o z=>?_,fun b o e' n hb=>?_⟩,fun p' hp=>?_,q⟩
 ·exact PySem.W.funFrames_hide fr fun env he' b hb=>List.mem_cons_of_mem _ (List.mem_filterMap.mpr ⟨env,he',hb⟩)
 ·obtain⟨u,hu⟩:=AS (I1.hok b o z)
  refine⟨u,PySem.W.hideAll_get _ hu fun hm=>?_⟩
  rcases List.mem_cons.mp hm with rfl | hm
  ·rw[hHe] at z;cases z
  ·rw[nfr b hm] at z;cases z
 ·have hx:b∉X.ex:=by rw[p.ex];simp
  refine PySem.W.hideAll_get _ (I1.base.keep b o e' n hb hx) fun z=>?_
  rcases List.mem_cons.mp z with rfl | z
  ·exact absurd (Heap.lt_size (I.base.keep b o e' n hb hx)) (Nat.not_lt_of_le he)
  ·rcases List.mem_cons.mp (I.eX b z) with rfl | z
   ·exact absurd (Heap.lt_size e') (Nat.not_lt_of_le I.ok.above)
   ·exact hb z
 ·obtain⟨r1,r2,r3,r4,r5⟩:=I.pin p' (List.mem_append_left _ hp)
  refine PySem.W.hideAll_get _ (k _ _ r1) fun z=>?_
  rcases List.mem_cons.mp z with z | z
  ·rw[<- z] at he;exact absurd (Heap.lt_size r1) (Nat.not_lt_of_le he)
  ·rcases List.mem_cons.mp (I.eX _ z) with z | z
   ·exact r3 z
   ·exact r4 z
end L2
namespace L2.FE
open PySem PySem.Spec PyProof.Rows
noncomputable def nX (x:Str) (fs:List Str) (mr:MA):MS:=fun env h=>(mr env h).bind fun ds h1=>match intsOf ds with
 | some is=>if is.length=fs.length then .err ⟨x,fs.zip is⟩ h1 else .bad
 | none=>.bad
section
variable {X:Cx} {g:GG} {E:XK}
theorem vQ:∀{fs:List Str} {us:List Value},us.length=fs.length->(fs.zip us).map (·.1)=fs
 | [],_,_=>rfl
 | f::fs,[],h=>by cases h
 | f::fs,u::us,h=>by rw[List.zip_cons_cons,List.map_cons,vQ (by simpa using h)]
theorem BW {x:Str} {cst:Stmt} {C:Addr} {fs:List Str} {np cpos pos:Pos} {e:Expr} {es:List Expr} {mr:MA} {k:Nat} (fl:ie X E) (pl:Plain X) (hc:X.calm=true) (hg:Gl X x) (hm:X.mg x=some (.ref C)) (hgx:g x=some C) (ci:Ec X.K x cst C fs) (hr:cB (k+2) X.A) (hz:fs.length<=1000)
  (ha:PA X (e::es) (tMA X.K g (εX g E) mr)) (hdb:(x == ("__debug__" : Str))=false:=by decide) (he:starEach (e::es) X.env=(false,eval e X.env)::starEach es X.env:=by rfl) (hpl:(backTo cpos (starEach es X.env)).any (·.1)=false:=by rfl) :
  PS X (.Raise (some (.Call (.Name x np) (e::es) [] cpos)) none pos) (tMS X.K g (εX g E) (nX x fs mr)):=by
 intro pins s σ H D I ⟨α,env,h,sr,w⟩
 obtain⟨fI,fd,qual,hex,_⟩:=ci.ex
 obtain⟨tl,N,nm,q',bs,hdct,sn,sub,ab,col,dd,k0,k1,k2,k3,k5,mN,hC',hN,hni,T⟩:=pf I.kIn hex
 refine PySem.xg (C:=C) (nm:=nm) (q:=q') (N:=N) (bs:=bs) (bm:=tl) (hdct:=hdct) (sn:=sn) (sub:=sub) (ab:=ab) (col:=col) (dd:=dd) (k0:=k0) (k1:=k1) (k2:=k2) (k3:=k3) (k5:=k5) (newId:="ValueError.__new__") (T.hasType PySem.F.excBase_ValueError.hasBase) (I.ok.hd hc) (by rw[he];show(false || (backTo cpos (starEach es X.env)).any (·.1))=false;rw[hpl];rfl) (iw I hg hm ⟨rfl,?_⟩ hdb)
 have A0:=ha cpos pins s σ H (fun vs H1=>∃is:List Int,vs=is.map V.int/\is.length=fs.length/\∀dx od,H1 dx=none->E (.ref C) (some dx) (upd H1 dx (.frz od (.xd ((fs.zip is).map fun x=>(x.1,V.int x.2)))))) I ⟨α,env,h,sr,w.bind.mono fun ds h1 eq w1 vs H1 α1 e1 hr1 r1=>by
  cases ei:intsOf ds with
  | none=>simp only[ei] at w1;exact w1.elim
  | some is=>
   simp only[ei] at w1
   by_cases hl:is.length=fs.length
   ·rw[if_pos hl] at w1
    have:=gC ei
    subst this
    refine⟨is,r1.yu,hl,fun dx od hn=>?_⟩
    exact w1 α1 _ (e1.trans (Ext.fresh hn)) (hr1.grow hn) C (some dx) hgx (.inr ⟨dx,od,rfl,a8⟩)
   ·rw[if_neg hl] at w1;exact w1.elim⟩
 rw[he] at A0 ⊢
 refine PySem.Calls.evalArgs_plain (wpAny_mono A0 (fun us s1 ⟨vs,H1,I1,rv,is,ev,hl,fin⟩=>?_) fun _ _ z=>z)
 subst ev
 have hul:us.length=fs.length:=by rw[<- rv.length,List.length_map];exact hl
 obtain⟨tl',N',nm',q'',bs',hdct',sn',sub',ab',col',dd',k0',k1',k2',k3',k5',mN',hC1,_⟩:=pf I1.kIn hex
 have hCC:s1.heap.get? C=some (excClassObj nm q' C N bs tl hdct sn sub ab col dd k0 k1 k2 k3 k5 "ValueError.__new__"):=by
  have a:=I.kIn
  have b:=I1.kIn
  unfold qp at hex
  split at hex
  ·rename_i dd2 cd2 sl2 ho
   have x1:=a _ _ ho
   have x2:=b _ _ ho
   rw[x2,<- x1];exact hC'
  ·cases hex
 refine⟨rfl,hCC,?_⟩
 have limS:s1.heap.NoLimit:=I1.nolimit
 refine Bu ci I1.kIn limS hr hul hz fun h' e' dx t t' kp he' hdx' ne' q1 q2=>?_
 refine⟨kp _ _ hCC,e',_,rfl,q1,rfl,⟨_,rfl,rfl⟩,?_⟩
 obtain⟨od,es',ep',ho',_⟩:=id q2
 refine wW (C:=.ref C) (od:=od) (fs:=(fs.zip is).map fun x=>(x.1,V.int x.2)) pl fl I1 kp he' hdx' ne' q1 rfl rfl rfl rfl ⟨ho',_,q2,fun y=>?_⟩ (fin dx od (I1.hok.fresh hdx'))
 have nd:((fs.zip us).map (·.1)).Nodup:=by rw[vQ hul];exact(List.nodup_cons.mp ci.sc.nd).2
 show my _ (mkM (fs.zip us) y)
 rw[show mkM (fs.zip us) y=_ from BX y _ _ nd]
 have:=qk (fs:=fs) rv y
 cases q:(fs.zip us).lookup y with
 | none=>rw[q] at this;exact this
 | some v=>rw[q] at this;exact this
end
end L2.FE
namespace PySem.W
open PySem PySem.Calls PyProof.Rows PySem.Spec Builtin Builtin.ObjectAttr
theorem se:∀(n:Nat) {l:List Value},l.length<=n->mO l=true->l.contains (.type "BaseException")=true
 | 0,l,hl,e=>by
  have:l=[]:=List.eq_nil_of_length_eq_zero (by omega)
  subst this;cases e
 | n+1,l,hl,e=>by
  rcases jn e with rfl | ⟨c,r,rfl,e'⟩
  ·simp
  ·rw[List.contains_cons,se n (by simp at hl;omega) e',Bool.or_true]
section
variable {K:Frag} {prog:Program} {w:World} {A:Around} {E:Value->Shared->Prop} {s:Shared} {x C dx:Addr} {ox:Obj} {mA:Str->Option Value} {name:Str} {v:Value}
theorem zY {tk:Tok} {Q:Fin->Shared->Prop} (X:K.In s.heap) (hx:s.heap.get? x=some ox) (hc:ox.cls=.ref C) (hf:∃ws,ox.data=.fields ws) (hd:ox.dict=some dx) (hn:s.heap.Ns dx mA) (hv:mA name=some v)
  (hna:findIn K (.ref C) name=some none) (hh:hasDictIn K C=true) (h:Q (.done (.ret v)) s):wpAny (model prog w) A (Builtin.«object.__getattribute__» ⟨[.ref x,.str name tk],[]⟩) Q E s:=by
 obtain⟨cd,hcd,hd'⟩:=any_some hh
 obtain⟨oc,od,oda,osl⟩:=ox
 obtain⟨ws,hf⟩:=hf
 dsimp only at hc hd hf
 subst hc hd hf
 have I:InstAt s.heap x ⟨.ref C,some dx,.fields ws,osl⟩ C (some hn.choose):=⟨hx,rfl,rfl,hn.choose_spec.choose_spec.choose_spec.1⟩
 have e:Builtin.«object.__getattribute__» ⟨[.ref x,.str name tk],[]⟩=(typeOf (.ref x) >>= fun tp=>find (.ref x) tp name >>= fun f=>match f with
   | .value v=>(ret v:Sem Fin)
   | .bind g a=>bindTo g a (.ref x) tp
   | .missing=>do
    if tp == .type "module" then
     if ← isOpaqueModuleObj (.ref x) then
      let byTheModulesOwnEntry:=match (← stack).drop 1 with
       | (.builtin "module.__getattribute__" ⟨m::_,_⟩,_)::_=>m == .ref x
       | _=>false
      if !byTheModulesOwnEntry then unsupported "thirdparty:object.__getattribute__:a-miss-on-an-opaque-module"
    if tp == .type "type" then
     if let some key ← opaqueClassAbove (.ref x) then unsupported s!"thirdparty:{key.toString}.{name.toString}:object.__getattribute__-misses-on-an-opaque-class"
    noSuchAttribute (.ref x) name):=by rfl
 rw[e]
 refine wpAny_bind (I.type.here ?_)
 refine wpAny_bind ?_
 unfold find
 refine wpAny_bind ((looks_findIn X hna).here ?_)
 refine wpAny_bind (wpAny_pure (wpAny_bind (wpAny_pure ?_)))
 show wpAny _ _ (ownThenClass (.ref x) name none none) _ _ _
 unfold ownThenClass inOwnDict
 refine wpAny_bind (wpAny_bind ?_)
 show wpAny _ _ (loadPart x (some headPart) >>= _) _ _ _
 refine wpAny_bind (wpAny_loadPart hx ?_)
 show wpAny _ _ (instanceDict x false) _ _ _
 unfold instanceDict
 refine wpAny_bind (wpAny_loadPart hx ?_)
 refine wpAny_bind ?_
 refine(looks_clsIn X hcd).here ?_
 rw[hd']
 refine wpAny_pure (a:=some dx) ?_
 show wpAny _ _ (nsGet dx name) _ _ _
 refine wpAny_nsGet hn ?_
 rw[hv]
 refine wpAny_bind (wpAny_rule (wpAny_pure ?_))
 exact wpAny_pure h
theorem D0 {b:Bool} {Q:Value->Shared->Prop} (X:K.In s.heap) (hx:s.heap.get? x=some ox) (hc:ox.cls=.ref C) (hf:∃ws,ox.data=.fields ws) (hd:ox.dict=some dx) (hn:s.heap.Ns dx mA) (hv:mA name=some v)
  (hga:findIn K (.ref C) "__getattribute__" = some (some (.builtin "BaseException.__getattribute__"))) (hgh:findIn K (.ref C) "__getattr__" = some none) (hna:findIn K (.ref C) name=some none) (ov:gD K C=true) (hh:hasDictIn K C=true) (hv2:handedOut v=pure v)
  (h:Q v { s with toks:=s.toks+1 }):wpAny (model prog w) A (getAttr (.ref x) name b) Q E s:=by
 have FB:=PySem.F.attrBase_ValueError
 have I:InstAt s.heap x ox C (some hn.choose):=⟨hx,hc,by obtain⟨ws,e⟩:=hf;unfold notCls;rw[e],by rw[hd];exact hn.choose_spec.choose_spec.choose_spec.1⟩
 obtain⟨cd,hcd,ho⟩:=any_some ov
 have ne:cd.mro.isEmpty=false:=by cases q:cd.mro with | nil=>rw[q] at ho;cases ho | cons _ _=>rfl
 have sub:Looks (model prog w) s.heap (isInstance (.ref x) (.type "BaseException")) true:=I.type.andThen (looks_mroIn X (by unfold mroIn;rw[hcd,Option.bind_some,if_neg (by rw[ne];decide),se _ (Nat.le_refl _) ho]))
 unfold getAttr getAttrBy
 refine wpAny_bind (wpAny_mkText (wpAny_holding (wpAny_bind (Looks.here (s:={ s with toks:=s.toks+1 }) I.type (wpAny_bind (Looks.here (s:={ s with toks:=s.toks+1 }) (looks_findIn X hga) ?_))))))
 dsimp only
 have hx2:(Value.builtin "BaseException.__getattribute__" == Value.builtin "object.__getattribute__")=false:=by decide +kernel
 rw[if_neg (by rw[hx2,Bool.and_false];decide)]
 unfold getAttrByItsOwn
 refine wpAny_bind ?_
 show wpAny _ _ (typeLookup (.ref C) "__getattr__") _ _ _
 refine Looks.here (s:={ s with toks:=s.toks+1 }) (looks_findIn X hgh) ?_
 refine wpAny_bind (wpAny_attempt (wpAny_holding ?_))
 have hcall:callGetattribute (.ref x) (.str name s.toks) (.builtin "BaseException.__getattribute__") b=boundAndCalled (.builtin "BaseException.__getattribute__") (.ref x) (.str name s.toks):=by cases b<;>rfl
 rw[hcall]
 unfold boundAndCalled
 refine wpAny_bind ?_
 rw[FB.ga.bind (.ref x)]
 refine wpAny_pure ?_
 have hk:builtinKind "BaseException.__getattribute__" = some .slot:=by decide +kernel
 have hsplit:splitId "BaseException.__getattribute__" = some ("BaseException", "__getattribute__"):=by decide +kernel
 refine wpAny_call (codeAny_call_builtin FB.ga.plain PySem.F.entry_bexc_ga (@check_slot (model prog w) _ _ { s with toks:=s.toks+1 } "BaseException.__getattribute__" "BaseException" "__getattribute__" (.ref x) [.str name s.toks] [] _ hk hsplit sub (PySem.F.args_bexc_ga (.ref x) (.str name s.toks)) ?_))
 refine zY (s:={ s with toks:=s.toks+1 }) X hx hc hf hd hn hv hna hh ?_
 show wpAny _ _ (handedOut v) _ _ _
 rw[hv2]
 exact wpAny_pure h
end
end PySem.W
namespace L2
open PySem PySem.Spec PyProof.Rows PySem.W
structure F_ (K:PySem.W.Frag) (C:Addr) (f:Str):Prop where
 ga:findIn K (.ref C) "__getattribute__" = some (some (.builtin "BaseException.__getattribute__"))
 gh:findIn K (.ref C) "__getattr__" = some none
 na:findIn K (.ref C) f=some none
 ov:gD K C=true
 hd:hasDictIn K C=true
end L2
namespace L2.FE
open PySem PySem.Spec PyProof.Rows
noncomputable def zv (c f:Str):D->Hh->R D:=fun d h=>match d with
 | .exc c' fs=>if c'=c then (match fs.lookup f with | some i=>.ok (.int i) h | none=>.bad) else .bad
 | _=>.bad
theorem mY:∀{fs:List (Str × Int)} {f:Str} {i:Int},fs.lookup f=some i->(fs.map fun x=>(x.1,V.int x.2)).lookup f=some (.int i)
 | [],f,i,h=>by cases h
 | (y,j)::fs,f,i,h=>by
  simp only[List.map_cons,List.lookup] at h ⊢
  cases q:f == y with
  | true=>rw[q] at h;cases h;rfl
  | false=>rw[q] at h;exact mY h
section
variable {X:Cx} {g:GG} {ε:EE}
theorem He {e:Expr} {c f:Str} {C:Addr} {pos:Pos} {m:ME} (he:PE X e (tM X.K g ε m)) (hgc:g c=some C) (cr:F_ X.K C f) (hb:attributeBase e f X.env (eval e X.env)=eval e X.env:=by rfl):PE X (.Attribute e f pos) (tM X.K g ε (cUn (zv c f) m)):=by
 intro pins s σ H Q I ⟨α,env,h,sr,w⟩
 have A0:=he pins s σ H (fun v H1=>∃(p dx:Addr) (o od:Obj) (i:Int) (fs:List (Str × Int)),v=.ref p/\H1 p=some (AtO p o)/\o.cls=.ref C/\(∃vs,o.data=.fields vs)/\o.dict=some dx/\H1 dx=some (.frz od (.xd (fs.map fun x=>(x.1,V.int x.2))))/\fs.lookup f=some i/\Q (.int i) H1) I ⟨α,env,h,sr,w.bind.mono fun d h1 eq w1 v H1 α1 e1 hr1 r1=>by
  unfold zv at w1
  cases r1 with
  | exc hg hp hcl hda hfs=>
   rename_i c' C' p o fs
   dsimp only at w1
   by_cases hc:c'=c
   ·rw[if_pos hc] at w1
    subst hc
    rw[hgc] at hg;cases hg
    cases el:fs.lookup f with
    | none=>rw[el] at w1;exact w1.elim
    | some i=>
     rw[el] at w1
     rcases hfs with⟨_,rfl⟩ | ⟨dx,od,hd1,hd2⟩
     ·cases el
     ·exact⟨p,dx,o,od,i,fs,rfl,hp,hcl,hda,hd1,hd2,el,w1 (.int i) H1 α1 e1 hr1 (.int i)⟩
   ·rw[if_neg hc] at w1;exact w1.elim
  | _=>exact w1.elim⟩
 refine EL hb (thn A0 fun u s1 ⟨v,H1,I1,rv,p,dx,o,od,i,fs,ev,hp,hcl,hda,hd1,hd2,el,q⟩=>?_)
 subst ev
 obtain rfl:u=Value.ref p:=rv
 obtain⟨ho,_⟩:=I1.hok p _ hp
 obtain⟨hod,mA,hns,rel⟩:=I1.hok dx _ hd2
 have rl:=rel f
 rw[mY el] at rl
 cases em:mA f with
 | none=>rw[em] at rl;exact rl.elim
 | some u=>
  rw[em] at rl
  obtain⟨t,rfl⟩:=rl
  exact PySem.W.D0 I1.kIn ho hcl hda hd1 hns.ns em cr.ga cr.gh cr.na cr.ov cr.hd rfl ⟨.int i,H1,I1.tok _,⟨t,rfl⟩,q⟩
end
end L2.FE
namespace L2
open PySem PySem.Spec PyProof.Rows PySem.W
noncomputable def CIs (K:PySem.W.Frag) (x:Str) (cst:Stmt) (fs:List Str):Prop:=∃C,nsIn K mainGlobals x=some (some (.ref C))/\Ec K x cst C fs/\∀f∈fs,F_ K C f
noncomputable def JP (K:PySem.W.Frag) (C fI:Addr) (fs:List Str):Bool:=qp K C fI&&typeIn K (.ref fI) == some (.type "function")&&findIn K (.ref C) "__setattr__" == some (some (.builtin "object.__setattr__"))&&gD K C&&hasDictIn K C&&
 findIn K (.ref C) "__getattribute__" == some (some (.builtin "BaseException.__getattribute__"))&&findIn K (.ref C) "__getattr__" == some none&&fs.all fun f=>takerIn K C f == some none&&findIn K (.ref C) f == some none
noncomputable def CIm (K:PySem.W.Frag) (mg:Str->Option Value) (x:Str) (cst:Stmt) (fs:List Str):Prop:=∃C,mg x=some (.ref C)/\Ec K x cst C fs/\∀f∈fs,F_ K C f
theorem CIm.of {K:PySem.W.Frag} {h:Heap} {mg:Str->Option Value} {x:Str} {cst:Stmt} {fs:List Str} (X:K.In h) (G:h.Ns mainGlobals mg) (c:CIs K x cst fs):CIm K mg x cst fs:=
 let ⟨C,a,b,d⟩:=c;⟨C,mg_of X G a,b,d⟩
end L2
namespace L2.FE
open PySem PySem.Spec PyProof.Rows
section
variable {X:Cx} {g:GG} {E:XK}
theorem BR {x:Str} {cst:Stmt} {fs:List Str} {np cpos pos:Pos} {e:Expr} {es:List Expr} {mr:MA} {k:Nat} (fl:ie X E) (pl:Plain X) (hc:X.calm=true) (hg:Gl X x) (cm:CIm X.K X.mg x cst fs) (hgo:g=gOf X.mg) (hr:cB (k+2) X.A) (hz:fs.length<=1000)
  (ha:PA X (e::es) (tMA X.K g (εX g E) mr)) (hdb:(x == ("__debug__" : Str))=false:=by decide) (he:starEach (e::es) X.env=(false,eval e X.env)::starEach es X.env:=by rfl) (hpl:(backTo cpos (starEach es X.env)).any (·.1)=false:=by rfl) :
  PS X (.Raise (some (.Call (.Name x np) (e::es) [] cpos)) none pos) (tMS X.K g (εX g E) (nX x fs mr)):=by
 obtain⟨C,hm,ci,_⟩:=cm
 exact BW fl pl hc hg hm (by rw[hgo];unfold gOf;rw[hm]) ci hr hz ha hdb he hpl
theorem tS {ε:EE} {e:Expr} {c f:Str} {cst:Stmt} {fs:List Str} {pos:Pos} {m:ME} (he:PE X e (tM X.K g ε m)) (cm:CIm X.K X.mg c cst fs) (hgo:g=gOf X.mg) (hf:f∈fs) (hb:attributeBase e f X.env (eval e X.env)=eval e X.env:=by rfl):PE X (.Attribute e f pos) (tM X.K g ε (cUn (zv c f) m)):=by
 obtain⟨C,hm,_,cr⟩:=cm
 exact He he (by rw[hgo];unfold gOf;rw[hm]) (cr f hf) hb
end
end L2.FE
namespace L2
open PySem PySem.Spec PyProof.Rows PySem.W
theorem yJ {K:PySem.W.Frag} {x qual:Str} {cst:Stmt} {C fI:Addr} {fs:List Str} {oc:Value} {od an:Option Addr} {osl:Array (Option Value)} {kV doc pm cdv ct:Value} (a:nsIn K mainGlobals x=some (some (.ref C))) (_b:findIn K (.ref C) "__init__" = some (some (.ref fI)))
  (l:K.lookup fI=some ⟨oc,od,.func (fnOf "__init__" qual (dU (bG cst)) (bu (bG cst)) (ai (bG cst)) .none kV doc pm an cdv ct),osl⟩) (c:codeIn K cdv qual=true) (k:keepIn K (.ref fI)=true) (o:JP K C fI fs=true)
  (sc:aH ("self" :: fs) ("self" :: fs) (ai (bG cst))) (loc:∀y∈("self" : Str)::fs,(ai (bG cst)).names.lookup y=some .local) (body:jh (bu (bG cst)) fs)
  (bd:∀(kV doc pm:Value) (an:Option Addr) (cdv ct:Value) (us:List Value),us.length=(("self" : Str)::fs).length->bindArgs (fnOf "__init__" qual (dU (bG cst)) (bu (bG cst)) (ai (bG cst)) .none kV doc pm an cdv ct) ⟨us,[]⟩=pure ((("self" : Str)::fs).zip us)) (ne:fs≠[]):CIs K x cst fs:=by
 unfold JP at o
 simp only[Bool.and_eq_true,beq_iff_eq,List.all_eq_true] at o
 obtain⟨⟨⟨⟨⟨⟨⟨o1,o2⟩,o3⟩,o4⟩,o5⟩,o6⟩,o7⟩,o8⟩:=o
 have F:Fun K "__init__" qual (bG cst) fI _:=xx l c k
 exact⟨C,a,⟨⟨fI,_,qual,o1,F,F.binds bd,o2⟩,sc,loc,body,o3,o4,fun f hf=>(o8 f hf).1,o5,ne⟩,fun f hf=>⟨o6,o7,(o8 f hf).2,o4,o5⟩⟩
end L2
namespace L2.FE
open PySem PySem.Spec PyProof.Rows
section
variable {P:Program} {w:World} {K:PySem.W.Frag} {mg:Str->Option Value} {base:Heap} {g:GG} {k n:Nat} {f:Addr} {fd:FuncData} {ps:List Str}
theorem Ef (e:n=ps.length):cQ P w K mg base CX0 k f fd ps (spM K g n fun _ _=>.bad):=⟨fun vs H Q E h=>h.1.trans e,fun A outer s H args us vs Q E _ _ _ _ ⟨_,α,ds,h,_,_,w⟩=>w.elim⟩
end
end L2.FE
namespace L2.Srt
open PySem PySem.W PyProof.Rows
section
variable {n:Nat} {key:Nat->Int}
structure Pm (n:Nat) (p:Array Nat):Prop where
 size:p.size=n
 perm:p.Perm (List.range n).toArray
theorem Pm.lt {p:Array Nat} (h:Pm n p) {i:Nat} (hi:i<n):p.getD i 0<n:=by
 have hi':i<p.size:=by rw[h.size];exact hi
 have e:p.getD i 0=p[i]:=by simp[Array.getD,hi']
 rw[e]
 have:=h.perm.mem_iff.mp (Array.getElem_mem hi')
 simpa using this
variable (inj:∀i j,i<n->j<n->key i=key j->i=j)
include inj
omit inj in
omit inj in
omit inj in
omit inj in
omit inj in
omit inj in
end
end L2.Srt
namespace L2.Srt
open PySem PySem.W PyProof.Rows PySem.Calls
section
variable {prog:Program} {w:World} {A:Around} {E:Value->Shared->Prop} {s:Shared} {vs:List Value}
inductive Prs (h:Heap):List Value->List (Int × Int)->Prop
 | nil:Prs h [] []
 | cons {a:Addr} {o:Obj} {k:Nat} {t u:Tok} {x y:Int} {vs:List Value} {ps:List (Int × Int)}:h.get? a=some o->o.cls=.type "tuple" -> o.data=.seq #[.int x t,.int y u] k->Prs h vs ps->Prs h (.ref a::vs) ((x,y)::ps)
theorem Prs.len {h:Heap} {vs:List Value} {ps:List (Int × Int)} (r:Prs h vs ps):vs.length=ps.length:=by
 induction r with
 | nil=>rfl
 | cons _ _ _ _ ih=>simp[ih]
theorem Prs.at_ {h:Heap} {vs:List Value} {ps:List (Int × Int)} (r:Prs h vs ps):∀{i:Nat},i<ps.length->∃a o k t u,vs.getD i Value.none=.ref a/\h.get? a=some o/\o.data=.seq #[.int (ps.getD i (0,0)).1 t,.int (ps.getD i (0,0)).2 u] k:=by
 induction r with
 | nil=>intro i hi;simp at hi
 | @cons a o k t u x y vs ps ha hc hd r ih=>
  intro i hi
  cases i with
  | zero=>exact⟨a,o,k,t,u,rfl,ha,hd⟩
  | succ i=>
   obtain⟨a',o',k',t',u',e1,e2,e3⟩:=ih (i:=i) (by simpa using hi)
   exact⟨a',o',k',t',u',by simpa using e1,e2,by simpa using e3⟩
end
end L2.Srt
namespace L2
open PySem PySem.Spec PyProof.Rows L2.Srt
inductive PrV (K:PySem.W.Frag) (H:Hp):List V->List (Int × Int)->Prop
 | nil:PrV K H [] []
 | cons {a:Addr} {x y:Int} {xs:List V} {ps:List (Int × Int)}:SqT K H a [.int x,.int y]->PrV K H xs ps->PrV K H (.ref a::xs) ((x,y)::ps)
section
variable {X:Cx}
theorem PrV.len {K:PySem.W.Frag} {H:Hp} {xs:List V} {ps:List (Int × Int)} (r:PrV K H xs ps):xs.length=ps.length:=by
 induction r with
 | nil=>rfl
 | cons _ _ ih=>simp[ih]
end
end L2
namespace L2.FE
open PySem PySem.Spec PyProof.Rows
noncomputable def setOf (h:Hh) (n:Nat):Option (List Int):=match h[n]? with
 | some (.set ns)=>some ns
 | _=>none
section
variable {X:Cx} {g:GG} {ε:EE} {K:PySem.W.Frag}
theorem aS.set {α:List Addr} {H:Hp} {h:Hh} {n:Nat} {p:Addr} {ns:List Int} (r:aS K g α H h) (e:setOf h n=some ns) (hp:α[n]?=some p):H p=some (.set (fun k=>ns.any (· == k)) ns.length):=by
 unfold setOf at e
 cases eo:h[n]? with
 | none=>rw[eo] at e;cases e
 | some o=>
  rw[eo] at e
  cases o with
  | set k=>cases e;exact r.here n p _ hp eo
  | _=>cases e
end
noncomputable def hV (h:Hh) (n:Nat):Option (List (List Key × D)):=match h[n]? with
 | some (.dit kvs)=>some kvs
 | _=>none
noncomputable def fv:List (List Key × D)->List Key->Option D
 | [],_=>none
 | p::r,k=>if p.1=k then some p.2 else fv r k
noncomputable def qZ (kvs:List (List Key × D)) (k:List Key) (d:D):List (List Key × D):=
 if (kvs.any fun kv=>decide (kv.1=k))=true then kvs.map (fun kv=>if kv.1=k then (kv.1,d) else kv) else kvs++[(k,d)]
noncomputable abbrev PDT (K:PySem.W.Frag) (g:GG) (α:List Addr) (H:Hp):List (List Key × D)->List (List Key × V)->Prop:=Paired (fun(a:List Key × D) (b:List Key × V)=>a.1=b.1/\aI K g α H a.2 b.2)
section
variable {K:PySem.W.Frag} {g:GG} {α:List Addr} {H:Hp} {h:Hh}
theorem aS.dit {n:Nat} {p:Addr} {kvs:List (List Key × D)} (r:aS K g α H h) (e:hV h n=some kvs) (hp:α[n]?=some p):∃kws,H p=some (.dT kws)/\PDT K g α H kvs kws:=by
 unfold hV at e
 cases eo:h[n]? with
 | none=>rw[eo] at e;cases e
 | some o=>
  rw[eo] at e
  cases o with
  | dit k=>cases e;exact r.here n p _ hp eo
  | _=>cases e
theorem PDT.val (k:List Key):∀{kvs:List (List Key × D)} {kws:List (List Key × V)},PDT K g α H kvs kws->(fv kvs k=none/\ki kws k=none)\/∃d v,fv kvs k=some d/\ki kws k=some v/\aI K g α H d v
 | _,_,.nil=>.inl ⟨rfl,rfl⟩
 | p::r,q::t,.cons c rr=>by
  by_cases e:p.1=k
  ·exact .inr ⟨p.2,q.2,if_pos e,kW (c.1 ▸ e),c.2⟩
  ·rw[show fv (p::r) k=fv r k from if_neg e,lL (c.1 ▸ e)]
   exact PDT.val k rr
theorem PDT.any (k:List Key):∀{kvs:List (List Key × D)} {kws:List (List Key × V)},PDT K g α H kvs kws->(kvs.any fun kv=>decide (kv.1=k))=kws.any fun kv=>decide (kv.1=k)
 | _,_,.nil=>rfl
 | p::r,q::t,.cons c rr=>by rw[List.any_cons,List.any_cons,PDT.any k rr,c.1]
theorem PDT.zo (k:List Key) {d:D} {v:V} (rd:aI K g α H d v):∀{kvs:List (List Key × D)} {kws:List (List Key × V)},PDT K g α H kvs kws →
  PDT K g α H (kvs.map fun kv=>if kv.1=k then (kv.1,d) else kv) (kws.map fun kv=>if kv.1=k then (kv.1,v) else kv)
 | _,_,.nil=>.nil
 | p::r,q::t,.cons c rr=>by
  refine .cons ?_ (PDT.zo k rd rr)
  dsimp only
  by_cases e:p.1=k
  ·rw[if_pos e,if_pos (c.1 ▸ e)];exact⟨c.1,rd⟩
  ·rw[if_neg e,if_neg (c.1 ▸ e)];exact c
theorem PDT.snoc {x:List Key × D} {y:List Key × V} (c:x.1=y.1/\aI K g α H x.2 y.2):∀{kvs:List (List Key × D)} {kws:List (List Key × V)},PDT K g α H kvs kws->PDT K g α H (kvs++[x]) (kws++[y])
 | _,_,.nil=>.cons c .nil
 | _::_,_::_,.cons b rr=>.cons b (PDT.snoc c rr)
theorem PDT.put (k:List Key) {d:D} {v:V} (rd:aI K g α H d v) {kvs:List (List Key × D)} {kws:List (List Key × V)} (r:PDT K g α H kvs kws):PDT K g α H (qZ kvs k d) (putK kws k v):=by
 unfold qZ putK
 rw[PDT.any k r]
 split
 ·exact PDT.zo k rd r
 ·exact PDT.snoc ⟨rfl,rd⟩ r
theorem PDT.ext {α':List Addr} {H':Hp} {kvs:List (List Key × D)} {kws:List (List Key × V)} (e:Ext K α H α' H') (r:PDT K g α H kvs kws):PDT K g α' H' kvs kws:=Paired.ID e.toEx0 r
theorem PDT.length:∀{kvs:List (List Key × D)} {kws:List (List Key × V)},PDT K g α H kvs kws->kvs.length=kws.length
 | _,_,.nil=>rfl
 | _::_,_::_,.cons _ rr=>congrArg (· + 1) (PDT.length rr)
theorem aJ.dit {Q:VK} {kvs:List (List Key × D)} {kws:List (List Key × V)} {p:Addr} (w:aJ K g α H Q (.ref h.length) (h++[.dit kvs])) (r:aS K g α H h) (rs:PDT K g α H kvs kws) (hp:H p=none):Q (.ref p) (upd H p (.dT kws)):=by
 have x:=Ext.push (K:=K) (α:=α) (o:=.dT kws) hp
 exact w _ _ _ x (r.push hp ⟨_,a8,rs.ext x⟩) (.ref (by rw[<- r.len];simp))
end
noncomputable def vX:List D->Option (List Key)
 | []=>some []
 | d::ds=>match F8 d,vX ds with
  | some k,some ks=>some (k::ks)
  | _,_=>none
noncomputable def pj:D->Option (List Key)
 | .tup ds=>vX ds
 | _=>none
theorem yH {K:PySem.W.Frag} {g:GG} {α:List Addr} {H:Hp}:∀{ds:List D} {vs:List V} {ks:List Key},ay K g α H ds vs->vX ds=some ks->vs=ks.map kV
 | _,_,ks,.nil,e=>by cases e;rfl
 | d::ds,_,ks,.cons r rs,e=>by
  unfold vX at e
  cases e1:F8 d with
  | none=>rw[e1] at e;cases e
  | some k=>
   cases e2:vX ds with
   | none=>rw[e1,e2] at e;cases e
   | some ks'=>
    rw[e1,e2] at e
    cases e
    rw[G5 r e1,yH rs e2];rfl
theorem wR {K:PySem.W.Frag} {g:GG} {α:List Addr} {H:Hp} {d:D} {v:V} {k:List Key} (r:aI K g α H d v) (e:pj d=some k):∃b,v=.ref b/\H b=some (.tup (k.map kV)):=by
 cases r with
 | tup hp rs=>exact⟨_,rfl,by rw[hp,yH rs e]⟩
 | _=>cases e
noncomputable def rV:ME:=fun _ h=>.ok (.ref h.length) (h++[.dit []])
noncomputable def sF:D->D->Hh->R D:=fun o i h=>match o,pj i with
 | .ref n,some k=>match hV h n with
  | some kvs=>match fv kvs k with
   | some d=>.ok d h
   | none=>.bad
  | none=>.bad
 | _,_=>.bad
noncomputable def jQ:D->D->Hh->R D:=fun i o h=>match o,pj i with
 | .ref n,some k=>match hV h n with
  | some kvs=>.ok (.bl (!(fv kvs k).isSome)) h
  | none=>.bad
 | _,_=>.bad
noncomputable def rH:D->D->D->Hh->R Unit:=fun o i v h=>match o,pj i with
 | .ref n,some k=>match hV h n with
  | some kvs=>if kvs.length<1000000 then .ok () (h.set n (.dit (qZ kvs k v))) else .bad
  | none=>.bad
 | _,_=>.bad
noncomputable abbrev ze:R2:=fun x y H Q=>∃a o,y=.ref a/\t4 H a x o/\Q (.bl (!o.isSome)) H
section
variable {X:Cx} {g:GG} {ε:EE} {o i e f:Expr} {mo mi me mf:ME} {pos:Pos}
theorem Aq (hu:X.A.units+64<cLine):OpR X (compareOp .NotIn) ze:=by
 intro pins s σ H x y v u Q I rx ry ⟨a,o,e1,d,q⟩
 subst e1
 cases ry
 exact DW (un1 hu) I d rx fun s' I'=>⟨.bl (!o.isSome),H,I',rfl,q⟩
theorem zI {K:PySem.W.Frag}:eJ K g ε jQ ze:=by
 intro α H h a b x y Q r ra rb w
 unfold jQ at w
 cases ek:pj a with
 | none=>rw[ek] at w;cases b<;>exact w.elim
 | some k=>
  rw[ek] at w
  cases rb with
  | @ref n p hp=>
   simp only at w
   cases ed:hV h n with
   | none=>rw[ed] at w;exact w.elim
   | some kvs=>
    rw[ed] at w
    obtain⟨kws,hd,rs⟩:=r.dit ed hp
    obtain⟨b',rfl,eb⟩:=wR ra ek
    refine⟨p,ki kws k,rfl,t4.t hd eb,?_⟩
    have:(fv kvs k).isSome=(ki kws k).isSome:=by
     rcases rs.val k with⟨ev,ew⟩ | ⟨d,v,ev,ew,_⟩<;>rw[ev,ew]<;>rfl
    rw[<- this]
    exact aJ.now w r (.bl _)
  | _=>exact w.elim
theorem EW:PE X (.Dict [] [] pos) (tM X.K g ε rV):=
 PE.imp CA fun σ H Q ⟨α,env,h,s,w⟩ p hp=>aJ.dit (show aJ X.K g α H Q _ _ from w) s.heap .nil hp
theorem D4 (hu:X.A.units+1<cLine) (ho:PE X o (tM X.K g ε mo)) (hi:PE X i (tM X.K g ε mi)) (hs:FN i):PE X (.Subscript o i pos) (tM X.K g ε (aq sF mo mi)):=
 PE.imp (ES hu ho hi hs) fun σ H Q ⟨α,env,h,s,w⟩=>tM.use s w.bind fun d1 h1 v1 H1 α1 e1 s1 r1 w1=>tM.use s1 (w1.ext e1).bind fun d2 h2 v2 H2 α2 e2 s2 r2 w2=>by
  unfold sF at w2
  cases ek:pj d2 with
  | none=>rw[ek] at w2;cases d1<;>exact w2.elim
  | some k=>
   rw[ek] at w2
   cases (r1.ext e2) with
   | @ref n p hp=>
    simp only at w2
    cases ed:hV h2 n with
    | none=>rw[ed] at w2;exact w2.elim
    | some kvs=>
     rw[ed] at w2
     obtain⟨kws,hd,rs⟩:=s2.heap.dit ed hp
     obtain⟨b',rfl,eb⟩:=wR r2 ek
     simp only at w2
     rcases rs.val k with⟨ev,_⟩ | ⟨d,v,ev,ew,rv⟩
     ·rw[ev] at w2;exact w2.elim
     ·rw[ev] at w2
      refine⟨p,v,rfl,?_,aJ.now (aJ.ext (e1.trans e2) (show aJ X.K g α H Q d h2 from w2)) s2.heap rv⟩
      rw[<- ew]
      exact t4.t hd eb
   | _=>exact w2.elim
theorem Hd {p:Pos} (hu:X.A.units+1<cLine) (he:PE X e (tM X.K g ε me)) (ho:PE X o (tM X.K g ε mo)) (hi:PE X i (tM X.K g ε mi))
  (hs:swapsWith e (some (.Subscript o i p)) pos.line X.env=pure false:=by rfl):PS X (.Assign [.Subscript o i p] e pos) (tMS X.K g ε (kq rH mo mi me)):=
 PS.imp (D_ hu ho hi he hs) fun E σ H ⟨α,env,h,s,w⟩=>tM.use s w.bind fun d1 h1 v1 H1 α1 e1 s1 r1 w1=>tM.use s1 (w1.ext e1).bind fun d2 h2 v2 H2 α2 e2 s2 r2 w2=>tM.use s2 (w2.ext e2).bind fun d3 h3 v3 H3 α3 e3 s3 r3 w3=>by
  have w4:=(w3.ext e3).bind
  unfold rH at w4
  cases ek:pj d3 with
  | none=>rw[ek] at w4;cases d2<;>exact w4.elim
  | some k=>
   rw[ek] at w4
   cases (r2.ext e3) with
   | @ref n p hp=>
    simp only at w4
    cases ed:hV h3 n with
    | none=>rw[ed] at w4;exact w4.elim
    | some kvs=>
     rw[ed] at w4
     obtain⟨hl,w4⟩:=WQ.dD w4
     obtain⟨kws,hd,rs⟩:=s3.heap.dit ed hp
     obtain⟨b',rfl,eb⟩:=wR r3 ek
     refine⟨p,_,rfl,B_.t hd eb (by rw[<- rs.length,sizeLine_eq];omega),?_⟩
     have x:=Ext.write (o:=.dT (putK kws k v1)) s3.heap hp
     have ra:=(r1.ext e2).ext e3
     exact(show cG X.K g α H E (.nx env) _ from w4) _ _ (e1.trans (e2.trans (e3.trans x))) (s3.heap.write hp ⟨_,a8,(rs.put k ra).ext x⟩) _ (s3.vs.ext x)
   | _=>exact w4.elim
end
end L2.FE
namespace L2
open PySem PySem.Spec PyProof.Rows
noncomputable abbrev HH (J:It) (ix:List Nat) (σ:St) (wi2:TI) (te:TE) (acc:Addr) (H1:Hp) (Q:VK):Prop:=
 ∃W:Nat->Nat->List V->Hp->Prop,(∃m,W 0 m [] (upd H1 acc (.lst [])))/\∀i m ys H,W i m ys H →
  (J.stop i H/\Q (.ref acc) H)\/(J.go i H/\∀σ0 x H',iS 2 ix σ σ0->J.yld i H x H'->wi2 (σ0.set 0 (some x)) H' fun J2 H2=>
   ∃U:Nat->Nat->List V->Hp->Prop,(∃m2,U 0 m2 ys H2)/\∀j m2 zs H,U j m2 zs H->(J2.stop j H/\∃m',m'<m/\W (i+1) m' zs H) ∨
    (J2.go j H/\∀y H',J2.yld j H y H'->te ((σ0.set 0 (some x)).set 1 (some y)) H' fun v H3=>∃ks,H3 acc=some (.lst ks)/\ks.length<sizeLine/\∃m',m'<m2/\U (j+1) m' (ks++[v]) (upd H3 acc (.lst (ks++[v])))))
noncomputable def xi (wi:TI) (ix:List Nat) (wi2:TI) (te:TE):TE:=fun σ H Q=>wi σ H fun J H1=>∀acc,H1 acc=none->HH J ix σ wi2 te acc H1 Q
section
variable {prog:Program} {w:World} {A:Around} {R:Result->Shared->Prop} {s:Shared} {elt tg iter tg2 iter2:Expr} {scope:Scope} {pos:Pos} {it acc:Value} {env:Env}
noncomputable abbrev e2 (elt tg iter tg2 iter2:Expr) (scope:Scope) (pos:Pos):Expr:=.ListComp elt [⟨tg,iter,[],0⟩,⟨tg2,iter2,[],0⟩] scope pos
theorem C7:compTurn (e2 elt tg iter tg2 iter2 scope pos) 0 it acc env=(standAt iter.pos >>= fun _=>pyNext it >>= fun r=>match r with
  | none=>pure (.done .next)
  | some v=>letOwnedTupleGo tg it v >>= fun _=>assign tg env v >>= fun _=>
   eval iter2 env >>= fun x=>standAt iter2.pos >>= fun _=>foldedSetIterable iter2 env x >>= fun x=>holding [x] (pyIter x) >>= fun i2=>runOwn (.compStart (e2 elt tg iter tg2 iter2 scope pos) 1 i2 acc env) env >>= fun _=>
    again (.compLoop (e2 elt tg iter tg2 iter2 scope pos) 0 it acc env)):=by rfl
theorem DQ:compTurn (e2 elt tg iter tg2 iter2 scope pos) 1 it acc env=(standAt iter2.pos >>= fun _=>pyNext it >>= fun r=>match r with
  | none=>pure (.done .next)
  | some v=>letOwnedTupleGo tg2 it v >>= fun _=>assign tg2 env v >>= fun _=>
   (eval elt env >>= fun x=>call (.builtin "list.append") [acc,x] >>= fun _=>pure ()) >>= fun _=>
    again (.compLoop (e2 elt tg iter tg2 iter2 scope pos) 1 it acc env)):=by rfl
theorem BU (I:Nat->Shared->Prop)
  (turn:∀n s,I n s->wpAny (model prog w) A (pyNext it) (fun r s₁=>match r with
   | none=>R (.ok .next) s₁
   | some v=>wpAny (model prog w) A (letOwnedTupleGo tg2 it v) (fun _ s₁=>wpAny (model prog w) A (assign tg2 env v) (fun _ s₂=>
     wpAny (model prog w) A (eval elt env) (fun x s₄=>wpAny (model prog w) A (call (.builtin "list.append") [acc,x]) (fun _ s₅=>∃m,m<n/\I m s₅) (fun _ _=>False) s₄) (fun _ _=>False) s₂) (fun _ _=>False) s₁) (fun _ _=>False) s₁) (fun _ _=>False) s)
  (n:Nat) (h:I n s):codeAny (model prog w) A (.compLoop (e2 elt tg iter tg2 iter2 scope pos) 1 it acc env) R s:=by
 refine codeAny_loop rfl I (fun n s hI=>?_) n h
 show wpAny _ A ((compTurn (e2 elt tg iter tg2 iter2 scope pos) 1 it acc env).onRaise (fun x=>do noteFrame x env;theTreesLotGoes x)) _ _ s
 refine wpAny_noted ?_
 rw[DQ]
 refine wpAny_noRaise ?_
 refine wpAny_bind (wpAny_standAt (wpAny_bind (thn (turn n s hI) fun r s₁ h₁=>?_)))
 cases r with
 | none=>exact wpAny_pure h₁
 | some v=>exact wpAny_bind (thn h₁ fun _ s₂ h₂=>wpAny_bind (thn h₂ fun _ s₃ h₃=>wpAny_bind (wpAny_bind (thn h₃ fun x s₄ h₄=>wpAny_bind (thn h₄ fun _ s₅ h₅=>wpAny_pure (wpAny_pure ⟨rfl,h₅⟩))))))
theorem Ay (I:Nat->Shared->Prop) (hf:∀x,foldedSetIterable iter2 env x=pure x)
  (turn:∀n s,I n s->wpAny (model prog w) A (pyNext it) (fun r s₁=>match r with
   | none=>R (.ok .next) s₁
   | some v=>wpAny (model prog w) A (letOwnedTupleGo tg it v) (fun _ s₁=>wpAny (model prog w) A (assign tg env v) (fun _ s₂=>
     wpAny (model prog w) A (eval iter2 env) (fun x s₃=>wpAny (model prog w) A (pyIter x) (fun i2 s₄=>
      codeAny (model prog w) A (.compStart (e2 elt tg iter tg2 iter2 scope pos) 1 i2 acc env) (fun r s'=>match r with
       | .ok _=>∃m,m<n/\I m s'
       | .error _=>False) s₄) (fun _ _=>False) s₃) (fun _ _=>False) s₂) (fun _ _=>False) s₁) (fun _ _=>False) s₁) (fun _ _=>False) s)
  (n:Nat) (h:I n s):codeAny (model prog w) A (.compLoop (e2 elt tg iter tg2 iter2 scope pos) 0 it acc env) R s:=by
 refine codeAny_loop rfl I (fun n s hI=>?_) n h
 show wpAny _ A ((compTurn (e2 elt tg iter tg2 iter2 scope pos) 0 it acc env).onRaise (fun x=>do noteFrame x env;theTreesLotGoes x)) _ _ s
 refine wpAny_noted ?_
 rw[C7]
 refine wpAny_noRaise ?_
 refine wpAny_bind (wpAny_standAt (wpAny_bind (thn (turn n s hI) fun r s₁ h₁=>?_)))
 cases r with
 | none=>exact wpAny_pure h₁
 | some v=>
  refine wpAny_bind (thn h₁ fun _ s₂ h₂=>wpAny_bind (thn h₂ fun _ s₃ h₃=>wpAny_bind (thn h₃ fun x s₄ h₄=>wpAny_bind (wpAny_standAt (wpAny_bind (wpAny_of_eq (hf x) (wpAny_bind (wpAny_holding (thn h₄ fun i2 s₅ h₅=>?_)))))))))
  refine wpAny_bind (wpAny_runOwn (codeAny_mono h₅ fun r s' hr=>?_))
  cases r with
  | ok f=>exact wpAny_pure ⟨rfl,hr⟩
  | error e=>exact hr.elim
theorem A6:compStart (e2 elt tg iter tg2 iter2 scope pos) 1 it acc env=(ask >>= fun st=>if st.params.followText "comprehension-iter-twice" = true then again (.compLoop (e2 elt tg iter tg2 iter2 scope pos) 1 it acc env) else
  rule "comprehension.iter-twice" >>= fun _=>standAt iter2.pos >>= fun _=>pyIter it >>= fun i'=>again (.compLoop (e2 elt tg iter tg2 iter2 scope pos) 1 i' acc env)):=by rfl
theorem Bt (h0:codeAny (model prog w) A (.compLoop (e2 elt tg iter tg2 iter2 scope pos) 1 it acc env) R s)
  (h:wpAny (model prog w) A (pyIter it) (fun i' s'=>codeAny (model prog w) A (.compLoop (e2 elt tg iter tg2 iter2 scope pos) 1 i' acc env) R s') (fun _ _=>False) s) :
  codeAny (model prog w) A (.compStart (e2 elt tg iter tg2 iter2 scope pos) 1 it acc env) R s:=by
 refine codeAny_of_tree ?_
 show wpAny _ _ ((compStart (e2 elt tg iter tg2 iter2 scope pos) 1 it acc env).onRaise (fun x=>do noteFrame x env;standAt theWindowsPlace)) _ _ s
 refine wpAny_notedAt ?_
 refine wpAny_noRaise ?_
 rw[A6]
 refine wpAny_bind (wpAny_askSetting ?_)
 split
 ·exact wpAny_pure ⟨rfl,h0⟩
 ·exact wpAny_bind (wpAny_rule (wpAny_bind (wpAny_standAt (wpAny_bind (thn h fun i' s' h'=>wpAny_pure ⟨rfl,h'⟩)))))
end
theorem Ai {X:Cx} {use:Option (Value->Sem Unit)} {Q2:Value->Shared->Prop} {pins:List (Addr × Obj)} {s:Shared} {σ:St} {H:Hp} {Q:VK} {elt iter tg iter2 tg2:Expr} {tn':List Str} {scope osc:Scope} {pos:Pos} {wi wi2:TI} {te:TE} (ix:List Nat) (N':List Str)
  (hxe:X.xe=fun _ _=>False) (hc:X.calm=true) (ho:X.env.scope=osc) (hN:N'=tn'++ix.map fun i=>(X.N[i]?).getD ("" : Str)) (hnd:N'.Nodup)
  (hall:(∀y∈scope.names,y.2=.free->osc.names.lookup y.1=some .cell)/\(∀y∈scope.names,y.2≠.cell)/\scope.kind=.function/\(∀y∈scope.names,y.2=.local->scope.names.lookup y.1=some .local)/\(∀y∈N'.drop tn'.length,scope.names.lookup y=some .free))
  (hi:PI X tg iter wi) (hg:∀cl C az aG fp,PG (bf X scope cl C az aG fp N') tg (fj 0)) (hi2:∀cl C az aG fp,PI (bf X scope cl C az aG fp N') tg2 iter2 wi2) (hg2:∀cl C az aG fp,PG (bf X scope cl C az aG fp N') tg2 (fj 1))
  (he:∀cl C az aG fp,PE (bf X scope cl C az aG fp N') elt te)
  (hs:∀x,foldedSetIterable iter X.env x=pure x) (hs2:∀env x,foldedSetIterable iter2 env x=pure x) (h2n:tn'.length=2) (I:Inv X pins σ H s) (h:xi wi ix wi2 te σ H Q)
  (hfin:∀(acc C:Addr) (H5:Hp) (s5:Shared) (o:Obj),Inv X (pins++[(C,o)]) σ H5 s5->(∀x c,X.env.cells.lookup x=some c->c≠C)->X.az.heap.objs.size<=C->(∀p∈X.pn++pins,p.1≠C)->(∃m,∀h':Heap,h'.get? C=some o->h'.Ns C m)->Q (.ref acc) H5->compPost (model X.prog X.w) X.A X.xe use Q2 (.ref acc) C (.ok .next) s5) :
  wpAny (model X.prog X.w) X.A (comprehension (.ListComp elt [⟨tg,iter,[],0⟩,⟨tg2,iter2,[],0⟩] scope pos) scope X.env (firstIterPos [⟨tg,iter,[],0⟩,⟨tg2,iter2,[],0⟩] pos) (newList []) false (eval iter X.env) use) Q2 X.xe s:=by
 obtain⟨hfr,hcell,hkind,hnames,hcap⟩:=hall
 subst ho
 have outc:∀y∈scope.names,y.2=.free->X.env.kindOf y.1=some .cell:=fun y hy q=>hfr y hy q
 obtain⟨cl,hclos,hcl1,hcl2⟩:=j6 (env:=X.env) (scope:=scope) fun y hy q=>I.ok.has y.1 (.inl (outc y hy q))
 refine wpAny_comprehension_free (use:=use) rfl hs hclos hkind hnames (thn (hi pins s σ H _ I h) fun v s1 h1=>thn h1 fun itv s2 h2=>?_)
 obtain⟨it,fp,tn,J,H2,e,I2,T,st2,f2,rest⟩:=h2
 subst e
 have hf2:H2 s2.heap.objs.size=none:=I2.hok.fresh (Nat.le_refl _)
 obtain⟨W,⟨m0,w0⟩,turn⟩:=rest s2.heap.objs.size hf2
 -- the list
 refine wpAny_newObj_type ?_
 have I3:Inv X pins σ (upd H2 s2.heap.objs.size (.lst [])) { s2 with heap:=s2.heap.push { cls:=.type "list", dict:=none,data:=.seq ([]:List Value).toArray } }:=I2.Ek (its:=[]) (t':=s2.toks) .nil (Nat.zero_le _)
 have keep3:∀b o,s2.heap.get? b=some o->(s2.heap.push { cls:=.type "list", dict:=none,data:=.seq ([]:List Value).toArray }).get? b=some o:=fun b o q=>Heap.get?_push_of_some _ q
 have fp3:∀b∈fp,∃o,s2.heap.get? b=some o/\∀v,o.data≠.cell v:=T.obj _ _ st2
 have st3:tn 0 (s2.heap.push { cls:=.type "list", dict:=none,data:=.seq ([]:List Value).toArray }):=T.keep _ _ _ st2 fun b _ o q=>keep3 b o q
 have fpn:∀b∈fp,(upd H2 s2.heap.objs.size (HO.lst [])) b=none:=fun b hb=>by
  obtain⟨o,q,_⟩:=fp3 b hb
  rw[aA (Nat.ne_of_lt (Heap.lt_size q))]
  exact(f2 b hb).1
 revert I3 keep3 st3 fpn w0
 generalize hS3:({ s2 with heap:=s2.heap.push { cls:=.type "list", dict:=none,data:=.seq ([]:List Value).toArray } }:Shared)=s3
 generalize hH3:upd H2 s2.heap.objs.size (HO.lst [])=H3
 intro w0 I3 keep3 st3 fpn
 have acc3:H3 s2.heap.objs.size=some (.lst []):=by rw[<- hH3];exact a8
 generalize s2.heap.objs.size=acc at *
 have e3:s2.heap.push { cls:=.type "list", dict:=none,data:=.seq ([]:List Value).toArray }=s3.heap:=by rw[<- hS3]
 have keep3':∀b o,s2.heap.get? b=some o->s3.heap.get? b=some o:=fun b o q=>by rw[<- e3];exact keep3 b o q
 have st3':tn 0 s3.heap:=by rw[<- e3];exact st3
 refine wpAny_newFunctionEnv hcell (by intro y hy;simp at hy) (fun h₁ hns₁ hsb₁=>?_) hkind
 have hC:s3.heap.objs.size=s3.heap.objs.size:=rfl
 have keep4:∀b o,s3.heap.get? b=some o->h₁.get? b=some o:=fun b o q=>hsb₁.extBut b o (Nat.ne_of_lt (Heap.lt_size q)) (Heap.get?_push_of_some _ q)
 have fpC:∀b∈fp,b≠s3.heap.objs.size:=fun b hb=>by
  obtain⟨o,q,_⟩:=fp3 b hb
  exact Nat.ne_of_lt (Heap.lt_size (keep3' b o q))
 -- the block's context
 generalize hX':bf X scope cl s3.heap.objs.size s3 H3 fp N'=X'
 have hXp:X'.prog=X.prog:=by rw[<- hX'];rfl
 have hXw:X'.w=X.w:=by rw[<- hX'];rfl
 have hXK:X'.K=X.K:=by rw[<- hX'];rfl
 have hXA:X'.A=X.A:=by rw[<- hX'];rfl
 have hXe:X'.env=compEnvC scope cl s3.heap.objs.size X.env:=by rw[<- hX'];rfl
 have hXc:X'.calm=true:=by rw[<- hX'];exact hc
 have hXx:X'.xe=fun _ _=>False:=by rw[<- hX'];exact hxe
 have hXf:X'.fs=frs X.stack:=by rw[<- hX'];rfl
 have hXex:X'.ex=fp:=by rw[<- hX'];rfl
 have hXN:X'.N=N':=by rw[<- hX'];rfl
 have hXs:X'.az=s3:=by rw[<- hX'];rfl
 have hXH:X'.aG=H3:=by rw[<- hX'];rfl
 have hXpn:X'.pn=[]:=by rw[<- hX'];rfl
 have okX:X'.Ok:=by
  rw[<- hX']
  refine⟨I3.ok.mod,hkind,I3.ok.glob,I3.ok.blt,Nat.le_refl _,fun a b c p q=>I3.ok.inj a b c (hcl1 a c p) (hcl1 b c q),fun y hy=>?_,fun _ _ z=>(by cases z),I3.ok.hd,I3.ok.frames,.inl rfl,fun b hb=>⟨fpC b hb,fun y c p=>(f2 b hb).2.2.2.2.1 y c (hcl1 y c p)⟩,
   I3.bs,Nat.le_trans I3.ok.bsz I3.sz,fun b o p hb=>?_,fun b hb z=>?_,I3.stack,I3.jM⟩
  ·have hy':(relabel scope X.env).names.lookup y=some .cell\/(relabel scope X.env).names.lookup y=some .free:=hy
   have free:scope.names.lookup y=some .free->∃c,cl.lookup y=some c:=fun q=>hcl2 y (lookup_mem q)
   rcases hy' with q | q
   ·rcases dY q with z | ⟨z,_⟩
    ·exact absurd rfl (hcell _ (lookup_mem z))
    ·exact free z
   ·rcases dY q with z | ⟨_,z⟩
    ·exact free z
    ·cases z
  ·rcases(f2 b hb).2.2.2.1 with z | z
   ·exact I3.ok.qv b o p z
   ·exact absurd (Nat.lt_of_lt_of_le (Heap.lt_size p) (Nat.le_trans I3.ok.bsz z)) (Nat.lt_irrefl _)
  ·rcases List.mem_cons.mp (I3.eX b z) with q | q
   ·exact(f2 b hb).2.1 q
   ·exact(f2 b hb).2.2.1 q
 have I4:∀tk,Inv X' [] (qM tn'.length ix σ) H3 { s3 with heap:=h₁,toks:=tk }:=fun tk=>by
  have hloc:=I3.loc
  refine⟨okX,by rw[hXs],I3.bare,?_,⟨fun y=>([]:List (Str × Value)).reverse.lookup y,by rw[hXe];exact hns₁,fun i y v e1 e2 e3=>?_⟩,fun y c p=>?_,?_,fun y c p=>?_,fun p hp=>?_,?_,?_⟩
  ·rw[hXf,hXex,hXH,hXs];exact Un.kept keep4
  ·rw[hXN,hN] at e1
   by_cases hit':i<tn'.length
   ·exfalso
    unfold qM at e2
    rw[List.getElem?_append_left (by simpa using hit'),List.getElem?_replicate,if_pos hit'] at e2
    cases e2
   ·have e10:N'[i]?=some y:=by rw[hN];exact e1
    obtain⟨j,rfl⟩:∃j,i=tn'.length+j:=⟨i - tn'.length,by omega⟩
    have e1':(ix.map fun i=>(X.N[i]?).getD ("" : Str))[j]?=some y:=by
     rw[List.getElem?_append_right (by omega)] at e1
     rw[show tn'.length+j - tn'.length=j by omega] at e1
     exact e1
    have e2':(ix.map fun i=>(σ[i]?).join)[j]?=some (some v):=by
     unfold qM at e2
     rw[List.getElem?_append_right (by simp)] at e2
     simpa using e2
    rw[List.getElem?_map] at e1' e2'
    cases hj:ix[j]? with
    | none=>rw[hj] at e1';cases e1'
    | some i0=>
     rw[hj] at e1' e2'
     have e1'':(X.N[i0]?).getD ("" : Str)=y:=by simpa using e1'
     have e2'':(σ[i0]?).join=some v:=by simpa using e2'
     have hsv:σ[i0]?=some (some v):=by
      cases q:σ[i0]? with
      | none=>rw[q] at e2'';cases e2''
      | some z=>rw[q] at e2'';have:z=some v:=by simpa using e2''
                rw[this]
     have hlt:i0<X.N.length:=by
      have:=(List.getElem?_eq_some_iff.mp hsv).1
      rw[I3.len] at this;exact this
     have hNy:X.N[i0]?=some y:=by
      rw[List.getElem?_eq_getElem hlt] at e1'' ⊢
      simpa using e1''
     have hyt:y∈N'.drop tn'.length:=by
      refine List.mem_of_getElem? (i:=j) ?_
      rw[List.getElem?_drop];exact e10
     have hyf:=hcap y hyt
     have hyc:=outc (y,.free) (lookup_mem hyf) rfl
     obtain⟨m,hn,hl⟩:=hloc
     obtain⟨u,r,l⟩:=hl i0 y v hNy hsv (.inr (.inl hyc))
     refine⟨u,r,?_⟩
     rcases l with⟨k1,_⟩ | ⟨_,c,p,z⟩
     ·have hyc':X.env.kindOf y=some .cell:=hyc
      rw[k1] at hyc';cases hyc'
     ·obtain⟨c',p'⟩:=hcl2 y (lookup_mem hyf)
      have pc:c'=c:=by
       have:=hcl1 y c' p'
       rw[p] at this;cases this;rfl
      subst pc
      refine .inr ⟨.inl ?_,c',by rw[hXe];exact p',?_⟩
      ·rw[hXe];exact dj I3.ok.kind hyf hyc
      ·obtain⟨o,q1,q2⟩:=z
       exact⟨o,keep4 c' o q1,q2⟩
  ·rw[hXe] at p
   obtain⟨v,o,q1,q2⟩:=I3.cell y c (hcl1 y c p)
   exact⟨v,o,keep4 c o q1,q2⟩
  ·rw[hXe];exact I3.hok.fresh (Nat.le_refl _)
  ·rw[hXe] at p;exact I3.di y c (hcl1 y c p)
  ·rw[hXpn] at hp;cases hp
  ·rw[hXp,hXw];exact I3.hok.kept keep4
  ·rw[hXN,hN];simp[qM]
 -- the loop
 have stat:∀{H':Hp},(∀b∈fp,H' b=none)->∀b∈fp,nL X' [] H' b:=fun hn b hb=>by
  refine⟨hn b hb,by rw[hXe];exact fpC b hb,?_,.inl (by rw[hXex];exact hb),fun y c p=>?_,fun p hp=>by rw[hXpn] at hp;cases hp⟩
  ·rw[hXf];intro z
   rcases List.mem_cons.mp (I3.eX b z) with q | q
   ·exact(f2 b hb).2.1 q
   ·exact(f2 b hb).2.2.1 q
  ·rw[hXe] at p;exact(f2 b hb).2.2.2.2.1 y c (hcl1 y c p)
 have fin:∀{H5:Hp} {s5:Shared} {σ5:St},Inv X' [] σ5 H5 s5->Q (.ref acc) H5->compPost (model X.prog X.w) X.A X.xe use Q2 (.ref acc) s3.heap.objs.size (.ok .next) s5:=fun{H5 s5 σ5} I5 q=>by
  obtain⟨m,hn,_⟩:=I5.loc
  rw[hXe] at hn
  have hn':s5.heap.Ns s3.heap.objs.size m:=hn
  obtain⟨oC,esC,epC,hC1,hC2,hC3⟩:=hn'
  have u5:=I5.base
  rw[hXf,hXex,hXH,hXs] at u5
  have fr:H5 s3.heap.objs.size=none:=by have:=I5.free;rw[hXe] at this;exact this
  have hok5:=I5.hok
  rw[hXp,hXw] at hok5
  have hos:s5.os=s3.os:=by have:=I5.os;rw[hXs] at this;exact this
  have IX:Inv X pins σ H5 s5:=I3.sD (s':=s5) (ch:=fp) hos u5 hok5 I5.bare (fun b hb=>by
   obtain⟨g0,g1,g2,g3,g4,g5⟩:=f2 b hb
   exact⟨g3,g1,g4,g5⟩)
  have cC:∀x c,X.env.cells.lookup x=some c->c≠s3.heap.objs.size:=fun x c z e=>by
   obtain⟨v,q⟩:=I3.cell x c z
   exact absurd q.lt (by rw[e];exact Nat.lt_irrefl _)
  have pC:∀p∈X.pn++pins,p.1≠s3.heap.objs.size:=fun p hp e=>by
   have:=Heap.lt_size (I3.pin p hp).1
   rw[e] at this
   exact Nat.lt_irrefl _ this
  refine hfin acc s3.heap.objs.size H5 s5 oC (IX.kQ fun p hp=>?_) cC I3.sz pC ⟨m,fun h' z=>⟨oC,esC,epC,z,hC2,hC3⟩⟩ q
  rcases List.mem_append.mp hp with z | z
  ·exact IX.pin p (List.mem_append_right _ z)
  ·have e:=List.mem_singleton.mp z
   subst e
   refine⟨hC1,fr,Nat.ne_of_gt I3.lt,I3.Ho (Nat.le_refl _),fun v e=>?_⟩
   have e':oC.data=.cell v:=e
   rw[hC2] at e';cases e'
 have IsC:∀{σ0:St} {i:Nat} {v:Option V},iS 2 ix σ σ0->i<2->iS 2 ix σ (σ0.set i v):=fun{σ0 i v} ⟨ts,hl,e⟩ hi=>⟨ts.set i v,by rw[List.length_set];exact hl,by rw[e,List.set_append_left _ _ (by rw[hl];exact hi)]⟩
 have loop:∀tk,codeAny (model X.prog X.w) X.A (.compLoop (.ListComp elt [⟨tg,iter,[],0⟩,⟨tg2,iter2,[],0⟩] scope pos) 0 (.ref it) (.ref acc) (compEnvC scope cl s3.heap.objs.size X.env))
   (compPost (model X.prog X.w) X.A X.xe use Q2 (.ref acc) s3.heap.objs.size) { s3 with heap:=h₁,toks:=tk }:=fun tk=>by
  refine Ay (fun n s'=>∃i ys σ' H',Inv X' [] σ' H' s'/\iS 2 ix σ σ'/\tn i s'.heap/\(∀b∈fp,H' b=none)/\W i n ys H') (hs2 _) (fun n s5 h5=>?_) m0
   ⟨0,[],qM tn'.length ix σ,H3,I4 tk,⟨_,by rw[List.length_replicate];exact h2n,rfl⟩,T.keep _ _ _ st3' fun b _ o q=>keep4 b o q,fpn,w0⟩
  obtain⟨i,ys,σ5,H5,I5,hσ,st5,fr5,w5⟩:=h5
  rcases turn i n ys H5 w5 with⟨stop,q⟩ | ⟨go,step⟩
  ·have d:=T.done X' hXp hXw hXK hXc i [] s5 σ5 H5 (fun _ _=>False) I5 (stat fr5) st5 stop
   rw[hXA] at d
   refine thn d fun r s6 ⟨hr,I6⟩=>?_
   subst hr
   exact fin I6 q
  ·have d:=T.item X' hXp hXw hXK hXc i [] s5 σ5 H5 (fun _ _=>False) I5 (stat fr5) st5 go
   rw[hXA] at d
   refine thn d fun r s6 ⟨u,hr,h6⟩=>?_
   subst hr
   refine thn h6 fun _ s7 ⟨z,H7,I7,r7,y7,st7,fr7⟩=>?_
   have I7':=I7.pinned (stat fr7) (T.obj _ _ st7)
   have again:∀{H9:Hp} {s9:Shared} {ys9:List V} {σ9:St},Inv X' ([]++jr fp s7.heap) σ9 H9 s9->iS 2 ix σ σ9->(∃m',m'<n/\W (i+1) m' ys9 H9)->∃m',m'<n/\∃i ys σ' H',Inv X' [] σ' H' s9/\iS 2 ix σ σ'/\tn i s9.heap/\(∀b∈fp,H' b=none)/\W i m' ys H':=fun{H9 s9 ys9 σ9} I9 c9 ⟨m',hm,w9⟩=>by
    refine⟨m',hm,i+1,ys9,_,H9,I9.hX,c9,T.keep _ _ _ st7 fun b hb o e=>(I9.pin (b,o) (List.mem_append_right _ (List.mem_append_right _ (cU hb e)))).1,fun b hb=>?_,w9⟩
    obtain⟨o,e,_⟩:=T.obj _ _ st7 b hb
    exact(I9.pin (b,o) (List.mem_append_right _ (List.mem_append_right _ (cU hb e)))).2.1
   have he':=he cl s3.heap.objs.size s3 H3 fp
   have hg':=hg cl s3.heap.objs.size s3 H3 fp
   have hg2':=hg2 cl s3.heap.objs.size s3 H3 fp
   have hi2':=hi2 cl s3.heap.objs.size s3 H3 fp
   rw[hX'] at he' hg' hg2' hi2'
   rw[<- hXe]
   have a0:=hg' _ s7 σ5 H7 z u (fun σ2 Hn=>σ2=σ5.set 0 (some z)/\Hn=H7) I7' r7 ⟨rfl,rfl⟩
   rw[hXp,hXw,hXA,hXx] at a0
   refine thn a0 fun _ s8 ⟨σ8,H8,I8,e8,e8'⟩=>?_
   subst e8 e8'
   have a1:=hi2' _ s8 _ H8 _ I8 (step σ5 z H8 hσ y7)
   rw[hXp,hXw,hXA,hXx] at a1
   refine thn a1 fun v2 s9 h9=>thn h9 fun itv2 s10 h10=>?_
   obtain⟨it2,fp2,tn2,J2,H10,e10,I10,T2,st10,f10,V,⟨m2,v0⟩,turn2⟩:=h10
   subst e10
   rw[hXp,hXw,hXK] at T2
   have stat2:∀{H':Hp},(∀b∈fp2,H' b=none)->∀b∈fp2,nL X' ([]++jr fp s7.heap) H' b:=fun hn b hb=>⟨hn b hb,(f10 b hb).2⟩
   have inner:codeAny (model X.prog X.w) X.A (.compLoop (.ListComp elt [⟨tg,iter,[],0⟩,⟨tg2,iter2,[],0⟩] scope pos) 1 (.ref it2) (.ref acc) X'.env) (fun r s'=>match r with
     | .ok _=>∃m',m'<n/\∃i ys σ' H',Inv X' [] σ' H' s'/\iS 2 ix σ σ'/\tn i s'.heap/\(∀b∈fp,H' b=none)/\W i m' ys H'
     | .error _=>False) s10:=by
    refine BU (fun m s'=>∃j zs uo H',Inv X' ([]++jr fp s7.heap) ((σ5.set 0 (some z)).set 1 uo) H' s'/\tn2 j s'.heap/\(∀b∈fp2,H' b=none)/\V j m zs H') (fun m s11 h11=>?_) m2 ⟨0,ys,((σ5.set 0 (some z))[1]?).join,H10,?_,st10,fun b hb=>(f10 b hb).1,v0⟩
    ·obtain⟨j,zs,uo,H11,I11,st11,fr11,v11⟩:=h11
     rcases turn2 j m zs H11 v11 with⟨stop2,q2⟩ | ⟨go2,step2⟩
     ·have d:=T2.done X' hXp hXw hXK hXc j _ s11 _ H11 (fun _ _=>False) I11 (stat2 fr11) st11 stop2
      rw[hXA] at d
      refine thn d fun r s12 ⟨hr,I12⟩=>?_
      subst hr
      exact again I12 (IsC (IsC hσ (by decide)) (by decide)) q2
     ·have d:=T2.item X' hXp hXw hXK hXc j _ s11 _ H11 (fun _ _=>False) I11 (stat2 fr11) st11 go2
      rw[hXA] at d
      refine thn d fun r s12 ⟨u2,hr,h12⟩=>?_
      subst hr
      refine thn h12 fun _ s13 ⟨z2,H13,I13,r13,y13,st13,fr13⟩=>?_
      have I13':=I13.pinned (stat2 fr13) (T2.obj _ _ st13)
      have b0:=hg2' _ s13 _ H13 z2 u2 (fun σ2 Hn=>σ2=((σ5.set 0 (some z)).set 1 uo).set 1 (some z2)/\Hn=H13) I13' r13 ⟨rfl,rfl⟩
      rw[hXp,hXw,hXA,hXx] at b0
      refine thn b0 fun _ s14 ⟨σ14,H14,I14,e14,e14'⟩=>?_
      subst e14 e14'
      rw[List.set_set] at I14
      have b1:=he' _ s14 _ H14 _ I14 (step2 z2 H14 y13)
      rw[hXp,hXw,hXA,hXx] at b1
      refine thn b1 fun yv s15 ⟨y,H15,I15,r15,ks,q1,q2,q3⟩=>?_
      have b2:=jL (X:=X') _ s15 _ H15 (.ref acc) [y] (.ref acc) [yv] (fun _ Hq=>∃m',m'<m/\V (j+1) m' (ks++[y]) Hq) I15 rfl (.cons r15 .nil) ⟨acc,ks,y,rfl,rfl,q1,q2,q3⟩
      rw[hXp,hXw,hXA,hXx] at b2
      refine thn b2 fun _ s16 ⟨_,H16,I16,_,m',hm',w16⟩=>?_
      refine⟨m',hm',j+1,ks++[y],some z2,H16,I16.hX,T2.keep _ _ _ st13 fun b hb o e=>(I16.pin (b,o) (List.mem_append_right _ (List.mem_append_right _ (cU hb e)))).1,fun b hb=>?_,w16⟩
      obtain⟨o,e,_⟩:=T2.obj _ _ st13 b hb
      exact(I16.pin (b,o) (List.mem_append_right _ (List.mem_append_right _ (cU hb e)))).2.1
    ·have:(σ5.set 0 (some z)).set 1 ((σ5.set 0 (some z))[1]?).join=σ5.set 0 (some z):=by
      obtain⟨ts,hl,e⟩:=hσ
      match ts,hl with
      | [p,q],_=>rw[e];rfl
     rw[this];exact I10
   refine Bt inner ?_
   exact T2.self _ 0 _ _ _ st10 inner
 refine codeAny_compStart_list (loop _) ?_
 exact T.self _ 0 _ _ _ (T.keep _ _ _ st3' fun b _ o q=>keep4 b o q) (loop _)
section
variable {X:Cx} {elt iter tg iter2 tg2:Expr} {scope osc:Scope} {pos:Pos} {wi wi2:TI} {te:TE}
theorem vd {y:Str} {py spos:Pos} {i:Nat} (ix:List Nat) (tn' N':List Str) (h2n:tn'.length=2)
  (hxe:X.xe=fun _ _=>False) (hc:X.calm=true) (ho:X.env.scope=osc) (hN:N'=tn'++ix.map fun i=>(X.N[i]?).getD ("" : Str)) (hnd:N'.Nodup)
  (hall:(∀y∈scope.names,y.2=.free->osc.names.lookup y.1=some .cell)/\(∀y∈scope.names,y.2≠.cell)/\scope.kind=.function/\(∀y∈scope.names,y.2=.local->scope.names.lookup y.1=some .local)/\(∀y∈N'.drop tn'.length,scope.names.lookup y=some .free))
  (hi:PI X tg iter wi) (hg:∀cl C az aG fp,PG (bf X scope cl C az aG fp N') tg (fj 0)) (hi2:∀cl C az aG fp,PI (bf X scope cl C az aG fp N') tg2 iter2 wi2) (hg2:∀cl C az aG fp,PG (bf X scope cl C az aG fp N') tg2 (fj 1))
  (he:∀cl C az aG fp,PE (bf X scope cl C az aG fp N') elt te)
  (hNN:X.N.Nodup) (hy:X.N[i]?=some y) (hl:X.env.scope.names.lookup y=some .local)
  (hsw:swapsWith (.ListComp elt [⟨tg,iter,[],0⟩,⟨tg2,iter2,[],0⟩] scope pos) (some (.Name y py)) spos.line X.env=pure true:=by rfl)
  (hs:∀x,foldedSetIterable iter X.env x=pure x:=by intro _;rfl) (hs2:∀env x,foldedSetIterable iter2 env x=pure x:=by intro _ _;rfl) :
  PS X (.Assign [.Name y py] (.ListComp elt [⟨tg,iter,[],0⟩,⟨tg2,iter2,[],0⟩] scope pos) spos) (DT (xi wi ix wi2 te) (fj i)):=by
 intro pins s σ H D I h
 rw[exec_Assign_Name_used _ _ _ _ hsw]
 refine wpAny_bind (wpAny_standAt ?_)
 show wpAny _ _ (evalThenUse (.ListComp elt [⟨tg,iter,[],0⟩,⟨tg2,iter2,[],0⟩] scope pos) X.env (assign (.Name y py) X.env) >>= fun _=>pure Flow.next) _ _ _
 refine wpAny_bind ?_
 show wpAny _ _ (comprehension (.ListComp elt [⟨tg,iter,[],0⟩,⟨tg2,iter2,[],0⟩] scope pos) scope X.env (firstIterPos [⟨tg,iter,[],0⟩,⟨tg2,iter2,[],0⟩] pos) (newList []) false (eval iter X.env) (some (assign (.Name y py) X.env)) >>= fun _=>pure ()) _ _ _
 refine wpAny_bind (Ai (use:=some (assign (.Name y py) X.env)) ix N' hxe hc ho hN hnd hall hi hg hi2 hg2 he hs hs2 h2n I h fun acc C H5 s5 o I5 cC hC pC hm q=>?_)
 obtain⟨m,hm⟩:=hm
 refine wpAny_assign_Name (fY (i:=i) (v:=.ref acc) I5 hNN hy (.inl hl) rfl (fun s6 I6=>?_) (.inr hl))
 refine⟨m,hm _ (I6.pin (C,o) (List.mem_append_right _ (List.mem_append_right _ (List.mem_singleton.mpr rfl)))).1,fun h' hs'=>?_⟩
 exact wpAny_pure (wpAny_pure ⟨_,H5,I6.Hx cC hC pC hs',q⟩)
end
end L2
namespace L2.FE
open PySem PySem.Spec PyProof.Rows
noncomputable def hW (ix:List Nat) (env:En) (a b:Option D):En:=a::b::ix.map fun i=>(env[i]?).join
noncomputable def Bv (n0:Nat) (y:D) (h:Hh):R Unit:=match ax h n0 with
 | some ds=>if ds.length<1000000 then .ok () (h.set n0 (.lst (ds++[y]))) else .bad
 | none=>.bad
noncomputable def vG (n0:Nat) (rd:Rdr) (te:ME) (ff:D->En):Nat->Nat->Hh->R Unit
 | k,j,h=>match rd h j with
  | none=>.bad
  | some none=>.ok () h
  | some (some e)=>match k with
   | 0=>.bad
   | k+1=>(te (ff e) h).bind fun y h2=>(Bv n0 y h2).bind fun _ h3=>vG n0 rd te ff k (j+1) h3
noncomputable def ud (n0:Nat) (rd:Rdr) (mi2:MI) (te:ME) (ff:Option D->Option D->En):Nat->Nat->Hh->R Unit
 | k,i,h=>match rd h i with
  | none=>.bad
  | some none=>.ok () h
  | some (some d)=>match k with
   | 0=>.bad
   | k+1=>(mi2 (ff (some d) none) h).bind fun sr h1=>(vG n0 sr.rdr te (fun e=>ff (some d) (some e)) (sr.fuel h1) 0 h1).bind fun _ h2=>ud n0 rd mi2 te ff k (i+1) h2
noncomputable def iK (mi:MI) (ix:List Nat) (mi2:MI) (te:ME):ME:=fun env h=>(mi env h).bind fun sr h1=>(ud h1.length sr.rdr mi2 te (hW ix env) (sr.fuel h1) 0 (h1++[.lst []])).bind fun _ h2=>.ok (.ref h1.length) h2
section
variable {K:PySem.W.Frag} {g:GG}
theorem uT {α:List Addr} {H:Hp} {env:En} {σ:St} {ix:List Nat} {a b:Option D} {p q:Option V} (s:jV K g α H env σ) (ra:∀d,a=some d->∃v,p=some v/\aI K g α H d v) (rb:∀d,b=some d->∃v,q=some v/\aI K g α H d v):jV K g α H (hW ix env a b) (p::q::ix.map fun i=>(σ[i]?).join):=by
 refine⟨by simp[hW],fun i e h=>?_⟩
 match i with
 | 0=>
  have:a=some e:=by simpa [hW] using h
  obtain⟨v,rfl,r⟩:=ra e this
  exact⟨v,rfl,r⟩
 | 1=>
  have:b=some e:=by simpa [hW] using h
  obtain⟨v,rfl,r⟩:=rb e this
  exact⟨v,rfl,r⟩
 | i+2=>
  have h':(ix.map fun i=>(env[i]?).join)[i]?=some (some e):=by simpa [hW] using h
  rw[List.getElem?_map] at h'
  cases ei:ix[i]? with
  | none=>rw[ei] at h';cases h'
  | some j=>
   rw[ei] at h'
   have h2:(env[j]?).join=some e:=by simpa using h'
   cases ej:env[j]? with
   | none=>rw[ej] at h2;cases h2
   | some oe=>
    rw[ej] at h2
    have h3:oe=some e:=by simpa using h2
    subst h3
    obtain⟨u,eu,ru⟩:=s.vars j e ej
    refine⟨u,?_,ru⟩
    simp only[List.getElem?_cons_succ,List.getElem?_map,ei,Option.map_some,eu]
    rfl
theorem sU {α α':List Addr} {n:Nat} {p:Addr} {H H':Hp} (e:Ext K α H α' H') (h:α[n]?=some p):α'[n]?=some p:=by
 obtain⟨l,rfl⟩:=e.toEx0.pre
 rw[List.getElem?_append_left]
 ·exact h
 ·by_cases hl:n<α.length
  ·exact hl
  ·rw[List.getElem?_eq_none (by omega)] at h;cases h
theorem Ar {mi mi2:MI} {te:ME} {ix:List Nat} {σ:St} {H:Hp} {Q:VK} (t:tM K g E00 (iK mi ix mi2 te) σ H Q):xi (tMI K g E00 mi) ix (tMI K g E00 mi2) (tM K g E00 te) σ H Q:=by
 obtain⟨α,env,h,s,w⟩:=t
 unfold iK at w
 refine⟨α,env,h,s,w.bind.mono fun sr h1 _ w1 J H1 α1 e1 hr1 rd=>fun acc hacc=>?_⟩
 have s1:=s.ext e1 hr1
 have xp:Ext K α1 H1 (α1++[acc]) (upd H1 acc (.lst [])):=Ext.push hacc
 have hrp:aS K g (α1++[acc]) (upd H1 acc (.lst [])) (h1++[.lst []]):=hr1.push hacc ⟨[],a8,.nil⟩
 have p0:(α1++[acc])[h1.length]?=some acc:=by rw[<- hr1.len];simp
 refine⟨fun i m ys H=>∃α h,Ext K α1 H1 α H/\α[h1.length]?=some acc/\aS K g α H h ∧
  WQ K g E00 α1 H1 ((ud h1.length sr.rdr mi2 te (hW ix env) m i h).bind fun _ h2=>.ok (.ref h1.length) h2) (aJ K g α1 H1 Q),
  ⟨sr.fuel h1,_,_,xp,p0,hrp,w1.post e1⟩,?_⟩
 rintro i m ys H2 ⟨α2,h2,x2,p2,hr2,w2⟩
 have q:=rd α2 H2 h2 x2 hr2 i
 unfold ud at w2
 cases e:sr.rdr h2 i with
 | none=>rw[e] at w2;exact w2.elim
 | some od=>
  rw[e] at w2 q
  cases od with
  | none=>exact .inl ⟨q,(show aJ K g α1 H1 Q (.ref h1.length) h2 from w2) _ _ _ x2 hr2 (.ref p2)⟩
  | some d=>
   cases m with
   | zero=>exact w2.elim
   | succ m=>
    rw[bS] at w2
    have w3:=WQ.bind (show WQ K g E00 α1 H1 ((mi2 (hW ix env (some d) none) h2).bind _) _ from w2)
    refine .inr ⟨q.1,fun σ0 x H3 hcap y=>?_⟩
    obtain⟨ts,hl,hσ0⟩:=hcap
    match ts,hl with
    | [v0,q0],_=>
    subst hσ0
    obtain⟨α3,x3,hr3,rx⟩:=q.2 x H3 y
    have s3:dz K g α3 H3 (hW ix env (some d) none) (some x::q0::ix.map fun i=>(σ[i]?).join) h2:=⟨hr3,uT (s1.vs.ext (x2.trans x3)) (fun d' hd=>by cases hd;exact⟨x,rfl,rx⟩) (fun d' hd=>by cases hd)⟩
    refine⟨α3,_,h2,s3,((w3.ext x2).ext x3).mono fun sr2 h4 _ w4 J2 H4 α4 x4 hr4 rd2=>?_⟩
    have x14:=x2.trans (x3.trans x4)
    have p4:=sU (x3.trans x4) p2
    refine⟨fun j m2 zs H=>∃α h,Ext K α4 H4 α H/\aS K g α H h ∧
     WQ K g E00 α1 H1 (((vG h1.length sr2.rdr te (fun e=>hW ix env (some d) (some e)) m2 j h).bind fun _ h2=>ud h1.length sr.rdr mi2 te (hW ix env) m (i+1) h2).bind fun _ h2=>.ok (.ref h1.length) h2) (aJ K g α1 H1 Q),
     ⟨sr2.fuel h4,α4,h4,Ext.refl,hr4,w4⟩,?_⟩
    rintro j m2 zs H5 ⟨α5,h5,x5,hr5,w5⟩
    have q2:=rd2 α5 H5 h5 x5 hr5 j
    have p5:=sU x5 p4
    unfold vG at w5
    cases e2:sr2.rdr h5 j with
    | none=>rw[e2] at w5;exact w5.elim
    | some od2=>
     rw[e2] at w5 q2
     cases od2 with
     | none=>exact .inl ⟨q2,m,Nat.lt_succ_self _,α5,h5,x14.trans x5,p5,hr5,w5⟩
     | some d2=>
      cases m2 with
      | zero=>exact w5.elim
      | succ m2=>
       have w6:WQ K g E00 α1 H1 ((te (hW ix env (some d) (some d2)) h5).bind fun y h2=>(((Bv h1.length y h2).bind fun _ h3=>vG h1.length sr2.rdr te (fun e=>hW ix env (some d) (some e)) m2 (j+1) h3).bind fun _ h2=>ud h1.length sr.rdr mi2 te (hW ix env) m (i+1) h2).bind fun _ h2=>.ok (.ref h1.length) h2) (aJ K g α1 H1 Q):=by
        have:=w5
        simp only[bS] at this ⊢
        exact this
       refine .inr ⟨q2.1,fun yv H6 yy=>?_⟩
       obtain⟨α6,x6,hr6,ry⟩:=q2.2 yv H6 yy
       have s6:dz K g α6 H6 (hW ix env (some d) (some d2)) (some x::some yv::ix.map fun i=>(σ[i]?).join) h5:=⟨hr6,uT (s1.vs.ext (x14.trans (x5.trans x6))) (fun d' hd=>by cases hd;exact⟨x,rfl,rx.ext (x4.trans (x5.trans x6))⟩) (fun d' hd=>by cases hd;exact⟨yv,rfl,ry⟩)⟩
       refine tM.use s6 ((WQ.bind w6).ext (x14.trans (x5.trans x6))) fun y h7 v7 H7 α7 x7 s7 r7 w7=>?_
       have p7:=sU (x6.trans x7) p5
       unfold Bv at w7
       cases el:ax h7 h1.length with
       | none=>rw[el] at w7;exact w7.elim
       | some ds=>
        rw[el] at w7
        dsimp only at w7
        by_cases hlen:ds.length<1000000
        ·rw[if_pos hlen] at w7
         obtain⟨vs,hv,rs⟩:=s7.heap.lst el p7
         have x:=Ext.write (K:=K) (o:=.lst (vs++[v7])) s7.heap p7
         exact⟨vs,hv,by rw[<- rs.length,sizeLine_eq];omega,m2,Nat.lt_succ_self _,α7,_,(x5.trans (x6.trans x7)).trans x,s7.heap.write (u':=.lst (ds++[y])) p7 ⟨_,a8,(rs.append (.cons r7 .nil)).ext x⟩,w7⟩
        ·rw[if_neg hlen] at w7;exact w7.elim
end
section
variable {X:Cx} {g:GG}
theorem xK {elt iter iter2:Expr} {x y z:Str} {px py pz:Pos} {scope osc:Scope} {pos spos:Pos} {mi mi2:MI} {te:ME} {i:Nat} (ix:List Nat) (N':List Str)
  (hxe:X.xe=fun _ _=>False) (hc:X.calm=true) (ho:X.env.scope=osc) (hN:N'=[x,y]++ix.map fun i=>(X.N[i]?).getD ("" : Str)) (hnd:N'.Nodup)
  (hall:(∀y∈scope.names,y.2=.free->osc.names.lookup y.1=some .cell)/\(∀y∈scope.names,y.2≠.cell)/\scope.kind=.function/\(∀y∈scope.names,y.2=.local->scope.names.lookup y.1=some .local)/\(∀z∈N'.drop [x,y].length,scope.names.lookup z=some .free))
  (hi:PI X (.Name x px) iter (tMI X.K g E00 mi))
  (hx:∀cl C az aG fp,Loc (bf X scope cl C az aG fp N').env.scope x/\(bf X scope cl C az aG fp N').env.scope.names.lookup x=some .local) (hy:∀cl C az aG fp,Loc (bf X scope cl C az aG fp N').env.scope y/\(bf X scope cl C az aG fp N').env.scope.names.lookup y=some .local)
  (hi2:∀cl C az aG fp,PI (bf X scope cl C az aG fp N') (.Name y py) iter2 (tMI X.K g E00 mi2))
  (he:∀cl C az aG fp,PE (bf X scope cl C az aG fp N') elt (tM X.K g E00 te))
  (hNN:X.N.Nodup) (hz:X.N[i]?=some z) (hl:X.env.scope.names.lookup z=some .local:=by rfl)
  (hsw:swapsWith (.ListComp elt [⟨.Name x px,iter,[],0⟩,⟨.Name y py,iter2,[],0⟩] scope pos) (some (.Name z pz)) spos.line X.env=pure true:=by rfl)
  (hs:∀x,foldedSetIterable iter X.env x=pure x:=by intro _;rfl) (hs2:∀env x,foldedSetIterable iter2 env x=pure x:=by intro _ _;rfl) :
  PS X (.Assign [.Name z pz] (.ListComp elt [⟨.Name x px,iter,[],0⟩,⟨.Name y py,iter2,[],0⟩] scope pos) spos) (tMS X.K g E00 (aV i (iK mi ix mi2 te))):=
 PS.imp (vd ix [x,y] N' rfl hxe hc ho hN hnd hall hi (fun cl C az aG fp=>bC (X:=bf X scope cl C az aG fp N') hnd (show N'[0]?=some x by rw[hN];rfl) (hx cl C az aG fp).1 (.inr (hx cl C az aG fp).2)) hi2 (fun cl C az aG fp=>bC (X:=bf X scope cl C az aG fp N') hnd (show N'[1]?=some y by rw[hN];rfl) (hy cl C az aG fp).1 (.inr (hy cl C az aG fp).2)) he hNN hz hl hsw hs hs2) fun E σ H ⟨α,env,h,s,w⟩=>Ar (Q:=fun v H1=>E.nx (σ.set i (some v)) H1) (tM.use s w.bind fun d1 h1 v1 H1 α1 e1 s1 r1 w1=>(show cG X.K g α H E (.nx (env.set i (some d1))) h1 from w1) H1 α1 e1 s1.heap _ (s1.vs.set r1))
end
noncomputable def exitQ (h:Hh):D->Hh->R D:=fun d h'=>match d with
 | .ref n=>hZ h (.ref n) h'
 | d=>bU h d h'
theorem uZ (h:Hh) (r:R D):r.bind (exitQ h)=r.bind (hZ h)\/r.bind (exitQ h)=r.bind (bU h):=by
 cases r with
 | ok d h'=>cases d<;>first | exact .inl rfl | exact .inr rfl
 | err x h'=>exact .inl rfl
 | bad=>exact .inl rfl
section
variable {P:Program} {w:World} {K:PySem.W.Frag} {mg:Str->Option Value} {base:Heap} {g:GG} {k np:Nat} {f:Addr} {fd:FuncData} {ps:List Str} {m:MF}
theorem Ci {CX:CXT} {ε:XK->EE} (F:cQ P w K mg base CX k f fd ps (spG K g ε np m)):cQ P w K mg base CX k f fd ps (spG K g ε np fun ds h=>(m ds h).bind (exitQ h)):=by
 have cv:∀{vs:List V} {H:Hp} {Q:VK} {E:XK},spG K g ε np (fun ds h=>(m ds h).bind (exitQ h)) vs H Q E->spG K g ε np (fun ds h=>(m ds h).bind (hZ h)) vs H Q E\/spG K g ε np (fun ds h=>(m ds h).bind (bU h)) vs H Q E:=fun{vs H Q E} ⟨hl,α,ds,h,rs,hh,w⟩=>by
  rcases uZ h (m ds h) with e | e
  ·exact .inl ⟨hl,α,ds,h,rs,hh,by show WQ K g (ε E) α H ((m ds h).bind (hZ h)) _;rw[<- e];exact w⟩
  ·exact .inr ⟨hl,α,ds,h,rs,hh,by show WQ K g (ε E) α H ((m ds h).bind (bU h)) _;rw[<- e];exact w⟩
 refine⟨fun vs H Q E h=>?_,fun A outer s H args us vs Q E hr e0 hb hv hsp=>?_⟩
 ·rcases cv h with h | h
  ·exact(qj F).len vs H Q E h
  ·exact(gH F).len vs H Q E h
 ·rcases cv hsp with h | h
  ·exact(qj F).run A outer s H args us vs Q E hr e0 hb hv h
  ·exact(gH F).run A outer s H args us vs Q E hr e0 hb hv h
end
variable {X:Cx} {g:GG}
theorem yK {K:PySem.W.Frag} {ε:EE} {mi:MI} {ix:List Nat} {tt:TT} {te:TE} {σ:St} {H:Hp} {Q:VK} (t:Ft (tMI K g ε mi) ix tt te σ H Q):uE (tMI K g ε mi) 1 ix (fj 0) tt te σ H Q:=by
 obtain⟨α,env,h,s,w⟩:=t
 refine⟨α,env,h,s,w.mono fun sr h1 _ z J H' α' e hr rd acc ha=>?_⟩
 obtain⟨W,w0,st⟩:=z J H' α' e hr rd acc ha
 refine⟨W,w0,fun i m ys H1 hw=>(st i m ys H1 hw).imp id fun⟨a,b⟩=>⟨a,fun σ0 x H2 hc hy=>?_⟩⟩
 obtain⟨ts,tl,rfl⟩:=hc
 match ts,tl with
 | [t0],_=>exact⟨⟨[some x],rfl,rfl⟩,b x H2 hy⟩
theorem d_ {nl:NL} [nO nl] {elt iter:Expr} {x:Str} {px:Pos} {ifs:List Expr} {scope osc:Scope} {pos:Pos} {mi:MI} {tt:MT} {te:ME} (ix:List Nat) (N':List Str)
  (hxe:X.xe=fun _ _=>False) (hc:X.calm=true) (ho:X.env.scope=osc) (hN:N'=x::ix.map fun i=>(X.N[i]?).getD ("" : Str)) (hnd:N'.Nodup)
  (hall:(∀y∈scope.names,y.2=.free->osc.names.lookup y.1=some .cell)/\(∀y∈scope.names,y.2≠.cell)/\scope.kind=.function/\(∀y∈scope.names,y.2=.local->scope.names.lookup y.1=some .local)/\scope.names.lookup x=some .local/\(∀y∈N'.tail,scope.names.lookup y=some .free))
  (hi:PI X (.Name x px) iter (tMI X.K g E00 mi))
  (ht:∀cl C az aG fp,PTs (bf X scope cl C az aG fp N') ifs (tMT X.K g E00 tt))
  (he:∀cl C az aG fp,PE (bf X scope cl C az aG fp N') elt (tM X.K g E00 te))
  (hs:∀x,foldedSetIterable iter X.env x=pure x:=by intro _;rfl) :
  PE X (.ListComp elt [⟨.Name x px,iter,ifs,0⟩] scope pos) (tM X.K g E00 (cx nl mi ix tt te)):=by
 refine PE.imp (PE.frz (C3 (tgr:=fj 0) ix [x] N' hxe hc ho hN hnd ⟨hall.1,hall.2.1,hall.2.2.1,hall.2.2.2.1,fun y hy=>hall.2.2.2.2.2 y (by rw[hN] at hy ⊢;exact hy)⟩ hi (fun cl C az aG fp=>bC (X:=bf X scope cl C az aG fp N') hnd (show N'[0]?=some x by rw[hN];rfl) (.inl (lookup_relabel_local hall.2.2.2.2.1)) (.inr (lookup_relabel_local hall.2.2.2.2.1))) ht he hs)) fun σ H Q t=>?_
 exact yK (uX (fun _ _ z=>z) t)
theorem iQ {nl:NL} [nO nl] {elt iter:Expr} {x z:Str} {px pz:Pos} {ifs:List Expr} {scope osc:Scope} {pos spos:Pos} {mi:MI} {tt:MT} {te:ME} {i:Nat} (ix:List Nat) (N':List Str)
  (hxe:X.xe=fun _ _=>False) (hc:X.calm=true) (ho:X.env.scope=osc) (hN:N'=x::ix.map fun i=>(X.N[i]?).getD ("" : Str)) (hnd:N'.Nodup)
  (hall:(∀y∈scope.names,y.2=.free->osc.names.lookup y.1=some .cell)/\(∀y∈scope.names,y.2≠.cell)/\scope.kind=.function/\(∀y∈scope.names,y.2=.local->scope.names.lookup y.1=some .local)/\scope.names.lookup x=some .local/\(∀y∈N'.tail,scope.names.lookup y=some .free))
  (hi:PI X (.Name x px) iter (tMI X.K g E00 mi))
  (ht:∀cl C az aG fp,PTs (bf X scope cl C az aG fp N') ifs (tMT X.K g E00 tt))
  (he:∀cl C az aG fp,PE (bf X scope cl C az aG fp N') elt (tM X.K g E00 te))
  (hNN:X.N.Nodup) (hz:X.N[i]?=some z) (hl:X.env.scope.names.lookup z=some .local:=by rfl)
  (hsw:swapsWith (.ListComp elt [⟨.Name x px,iter,ifs,0⟩] scope pos) (some (.Name z pz)) spos.line X.env=pure true:=by rfl)
  (hs:∀x,foldedSetIterable iter X.env x=pure x:=by intro _;rfl) :
  PS X (.Assign [.Name z pz] (.ListComp elt [⟨.Name x px,iter,ifs,0⟩] scope pos) spos) (tMS X.K g E00 (aV i (cx nl mi ix tt te))):=by
 refine PS.imp (PS.frz (vJ (tgr:=fj 0) ix [x] N' hxe hc ho hN hnd ⟨hall.1,hall.2.1,hall.2.2.1,hall.2.2.2.1,fun y hy=>hall.2.2.2.2.2 y (by rw[hN] at hy ⊢;exact hy)⟩ hi (fun cl C az aG fp=>bC (X:=bf X scope cl C az aG fp N') hnd (show N'[0]?=some x by rw[hN];rfl) (.inl (lookup_relabel_local hall.2.2.2.2.1)) (.inr (lookup_relabel_local hall.2.2.2.2.1))) ht he hNN hz hl hsw hs)) fun E σ H ⟨α,env,h,s,w⟩=>yK (uX (nl:=nl) (Q:=fun v H1=>E.nx (σ.set i (some v)) H1) (fun v H1 z=>E_ z) (tM.use s w.bind fun d1 h1 v1 H1 α1 e1 s1 r1 w1=>(show cG X.K g α H E (.nx (env.set i (some d1))) h1 from w1) H1 α1 e1 s1.heap _ (s1.vs.set r1)))
end L2.FE
namespace L2.FE
open PySem PySem.Spec PyProof.Rows
noncomputable def Fx (X:Cx) (g:GG) (α:List Addr) (h:Hh) (H1:Hp) (s1:Shared) (d:D) (u:Value) (s2:Shared):Prop:=∃p H2,u=.ref p/\s2.os=s1.os/\s2.gens=s1.gens/\HOk X.prog X.w H2 s2.heap/\Un X.fs [] X.aG H2 X.az.heap s2.heap/\Ext X.K α H1 α H2/\aS X.K g α H2 h/\aI X.K g α H2 d (.ref p) ∧
 (∀b o,H1 b=none->s1.heap.get? b=some o->s2.heap.get? b=some o)/\(∀b o,s1.heap.get? b=some o->H1 b=none->(∀x c,X.env.cells.lookup x=some c->c≠b)->H2 b=none)/\(∀b o,s1.heap.get? b=some o->(∀vs,o.data≠.fields vs)->s2.heap.get? b=some o)
theorem Aj {X:Cx} {g:GG} {pins:List (Addr × Obj)} {σ:St} {H1:Hp} {s1:Shared} {α:List Addr} {h:Hh} {params:Arguments} {body:Expr} {scope:Scope} {pos:Pos} {clos:List (Str × Addr)} {c PT f:Addr} {lf x ql:Str} {ys:List Str} {vs:List V} {ds:List D} {E:Value->Shared->Prop}
  (J:Inv X pins σ H1 s1) (hex:X.ex=[]) (hdef:defaultsOf params X.env=([],[])) (hq:X.env.qual++"<lambda>" = ql) (hcode:X.env.code=.ref c) (C:PySem.W.codeHdIn X.K c PT=true) (hB:X.base.BuiltinsAt X.mg PT) (hgP:mainGlobals≠PT)
  (hmk:k_ X.K f=some (PT,pos,ql)) (uq:∀f q,k_ X.K f=some q->q.1=PT->q.2=(pos,ql)) (hcl:closureFor scope X.env=pure clos) (hcs:∀y c,clos.lookup y=some c->X.env.cells.lookup y=some c) (hfn:∀y,X.fn y=true)
  (T:ym lf x ql ys params body scope) (hr:aS X.K g α H1 h) (hvs:Paired (fun y v=>(∃c,clos.lookup y=some c)/\X.env.kindOf y=some .cell/\∃i:Nat,X.N[i]?=some y/\σ[i]?=some (some v)) ys vs) (rds:ay X.K g α H1 ds vs) :
  wpAny (model X.prog X.w) X.A (eval (.Lambda params body scope pos) X.env) (Fx X g α h H1 s1 (.clo lf ds)) E s1:=by
 subst hq
 refine PySem.W.kla_eval hdef ?_
 have Ch:PySem.W.CodeHd s1.heap c PT:=PySem.W.codeHd_of_K J.kIn C
 have hg:s1.heap.Ns mainGlobals X.mg:=J.mod.glob.keeps J.bk
 have hb:=z_ J.bk hB
 obtain⟨m,hns,hloc⟩:=J.loc
 have fin:∀(h':Heap) (tk:Tok) (c':Addr) (ctv:Value) (oc:Obj) (vc:Array Value) (t:Tok) (ps more:Array Value),H1 PT=some (.tbl ps)->(∀b o,b≠PT->s1.heap.get? b=some o->h'.get? b=some o)->s1.heap.objs.size<=h'.objs.size->h'.get? PT=some (PySem.W.tabObj (ps++more)) →
   ps++more = #[rawInt pos.line,rawInt pos.col,.ref c']->h'.get? c'=some oc->oc.data=.fields vc->vc[1]?=some (.str (X.env.qual++"<lambda>") t)->c'≠PT->((H1 c'=none/\s1.heap.objs.size<=c')\/H1 c'=some (AtO c' oc)) →
   Fx X g α h H1 s1 (.clo lf ds) (.ref h'.objs.size) { s1 with heap:=h'.push (PySem.W.kla_obj "<lambda>" (X.env.qual++"<lambda>") params body scope clos ((X.mg "__name__").getD .none) c' ctv),toks:=tk }:=by
  intro h' tk c' ctv oc vc t ps more hPT hk hsz hT hT2 hc hd hv hcP hc1
  have kp:∀b o,h'.get? b=some o->(h'.push (PySem.W.kla_obj "<lambda>" (X.env.qual++"<lambda>") params body scope clos ((X.mg "__name__").getD .none) c' ctv)).get? b=some o:=fun b o e=>Heap.get?_push_of_some _ e
  have pp:(h'.push (PySem.W.kla_obj "<lambda>" (X.env.qual++"<lambda>") params body scope clos ((X.mg "__name__").getD .none) c' ctv)).get? h'.objs.size=some (PySem.W.kla_obj "<lambda>" (X.env.qual++"<lambda>") params body scope clos ((X.mg "__name__").getD .none) c' ctv):=Heap.get?_push_size _ rfl
  have M:MkS X.prog X.w (fun b=>b=h'.objs.size\/b=c'\/∃y,clos.lookup y=some b) s1.heap (h'.push (PySem.W.kla_obj "<lambda>" (X.env.qual++"<lambda>") params body scope clos ((X.mg "__name__").getD .none) c' ctv)) PT ps more H1:=by
   refine⟨J.hok,hPT,fun b o n e=>kp b o (hk b o n e),kp _ _ hT,fun b hb=>?_⟩
   rcases hb with rfl | rfl | ⟨y,hy⟩
   ·exact⟨fun z=>absurd (Heap.lt_size hT) (by rw[<- z];exact Nat.lt_irrefl _),⟨_,pp⟩,.inl (J.hok.fresh hsz)⟩
   ·refine⟨hcP,⟨_,kp _ _ hc⟩,?_⟩
    rcases hc1 with⟨z,_⟩ | z
    ·exact .inl z
    ·exact .inr ⟨_,z⟩
   ·have z:=J.di y b (hcs y b hy)
    obtain⟨v,o,e,_⟩:=J.cell y b (hcs y b hy)
    have n:=(aK hPT z).symm
    exact⟨n,⟨o,kp _ _ (hk b o n e)⟩,.inl z⟩
  have atp:=M.at_ (.inl rfl) pp
  have atc:=M.at_ (.inr (.inl rfl)) (kp _ _ hc)
  refine⟨h'.objs.size,_,rfl,rfl,rfl,M.Lb,M.un (hex ▸ J.base) fun b hb=>?_,M.ext,M.Kc hr uq (.inr ⟨c',oc,vc,t,?_,atc,hd,hv⟩),?_,fun b o n e=>kp b o (hk b o (aK hPT n).symm e),fun b o e n hcc=>M.non n fun hb=>?_,fun b o e nf=>kp b o (hk b o (fun z=>by
   subst z
   have e2:s1.heap.get? b=some (PySem.W.tabObj ps):=J.hok b _ hPT
   rw[e] at e2
   cases e2
   exact nf _ rfl) e)⟩
  ·rcases hb with rfl | rfl | ⟨y,hy⟩
   ·exact .inl (Nat.le_trans J.sz hsz)
   ·rcases hc1 with⟨_,z⟩ | z
    ·exact .inl (Nat.le_trans J.sz z)
    ·exact .inr (by rw[z];exact fun q=>nomatch q)
   ·exact .inl (J.ok.cab y b (hfn y) (hcs y b hy))
  ·rw[M.pt,hT2]
  ·refine .clo atp ⟨params,body,scope,_,ctv,x,rfl,T⟩ atc hd hv (L2.Paired.qS hvs fun y v ⟨⟨cc,hcc⟩,kd,i,hN,hσ⟩=>?_) (rds.ext M.ext)
   obtain⟨u,ru,lk⟩:=hloc i y v hN hσ (.inr (.inl kd))
   rcases lk with⟨z,_⟩ | ⟨_,c2,hc2,o,e,hdo⟩
   ·rw[kd] at z;cases z
   ·rw[hcs y cc hcc] at hc2
    cases hc2
    have z:=J.di y cc (hcs y cc hcc)
    exact⟨cc,o,u,hcc,M.at_ (.inr (.inr ⟨y,hcc⟩)) (kp _ _ (hk cc o (aK hPT z).symm e)),hdo,ru⟩
  ·rcases hb with rfl | rfl | ⟨y,hy⟩
   ·exact absurd (Heap.lt_size e) (Nat.not_lt.mpr hsz)
   ·rcases hc1 with⟨_,z⟩ | z
    ·exact absurd (Heap.lt_size e) (Nat.not_lt.mpr z)
    ·rw[n] at z;cases z
   ·exact hcc y b (hcs y b hy) rfl
 rcases hr.tab f _ hmk with hPT | ⟨c',oc,vc,t,hPT,hc,hd,hv⟩
 ·have hP:s1.heap.get? PT=some (PySem.W.tabObj #[]):=J.hok PT _ hPT
  refine PySem.W.kla_makeFunction hcl J.ok.glob hg hcode Ch hP trivial rfl hgP hb fun c' ctv h' tk hx hge hlt hrec htb=>?_
  obtain⟨c2,oc,vc,t,z,hc,hd,hv⟩:=hrec
  cases z
  refine fin h' tk c' ctv oc vc t _ _ hPT (fun b o n e=>hx b o n e) (by omega) htb (by simp) hc hd hv (fun z=>?_) (.inl ⟨J.hok.fresh hge,hge⟩)
  exact absurd (Heap.lt_size hP) (by rw[<- z];exact Nat.not_lt.mpr hge)
 ·have hP:s1.heap.get? PT=some (PySem.W.tabObj #[rawInt pos.line,rawInt pos.col,.ref c']):=J.hok PT _ hPT
  refine PySem.W.kla_makeFunctionHit (cv:=.ref c') hcl J.ok.glob hg hcode Ch hP trivial (by simp[codeAmong,rawInt]) hb fun ctv h' tk hk hsz=>?_
  refine fin h' tk c' ctv oc vc t _ #[] hPT (fun b o n e=>hk b o e) hsz (by rw[Array.append_empty];exact hk _ _ hP) (by simp) (hk _ _ (ke J.hok hc)) hd hv (fun z=>?_) (.inr hc)
  rw[z,hPT] at hc;cases hc
noncomputable def Eu (n:Nat) (m:MS) (lf:Str) (ix:List Nat) (i1:Nat) (m2:MF):MF:=fun ds h=>(m (ds.map some++List.replicate (n - ds.length) none) h).bind fun fl h1=>match fl with
 | .nx e=>(match (e[i1]?:Option (Option D)),xk ix e with
  | some (some d),some cs=>noR (m2 [d,.clo lf cs] h1)
  | _,_=>.bad)
 | _=>.bad
section
variable {P:Program} {w:World} {K:PySem.W.Frag} {mg:Str->Option Value} {base:Heap} {g:GG}
theorem Gj {x:Str} {st:Stmt} {f f2:Addr} {fd fd2:FuncData} {N ps ps2:List Str} {k:Nat} {mb:MS} {m2:MF} (rows:List Stmt) {params:Arguments} {body:Expr} {scope:Scope} {pos rpos cpos gp yp:Pos} (lf y g2 y1:Str) (ys:List Str) (ix:List Nat) (i1:Nat) {c PT:Addr} (F:Fun K x x st f fd) (S:aH N ps (ai st)) (M:Mkr K mg base fd c PT)
  (G2:cQ P w K mg base CX0 k f2 fd2 ps2 (spM K g 2 m2)) (hk2:PySem.W.keepIn K (.ref f2)=true) (B2:Binds K fd2 ps2 []) (hm2:mg g2=some (.ref f2))
  (hbd:bu st=rows++[.Return (some (.Call (.Name g2 gp) [.Name y1 yp,.Lambda params body scope pos] [] cpos)) rpos]) (hdef:∀env,defaultsOf params env=([],[]))
  (hfr:∀q∈scope.names,q.2=.free->(ai st).names.lookup q.1=some .cell) (hyf:∀z∈ys,(z,NameKind.free)∈scope.names)
  (hix:ix.map (fun i=>N[i]?)=ys.map some) (T:ym lf y (x++".<locals>." ++ "<lambda>") ys params body scope)
  (hg2:(ai st).names.lookup g2=some .globalImplicit) (hgd:(g2 == ("__debug__" : Str))=false) (hi1:N[i1]?=some y1) (hv1:Vis (ai st) y1) (hd1:(y1 == ("__debug__" : Str))=false) (hcd1:(y1 == ("__classdict__" : Str))=false)
  (hb:∀(cdv:Value) (A:Around) (outer:List Env) (s:Shared) (H:Hp) (E:XK),cB k (A.deeper (envOfC x (ai st) s.heap.objs.size f cdv)) →
   ie (dE (CXE P w) P w K mg base N x (ai st) f cdv A outer s H E) E->Plain (dE (CXE P w) P w K mg base N x (ai st) f cdv A outer s H E) →
   PassesOwn (model P w) (A.deeper (envOfC x (ai st) s.heap.objs.size f cdv)) (envOfC x (ai st) s.heap.objs.size f cdv) (dE (CXE P w) P w K mg base N x (ai st) f cdv A outer s H E).xe →
   PSs (dE (CXE P w) P w K mg base N x (ai st) f cdv A outer s H E) rows (tMS K g (εX g E) mb)):cQ P w K mg base (CXE P w) (k+1) f fd ps (spE K g ps.length (Eu N.length mb lf ix i1 m2)):=by
 obtain⟨oc,od,kV,doc,pm,an,cdv,ct,osl,rfl,lk,hcd⟩:=F.ex
 have hmk:EJ (PySem.W.fnOf x x (dU st) (bu st) (ai st) .none kV doc pm an cdv ct)=some pos:=by
  unfold EJ PySem.W.fnOf
  dsimp only
  rw[hbd,List.getLast?_concat]
  rfl
 have hT:=DY lk M.code M.hd hmk
 obtain rfl:cdv=.ref c:=M.code
 refine Ez lk hcd S (fun vs H Q E h=>h.1) hbd fun A outer s H vs Q E hr hsp=>?_
 obtain⟨hl,α,ds,h,rs,hh,w1⟩:=hsp
 refine⟨_,fun σ H1=>∃α1 e h1 cs d1,Ext K α H α1 H1/\dz K g α1 H1 e σ h1/\xk ix e=some cs/\e[i1]?=some (some d1)/\WQ K g E00 α H (m2 [d1,.clo lf cs] h1) (aJ K g α H Q),hb (.ref c) A outer s H E hr sN ⟨rfl,rfl,rfl⟩ PassesOwn.leaving,?_,fun σ H1 s1 J hR=>?_⟩
 ·refine tMS.use ⟨hh,jP rs⟩ w1.bind fun fl h' H' α' e r kk=>?_
  cases fl with
  | nx e'=>
   intro σ' s'
   dsimp only at kk
   cases e1:(e'[i1]?:Option (Option D)) with
   | none=>rw[e1] at kk;exact kk.elim
   | some o=>
    cases o with
    | none=>rw[e1] at kk;exact kk.elim
    | some d1=>
     cases ec:xk ix e' with
     | none=>rw[e1,ec] at kk;exact kk.elim
     | some cs=>rw[e1,ec] at kk;exact⟨α',e',h',cs,d1,e,s',ec,e1,pK kk⟩
  | bk e'=>exact kk.elim
  | ct e'=>exact kk.elim
  | rt d=>exact kk.elim
 ·obtain⟨α1,e,h1,cs,d1,ex,sr,ec,ed1,wq⟩:=hR
  have hs:∀q∈scope.names,q.2=.free->((envOfC x (ai st) s.heap.objs.size f (.ref c)).cells.lookup q.1).isSome=true:=fun q hq e=>PySem.W.cellsFrom_some _ _ _ (.inl (hfr q hq e))
  obtain⟨vs',pv,rds⟩:=uY sr.vs hix ec
  obtain⟨v1,ev1,rv1⟩:=sr.vs.vars i1 d1 ed1
  have pv2:Paired (fun z v=>(∃c,(iz (envOfC x (ai st) s.heap.objs.size f (.ref c)).cells scope.names []).lookup z=some c)/\(ai st).names.lookup z=some .cell/\∃i:Nat,N[i]?=some z/\σ[i]?=some (some v)) ys vs':=by
   clear ec rds hix T
   induction pv with
   | nil=>exact .nil
   | cons q t ih=>exact .cons ⟨v_ scope.names [] (hyf _ (List.mem_cons_self ..)),hfr (_,.free) (hyf _ (List.mem_cons_self ..)) rfl,q⟩ (ih fun z hz=>hyf z (List.mem_cons_of_mem _ hz))
  refine wpAny_Return_some ?_
  refine wpAny_Call_Name_kw (Calls.Name_function_global S.kind hg2 (Calls.loadGlobal_global (J.mod.glob.keeps J.bk) hm2 ?_) hgd)
  refine PySem.W.callWith_K (h₀:=s1.heap) J.kIn hk2 ?_ dI rfl
  rw[dI,hJ]
  refine Calls.spliced_cons (thn (xW (X:=dE (CXE P w) P w K mg base N x (ai st) f (.ref c) A outer s H E) hi1 hv1 hd1 hcd1 [] s1 σ H1 (fun v' H'=>v'=v1/\H'=H1) J ⟨v1,ev1,rfl,rfl⟩) fun u1 s1' ⟨v',H',J',ru,hv',hH'⟩=>?_)
  subst hv' hH'
  have lm:=Aj (X:=dE (CXE P w) P w K mg base N x (ai st) f (.ref c) A outer s H E) (g:=g) (α:=α1) (h:=h1) (E:=(dE (CXE P w) P w K mg base N x (ai st) f (.ref c) A outer s H E).xe) J' rfl (hdef _) rfl rfl M.hd M.bat M.ne hT (fun f' q e1 e2=>F0 M.uq hT e1 e2) (DB hs) (fun z c e=>vH scope.names [] hs (fun _ _ z=>nomatch z) e) (fun _=>rfl) T sr.heap pv2 rds
  refine Calls.spliced_cons (thn lm fun u2 s2 md=>?_)
  obtain⟨p,H2,rfl,os,gn,hok,un,ex2,hr2,rd,kn,nn,kf⟩:=md
  have kb:∀b o,base.get? b=some o->s2.heap.get? b=some o/\H2 b=none:=fun b o e=>by
   obtain⟨a1,a2⟩:=J'.bs b o e
   refine⟨kn b o a2 a1,nn b o a1 a2 fun z cc hz q=>?_⟩
   have:=J'.ok.cab z cc rfl hz
   have lb:=Heap.lt_size e
   have bz:=J'.ok.bsz
   rw[q] at this
   exact absurd lb (Nat.not_lt.mpr (Nat.le_trans bz this))
  have KX:K.In s2.heap:=J'.ok.mod.kin.keeps fun b o e=>(kb b o e).1
  obtain⟨m,hns,_⟩:=J'.loc
  obtain⟨oL,esL,epL,eL,_⟩:=hns
  have eL2:=kn _ oL J'.free eL
  have e0:vm P w K mg base (dE (CXE P w) P w K mg base N x (ai st) f (.ref c) A outer s H E).A (dE (CXE P w) P w K mg base N x (ai st) f (.ref c) A outer s H E).stack s2 H2:=by
   refine⟨J'.ok.frames,J'.ok.mod,kb,Nat.le_trans (Nat.le_trans J'.ok.bsz J'.ok.above) (Nat.le_of_lt (Heap.lt_size eL2)),Heap.FunFrames.of_keeps (fun b o e nf=>⟨o,kf b o e nf,rfl⟩) J'.stack,fun b hb=>?_,hok,by rw[gn];exact J'.bare⟩
   have hf:=J'.jM b hb
   obtain⟨_,o,ho,_⟩:=J'.stack.mem hb
   refine nn b o ho hf fun z cc hz q=>?_
   rcases List.mem_cons.mp (J'.eX b hb) with zz | zz
   ·exact J'.cne z cc hz (q.trans zz)
   ·obtain⟨_,o3,ho3,_⟩:=J'.ok.i5.mem zz
    have:=J'.ok.cab z cc rfl hz
    rw[q] at this
    exact absurd (Heap.lt_size ho3) (Nat.not_lt.mpr this)
  refine Calls.spliced_nil ⟨KX,?_⟩
  have rr:Vals [v',.ref p] [u1,.ref p]:=.cons ru (.cons rfl .nil)
  have sp2:spM K g 2 m2 [v',.ref p] H2 Q E0:=⟨rfl,α1,[d1,.clo lf cs],h1,.cons (rv1.ext ex2) (.cons rd .nil),hr2,(wq.post ex).post ex2⟩
  have l2:([u1,Value.ref p]:List Value).length=ps2.length:=by
   have:=G2.len _ _ _ _ sp2
   exact this
  have hb2:=B2 s2 [u1,.ref p] KX (by rw[List.append_nil];exact l2)
  rw[List.append_nil] at hb2
  refine wpAny_call (codeAny_mono (G2.run _ _ s2 H2 ⟨[u1,.ref p],[]⟩ [u1,.ref p] [v',.ref p] Q E0 hr e0 hb2 rr sp2) fun r s' hq=>?_)
  cases r with
  | error e=>exact False.elim hq
  | ok fl=>
   cases fl with
   | ret z=>
    obtain⟨yv,H3,os3,bare3,un3,hok3,r3,q3⟩:=(show CE _ P w H2 s2 Q z s' from hq)
    have hL:frs (dE (CXE P w) P w K mg base N x (ai st) f (.ref c) A outer s H E).stack=s.heap.objs.size::frs outer:=rfl
    refine⟨z,rfl,yv,H3,os3.trans (os.trans J'.os),bare3,?_,hok3,r3,q3⟩
    have un2:Un (frs outer) [] H H2 s.heap s2.heap:=un
    have old:∀{b:Addr} {o:Obj},s.heap.get? b=some o->b∉frs outer->b∉frs (dE (CXE P w) P w K mg base N x (ai st) f (.ref c) A outer s H E).stack:=fun{b o} e n z=>by
     rw[hL] at z
     rcases List.mem_cons.mp z with z | z
     ·exact absurd (Heap.lt_size e) (by rw[z];exact Nat.lt_irrefl _)
     ·exact n z
    refine⟨fun b o e n hb' hx=>un3.keep b o (un2.keep b o e n hb' hx) (un2.free b o e n hx) (old e hb') hx,fun b o e n hb' hx=>?_,fun b o e n hx=>?_,fun b o e hx=>?_,fun b xs e=>un3.ku b xs (un2.ku b xs e),fun b o xs e=>un3.jT b o xs (un2.jT b o xs e),fun b ps e=>?_⟩
    ·obtain⟨sl,e1⟩:=un2.slot b o e n hb' hx
     obtain⟨sl',e2⟩:=un3.slot b _ e1 (un2.free b o e n hx) (by rw[hL];exact List.mem_cons_of_mem _ hb') hx
     exact⟨sl',e2⟩
    ·obtain⟨o',e1⟩:=un2.there b o e hx
     exact un3.free b o' e1 (un2.free b o e n hx) hx
    ·obtain⟨o',e1⟩:=un2.there b o e hx
     exact un3.there b o' e1 hx
    ·obtain⟨m1,e1⟩:=un2.kB b ps e
     obtain⟨m2',e2⟩:=un3.kB b _ e1
     exact⟨m1++m2',by rw[e2,Array.append_assoc]⟩
   | next=>exact False.elim hq
   | brk=>exact False.elim hq
   | cont=>exact False.elim hq
end
end L2.FE
namespace FC
open PySem L2 L2.FE
noncomputable def bX:MF:=cn 2 (aF (dN (aC asB (aq dLt (ae 1) (aj eI (aa (ae 0) ao)))) (bB (aq dIx (ae 0) (ae 1))) b9)
  (bB (cC (.int 0))))
noncomputable def cw:MF:=cn 2 (aF (aV 1 (aj rE (aa (ae 0) (aa (aq dg (cC (.int 0)) (ae 0)) ao))))
  (bB (aj (dy jg) (aa (ae 1) (aa (aj kN (aa (aq dGe (ae 1) (aq E3 (cC (.int 10)) (cC (.int 18)))) ao)) (aa (aq uL (ae 1) (cC (.int 1000003))) ao))))))
noncomputable def dM:MF:=cn 1 (aF (aV 0 (aq uL (aq (cL aR) (ae 0) (cC (.int 7919))) (cC (.int 2147483647))))
  (bB (aq uL (aq (cL aR) (aq (cL aR) (aq (vn aR) (ae 0) (ae 0)) (aq (vn aR) (cC (.int 48271)) (ae 0))) (cC (.int 12345))) (cC (.int 2147483629)))))
noncomputable def av:MF:=cn 3 (aF (dN (Bb (aC asB (aq dEq (aq dIx (ae 0) (cC (.int 1))) (cC (.int 1)))) (aC asB (aq dGt (aq dIx (ae 0) (cC (.int 0))) (cC (.int 0))))) (aF (aV 2 (aq uL (aq dIx (ae 0) (cC (.int 0))) (ae 1)))
  (aF (kq iE (ae 0) (cC (.int 0)) (aq B9 (aq dIx (ae 0) (cC (.int 0))) (ae 1)))
  (bB (ae 2)))) b9)
  (aF (kq iE (ae 0) (cC (.int 2)) (aj dM (aa (aq (cL aR) (aj dM (aa (aq dIx (ae 0) (cC (.int 2))) ao)) (cC (.int 7))) ao)))
  (bB (aq uL (aq B9 (aq dIx (ae 0) (cC (.int 2))) (cC (.int 64))) (ae 1)))))
noncomputable def aU:Nat->MF
 | 0=>fun _ _=>.bad
 | d+1=>cn 7 (aF (dN (wk (aC asB (aq dLt (ae 1) (cC (.int 0)))) (wk (aC asB (aq dEq (ae 0) (cC (.int 1)))) (aC asB (aq dEq (ae 2) (ae 3))))) (bB (aj kN (aa (oU (aq dEq (ae 0) (cC (.int 1))) (aq dEq (ae 1) (cC (.int 0)))) ao))) b9)
  (aF (aV 5 (aj b_ (aa (ae 0) (aa (ae 1) (aa (ae 2) (aa (ae 3) ao))))))
  (aF (dN (aC asB (aq jQ (ae 5) (ae 4))) (aF (aV 6 (aq dg (ae 3) (aj kN (aa (aq dLt (ae 2) (ae 3)) ao))))
  (kq rH (ae 4) (ae 5) (aj wU (aa (cx aR (fk ft (aa (aq dg (ae 0) (cC (.int 1))) ao)) [0,1,2,6,4] tt1 (aj (aU d) (aa (aq dg (ae 1) (cC (.int 1))) (aa (aq dg (ae 2) (aj kN (aa (aq dLt (ae 0) (ae 3)) ao))) (aa (ae 0) (aa (ae 4) (aa (ae 5) ao))))))) ao)))) b9)
  (bB (aq sF (ae 4) (ae 5))))))
theorem cH (d:Nat):aU (d+1)=cn 7 (aF (dN (wk (aC asB (aq dLt (ae 1) (cC (.int 0)))) (wk (aC asB (aq dEq (ae 0) (cC (.int 1)))) (aC asB (aq dEq (ae 2) (ae 3))))) (bB (aj kN (aa (oU (aq dEq (ae 0) (cC (.int 1))) (aq dEq (ae 1) (cC (.int 0)))) ao))) b9)
  (aF (aV 5 (aj b_ (aa (ae 0) (aa (ae 1) (aa (ae 2) (aa (ae 3) ao))))))
  (aF (dN (aC asB (aq jQ (ae 5) (ae 4))) (aF (aV 6 (aq dg (ae 3) (aj kN (aa (aq dLt (ae 2) (ae 3)) ao))))
  (kq rH (ae 4) (ae 5) (aj wU (aa (cx aR (fk ft (aa (aq dg (ae 0) (cC (.int 1))) ao)) [0,1,2,6,4] tt1 (aj (aU d) (aa (aq dg (ae 1) (cC (.int 1))) (aa (aq dg (ae 2) (aj kN (aa (aq dLt (ae 0) (ae 3)) ao))) (aa (ae 0) (aa (ae 4) (aa (ae 5) ao))))))) ao)))) b9)
  (bB (aq sF (ae 4) (ae 5)))))):=rfl
noncomputable def bx:MF:=cn 1 (bB (aj lZ (aa (cx aR (fk ft (aa (aq dg (aj eI (aa (ae 0) ao)) (cC (.int 1))) ao)) [0] (aC asB (aq dGt (aq dIx (ae 1) (ae 0)) (aq dIx (ae 1) (aq (cL aR) (ae 0) (cC (.int 1)))))) (ae 0)) ao)))
noncomputable def a9:MF:=cn 7 (aF (dN (aC asB (aq dEq (aj eI (aa (ae 2) ao)) (ae 0))) (bB (aj kN (aa (oU (aq dEq (aq dIx (ae 2) (cUn jm (cC (.int 1)))) (ae 3)) (aq dEq (aj eI (aa (aj bx (aa (ae 2) ao)) ao)) (ae 1))) ao))) b9)
  (aF (dN (aC asB (aq (dIn false) (ae 3) (ae 2))) (bB (cC (.int 0))) b9)
  (aF (aV 5 (cx aR (fk ft (aa (ae 0) ao)) [2] (aC asB (aq (dIn true) (ae 0) (i8 aR (ae 1) jK (jW (cUn jm (cC (.int 1))))))) (ae 0)))
  (aF (aV 6 (aq dg (ae 1) (aj eI (aa (aj bx (aa (ae 2) ao)) ao))))
  (bB (aj (aU 14) (aa (aj eI (aa (ae 5) ao)) (aa (ae 6) (aa (eA gG (ae 5) (aa (aq dIx (ae 2) (cUn jm (cC (.int 1)))) ao)) (aa (eA gG (ae 5) (aa (ae 3) ao)) (aa (ae 4) ao)))))))))))
noncomputable def bE:MF:=fun ds h=>((cn 10 (aF (aV 5 (cIf (aC asB (aq dGt (aj a9 (aa (ae 0) (aa (ae 1) (aa (aj b_ (aa (ae 2) ao)) (aa (ae 3) (aa (ae 4) ao)))))) (cC (.int 0)))) (aj (dy aR) (aa (aj b_ (aa (ae 2) ao)) ao)) (aj (dy aR) ao)))
  (aF (fD (fk ft (aa (aq dg (ae 0) (cC (.int 1))) ao)) (gN 6) (aF (aV 7 (aj (dy jg) ao))
  (aF (fD (cN (ae 5)) (gN 8) (aF (aV 9 (cx aR (fk ft (aa (ae 0) ao)) [8] (aC asB (aq (dIn true) (ae 0) (ae 1))) (aq (cL aR) (ae 1) (aj b_ (aa (ae 0) ao)))))
  (fi (eA dP (ae 7) (aa (cx aR (cN (ae 9)) [0,1,3,4] (aC asB (aq dGt (aj a9 (aa (ae 1) (aa (ae 2) (aa (ae 0) (aa (ae 3) (aa (ae 4) ao)))))) (cC (.int 0)))) (ae 0)) ao)))))
  (aV 5 (ae 7)))))
  (bB (ae 5))))) ds h).bind (bU h)
noncomputable def f6:MF:=cn 2 (aF (aV 1 (aj (dy aR) (aa (cUn (um "NoOrder") (ae 0)) (aa (cUn (um "NoNumber") (ae 0)) (aa (cUn (um "NoSet") (ae 0)) (aa (cUn (um "NoRow") (ae 0)) ao))))))
  (aF (aV 1 (aq (cL aR) (ae 1) (aj (dy aR) (aa (cUn (um "NoLine") (ae 0)) (aa (cUn (um "NoText") (ae 0)) (aa (cUn (um "TooGreat") (ae 0)) ao))))))
  (aF (dN (wk (j1 (aC lP (cUn HI (ae 0)))) (aC asB (aq dNe (eA ue (ae 1) (aa (cC (.bl true)) ao)) (cC (.int 1))))) (bB (cC (.str "other"))) b9)
  (bB (aq dIx (aj (dy aR) (aa (cC (.str "order")) (aa (cC (.str "number")) (aa (cC (.str "set")) (aa (cC (.str "row")) (aa (cC (.str "line")) (aa (cC (.str "text")) (aa (cC (.str "great")) ao)))))))) (eA ub (ae 1) (aa (cC (.bl true)) ao)))))))
noncomputable def bV:MF:=cn 2 (aF (aV 1 (aj f6 (aa (ae 0) ao)))
  (aF (dN (aC asB (aq dEq (ae 1) (cC (.str "text")))) (bB (aj b_ (aa (ae 1) (aa (cUn (zv "NoText" "row") (ae 0)) ao)))) b9)
  (bB (cIf (aC asB (aq dEq (ae 1) (cC (.str "great")))) (aj b_ (aa (ae 1) (aa (cUn (zv "TooGreat" "many") (ae 0)) (aa (cUn (zv "TooGreat" "most") (ae 0)) ao)))) (aj b_ (aa (ae 1) ao))))))
noncomputable def gm:MF:=cn 1 (bB (aj lZ (aa (cx aR (fk ft (aa (aq dg (aj eI (aa (ae 0) ao)) (cC (.int 1))) ao)) [0] (aC asB (aq dGt (aq dIx (ae 1) (ae 0)) (aq dIx (ae 1) (aq (cL aR) (ae 0) (cC (.int 1)))))) (ae 0)) ao)))
noncomputable def a_:MF:=cn 7 (aF (dN (aC asB (aq dEq (ae 1) (cC (.int 1)))) (bB (cIf (aC asB (aq dEq (ae 2) (cC (.int 0)))) (cC (.int 1)) (cC (.int 0)))) b9)
  (aF (dN (aC asB (aq dEq (ae 3) (ae 4))) (bB (cC (.int 0))) b9)
  (aF (aV 5 (cIf (aC asB (aq dLt (ae 3) (ae 4))) (ae 2) (aq dg (ae 2) (cC (.int 1)))))
  (aF (aV 6 (aq dIx (aq dIx (ae 0) (aq dg (ae 1) (cC (.int 2)))) (aq uL (aq dg (aq dg (ae 3) (ae 4)) (cC (.int 1))) (ae 1))))
  (bB (cIf (aC asB (mj dLe dLt (cC (.int 0)) (ae 5) (aj eI (aa (ae 6) ao)))) (aq dIx (ae 6) (ae 5)) (cC (.int 0))))))))
noncomputable def cK:MF:=cn 2 (bB (aq dg (ae 1) (aj eI (aa (cx aR (cN (ae 0)) [1] (aC asB (aq dLt (ae 0) (ae 1))) (ae 0)) ao))))
noncomputable def bP:MF:=cn 8 (aF (aV 5 (i8 aR (ae 4) jK (jW (cUn jm (cC (.int 1))))))
  (aF (dN (wk (aC asB (aq dNe (aq dIx (ae 4) (cC (.int 0))) (ae 2))) (aC asB (aq (dIn false) (ae 3) (ae 5)))) (bB (cC (.int 0))) b9)
  (aF (aV 6 (aq dg (aj eI (aa (ae 0) ao)) (aj eI (aa (ae 4) ao))))
  (aF (aV 7 (aq dg (ae 1) (aj eI (aa (aj gm (aa (ae 4) ao)) ao))))
  (bB (aj a_ (aa (ae 0) (aa (ae 6) (aa (ae 7) (aa (aj cK (aa (ae 5) (aa (aq dIx (ae 4) (cUn jm (cC (.int 1)))) ao))) (aa (aj cK (aa (ae 5) (aa (ae 3) ao))) ao)))))))))))
noncomputable def vP:Str->Option (Nat × MF):=fun x=>if x="ends_begun" then some (5,bP) else none
@[simp] theorem nU:vP "ends_begun" = some (5,bP):=by kernel_rfl
noncomputable def cI:MF:=cn 4 (aF (aV 3 (cx aR (fk ft (aa (ae 0) ao)) [1] (aC asB (aq (dIn true) (ae 0) (ae 1))) (aq (cL aR) (ae 1) (aj b_ (aa (ae 0) ao)))))
  (bB (cx aR (cN (ae 3)) [2] (aC asB (aq dGt (p8 vP (ae 1) (aa (ae 0) ao)) (cC (.int 0)))) (ae 0))))
noncomputable def cF:MF:=fun ds h=>((cn 4 (aF (aV 2 (aj (dy jg) (aa (aj b_ ao) ao)))
  (aF (fD (fk ft (aa (ae 0) ao)) (gN 3) (aV 2 (iK (cN (ae 2)) [0,1] (cN (aj cI (aa (ae 2) (aa (ae 0) (aa (ae 3) ao))))) (ae 1))))
  (bB (ae 2))))) ds h).bind (hZ h)
noncomputable def cj:MF:=cn 1 (dN (up (aC asB (aq dGt (ae 0) (cC (.int 300))))) (nX "TooGreat" ["many", "most"] (aa (up (ae 0)) (aa (up (cC (.int 300))) ao))) b9)
noncomputable def gk:MF:=cn 1 (bB (oU (cUn (pS "int") (ae 0)) (CY (cUn (pS "bool") (ae 0)))))
noncomputable def e_:MF:=cn 3 (bB (oU (aj gk (aa (ae 0) ao)) (mj dLe dLe (ae 1) (ae 0) (ae 2))))
noncomputable def bc:MF:=cn 3 (dN (up (j1 (aC lP (aj e_ (aa (ae 0) (aa (ae 1) (aa (ae 2) ao))))))) (xB "NoNumber") b9)
noncomputable def dh:MF:=cn 2 (aF (fi (aj bc (aa (up (ae 0)) (aa (up (cC (.int 1))) (aa (up (cC (.int 12))) ao)))))
  (fi (aj bc (aa (up (ae 1)) (aa (up (cC (.int 0))) (aa (up (cC (.int 12))) ao))))))
noncomputable def eG:MF:=cn 3 (aF (fi (aj dh (aa (up (ae 0)) (aa (up (ae 1)) ao))))
  (fi (aj bc (aa (up (ae 2)) (aa (up (cC (.int 0))) (aa (up (aq dg (ae 0) (cC (.int 1)))) ao))))))
noncomputable def cq:MF:=fun ds h=>((cn 8 (aF (aV 2 (aq (vn jg) (aj (dy aR) (aa (cC (.int 0)) ao)) (aq (cL aR) (aj eI (aa (ae 0) ao)) (cC (.int 1)))))
  (aF (fD (jl (ae 0)) (gT2 3 4) (aF (aV 5 (cIf (aC asB (aq dLt (ae 3) (ae 1))) (cC (.int 1)) (cC (.int 0))))
  (fD (jl (ae 4)) (gT2 6 7) (uj (ae 2) (aq (cL aR) (ae 6) (ae 5)) (ae 7)))))
  (bB (ae 2))))) ds h).bind (bU h)
noncomputable def dC:MF:=fun ds h=>((cn 3 (aF (aV 1 (aj (dy jg) (aa (aj (dy aR) (aa (aj (dy aR) (aa (cC (.int 1)) ao)) ao)) ao)))
  (aF (fD (fk xX (aa (cC (.int 1)) (aa (aq (cL aR) (ae 0) (cC (.int 1))) ao))) (gN 2) (fi (eA fP (ae 1) (aa (cx aR (fk ft (aa (aq (cL aR) (ae 2) (cC (.int 1))) ao)) [1] tt1 (aj cq (aa (aq dIx (ae 1) (cUn jm (cC (.int 1)))) (aa (ae 0) ao)))) ao))))
  (bB (ae 1))))) ds h).bind (bU h)
noncomputable def dZ:MF:=cn 4 (aF (fi (aj eG (aa (up (ae 0)) (aa (up (ae 1)) (aa (up (ae 2)) ao)))))
  (aF (fi (aj bc (aa (up (ae 3)) (aa (up (cC (.int 0))) (aa (up (aq dg (ae 0) (cC (.int 1)))) ao)))))
  (up (bB (aj a_ (aa (aj dC (aa (ae 0) ao)) (aa (ae 0) (aa (ae 1) (aa (ae 2) (aa (ae 3) ao))))))))))
noncomputable def bR:MF:=Eu 5 (aF (fi (aj cj (aa (aj dZ (aa (up (ae 0)) (aa (up (ae 1)) (aa (up (ae 2)) (aa (up (ae 3)) ao))))) ao)))
  (up (aV 4 (aj dC (aa (ae 0) ao))))) "ends_begun" [4,1,2,3] 0 cF
noncomputable def cZ:MF:=fun ds h=>((cn 5 (sS (bB (aj bR (aa (up (ae 0)) (aa (up (ae 1)) (aa (up (ae 2)) (aa (up (ae 3)) ao)))))) bV)) ds h).bind (exitQ h)
noncomputable def bF:MF:=fun ds h=>((cn 7 (aF (fD (fk ft (aa (cC (.int 2)) ao)) (gN 5) (aF (aV 6 (aj cZ (aa (ae 0) (aa (ae 1) (aa (ae 2) (aa (ae 3) ao))))))
  (aF (dN (aC asB (aq dNe (aj kR (aa (ae 6) ao)) (aj kR (aa (ae 4) ao)))) (bB (cC (.bl false))) b9)
  (dN (aC lP (cUn (pS "list") (ae 6))) (fi (eA fP (ae 6) (aa (aj b_ ao) ao))) b9))))
  (bB (cC (.bl true))))) ds h).bind (bU h)
noncomputable def dG:MF:=AB (fun ds h=>((cn 5 (aF (aV 1 (aj (dy aR) (aa (aj b_ ao) ao)))
  (aF (fD (fk ft (aa (ae 0) ao)) (gN 2) (aF (aV 3 (aj (dy jg) ao))
  (aF (fD (cN (ae 1)) (gN 4) (fi (eA dP (ae 3) (aa (cx aR (fk ft (aa (ae 0) ao)) [4] (aC asB (aq (dIn true) (ae 0) (ae 1))) (aq (cL aR) (ae 1) (aj b_ (aa (ae 0) ao)))) ao))))
  (aV 1 (ae 3)))))
  (bB (ae 1))))) ds h).bind (bU h))
noncomputable def pU:MF:=fun ds h=>((cn 13 (aF (fD (jl (aq (cL aR) (aj (dy aR) (aa (aj bX (aa (ae 0) (aa (cC (.int 0)) ao))) ao)) (i8 aR (ae 0) (jW (cC (.int 1))) (jW (cC (.int 2)))))) (gT2 1 2) (aF (aV 3 (aj cw (aa (ae 2) ao)))
  (aF (zM 4 5 (aa (aj av (aa (ae 3) (aa (cC (.int 5)) ao))) (aa (aq (cL aR) (cC (.int 1)) (aj av (aa (ae 3) (aa (cC (.int 12)) ao)))) ao)))
  (aF (aV 6 (aq dIx (aj (dy aR) (aa (cC (.int 1)) (aa (aq dg (ae 5) (cC (.int 2))) (aa (cC (.int 2)) (aa (aj av (aa (ae 3) (aa (cC (.int 13)) ao))) (aa (aj av (aa (ae 3) (aa (ae 5) ao))) ao)))))) (ae 4)))
  (aF (aV 6 (aj rE (aa (cC (.int 0)) (aa (ae 6) ao))))
  (aF (A5 7 8 (aj b_ (aa (aj av (aa (ae 3) (aa (ae 5) ao))) (aa (aj av (aa (ae 3) (aa (ae 5) ao))) ao))))
  (aF (aV 9 rV)
  (aF (aV 10 (aj (aU 14) (aa (ae 5) (aa (ae 6) (aa (ae 7) (aa (ae 8) (aa (ae 9) ao)))))))
  (aF (aV 11 (cIf (aC asB (aq dLt (ae 10) (cC (.int 301)))) (aj bE (aa (ae 5) (aa (ae 6) (aa (ae 7) (aa (ae 8) (aa (ae 9) ao)))))) (aj b_ (aa (cC (.str "great")) (aa (ae 10) (aa (cC (.int 300)) ao))))))
  (aF (dN (j1 (aC lP (aj bF (aa (ae 5) (aa (ae 6) (aa (ae 7) (aa (ae 8) (aa (ae 11) ao)))))))) (bB (cC (.bl false))) b9)
  (dN (aC asB (aq dEq (ae 1) (cC (.int 0)))) (aF (aV 5 (aq (cL aR) (cC (.int 1)) (aj av (aa (ae 3) (aa (cC (.int 6)) ao)))))
  (aF (Bm 6 7 8 (aj b_ (aa (aj av (aa (ae 3) (aa (ae 5) ao))) (aa (aj av (aa (ae 3) (aa (ae 5) ao))) (aa (aj av (aa (ae 3) (aa (ae 5) ao))) ao)))))
  (aF (aV 12 (cx aR (cN (aj dG (aa (ae 5) ao))) [6] (aC asB (aq dEq (aj eI (aa (aj bx (aa (ae 0) ao)) ao)) (ae 1))) (ae 0)))
  (dN (j1 (aC lP (aj bF (aa (ae 5) (aa (ae 6) (aa (ae 7) (aa (ae 8) (aa (cx aR (cN (ae 12)) [7,8] (aC asB (aq dEq (aj b_ (aa (aq dIx (ae 0) (cC (.int 0))) (aa (aq dIx (ae 0) (cUn jm (cC (.int 1)))) ao))) (aj b_ (aa (ae 1) (aa (ae 2) ao))))) (ae 0)) ao)))))))) (bB (cC (.bl false))) b9)))) b9)))))))))))
  (bB (cC (.bl true))))) ds h).bind (bU h)
noncomputable def aB (i:Nat):Stmt:=PySem.Challenge.pw_fallcounts_k72_orders_by_ends.main.body.getD i (.Pass ⟨0,0,0,0⟩)
structure Blt (mg:Str->Option Value):Prop where
 ValueError:mg "ValueError" = none
 bool:mg "bool" = none
 enumerate:mg "enumerate" = none
 int:mg "int" = none
 isinstance:mg "isinstance" = none
 len:mg "len" = none
 list:mg "list" = none
 max:mg "max" = none
 range:mg "range" = none
 repr:mg "repr" = none
 sum:mg "sum" = none
 tuple:mg "tuple" = none
section
variable {P:Program} {w:World} {K:PySem.W.Frag} {mg:Str->Option Value} {base:Heap} {g:GG}
theorem nM:aH ["_law_script", "_law_k"] ["_law_script", "_law_k"] (ai (aB 32)):=⟨rfl,rfl,rfl,by decide +kernel,rfl,by decide +kernel,by decide +kernel⟩
theorem mB (D:aM K mg "_law_cell_at" (aB 32)) (T:Blt mg):Has P w K mg base g "_law_cell_at" 1 ["_law_script", "_law_k"] bX:=by
 obtain⟨f,fd,hm,F⟩:=D
 refine⟨f,fd,gx F nM (fun cdv A outer s H E hr=>?_),F.kp,F.binds (fun _ _ _ _ _ _ us hl=>xj hl fun _ _=>rfl),hm,bh F⟩
 exact(@aw _ _ _ _ _ _ _ (@i3 _ _ _ _ _ _ _ _ _ _ (@aZ _ _ _ _ _ _ _ _ _ _ _ lj lh (af 1) (bw eF dR rfl T.len PySem.boot_len (@ag _ _ _ _ _ _ _ (af 0) ak rfl)) (aY _)) (@aE _ _ _ _ _ (@bA _ _ _ _ _ _ (@cY _ _ _ _ _ _ _ _ _ _ bW cT (af 0) (af 1) (fun _ _=>rfl)))) b8)
   (@aE _ _ _ _ _ (@bA _ _ _ _ _ _ au)))
theorem jD:aH ["_law_cell", "_law_left_here"] ["_law_cell"] (ai (aB 34)):=⟨rfl,rfl,rfl,by decide +kernel,rfl,by decide +kernel,by decide +kernel⟩
theorem nj (D:aM K mg "_law_pen_of" (aB 34)) (T:Blt mg):Has P w K mg base g "_law_pen_of" 1 ["_law_cell"] cw:=by
 obtain⟨f,fd,hm,F⟩:=D
 refine⟨f,fd,gx F jD (fun cdv A outer s H E hr=>?_),F.kp,F.binds (fun _ _ _ _ _ _ us hl=>qd hl fun _=>rfl),hm,bh F⟩
 exact(@aw _ _ _ _ _ _ _ (@bO _ _ _ _ _ _ 1 _ _ jD.nd rfl (by first | exact Or.inl rfl | exact Or.inr rfl) (bw (rF rfl) yh rfl T.max PyProof.Rows.boot_max (@ag _ _ _ _ _ _ _ (af 0) (@ag _ _ _ _ _ _ _ (@aL _ _ _ _ _ _ _ _ _ _ _ cD cE au (af 0)) ak rfl) rfl)) rfl (.inl rfl))
   (@aE _ _ _ _ _ (@bA _ _ _ _ _ _ (@dm _ _ _ _ _ _ _ _ (@ag _ _ _ _ _ _ _ (af 1) (@ag _ _ _ _ _ _ _ (eU g_ pM rfl T.int PyProof.Rows.boot_int (@ag _ _ _ _ _ _ _ (@kF _ _ _ _ _ _ _ _ _ _ _ JK Ju (af 1) (@aL _ _ _ _ _ _ _ _ _ _ _ EZ GF au au) (aY _)) ak rfl)) (@ag _ _ _ _ _ _ _ (@aL _ _ _ _ _ _ _ _ _ _ _ l8 mm (af 1) au) ak rfl) rfl) rfl)))))
theorem lG:aH ["_law_seed"] ["_law_seed"] (ai (aB 33)):=⟨rfl,rfl,rfl,by decide +kernel,rfl,by decide +kernel,by decide +kernel⟩
theorem qY (D:aM K mg "_law_next" (aB 33)) (T:Blt mg):Has P w K mg base g "_law_next" 1 ["_law_seed"] dM:=by
 obtain⟨f,fd,hm,F⟩:=D
 refine⟨f,fd,gx F lG (fun cdv A outer s H E hr=>?_),F.kp,F.binds (fun _ _ _ _ _ _ us hl=>qd hl fun _=>rfl),hm,bh F⟩
 exact(@aw _ _ _ _ _ _ _ (@bO _ _ _ _ _ _ 0 _ _ lG.nd rfl (by first | exact Or.inl rfl | exact Or.inr rfl) (@aL _ _ _ _ _ _ _ _ _ _ _ l8 mm (@aL _ _ _ _ _ _ _ _ _ _ _ cR c_ (af 0) au) au) rfl (.inl rfl))
   (@aE _ _ _ _ _ (@bA _ _ _ _ _ _ (@aL _ _ _ _ _ _ _ _ _ _ _ l8 mm (@aL _ _ _ _ _ _ _ _ _ _ _ cR c_ (@aL _ _ _ _ _ _ _ _ _ _ _ cR c_ (@aL _ _ _ _ _ _ _ _ _ _ _ xn xH (af 0) (af 0)) (@aL _ _ _ _ _ _ _ _ _ _ _ xn xH au (af 0))) au) au))))
theorem lB:aH ["_law_pen", "_law_many", "_law_found"] ["_law_pen", "_law_many"] (ai (aB 35)):=⟨rfl,rfl,rfl,by decide +kernel,rfl,by decide +kernel,by decide +kernel⟩
theorem qt (D:aM K mg "_law_draw" (aB 35)) (T:Blt mg) (gO:Has P w K mg base g "_law_next" 1 ["_law_seed"] dM):Has P w K mg base g "_law_draw" 2 ["_law_pen", "_law_many"] av:=by
 obtain⟨f,fd,hm,F⟩:=D
 obtain⟨Di,A8,j3,j9,jY,j5,_⟩:=gO
 refine⟨f,fd,gx F lB (fun cdv A outer s H E hr=>?_),F.kp,F.binds (fun _ _ _ _ _ _ us hl=>xj hl fun _ _=>rfl),hm,bh F⟩
 exact(@aw _ _ _ _ _ _ _ (@i3 _ _ _ _ _ _ _ _ _ _ (PW.pt (@Hl _ _ _ _ _ _ _ _ _ (@aZ _ _ _ _ _ _ _ _ _ _ _ (dq hr.units) fJ (@cY _ _ _ _ _ _ _ _ _ _ bW cT (af 0) au (fun _ _=>rfl)) au (aY _)) (@Ej _ _ _ _ _ _ (@aZ _ _ _ _ _ _ _ _ _ _ _ p9 oJ (@cY _ _ _ _ _ _ _ _ _ _ bW cT (af 0) au (fun _ _=>rfl)) au (aY _))))) (@aw _ _ _ _ _ _ _ (@bO _ _ _ _ _ _ 2 _ _ lB.nd rfl (by first | exact Or.inl rfl | exact Or.inr rfl) (@aL _ _ _ _ _ _ _ _ _ _ _ l8 mm (@cY _ _ _ _ _ _ _ _ _ _ bW cT (af 0) au (fun _ _=>rfl)) (af 1)) rfl (.inl rfl))
   (@aw _ _ _ _ _ _ _ (yf (@aL _ _ _ _ _ _ _ _ _ _ _ vW Dg (@cY _ _ _ _ _ _ _ _ _ _ bW cT (af 0) au (fun _ _=>rfl)) (af 1)) (af 0) au set_list qe)
   (@aE _ _ _ _ _ (@bA _ _ _ _ _ _ (af 2))))) b8)
   (@aw _ _ _ _ _ _ _ (yf (aN (j3.mono (by decide)) hr rfl j5 j9 jY (@ag _ _ _ _ _ _ _ (@aL _ _ _ _ _ _ _ _ _ _ _ cR c_ (aN (j3.mono (by decide)) hr rfl j5 j9 jY (@ag _ _ _ _ _ _ _ (@cY _ _ _ _ _ _ _ _ _ _ bW cT (af 0) au (fun _ _=>rfl)) ak rfl) (ah aD)) au) ak rfl) (ah aD)) (af 0) au set_list qe)
   (@aE _ _ _ _ _ (@bA _ _ _ _ _ _ (@aL _ _ _ _ _ _ _ _ _ _ _ l8 mm (@aL _ _ _ _ _ _ _ _ _ _ _ vW Dg (@cY _ _ _ _ _ _ _ _ _ _ bW cT (af 0) au (fun _ _=>rfl)) au) (af 1))))))
theorem iF:aH ["_law_n", "_law_k", "_law_a", "_law_b", "_law_known", "_law_key", "_law_last"] ["_law_n", "_law_k", "_law_a", "_law_b", "_law_known"] (ai (aB 41)):=⟨rfl,rfl,rfl,by decide +kernel,rfl,by decide +kernel,by decide +kernel⟩
theorem pD (D:aM K mg "_law_ends" (aB 41)):Has P w K mg base g "_law_ends" (0+0) ["_law_n", "_law_k", "_law_a", "_law_b", "_law_known"] (aU 0):=by
 obtain⟨f,fd,hm,F⟩:=D
 exact⟨f,fd,Ef rfl,F.kp,F.binds (fun _ _ _ _ _ _ us hl=>w_ hl fun _ _ _ _ _=>rfl),hm,bh F⟩
theorem o9 (D:aM K mg "_law_ends" (aB 41)) (T:Blt mg) (dd:Nat) (Ht:Has P w K mg base g "_law_ends" (0+dd) ["_law_n", "_law_k", "_law_a", "_law_b", "_law_known"] (aU dd)):Has P w K mg base g "_law_ends" (0+dd+1) ["_law_n", "_law_k", "_law_a", "_law_b", "_law_known"] (aU (dd+1)):=by
 rw[cH]
 obtain⟨KZ,J0,HM,Gx,FW,Hr,_⟩:=Ht
 obtain⟨f,fd,hm,F⟩:=D
 refine⟨f,fd,gx F iF (fun cdv A outer s H E hr=>?_),F.kp,F.binds (fun _ _ _ _ _ _ us hl=>w_ hl fun _ _ _ _ _=>rfl),hm,bh F⟩
 exact(@aw _ _ _ _ _ _ _ (@i3 _ _ _ _ _ _ _ _ _ _ (PW.pt (@x9 _ _ _ _ _ _ _ _ _ (@aZ _ _ _ _ _ _ _ _ _ _ _ lj lh (af 1) au (aY _)) (@x9 _ _ _ _ _ _ _ _ _ (@aZ _ _ _ _ _ _ _ _ _ _ _ (dq hr.units) fJ (af 0) au (aY _)) (@xN _ _ _ _ _ _ (@aZ _ _ _ _ _ _ _ _ _ _ _ (dq hr.units) fJ (af 2) (af 3) (aY _)))))) (@aE _ _ _ _ _ (@bA _ _ _ _ _ _ (eU g_ pM rfl T.int PyProof.Rows.boot_int (@ag _ _ _ _ _ _ _ (@sW _ _ _ _ _ _ _ _ _ (@kF _ _ _ _ _ _ _ _ _ _ _ (dq hr.units) fJ (af 0) au (aY _)) (@uJ _ _ _ _ _ _ _ (@kF _ _ _ _ _ _ _ _ _ _ _ (dq hr.units) fJ (af 1) au (aY _)))) ak rfl)))) b8)
   (@aw _ _ _ _ _ _ _ (@bO _ _ _ _ _ _ 5 _ _ iF.nd rfl (by first | exact Or.inl rfl | exact Or.inr rfl) (@cW _ _ _ _ _ _ _ (@ag _ _ _ _ _ _ _ (af 0) (@ag _ _ _ _ _ _ _ (af 1) (@ag _ _ _ _ _ _ _ (af 2) (@ag _ _ _ _ _ _ _ (af 3) ak rfl) rfl) rfl) rfl)) rfl (.inl rfl))
   (@aw _ _ _ _ _ _ _ (@i3 _ _ _ _ _ _ _ _ _ _ (@aZ _ _ _ _ _ _ _ _ _ _ _ (Aq hr.units) zI (af 5) (af 4) (by rfl)) (@aw _ _ _ _ _ _ _ (@bO _ _ _ _ _ _ 6 _ _ iF.nd rfl (by first | exact Or.inl rfl | exact Or.inr rfl) (@aL _ _ _ _ _ _ _ _ _ _ _ cD cE (af 3) (eU g_ pM rfl T.int PyProof.Rows.boot_int (@ag _ _ _ _ _ _ _ (@kF _ _ _ _ _ _ _ _ _ _ _ lj lh (af 2) (af 3) (aY _)) ak rfl))) rfl (.inl rfl))
   (@aE _ _ _ _ _ (Hd (un1 hr.units) (bw (zD rfl) GL rfl T.sum PyProof.Rows.boot_sum (@ag _ _ _ _ _ _ _ (d_ (osc:=ai (aB 41)) [0,1,2,6,4] ["_law_rank", "_law_n", "_law_k", "_law_a", "_law_last", "_law_known"] rfl rfl rfl rfl (by decide +kernel) ⟨by decide +kernel,by decide +kernel,rfl,by decide +kernel,rfl,by decide +kernel⟩ (dB rfl T.range (@ag _ _ _ _ _ _ _ (@aL _ _ _ _ _ _ _ _ _ _ _ cD cE (af 0) au) ak rfl))
    (fun cl C az aG fp=>C4) (fun cl C az aG fp=>(aN (HM.mono (by omega)) hr rfl Hr Gx FW (@ag _ _ _ _ _ _ _ (@aL _ _ _ _ _ _ _ _ _ _ _ cD cE (af 1) au) (@ag _ _ _ _ _ _ _ (@aL _ _ _ _ _ _ _ _ _ _ _ cD cE (af 2) (eU g_ pM rfl T.int PyProof.Rows.boot_int (@ag _ _ _ _ _ _ _ (@kF _ _ _ _ _ _ _ _ _ _ _ lj lh (af 0) (af 3) (aY _)) ak rfl))) (@ag _ _ _ _ _ _ _ (af 0) (@ag _ _ _ _ _ _ _ (af 4) (@ag _ _ _ _ _ _ _ (af 5) ak rfl) rfl) rfl) rfl) rfl) (ah (ah (ah (ah (ah aD)))))))) ak rfl)) (af 4) (af 5)))) b8)
   (@aE _ _ _ _ _ (@bA _ _ _ _ _ _ (D4 (un1 hr.units) (af 4) (af 5) (fun _ _=>rfl)))))))
theorem qB (D:aM K mg "_law_ends" (aB 41)) (T:Blt mg):Has P w K mg base g "_law_ends" 14 ["_law_n", "_law_k", "_law_a", "_law_b", "_law_known"] (aU 14):=by
 have q:∀dd,Has P w K mg base g "_law_ends" (0+dd) ["_law_n", "_law_k", "_law_a", "_law_b", "_law_known"] (aU dd):=fun dd=>by
  induction dd with
  | zero=>exact pD D
  | succ dd ih=>exact o9 D T dd ih
 exact q 14
theorem rm:aH ["_law_row"] ["_law_row"] (ai (aB 38)):=⟨rfl,rfl,rfl,by decide +kernel,rfl,by decide +kernel,by decide +kernel⟩
theorem pq (D:aM K mg "_law_falls" (aB 38)) (T:Blt mg):Has P w K mg base g "_law_falls" 1 ["_law_row"] bx:=by
 obtain⟨f,fd,hm,F⟩:=D
 refine⟨f,fd,gx F rm (fun cdv A outer s H E hr=>?_),F.kp,F.binds (fun _ _ _ _ _ _ us hl=>qd hl fun _=>rfl),hm,bh F⟩
 exact(@aE _ _ _ _ _ (@bA _ _ _ _ _ _ (eU j7 vO rfl T.tuple PyProof.Rows.boot_tuple (@ag _ _ _ _ _ _ _ (d_ (osc:=ai (aB 38)) [0] ["_law_place", "_law_row"] rfl rfl rfl rfl (by decide +kernel) ⟨by decide +kernel,by decide +kernel,rfl,by decide +kernel,rfl,by decide +kernel⟩ (dB rfl T.range (@ag _ _ _ _ _ _ _ (@aL _ _ _ _ _ _ _ _ _ _ _ cD cE (bw eF dR rfl T.len PySem.boot_len (@ag _ _ _ _ _ _ _ (af 0) ak rfl)) au) ak rfl))
    (fun cl C az aG fp=>(gb (@aZ _ _ _ _ _ _ _ _ _ _ _ p9 oJ (@cY _ _ _ _ _ _ _ _ _ _ bW cT (af 1) (af 0) (fun _ _=>rfl)) (@cY _ _ _ _ _ _ _ _ _ _ bW cT (af 1) (@aL _ _ _ _ _ _ _ _ _ _ _ cR c_ (af 0) au) (fun _ _=>rfl)) (aY _)))) (fun cl C az aG fp=>(af 0))) ak rfl))))
theorem iB:aH ["_law_n", "_law_k", "_law_begun", "_law_b", "_law_known", "_law_rest", "_law_falls_here"] ["_law_n", "_law_k", "_law_begun", "_law_b", "_law_known"] (ai (aB 43)):=⟨rfl,rfl,rfl,by decide +kernel,rfl,by decide +kernel,by decide +kernel⟩
theorem qL (D:aM K mg "_law_left" (aB 43)) (T:Blt mg) (cA:Has P w K mg base g "_law_falls" 1 ["_law_row"] bx) (cJ:Has P w K mg base g "_law_ends" 14 ["_law_n", "_law_k", "_law_a", "_law_b", "_law_known"] (aU 14)):Has P w K mg base g "_law_left" 15 ["_law_n", "_law_k", "_law_begun", "_law_b", "_law_known"] a9:=by
 obtain⟨f,fd,hm,F⟩:=D
 obtain⟨p_,nF,eh,eD,dW,eg,_⟩:=cA
 obtain⟨qT,oR,gS,g6,gJ,g7,_⟩:=cJ
 refine⟨f,fd,gx F iB (fun cdv A outer s H E hr=>?_),F.kp,F.binds (fun _ _ _ _ _ _ us hl=>w_ hl fun _ _ _ _ _=>rfl),hm,bh F⟩
 exact(@aw _ _ _ _ _ _ _ (@i3 _ _ _ _ _ _ _ _ _ _ (@aZ _ _ _ _ _ _ _ _ _ _ _ (dq hr.units) fJ (bw eF dR rfl T.len PySem.boot_len (@ag _ _ _ _ _ _ _ (af 2) ak rfl)) (af 0) (aY _)) (@aE _ _ _ _ _ (@bA _ _ _ _ _ _ (eU g_ pM rfl T.int PyProof.Rows.boot_int (@ag _ _ _ _ _ _ _ (@sW _ _ _ _ _ _ _ _ _ (@kF _ _ _ _ _ _ _ _ _ _ _ (dq hr.units) fJ (@cY _ _ _ _ _ _ _ _ _ _ bW cT (af 2) (@pP _ _ _ _ _ _ _ _ _ kr kz au) (fun _ _=>rfl)) (af 3) (aY _)) (@uJ _ _ _ _ _ _ _ (@kF _ _ _ _ _ _ _ _ _ _ _ (dq hr.units) fJ (bw eF dR rfl T.len PySem.boot_len (@ag _ _ _ _ _ _ _ (aN (eh.mono (by decide)) hr rfl eg eD dW (@ag _ _ _ _ _ _ _ (af 2) ak rfl) (ah aD)) ak rfl)) (af 1) (aY _)))) ak rfl)))) b8)
   (@aw _ _ _ _ _ _ _ (@i3 _ _ _ _ _ _ _ _ _ _ (@aZ _ _ _ _ _ _ _ _ _ _ _ sG r_ (af 3) (af 2) (by rfl)) (@aE _ _ _ _ _ (@bA _ _ _ _ _ _ au)) b8)
   (@aw _ _ _ _ _ _ _ (iQ (osc:=ai (aB 43)) [2] ["_law_number", "_law_begun"] rfl rfl rfl rfl (by decide +kernel) ⟨by decide +kernel,by decide +kernel,rfl,by decide +kernel,rfl,by decide +kernel⟩ (dB rfl T.range (@ag _ _ _ _ _ _ _ (af 0) ak rfl))
    (fun cl C az aG fp=>(gb (@aZ _ _ _ _ _ _ _ _ _ _ _ fO r_ (af 0) (oB (af 1) zc (@nW _ _ _ _ _ (@pP _ _ _ _ _ _ _ _ _ kr kz au))) (by rfl)))) (fun cl C az aG fp=>(af 0)) (i:=5) iB.nd rfl)
   (@aw _ _ _ _ _ _ _ (@bO _ _ _ _ _ _ 6 _ _ iB.nd rfl (by first | exact Or.inl rfl | exact Or.inr rfl) (@aL _ _ _ _ _ _ _ _ _ _ _ cD cE (af 1) (bw eF dR rfl T.len PySem.boot_len (@ag _ _ _ _ _ _ _ (aN (eh.mono (by decide)) hr rfl eg eD dW (@ag _ _ _ _ _ _ _ (af 2) ak rfl) (ah aD)) ak rfl))) rfl (.inl rfl))
   (@aE _ _ _ _ _ (@bA _ _ _ _ _ _ (aN (gS.mono (by decide)) hr rfl g7 g6 gJ (@ag _ _ _ _ _ _ _ (bw eF dR rfl T.len PySem.boot_len (@ag _ _ _ _ _ _ _ (af 5) ak rfl)) (@ag _ _ _ _ _ _ _ (af 6) (@ag _ _ _ _ _ _ _ (jC PySem.F.slot_list_index PySem.F.type_list_index sE rQ (af 5) (@ag _ _ _ _ _ _ _ (@cY _ _ _ _ _ _ _ _ _ _ bW cT (af 2) (@pP _ _ _ _ _ _ _ _ _ kr kz au) (fun _ _=>rfl)) ak rfl)) (@ag _ _ _ _ _ _ _ (jC PySem.F.slot_list_index PySem.F.type_list_index sE rQ (af 5) (@ag _ _ _ _ _ _ _ (af 3) ak rfl)) (@ag _ _ _ _ _ _ _ (af 4) ak rfl) rfl) rfl) rfl) rfl) (ah (ah (ah (ah (ah aD))))))))))))
theorem bZ:aH ["_law_n", "_law_k", "_law_a", "_law_b", "_law_known", "_law_found", "_law_turn", "_law_longer", "_law_begun", "_law_some"] ["_law_n", "_law_k", "_law_a", "_law_b", "_law_known"] (ai (aB 44)):=⟨rfl,rfl,rfl,by decide +kernel,rfl,by decide +kernel,by decide +kernel⟩
theorem nV (D:aM K mg "_law_listed" (aB 44)) (T:Blt mg) (gP:Has P w K mg base g "_law_left" 15 ["_law_n", "_law_k", "_law_begun", "_law_b", "_law_known"] a9):Has P w K mg base g "_law_listed" 16 ["_law_n", "_law_k", "_law_a", "_law_b", "_law_known"] bE:=by
 obtain⟨f,fd,hm,F⟩:=D
 obtain⟨Dm,AQ,jX,jZ,j8,j2,_⟩:=gP
 refine⟨f,fd,gH (gx F bZ (fun cdv A outer s H E hr=>?_)),F.kp,F.binds (fun _ _ _ _ _ _ us hl=>w_ hl fun _ _ _ _ _=>rfl),hm,bh F⟩
 exact(@aw _ _ _ _ _ _ _ (@bO _ _ _ _ _ _ 5 _ _ bZ.nd rfl (by first | exact Or.inl rfl | exact Or.inr rfl) (@gf _ _ _ _ _ _ _ _ _ _ (@aZ _ _ _ _ _ _ _ _ _ _ _ p9 oJ (aN (jX.mono (by decide)) hr rfl j2 jZ j8 (@ag _ _ _ _ _ _ _ (af 0) (@ag _ _ _ _ _ _ _ (af 1) (@ag _ _ _ _ _ _ _ (@cW _ _ _ _ _ _ _ (@ag _ _ _ _ _ _ _ (af 2) ak rfl)) (@ag _ _ _ _ _ _ _ (af 3) (@ag _ _ _ _ _ _ _ (af 4) ak rfl) rfl) rfl) rfl) rfl) (ah (ah (ah (ah (ah aD)))))) au (aY _)) (@dm _ _ _ _ _ _ _ _ (@ag _ _ _ _ _ _ _ (@cW _ _ _ _ _ _ _ (@ag _ _ _ _ _ _ _ (af 2) ak rfl)) ak rfl)) (@dm _ _ _ _ _ _ _ _ ak)) rfl (.inl rfl))
   (@aw _ _ _ _ _ _ _ (j4 PassesOwn.never rfl (dB rfl T.range (@ag _ _ _ _ _ _ _ (@aL _ _ _ _ _ _ _ _ _ _ _ cD cE (af 0) au) ak rfl)) (bC (i:=6) bZ.nd rfl (by first | exact Or.inl rfl | exact Or.inr rfl)) iN (@aw _ _ _ _ _ _ _ (@bO _ _ _ _ _ _ 7 _ _ bZ.nd rfl (by first | exact Or.inl rfl | exact Or.inr rfl) (@dm _ _ _ _ _ _ _ _ ak) rfl (.inl rfl))
   (@aw _ _ _ _ _ _ _ (j4 PassesOwn.never rfl (@iA _ _ _ _ _ _ (af 5)) (bC (i:=8) bZ.nd rfl (by first | exact Or.inl rfl | exact Or.inr rfl)) iN (@aw _ _ _ _ _ _ _ (iQ (osc:=ai (aB 44)) [8] ["_law_number", "_law_begun"] rfl rfl rfl rfl (by decide +kernel) ⟨by decide +kernel,by decide +kernel,rfl,by decide +kernel,rfl,by decide +kernel⟩ (dB rfl T.range (@ag _ _ _ _ _ _ _ (af 0) ak rfl))
    (fun cl C az aG fp=>(gb (@aZ _ _ _ _ _ _ _ _ _ _ _ fO r_ (af 0) (af 1) (by rfl)))) (fun cl C az aG fp=>(@aL _ _ _ _ _ _ _ _ _ _ _ cR c_ (af 1) (@cW _ _ _ _ _ _ _ (@ag _ _ _ _ _ _ _ (af 0) ak rfl)))) (i:=9) bZ.nd rfl)
   (@aE _ _ _ _ _ (fW (jC PySem.F.slot_list_extend PySem.F.type_list_extend pT rR (af 7) (@ag _ _ _ _ _ _ _ (d_ (osc:=ai (aB 44)) [0,1,3,4] ["_law_one", "_law_n", "_law_k", "_law_b", "_law_known"] rfl rfl rfl rfl (by decide +kernel) ⟨by decide +kernel,by decide +kernel,rfl,by decide +kernel,rfl,by decide +kernel⟩ (@iA _ _ _ _ _ _ (af 9))
    (fun cl C az aG fp=>(gb (@aZ _ _ _ _ _ _ _ _ _ _ _ p9 oJ (aN (jX.mono (by decide)) hr rfl j2 jZ j8 (@ag _ _ _ _ _ _ _ (af 1) (@ag _ _ _ _ _ _ _ (af 2) (@ag _ _ _ _ _ _ _ (af 0) (@ag _ _ _ _ _ _ _ (af 3) (@ag _ _ _ _ _ _ _ (af 4) ak rfl) rfl) rfl) rfl) rfl) (ah (ah (ah (ah (ah aD)))))) au (aY _)))) (fun cl C az aG fp=>(af 0))) ak rfl))))))
   (@aE _ _ _ _ _ (@bO _ _ _ _ _ _ 5 _ _ bZ.nd rfl (by first | exact Or.inl rfl | exact Or.inr rfl) (af 7) rfl (.inl rfl))))))
   (@aE _ _ _ _ _ (@bA _ _ _ _ _ _ (af 5)))))
theorem fA:aH ["_law_e", "_law_marks"] ["_law_e"] (ai (aB 36)):=⟨rfl,rfl,rfl,by decide +kernel,rfl,by decide +kernel,by decide +kernel⟩
theorem mw (D:aM K mg "_law_kind_of" (aB 36)) (T:Blt mg) (hgo:g=gOf mg) (CL:rq K mg):Ed P w K mg base g "_law_kind_of" 1 ["_law_e"] f6:=by
 obtain⟨f,fd,hm,F⟩:=D
 refine⟨f,fd,Fo F fA (fun cdv A outer s H E hr=>?_),F.kp,F.binds (fun _ _ _ _ _ _ us hl=>qd hl fun _=>rfl),hm⟩
 exact(@aw _ _ _ _ _ _ _ (@bO _ _ _ _ _ _ 1 _ _ fA.nd rfl (by first | exact Or.inl rfl | exact Or.inr rfl) (@dm _ _ _ _ _ _ _ _ (@ag _ _ _ _ _ _ _ (kl CL hgo (af 0) rfl T.isinstance rfl (by decide)) (@ag _ _ _ _ _ _ _ (kl CL hgo (af 0) rfl T.isinstance rfl (by decide)) (@ag _ _ _ _ _ _ _ (kl CL hgo (af 0) rfl T.isinstance rfl (by decide)) (@ag _ _ _ _ _ _ _ (kl CL hgo (af 0) rfl T.isinstance rfl (by decide)) ak rfl) rfl) rfl) rfl)) rfl (.inl rfl))
   (@aw _ _ _ _ _ _ _ (@bO _ _ _ _ _ _ 1 _ _ fA.nd rfl (by first | exact Or.inl rfl | exact Or.inr rfl) (@aL _ _ _ _ _ _ _ _ _ _ _ cR c_ (af 1) (@dm _ _ _ _ _ _ _ _ (@ag _ _ _ _ _ _ _ (kl CL hgo (af 0) rfl T.isinstance rfl (by decide)) (@ag _ _ _ _ _ _ _ (kl CL hgo (af 0) rfl T.isinstance rfl (by decide)) (@ag _ _ _ _ _ _ _ (kl CL hgo (af 0) rfl T.isinstance rfl (by decide)) ak rfl) rfl) rfl))) rfl (.inl rfl))
   (@aw _ _ _ _ _ _ _ (@i3 _ _ _ _ _ _ _ _ _ _ (PW.pt (@x9 _ _ _ _ _ _ _ _ _ (@tL _ _ _ _ _ _ (@jd _ _ _ _ _ _ pG (G0 CL hgo (af 0) rfl T.isinstance rfl T.ValueError) (fun _=>rfl))) (@xN _ _ _ _ _ _ (@aZ _ _ _ _ _ _ _ _ _ _ _ (wV hr.units) Bn (jC PySem.F.slot_list_count PySem.F.type_list_count Ae AE (af 1) (@ag _ _ _ _ _ _ _ pw ak rfl)) au (aY _))))) (@aE _ _ _ _ _ (@bA _ _ _ _ _ _ f7)) b8)
   (@aE _ _ _ _ _ (@bA _ _ _ _ _ _ (@cY _ _ _ _ _ _ _ _ _ _ bW cT (@dm _ _ _ _ _ _ _ _ (@ag _ _ _ _ _ _ _ f7 (@ag _ _ _ _ _ _ _ f7 (@ag _ _ _ _ _ _ _ f7 (@ag _ _ _ _ _ _ _ f7 (@ag _ _ _ _ _ _ _ f7 (@ag _ _ _ _ _ _ _ f7 (@ag _ _ _ _ _ _ _ f7 ak rfl) rfl) rfl) rfl) rfl) rfl) rfl)) (jC PySem.F.slot_list_index PySem.F.type_list_index zx Aw (af 1) (@ag _ _ _ _ _ _ _ pw ak rfl)) (fun _ _=>rfl)))))))
theorem iT:aH ["_law_e", "_law_kind"] ["_law_e"] (ai (aB 37)):=⟨rfl,rfl,rfl,by decide +kernel,rfl,by decide +kernel,by decide +kernel⟩
theorem lX (D:aM K mg "_law_refused" (aB 37)) (T:Blt mg) (hgo:g=gOf mg) (lY:CIm K mg "NoText" (aB 7) ["row"]) (cS:CIm K mg "TooGreat" (aB 8) ["many", "most"]) (eP:Ed P w K mg base g "_law_kind_of" 1 ["_law_e"] f6):Ed P w K mg base g "_law_refused" 2 ["_law_e"] bV:=by
 obtain⟨f,fd,hm,F⟩:=D
 obtain⟨Au,yw,mK,mG,lU,mF⟩:=eP
 refine⟨f,fd,Fo F iT (fun cdv A outer s H E hr=>?_),F.kp,F.binds (fun _ _ _ _ _ _ us hl=>qd hl fun _=>rfl),hm⟩
 exact(@aw _ _ _ _ _ _ _ (@bO _ _ _ _ _ _ 1 _ _ iT.nd rfl (by first | exact Or.inl rfl | exact Or.inr rfl) (Be (mK.mono (by decide)) hr rfl mF mG lU (@ag _ _ _ _ _ _ _ (af 0) ak rfl) (ah aD)) rfl (.inl rfl))
   (@aw _ _ _ _ _ _ _ (@i3 _ _ _ _ _ _ _ _ _ _ (@aZ _ _ _ _ _ _ _ _ _ _ _ (dq hr.units) fJ (af 1) f7 (aY _)) (@aE _ _ _ _ _ (@bA _ _ _ _ _ _ (@cW _ _ _ _ _ _ _ (@ag _ _ _ _ _ _ _ (af 1) (@ag _ _ _ _ _ _ _ (tS (af 0) lY hgo (by decide)) ak rfl) rfl)))) b8)
   (@aE _ _ _ _ _ (@bA _ _ _ _ _ _ (@gf _ _ _ _ _ _ _ _ _ _ (@aZ _ _ _ _ _ _ _ _ _ _ _ (dq hr.units) fJ (af 1) f7 (aY _)) (@cW _ _ _ _ _ _ _ (@ag _ _ _ _ _ _ _ (af 1) (@ag _ _ _ _ _ _ _ (tS (af 0) cS hgo (by decide)) (@ag _ _ _ _ _ _ _ (tS (af 0) cS hgo (by decide)) ak rfl) rfl) rfl)) (@cW _ _ _ _ _ _ _ (@ag _ _ _ _ _ _ _ (af 1) ak rfl)))))))
theorem vx:aH ["numbers"] ["numbers"] (ai (aB 14)):=⟨rfl,rfl,rfl,by decide +kernel,rfl,by decide +kernel,by decide +kernel⟩
theorem uf (D:aM K mg "falls_in" (aB 14)) (T:Blt mg):Has P w K mg base g "falls_in" 1 ["numbers"] gm:=by
 obtain⟨f,fd,hm,F⟩:=D
 refine⟨f,fd,gx F vx (fun cdv A outer s H E hr=>?_),F.kp,F.binds (fun _ _ _ _ _ _ us hl=>qd hl fun _=>rfl),hm,bh F⟩
 exact(@aE _ _ _ _ _ (@bA _ _ _ _ _ _ (eU j7 vO rfl T.tuple PyProof.Rows.boot_tuple (@ag _ _ _ _ _ _ _ (d_ (osc:=ai (aB 14)) [0] ["place", "numbers"] rfl rfl rfl rfl (by decide +kernel) ⟨by decide +kernel,by decide +kernel,rfl,by decide +kernel,rfl,by decide +kernel⟩ (dB rfl T.range (@ag _ _ _ _ _ _ _ (@aL _ _ _ _ _ _ _ _ _ _ _ cD cE (bw eF dR rfl T.len PySem.boot_len (@ag _ _ _ _ _ _ _ (af 0) ak rfl)) au) ak rfl))
    (fun cl C az aG fp=>(gb (@aZ _ _ _ _ _ _ _ _ _ _ _ p9 oJ (@cY _ _ _ _ _ _ _ _ _ _ bW cT (af 1) (af 0) (fun _ _=>rfl)) (@cY _ _ _ _ _ _ _ _ _ _ bW cT (af 1) (@aL _ _ _ _ _ _ _ _ _ _ _ cR c_ (af 0) au) (fun _ _=>rfl)) (aY _)))) (fun cl C az aG fp=>(af 0))) ak rfl))))
theorem fE:aH ["rests", "size", "k", "first", "last", "falls", "counts"] ["rests", "size", "k", "first", "last"] (ai (aB 28)):=⟨rfl,rfl,rfl,by decide +kernel,rfl,by decide +kernel,by decide +kernel⟩
theorem mL (D:aM K mg "ends_counted" (aB 28)) (T:Blt mg):Has P w K mg base g "ends_counted" 1 ["rests", "size", "k", "first", "last"] a_:=by
 obtain⟨f,fd,hm,F⟩:=D
 refine⟨f,fd,gx F fE (fun cdv A outer s H E hr=>?_),F.kp,F.binds (fun _ _ _ _ _ _ us hl=>w_ hl fun _ _ _ _ _=>rfl),hm,bh F⟩
 exact(@aw _ _ _ _ _ _ _ (@i3 _ _ _ _ _ _ _ _ _ _ (@aZ _ _ _ _ _ _ _ _ _ _ _ (dq hr.units) fJ (af 1) au (aY _)) (@aE _ _ _ _ _ (@bA _ _ _ _ _ _ (@gf _ _ _ _ _ _ _ _ _ _ (@aZ _ _ _ _ _ _ _ _ _ _ _ (dq hr.units) fJ (af 2) au (aY _)) au au))) b8)
   (@aw _ _ _ _ _ _ _ (@i3 _ _ _ _ _ _ _ _ _ _ (@aZ _ _ _ _ _ _ _ _ _ _ _ (dq hr.units) fJ (af 3) (af 4) (aY _)) (@aE _ _ _ _ _ (@bA _ _ _ _ _ _ au)) b8)
   (@aw _ _ _ _ _ _ _ (@bO _ _ _ _ _ _ 5 _ _ fE.nd rfl (by first | exact Or.inl rfl | exact Or.inr rfl) (@gf _ _ _ _ _ _ _ _ _ _ (@aZ _ _ _ _ _ _ _ _ _ _ _ lj lh (af 3) (af 4) (aY _)) (af 2) (@aL _ _ _ _ _ _ _ _ _ _ _ cD cE (af 2) au)) rfl (.inl rfl))
   (@aw _ _ _ _ _ _ _ (@bO _ _ _ _ _ _ 6 _ _ fE.nd rfl (by first | exact Or.inl rfl | exact Or.inr rfl) (@cY _ _ _ _ _ _ _ _ _ _ bW cT (@cY _ _ _ _ _ _ _ _ _ _ bW cT (af 0) (@aL _ _ _ _ _ _ _ _ _ _ _ cD cE (af 1) au) (fun _ _=>rfl)) (@aL _ _ _ _ _ _ _ _ _ _ _ l8 mm (@aL _ _ _ _ _ _ _ _ _ _ _ cD cE (@aL _ _ _ _ _ _ _ _ _ _ _ cD cE (af 3) (af 4)) au) (af 1)) (fun _ _=>rfl)) rfl (.inl rfl))
   (@aE _ _ _ _ _ (@bA _ _ _ _ _ _ (@gf _ _ _ _ _ _ _ _ _ _ (Cj AW lj Cw lh au (af 5) (bw eF dR rfl T.len PySem.boot_len (@ag _ _ _ _ _ _ _ (af 6) ak rfl))) (@cY _ _ _ _ _ _ _ _ _ _ bW cT (af 6) (af 5) (fun _ _=>rfl)) au)))))))
theorem qm:aH ["stands", "number"] ["stands", "number"] (ai (aB 30)):=⟨rfl,rfl,rfl,by decide +kernel,rfl,by decide +kernel,by decide +kernel⟩
theorem nN (D:aM K mg "rank_beside" (aB 30)) (T:Blt mg):Has P w K mg base g "rank_beside" 1 ["stands", "number"] cK:=by
 obtain⟨f,fd,hm,F⟩:=D
 refine⟨f,fd,gx F qm (fun cdv A outer s H E hr=>?_),F.kp,F.binds (fun _ _ _ _ _ _ us hl=>xj hl fun _ _=>rfl),hm,bh F⟩
 exact(@aE _ _ _ _ _ (@bA _ _ _ _ _ _ (@aL _ _ _ _ _ _ _ _ _ _ _ cD cE (af 1) (bw eF dR rfl T.len PySem.boot_len (@ag _ _ _ _ _ _ _ (d_ (osc:=ai (aB 30)) [1] ["one", "number"] rfl rfl rfl rfl (by decide +kernel) ⟨by decide +kernel,by decide +kernel,rfl,by decide +kernel,rfl,by decide +kernel⟩ (@iA _ _ _ _ _ _ (af 0))
    (fun cl C az aG fp=>(gb (@aZ _ _ _ _ _ _ _ _ _ _ _ lj lh (af 0) (af 1) (aY _)))) (fun cl C az aG fp=>(af 0))) ak rfl)))))
theorem eZ:aH ["rests", "k", "first", "last", "begun", "stands", "size", "falls"] ["rests", "k", "first", "last", "begun"] (ai (aB 29)):=⟨rfl,rfl,rfl,by decide +kernel,rfl,by decide +kernel,by decide +kernel⟩
theorem pE (D:aM K mg "ends_begun" (aB 29)) (T:Blt mg) (iM:Has P w K mg base g "falls_in" 1 ["numbers"] gm) (bT:Has P w K mg base g "ends_counted" 1 ["rests", "size", "k", "first", "last"] a_) (fm:Has P w K mg base g "rank_beside" 1 ["stands", "number"] cK):Has P w K mg base g "ends_begun" 2 ["rests", "k", "first", "last", "begun"] bP:=by
 obtain⟨f,fd,hm,F⟩:=D
 obtain⟨D2,Dj,t9,tZ,uN,sP,_⟩:=iM
 obtain⟨mC,kP,eM,eS,eO,eT,_⟩:=bT
 obtain⟨AG,zw,iU,iY,iX,iZ,_⟩:=fm
 refine⟨f,fd,gx F eZ (fun cdv A outer s H E hr=>?_),F.kp,F.binds (fun _ _ _ _ _ _ us hl=>w_ hl fun _ _ _ _ _=>rfl),hm,bh F⟩
 exact(@aw _ _ _ _ _ _ _ (@bO _ _ _ _ _ _ 5 _ _ eZ.nd rfl (by first | exact Or.inl rfl | exact Or.inr rfl) (oB (af 4) zc (@nW _ _ _ _ _ (@pP _ _ _ _ _ _ _ _ _ kr kz au))) rfl (.inl rfl))
   (@aw _ _ _ _ _ _ _ (@i3 _ _ _ _ _ _ _ _ _ _ (PW.pt (@x9 _ _ _ _ _ _ _ _ _ (@aZ _ _ _ _ _ _ _ _ _ _ _ (wV hr.units) Bn (@cY _ _ _ _ _ _ _ _ _ _ bW cT (af 4) au (fun _ _=>rfl)) (af 2) (aY _)) (@xN _ _ _ _ _ _ (@aZ _ _ _ _ _ _ _ _ _ _ _ sG r_ (af 3) (af 5) (by rfl))))) (@aE _ _ _ _ _ (@bA _ _ _ _ _ _ au)) b8)
   (@aw _ _ _ _ _ _ _ (@bO _ _ _ _ _ _ 6 _ _ eZ.nd rfl (by first | exact Or.inl rfl | exact Or.inr rfl) (@aL _ _ _ _ _ _ _ _ _ _ _ cD cE (bw eF dR rfl T.len PySem.boot_len (@ag _ _ _ _ _ _ _ (af 0) ak rfl)) (bw eF dR rfl T.len PySem.boot_len (@ag _ _ _ _ _ _ _ (af 4) ak rfl))) rfl (.inl rfl))
   (@aw _ _ _ _ _ _ _ (@bO _ _ _ _ _ _ 7 _ _ eZ.nd rfl (by first | exact Or.inl rfl | exact Or.inr rfl) (@aL _ _ _ _ _ _ _ _ _ _ _ cD cE (af 1) (bw eF dR rfl T.len PySem.boot_len (@ag _ _ _ _ _ _ _ (aN (t9.mono (by decide)) hr rfl sP tZ uN (@ag _ _ _ _ _ _ _ (af 4) ak rfl) (ah aD)) ak rfl))) rfl (.inl rfl))
   (@aE _ _ _ _ _ (@bA _ _ _ _ _ _ (aN (eM.mono (by decide)) hr rfl eT eS eO (@ag _ _ _ _ _ _ _ (af 0) (@ag _ _ _ _ _ _ _ (af 6) (@ag _ _ _ _ _ _ _ (af 7) (@ag _ _ _ _ _ _ _ (aN (iU.mono (by decide)) hr rfl iZ iY iX (@ag _ _ _ _ _ _ _ (af 5) (@ag _ _ _ _ _ _ _ (@cY _ _ _ _ _ _ _ _ _ _ bW cT (af 4) (@pP _ _ _ _ _ _ _ _ _ kr kz au) (fun _ _=>rfl)) ak rfl) rfl) (ah (ah aD))) (@ag _ _ _ _ _ _ _ (aN (iU.mono (by decide)) hr rfl iZ iY iX (@ag _ _ _ _ _ _ _ (af 5) (@ag _ _ _ _ _ _ _ (af 3) ak rfl) rfl) (ah (ah aD))) ak rfl) rfl) rfl) rfl) rfl) (ah (ah (ah (ah (ah aD))))))))))))
theorem i7:aH ["n", "begun", "many_with", "longer"] ["n", "begun", "many_with"] (ai (aB 22)):=⟨rfl,rfl,rfl,by decide +kernel,rfl,by decide +kernel,by decide +kernel⟩
theorem nP (D:aM K mg "longer_ones" (aB 22)) (T:Blt mg) (gi:Has P w K mg base g "ends_begun" 2 ["rests", "k", "first", "last", "begun"] bP):Has P w K mg base g "longer_ones" 4 ["n", "begun", "many_with"] cI:=by
 obtain⟨f,fd,hm,F⟩:=D
 obtain⟨Dd,AH,oV,pN,o_,oK,_⟩:=gi
 have TC:∀x np m,vP x=some (np,m)->∃f fd ps,mg x=some (.ref f)/\cQ P w K mg base CX0 2 f fd ps (spM K g np m)/\PySem.W.keepIn K (.ref f)=true/\Binds K fd ps []:=by
  intro x np m e
  unfold vP at e
  by_cases gj:x="ends_begun"
  ·rw[if_pos gj] at e;cases e;rw[gj];exact⟨_,_,_,oK,oV.mono (by decide),pN,o_⟩
  rw[if_neg gj] at e
  cases e
 refine⟨f,fd,gx F i7 (fun cdv A outer s H E hr=>?_),F.kp,F.binds (fun _ _ _ _ _ _ us hl=>Dc hl fun _ _ _=>rfl),hm,bh F⟩
 exact(@aw _ _ _ _ _ _ _ (iQ (osc:=ai (aB 22)) [1] ["number", "begun"] rfl rfl rfl rfl (by decide +kernel) ⟨by decide +kernel,by decide +kernel,rfl,by decide +kernel,rfl,by decide +kernel⟩ (dB rfl T.range (@ag _ _ _ _ _ _ _ (af 0) ak rfl))
    (fun cl C az aG fp=>(gb (@aZ _ _ _ _ _ _ _ _ _ _ _ fO r_ (af 0) (af 1) (by rfl)))) (fun cl C az aG fp=>(@aL _ _ _ _ _ _ _ _ _ _ _ cR c_ (af 1) (@cW _ _ _ _ _ _ _ (@ag _ _ _ _ _ _ _ (af 0) ak rfl)))) (i:=3) i7.nd rfl)
   (@aE _ _ _ _ _ (@bA _ _ _ _ _ _ (d_ (osc:=ai (aB 22)) [2] ["one", "many_with"] rfl rfl rfl rfl (by decide +kernel) ⟨by decide +kernel,by decide +kernel,rfl,by decide +kernel,rfl,by decide +kernel⟩ (@iA _ _ _ _ _ _ (af 3))
    (fun cl C az aG fp=>(gb (@aZ _ _ _ _ _ _ _ _ _ _ _ p9 oJ (CZ TC hr (af 1) (@ag _ _ _ _ _ _ _ (af 0) ak rfl) (ah aD)) au (aY _)))) (fun cl C az aG fp=>(af 0))))))
theorem de:aH ["n", "many_with", "orders", "place"] ["n", "many_with"] (ai (aB 23)):=⟨rfl,rfl,rfl,by decide +kernel,rfl,by decide +kernel,by decide +kernel⟩
theorem lq (D:aM K mg "orders_listed" (aB 23)) (T:Blt mg) (fH:Has P w K mg base g "longer_ones" 4 ["n", "begun", "many_with"] cI):Has P w K mg base g "orders_listed" 5 ["n", "many_with"] cF:=by
 obtain⟨f,fd,hm,F⟩:=D
 obtain⟨AM,zW,nu,m8,m5,nq,_⟩:=fH
 refine⟨f,fd,qj (gx F de (fun cdv A outer s H E hr=>?_)),F.kp,F.binds (fun _ _ _ _ _ _ us hl=>xj hl fun _ _=>rfl),hm,bh F⟩
 exact(@aw _ _ _ _ _ _ _ (@bO _ _ _ _ _ _ 2 _ _ de.nd rfl (by first | exact Or.inl rfl | exact Or.inr rfl) (@dm _ _ _ _ _ _ _ _ (@ag _ _ _ _ _ _ _ (@cW _ _ _ _ _ _ _ ak) ak rfl)) rfl (.inl rfl))
   (@aw _ _ _ _ _ _ _ (j4 PassesOwn.never rfl (dB rfl T.range (@ag _ _ _ _ _ _ _ (af 0) ak rfl)) (bC (i:=3) de.nd rfl (by first | exact Or.inl rfl | exact Or.inr rfl)) iN (@aE _ _ _ _ _ (xK (osc:=ai (aB 23)) [0,1] ["begun", "longer", "n", "many_with"] rfl rfl rfl rfl (by decide +kernel) ⟨by decide +kernel,by decide +kernel,rfl,by decide +kernel,by decide +kernel⟩ (@iA _ _ _ _ _ _ (af 2)) (fun cl C az aG fp=>⟨Or.inl rfl,rfl⟩) (fun cl C az aG fp=>⟨Or.inl rfl,rfl⟩)
    (fun cl C az aG fp=>(@iA _ _ _ _ _ _ (aN (nu.mono (by decide)) hr rfl nq m8 m5 (@ag _ _ _ _ _ _ _ (af 2) (@ag _ _ _ _ _ _ _ (af 0) (@ag _ _ _ _ _ _ _ (af 3) ak rfl) rfl) rfl) (ah (ah (ah aD)))))) (fun cl C az aG fp=>(af 1)) (i:=2) de.nd rfl)))
   (@aE _ _ _ _ _ (@bA _ _ _ _ _ _ (af 2)))))
theorem pJ:aH ["many"] ["many"] (ai (aB 19)):=⟨rfl,rfl,rfl,by decide +kernel,rfl,by decide +kernel,by decide +kernel⟩
theorem nS (D:aM K mg "told_needed" (aB 19)) (T:Blt mg) (hgo:g=gOf mg) (cS:CIm K mg "TooGreat" (aB 8) ["many", "most"]) {mS:Tok} (gF:mg "MOST_TOLD" = some (.int 300 mS)):lI P w K mg base g "told_needed" 3 ["many"] cj:=by
 obtain⟨f,fd,hm,F⟩:=D
 refine⟨f,fd,vE F pJ (fun cdv A outer s H E hr fl pl po=>?_),F.kp,F.binds (fun _ _ _ _ _ _ us hl=>qd hl fun _=>rfl),hm⟩
 exact(@aE _ _ _ _ _ (@i3 _ _ _ _ _ _ _ _ _ _ (@Fv _ _ _ _ _ (@aZ _ _ _ _ _ _ _ _ _ _ _ p9 oJ (af 0) (k6 rfl gF) (aY _))) (@aE _ _ _ _ _ (BR (k:=0) fl pl rfl rfl cS hgo (hr.mono (by decide)) (by decide) (@ag _ _ _ _ _ _ _ (@cz _ _ _ _ _ (af 0)) (@ag _ _ _ _ _ _ _ (@cz _ _ _ _ _ (k6 rfl gF)) ak rfl) rfl))) b8))
theorem vi:aH ["thing"] ["thing"] (ai (aB 10)):=⟨rfl,rfl,rfl,by decide +kernel,rfl,by decide +kernel,by decide +kernel⟩
theorem tB (D:aM K mg "is_whole" (aB 10)) (T:Blt mg):Has P w K mg base g "is_whole" 1 ["thing"] gk:=by
 obtain⟨f,fd,hm,F⟩:=D
 refine⟨f,fd,gx F vi (fun cdv A outer s H E hr=>?_),F.kp,F.binds (fun _ _ _ _ _ _ us hl=>qd hl fun _=>rfl),hm,bh F⟩
 exact(@aE _ _ _ _ _ (@bA _ _ _ _ _ _ (@sW _ _ _ _ _ _ _ _ _ (wG (af 0) rfl T.isinstance rfl T.int PyProof.Rows.boot_int) (@uJ _ _ _ _ _ _ _ (@FQ _ _ _ _ _ _ (wG (af 0) rfl T.isinstance rfl T.bool PyProof.Rows.boot_bool))))))
theorem tm:aH ["thing", "least", "most"] ["thing", "least", "most"] (ai (aB 11)):=⟨rfl,rfl,rfl,by decide +kernel,rfl,by decide +kernel,by decide +kernel⟩
theorem qV (D:aM K mg "is_within" (aB 11)) (T:Blt mg) (ir:Has P w K mg base g "is_whole" 1 ["thing"] gk):Has P w K mg base g "is_within" 2 ["thing", "least", "most"] e_:=by
 obtain⟨f,fd,hm,F⟩:=D
 obtain⟨DO,Dn,uG,ux,sZ,uv,_⟩:=ir
 refine⟨f,fd,gx F tm (fun cdv A outer s H E hr=>?_),F.kp,F.binds (fun _ _ _ _ _ _ us hl=>Dc hl fun _ _ _=>rfl),hm,bh F⟩
 exact(@aE _ _ _ _ _ (@bA _ _ _ _ _ _ (@sW _ _ _ _ _ _ _ _ _ (aN (uG.mono (by decide)) hr rfl uv ux sZ (@ag _ _ _ _ _ _ _ (af 0) ak rfl) (ah aD)) (@uJ _ _ _ _ _ _ _ (B8 AW AW Cw Cw (af 1) (af 0) (af 2))))))
theorem l9:aH ["thing", "least", "most"] ["thing", "least", "most"] (ai (aB 12)):=⟨rfl,rfl,rfl,by decide +kernel,rfl,by decide +kernel,by decide +kernel⟩
theorem kK (D:aM K mg "number_needed" (aB 12)) (T:Blt mg) (hgo:g=gOf mg) (CL:rq K mg) (gW:Has P w K mg base g "is_within" 2 ["thing", "least", "most"] e_):lI P w K mg base g "number_needed" 3 ["thing", "least", "most"] bc:=by
 obtain⟨f,fd,hm,F⟩:=D
 obtain⟨Dk,CN,qw,qQ,rk,rp,_⟩:=gW
 obtain⟨A_NoNumber,kD⟩:=CL.at_ "NoNumber" (by decide)
 refine⟨f,fd,vE F l9 (fun cdv A outer s H E hr fl pl po=>?_),F.kp,F.binds (fun _ _ _ _ _ _ us hl=>Dc hl fun _ _ _=>rfl),hm⟩
 exact(@aE _ _ _ _ _ (@i3 _ _ _ _ _ _ _ _ _ _ (@Fv _ _ _ _ _ (@tL _ _ _ _ _ _ (@jd _ _ _ _ _ _ pG (aN (qw.mono (by decide)) hr rfl rp qQ rk (@ag _ _ _ _ _ _ _ (af 0) (@ag _ _ _ _ _ _ _ (af 1) (@ag _ _ _ _ _ _ _ (af 2) ak rfl) rfl) rfl) (ah (ah (ah aD)))) (fun _=>rfl)))) (@aE _ _ _ _ _ (E7 fl pl rfl rfl kD (GW hgo kD) ((CL.one _ (by decide) _ kD).2.2 rfl))) b8))
theorem lg:aH ["n", "k"] ["n", "k"] (ai (aB 18)):=⟨rfl,rfl,rfl,by decide +kernel,rfl,by decide +kernel,by decide +kernel⟩
theorem kc (D:aM K mg "numbers_needed" (aB 18)) (T:Blt mg) {j0:Tok} (e9:mg "MOST_LISTED" = some (.int 12 j0)) (aW:lI P w K mg base g "number_needed" 3 ["thing", "least", "most"] bc):lI P w K mg base g "numbers_needed" 4 ["n", "k"] dh:=by
 obtain⟨f,fd,hm,F⟩:=D
 obtain⟨gB,gc,bK,bJ,bM,bL⟩:=aW
 refine⟨f,fd,vE F lg (fun cdv A outer s H E hr fl pl po=>?_),F.kp,F.binds (fun _ _ _ _ _ _ us hl=>xj hl fun _ _=>rfl),hm⟩
 exact(@aw _ _ _ _ _ _ _ (fW (dQ fl pl (bK.mono (by decide)) hr rfl bL bJ bM (@ag _ _ _ _ _ _ _ (@cz _ _ _ _ _ (af 0)) (@ag _ _ _ _ _ _ _ (@cz _ _ _ _ _ au) (@ag _ _ _ _ _ _ _ (@cz _ _ _ _ _ (k6 rfl e9)) ak rfl) rfl) rfl) (ah (ah (ah aD)))))
   (@aE _ _ _ _ _ (fW (dQ fl pl (bK.mono (by decide)) hr rfl bL bJ bM (@ag _ _ _ _ _ _ _ (@cz _ _ _ _ _ (af 1)) (@ag _ _ _ _ _ _ _ (@cz _ _ _ _ _ au) (@ag _ _ _ _ _ _ _ (@cz _ _ _ _ _ (k6 rfl e9)) ak rfl) rfl) rfl) (ah (ah (ah aD)))))))
theorem q_:aH ["n", "k", "end"] ["n", "k", "end"] (ai (aB 27)):=⟨rfl,rfl,rfl,by decide +kernel,rfl,by decide +kernel,by decide +kernel⟩
theorem qr (D:aM K mg "end_needed" (aB 27)) (T:Blt mg) (dF:lI P w K mg base g "numbers_needed" 4 ["n", "k"] dh) (aW:lI P w K mg base g "number_needed" 3 ["thing", "least", "most"] bc):lI P w K mg base g "end_needed" 5 ["n", "k", "end"] eG:=by
 obtain⟨f,fd,hm,F⟩:=D
 obtain⟨xJ,wD,ky,kJ,kE,ko⟩:=dF
 obtain⟨gB,gc,bK,bJ,bM,bL⟩:=aW
 refine⟨f,fd,vE F q_ (fun cdv A outer s H E hr fl pl po=>?_),F.kp,F.binds (fun _ _ _ _ _ _ us hl=>Dc hl fun _ _ _=>rfl),hm⟩
 exact(@aw _ _ _ _ _ _ _ (fW (dQ fl pl (ky.mono (by decide)) hr rfl ko kJ kE (@ag _ _ _ _ _ _ _ (@cz _ _ _ _ _ (af 0)) (@ag _ _ _ _ _ _ _ (@cz _ _ _ _ _ (af 1)) ak rfl) rfl) (ah (ah aD))))
   (@aE _ _ _ _ _ (fW (dQ fl pl (bK.mono (by decide)) hr rfl bL bJ bM (@ag _ _ _ _ _ _ _ (@cz _ _ _ _ _ (af 2)) (@ag _ _ _ _ _ _ _ (@cz _ _ _ _ _ au) (@ag _ _ _ _ _ _ _ (@cz _ _ _ _ _ (@aL _ _ _ _ _ _ _ _ _ _ _ cD cE (af 0) au)) ak rfl) rfl) rfl) (ah (ah (ah aD)))))))
theorem bY:aH ["fewer", "lower", "counts", "rank", "rest", "fall", "falls", "many"] ["fewer", "lower"] (ai (aB 21)):=⟨rfl,rfl,rfl,by decide +kernel,rfl,by decide +kernel,by decide +kernel⟩
theorem nA (D:aM K mg "rest_counts" (aB 21)) (T:Blt mg):Has P w K mg base g "rest_counts" 1 ["fewer", "lower"] cq:=by
 obtain⟨f,fd,hm,F⟩:=D
 refine⟨f,fd,gH (gx F bY (fun cdv A outer s H E hr=>?_)),F.kp,F.binds (fun _ _ _ _ _ _ us hl=>xj hl fun _ _=>rfl),hm,bh F⟩
 exact(@aw _ _ _ _ _ _ _ (@bO _ _ _ _ _ _ 2 _ _ bY.nd rfl (by first | exact Or.inl rfl | exact Or.inr rfl) (@aL _ _ _ _ _ _ _ _ _ _ _ xn xH (@dm _ _ _ _ _ _ _ _ (@ag _ _ _ _ _ _ _ au ak rfl)) (@aL _ _ _ _ _ _ _ _ _ _ _ cR c_ (bw eF dR rfl T.len PySem.boot_len (@ag _ _ _ _ _ _ _ (af 0) ak rfl)) au)) rfl (.inl rfl))
   (@aw _ _ _ _ _ _ _ (j4 PassesOwn.never rfl (tf rfl T.enumerate (af 0)) (pI rfl (cX (bC (i:=3) bY.nd rfl (by first | exact Or.inl rfl | exact Or.inr rfl)) (cX (bC (i:=4) bY.nd rfl (by first | exact Or.inl rfl | exact Or.inr rfl)) lE))) t5 (@aw _ _ _ _ _ _ _ (@bO _ _ _ _ _ _ 5 _ _ bY.nd rfl (by first | exact Or.inl rfl | exact Or.inr rfl) (@gf _ _ _ _ _ _ _ _ _ _ (@aZ _ _ _ _ _ _ _ _ _ _ _ lj lh (af 3) (af 1) (aY _)) au au) rfl (.inl rfl))
   (@aE _ _ _ _ _ (j4 PassesOwn.never rfl (tf rfl T.enumerate (af 4)) (pI rfl (cX (bC (i:=6) bY.nd rfl (by first | exact Or.inl rfl | exact Or.inr rfl)) (cX (bC (i:=7) bY.nd rfl (by first | exact Or.inl rfl | exact Or.inr rfl)) lE))) t5 (@aE _ _ _ _ _ (EK (af 2) (@aL _ _ _ _ _ _ _ _ _ _ _ cR c_ (af 6) (af 5)) (af 7)))))))
   (@aE _ _ _ _ _ (@bA _ _ _ _ _ _ (af 2)))))
theorem ja:aH ["n", "rests", "left"] ["n"] (ai (aB 20)):=⟨rfl,rfl,rfl,by decide +kernel,rfl,by decide +kernel,by decide +kernel⟩
theorem t7 (D:aM K mg "rests_of" (aB 20)) (T:Blt mg) (fG:Has P w K mg base g "rest_counts" 1 ["fewer", "lower"] cq):Has P w K mg base g "rests_of" 2 ["n"] dC:=by
 obtain⟨f,fd,hm,F⟩:=D
 obtain⟨AF,Ad,m3,nB,nz,nv,_⟩:=fG
 refine⟨f,fd,gH (gx F ja (fun cdv A outer s H E hr=>?_)),F.kp,F.binds (fun _ _ _ _ _ _ us hl=>qd hl fun _=>rfl),hm,bh F⟩
 exact(@aw _ _ _ _ _ _ _ (@bO _ _ _ _ _ _ 1 _ _ ja.nd rfl (by first | exact Or.inl rfl | exact Or.inr rfl) (@dm _ _ _ _ _ _ _ _ (@ag _ _ _ _ _ _ _ (@dm _ _ _ _ _ _ _ _ (@ag _ _ _ _ _ _ _ (@dm _ _ _ _ _ _ _ _ (@ag _ _ _ _ _ _ _ au ak rfl)) ak rfl)) ak rfl)) rfl (.inl rfl))
   (@aw _ _ _ _ _ _ _ (j4 PassesOwn.never rfl (Ex rfl T.range (@ag _ _ _ _ _ _ _ au (@ag _ _ _ _ _ _ _ (@aL _ _ _ _ _ _ _ _ _ _ _ cR c_ (af 0) au) ak rfl) rfl)) (bC (i:=2) ja.nd rfl (by first | exact Or.inl rfl | exact Or.inr rfl)) iN (@aE _ _ _ _ _ (fW (jC PySem.F.slot_list_append PySem.F.type_list_append jL r9 (af 1) (@ag _ _ _ _ _ _ _ (d_ (osc:=ai (aB 20)) [1] ["lower", "rests"] rfl rfl rfl rfl (by decide +kernel) ⟨by decide +kernel,by decide +kernel,rfl,by decide +kernel,rfl,by decide +kernel⟩ (dB rfl T.range (@ag _ _ _ _ _ _ _ (@aL _ _ _ _ _ _ _ _ _ _ _ cR c_ (af 2) au) ak rfl))
    (fun cl C az aG fp=>C4) (fun cl C az aG fp=>(aN (m3.mono (by decide)) hr rfl nv nB nz (@ag _ _ _ _ _ _ _ (@cY _ _ _ _ _ _ _ _ _ _ bW cT (af 1) (@pP _ _ _ _ _ _ _ _ _ kr kz au) (fun _ _=>rfl)) (@ag _ _ _ _ _ _ _ (af 0) ak rfl) rfl) (ah (ah aD))))) ak rfl)))))
   (@aE _ _ _ _ _ (@bA _ _ _ _ _ _ (af 1)))))
theorem qF:aH ["n", "k", "a", "b"] ["n", "k", "a", "b"] (ai (aB 25)):=⟨rfl,rfl,rfl,by decide +kernel,rfl,by decide +kernel,by decide +kernel⟩
theorem pO (D:aM K mg "ends_count" (aB 25)) (T:Blt mg) (gw:lI P w K mg base g "end_needed" 5 ["n", "k", "end"] eG) (aW:lI P w K mg base g "number_needed" 3 ["thing", "least", "most"] bc) (bT:Has P w K mg base g "ends_counted" 1 ["rests", "size", "k", "first", "last"] a_) (df:Has P w K mg base g "rests_of" 2 ["n"] dC):lI P w K mg base g "ends_count" 6 ["n", "k", "a", "b"] dZ:=by
 obtain⟨f,fd,hm,F⟩:=D
 obtain⟨CS,AK,oQ,oG,pL,oH⟩:=gw
 obtain⟨gB,gc,bK,bJ,bM,bL⟩:=aW
 obtain⟨mC,kP,eM,eS,eO,eT,_⟩:=bT
 obtain⟨tG,qO,iu,iH,iI,iq,_⟩:=df
 refine⟨f,fd,vE F qF (fun cdv A outer s H E hr fl pl po=>?_),F.kp,F.binds (fun _ _ _ _ _ _ us hl=>HK hl fun _ _ _ _=>rfl),hm⟩
 exact(@aw _ _ _ _ _ _ _ (fW (dQ fl pl (oQ.mono (by decide)) hr rfl oH oG pL (@ag _ _ _ _ _ _ _ (@cz _ _ _ _ _ (af 0)) (@ag _ _ _ _ _ _ _ (@cz _ _ _ _ _ (af 1)) (@ag _ _ _ _ _ _ _ (@cz _ _ _ _ _ (af 2)) ak rfl) rfl) rfl) (ah (ah (ah aD)))))
   (@aw _ _ _ _ _ _ _ (fW (dQ fl pl (bK.mono (by decide)) hr rfl bL bJ bM (@ag _ _ _ _ _ _ _ (@cz _ _ _ _ _ (af 3)) (@ag _ _ _ _ _ _ _ (@cz _ _ _ _ _ au) (@ag _ _ _ _ _ _ _ (@cz _ _ _ _ _ (@aL _ _ _ _ _ _ _ _ _ _ _ cD cE (af 0) au)) ak rfl) rfl) rfl) (ah (ah (ah aD)))))
   (@aE _ _ _ _ _ (@Iw _ _ _ _ _ (@bA _ _ _ _ _ _ (aN (eM.mono (by decide)) hr rfl eT eS eO (@ag _ _ _ _ _ _ _ (aN (iu.mono (by decide)) hr rfl iq iH iI (@ag _ _ _ _ _ _ _ (af 0) ak rfl) (ah aD)) (@ag _ _ _ _ _ _ _ (af 0) (@ag _ _ _ _ _ _ _ (af 1) (@ag _ _ _ _ _ _ _ (af 2) (@ag _ _ _ _ _ _ _ (af 3) ak rfl) rfl) rfl) rfl) rfl) (ah (ah (ah (ah (ah aD)))))))))))
theorem mT:aH ["n", "k", "a", "b", "rests"] ["n", "k", "a", "b"] (ai (aB 26)):=⟨rfl,rfl,rfl,by decide +kernel,rfl,by decide +kernel,by decide +kernel⟩
theorem qD (D:aM K mg "ends_all" (aB 26)) (T:Blt mg) (MK:D5 K mg base "ends_all" (aB 26)) (dX:Has P w K mg base g "orders_listed" 5 ["n", "many_with"] cF) (fw:lI P w K mg base g "told_needed" 3 ["many"] cj) (fX:lI P w K mg base g "ends_count" 6 ["n", "k", "a", "b"] dZ) (df:Has P w K mg base g "rests_of" 2 ["n"] dC):lI P w K mg base g "ends_all" 7 ["n", "k", "a", "b"] bR:=by
 obtain⟨f,fd,hm,F⟩:=D
 obtain⟨yj,xU,kZ,k7,lO,lu,_⟩:=dX
 obtain⟨AI,zG,nk,m7,nh,nI⟩:=fw
 obtain⟨Cu,AL,oP,pF,ou,qg⟩:=fX
 obtain⟨tG,qO,iu,iH,iI,iq,_⟩:=df
 obtain⟨c,PT,MK⟩:=MK f fd hm F
 refine⟨f,fd,Gj ((bu (aB 26)).take 2) "ends_begun" "begun" "orders_listed" "n" ["rests", "k", "a", "b"] [4,1,2,3] 0 F mT MK (kZ.mono (by decide)) k7 lO lu rfl (fun _=>rfl) (by decide +kernel) (by decide +kernel) rfl ⟨⟨_,_,_,[("rests", _),("k", _),("a", _),("b", _)],rfl,rfl⟩,rfl,rfl,rfl,by decide +kernel,rfl,rfl,by decide +kernel,⟨by decide,by decide⟩,fun _ _ _ _ _=>rfl⟩ rfl (by decide) rfl (by first | exact Or.inl rfl | exact Or.inr (Or.inl rfl)) (by decide) (by decide) (fun cdv A outer s H E hr fl pl po=>?_),F.kp,F.binds (fun _ _ _ _ _ _ us hl=>HK hl fun _ _ _ _=>rfl),hm⟩
 exact(@aw _ _ _ _ _ _ _ (fW (dQ fl pl (nk.mono (by decide)) hr rfl nI m7 nh (@ag _ _ _ _ _ _ _ (dQ fl pl (oP.mono (by decide)) hr rfl qg pF ou (@ag _ _ _ _ _ _ _ (@cz _ _ _ _ _ (af 0)) (@ag _ _ _ _ _ _ _ (@cz _ _ _ _ _ (af 1)) (@ag _ _ _ _ _ _ _ (@cz _ _ _ _ _ (af 2)) (@ag _ _ _ _ _ _ _ (@cz _ _ _ _ _ (af 3)) ak rfl) rfl) rfl) rfl) (ah (ah (ah (ah aD))))) ak rfl) (ah aD)))
   (@aE _ _ _ _ _ (@Iw _ _ _ _ _ (@bO _ _ _ _ _ _ 4 _ _ mT.nd rfl (by first | exact Or.inl rfl | exact Or.inr rfl) (aN (iu.mono (by decide)) hr rfl iq iH iI (@ag _ _ _ _ _ _ _ (af 0) ak rfl) (ah aD)) rfl (.inl rfl)))))
theorem kS:aH ["_law_n", "_law_k", "_law_a", "_law_b", "_law_e"] ["_law_n", "_law_k", "_law_a", "_law_b"] (ai (aB 42)):=⟨rfl,rfl,rfl,by decide +kernel,rfl,by decide +kernel,by decide +kernel⟩
theorem qE (D:aM K mg "_law_told" (aB 42)) (T:Blt mg) (hgo:g=gOf mg) (CL:rq K mg) (eN:Ed P w K mg base g "_law_refused" 2 ["_law_e"] bV) (gQ:lI P w K mg base g "ends_all" 7 ["n", "k", "a", "b"] bR):Has P w K mg base g "_law_told" 8 ["_law_n", "_law_k", "_law_a", "_law_b"] cZ:=by
 obtain⟨f,fd,hm,F⟩:=D
 obtain⟨zB,yn,l5,lQ,mH,mn⟩:=eN
 obtain⟨Dl,A9,qu,rj,qI,qx⟩:=gQ
 refine⟨f,fd,Ci (gx F kS (fun cdv A outer s H E hr=>?_)),F.kp,F.binds (fun _ _ _ _ _ _ us hl=>HK hl fun _ _ _ _=>rfl),hm,bh F⟩
 exact(@aE _ _ _ _ _ (Jg (i:=4) CL hgo ⟨rfl,rfl,rfl⟩ kS.nd rfl rfl rfl rfl (l5.mono (by decide)) (Cz hr) mn lQ mH (fun pn xe E fl pl po=>(@aE _ _ _ _ _ (@bA _ _ _ _ _ _ (dQ fl pl (qu.mono (by decide)) hr rfl qx rj qI (@ag _ _ _ _ _ _ _ (@cz _ _ _ _ _ (af 0)) (@ag _ _ _ _ _ _ _ (@cz _ _ _ _ _ (af 1)) (@ag _ _ _ _ _ _ _ (@cz _ _ _ _ _ (af 2)) (@ag _ _ _ _ _ _ _ (@cz _ _ _ _ _ (af 3)) ak rfl) rfl) rfl) rfl) (ah (ah (ah (ah aD))))))))))
theorem gX:aH ["_law_n", "_law_k", "_law_a", "_law_b", "_law_due", "_law_turn", "_law_found"] ["_law_n", "_law_k", "_law_a", "_law_b", "_law_due"] (ai (aB 45)):=⟨rfl,rfl,rfl,by decide +kernel,rfl,by decide +kernel,by decide +kernel⟩
theorem oY (D:aM K mg "_law_right" (aB 45)) (T:Blt mg) (gU:Has P w K mg base g "_law_told" 8 ["_law_n", "_law_k", "_law_a", "_law_b"] cZ):Has P w K mg base g "_law_right" 9 ["_law_n", "_law_k", "_law_a", "_law_b", "_law_due"] bF:=by
 obtain⟨f,fd,hm,F⟩:=D
 obtain⟨Dq,Bw,qC,qz,qU,qK,_⟩:=gU
 refine⟨f,fd,gH (gx F gX (fun cdv A outer s H E hr=>?_)),F.kp,F.binds (fun _ _ _ _ _ _ us hl=>w_ hl fun _ _ _ _ _=>rfl),hm,bh F⟩
 exact(@aw _ _ _ _ _ _ _ (j4 PassesOwn.never rfl (dB rfl T.range (@ag _ _ _ _ _ _ _ au ak rfl)) (bC (i:=5) gX.nd rfl (by first | exact Or.inl rfl | exact Or.inr rfl)) iN (@aw _ _ _ _ _ _ _ (@bO _ _ _ _ _ _ 6 _ _ gX.nd rfl (by first | exact Or.inl rfl | exact Or.inr rfl) (aN (qC.mono (by decide)) hr rfl qK qz qU (@ag _ _ _ _ _ _ _ (af 0) (@ag _ _ _ _ _ _ _ (af 1) (@ag _ _ _ _ _ _ _ (af 2) (@ag _ _ _ _ _ _ _ (af 3) ak rfl) rfl) rfl) rfl) (ah (ah (ah (ah aD))))) rfl (.inl rfl))
   (@aw _ _ _ _ _ _ _ (@i3 _ _ _ _ _ _ _ _ _ _ (@aZ _ _ _ _ _ _ _ _ _ _ _ (wV hr.units) Bn (bw (yD hr.gd hr.units) y0 rfl T.repr PyProof.Rows.boot_repr (@ag _ _ _ _ _ _ _ (af 6) ak rfl)) (bw (yD hr.gd hr.units) y0 rfl T.repr PyProof.Rows.boot_repr (@ag _ _ _ _ _ _ _ (af 4) ak rfl)) (aY _)) (@aE _ _ _ _ _ (@bA _ _ _ _ _ _ pw)) b8)
   (@aE _ _ _ _ _ (@i3 _ _ _ _ _ _ _ _ _ _ (@jd _ _ _ _ _ _ pG (wG (af 6) rfl T.isinstance rfl T.list PyProof.Rows.boot_list) (fun _=>rfl)) (@aE _ _ _ _ _ (fW (jC PySem.F.slot_list_append PySem.F.type_list_append jL r9 (af 6) (@ag _ _ _ _ _ _ _ (@cW _ _ _ _ _ _ _ ak) ak rfl)))) b8)))))
   (@aE _ _ _ _ _ (@bA _ _ _ _ _ _ pw)))
theorem dH:aH ["_law_n", "_law_found", "_law_turn", "_law_longer", "_law_begun"] ["_law_n"] (ai (aB 39)):=⟨rfl,rfl,rfl,by decide +kernel,rfl,by decide +kernel,by decide +kernel⟩
theorem uy (D:aM K mg "_law_all" (aB 39)) (T:Blt mg):Has P w K mg base g "_law_all" 1 ["_law_n"] dG:=by
 obtain⟨f,fd,hm,F⟩:=D
 refine⟨f,fd,GK (gH (gx F dH (fun cdv A outer s H E hr=>?_))),F.kp,F.binds (fun _ _ _ _ _ _ us hl=>qd hl fun _=>rfl),hm,bh F⟩
 exact(@aw _ _ _ _ _ _ _ (@bO _ _ _ _ _ _ 1 _ _ dH.nd rfl (by first | exact Or.inl rfl | exact Or.inr rfl) (@dm _ _ _ _ _ _ _ _ (@ag _ _ _ _ _ _ _ (@cW _ _ _ _ _ _ _ ak) ak rfl)) rfl (.inl rfl))
   (@aw _ _ _ _ _ _ _ (j4 PassesOwn.never rfl (dB rfl T.range (@ag _ _ _ _ _ _ _ (af 0) ak rfl)) (bC (i:=2) dH.nd rfl (by first | exact Or.inl rfl | exact Or.inr rfl)) iN (@aw _ _ _ _ _ _ _ (@bO _ _ _ _ _ _ 3 _ _ dH.nd rfl (by first | exact Or.inl rfl | exact Or.inr rfl) (@dm _ _ _ _ _ _ _ _ ak) rfl (.inl rfl))
   (@aw _ _ _ _ _ _ _ (j4 PassesOwn.never rfl (@iA _ _ _ _ _ _ (af 1)) (bC (i:=4) dH.nd rfl (by first | exact Or.inl rfl | exact Or.inr rfl)) iN (@aE _ _ _ _ _ (fW (jC PySem.F.slot_list_extend PySem.F.type_list_extend pT rR (af 3) (@ag _ _ _ _ _ _ _ (d_ (osc:=ai (aB 39)) [4] ["_law_number", "_law_begun"] rfl rfl rfl rfl (by decide +kernel) ⟨by decide +kernel,by decide +kernel,rfl,by decide +kernel,rfl,by decide +kernel⟩ (dB rfl T.range (@ag _ _ _ _ _ _ _ (af 0) ak rfl))
    (fun cl C az aG fp=>(gb (@aZ _ _ _ _ _ _ _ _ _ _ _ fO r_ (af 0) (af 1) (by rfl)))) (fun cl C az aG fp=>(@aL _ _ _ _ _ _ _ _ _ _ _ cR c_ (af 1) (@cW _ _ _ _ _ _ _ (@ag _ _ _ _ _ _ _ (af 0) ak rfl))))) ak rfl)))))
   (@aE _ _ _ _ _ (@bO _ _ _ _ _ _ 1 _ _ dH.nd rfl (by first | exact Or.inl rfl | exact Or.inr rfl) (af 3) rfl (.inl rfl))))))
   (@aE _ _ _ _ _ (@bA _ _ _ _ _ _ (af 1)))))
theorem eB:aH ["_law_script", "_law_at", "_law_cell", "_law_pen", "_law_way", "_law_n", "_law_k", "_law_a", "_law_b", "_law_known", "_law_many", "_law_due", "_law_orders"] ["_law_script"] (ai (aB 46)):=⟨rfl,rfl,rfl,by decide +kernel,rfl,by decide +kernel,by decide +kernel⟩
theorem DK (D:aM K mg "law" (aB 46)) (T:Blt mg) (eY:Has P w K mg base g "_law_cell_at" 1 ["_law_script", "_law_k"] bX) (fC:Has P w K mg base g "_law_pen_of" 1 ["_law_cell"] cw) (gK:Has P w K mg base g "_law_draw" 2 ["_law_pen", "_law_many"] av) (cJ:Has P w K mg base g "_law_ends" 14 ["_law_n", "_law_k", "_law_a", "_law_b", "_law_known"] (aU 14)) (fB:Has P w K mg base g "_law_listed" 16 ["_law_n", "_law_k", "_law_a", "_law_b", "_law_known"] bE) (f9:Has P w K mg base g "_law_right" 9 ["_law_n", "_law_k", "_law_a", "_law_b", "_law_due"] bF) (iG:Has P w K mg base g "_law_all" 1 ["_law_n"] dG) (cA:Has P w K mg base g "_law_falls" 1 ["_law_row"] bx):Has P w K mg base g "law" 17 ["_law_script"] pU:=by
 obtain⟨f,fd,hm,F⟩:=D
 obtain⟨zl,yF,mq,lS,l_,l4,_⟩:=eY
 obtain⟨AN,zR,nQ,m9,m6,nE,_⟩:=fC
 obtain⟨Dp,CB,bq,bp,bt,bo,_⟩:=gK
 obtain⟨qT,oR,gS,g6,gJ,g7,_⟩:=cJ
 obtain⟨AJ,zZ,nG,nJ,nR,nD,_⟩:=fB
 obtain⟨A_,AO,jc,jz,jq,jk,_⟩:=f9
 obtain⟨Du,Dh,tQ,tP,tO,sQ,_⟩:=iG
 obtain⟨p_,nF,eh,eD,dW,eg,_⟩:=cA
 refine⟨f,fd,gH (gx F eB (fun cdv A outer s H E hr=>?_)),F.kp,F.binds (fun _ _ _ _ _ _ us hl=>qd hl fun _=>rfl),hm,bh F⟩
 exact(@aw _ _ _ _ _ _ _ (j4 PassesOwn.never rfl (tf rfl T.enumerate (@aL _ _ _ _ _ _ _ _ _ _ _ cR c_ (@dm _ _ _ _ _ _ _ _ (@ag _ _ _ _ _ _ _ (aN (mq.mono (by decide)) hr rfl l4 lS l_ (@ag _ _ _ _ _ _ _ (af 0) (@ag _ _ _ _ _ _ _ au ak rfl) rfl) (ah (ah aD))) ak rfl)) (oB (af 0) (@nW _ _ _ _ _ au) (@nW _ _ _ _ _ au)))) (pI rfl (cX (bC (i:=1) eB.nd rfl (by first | exact Or.inl rfl | exact Or.inr rfl)) (cX (bC (i:=2) eB.nd rfl (by first | exact Or.inl rfl | exact Or.inr rfl)) lE))) t5 (@aw _ _ _ _ _ _ _ (@bO _ _ _ _ _ _ 3 _ _ eB.nd rfl (by first | exact Or.inl rfl | exact Or.inr rfl) (aN (nQ.mono (by decide)) hr rfl nE m9 m6 (@ag _ _ _ _ _ _ _ (af 2) ak rfl) (ah aD)) rfl (.inl rfl))
   (@aw _ _ _ _ _ _ _ (GZ (i:=4) (j:=5) rfl eB.nd rfl rfl (by decide) (@ag _ _ _ _ _ _ _ (aN (bq.mono (by decide)) hr rfl bo bp bt (@ag _ _ _ _ _ _ _ (af 3) (@ag _ _ _ _ _ _ _ au ak rfl) rfl) (ah (ah aD))) (@ag _ _ _ _ _ _ _ (@aL _ _ _ _ _ _ _ _ _ _ _ cR c_ au (aN (bq.mono (by decide)) hr rfl bo bp bt (@ag _ _ _ _ _ _ _ (af 3) (@ag _ _ _ _ _ _ _ au ak rfl) rfl) (ah (ah aD)))) ak rfl) rfl))
   (@aw _ _ _ _ _ _ _ (@bO _ _ _ _ _ _ 6 _ _ eB.nd rfl (by first | exact Or.inl rfl | exact Or.inr rfl) (@cY _ _ _ _ _ _ _ _ _ _ bW cT (@dm _ _ _ _ _ _ _ _ (@ag _ _ _ _ _ _ _ au (@ag _ _ _ _ _ _ _ (@aL _ _ _ _ _ _ _ _ _ _ _ cD cE (af 5) au) (@ag _ _ _ _ _ _ _ au (@ag _ _ _ _ _ _ _ (aN (bq.mono (by decide)) hr rfl bo bp bt (@ag _ _ _ _ _ _ _ (af 3) (@ag _ _ _ _ _ _ _ au ak rfl) rfl) (ah (ah aD))) (@ag _ _ _ _ _ _ _ (aN (bq.mono (by decide)) hr rfl bo bp bt (@ag _ _ _ _ _ _ _ (af 3) (@ag _ _ _ _ _ _ _ (af 5) ak rfl) rfl) (ah (ah aD))) ak rfl) rfl) rfl) rfl) rfl)) (af 4) (fun _ _=>rfl)) rfl (.inl rfl))
   (@aw _ _ _ _ _ _ _ (@bO _ _ _ _ _ _ 6 _ _ eB.nd rfl (by first | exact Or.inl rfl | exact Or.inr rfl) (bw (rF rfl) yh rfl T.max PyProof.Rows.boot_max (@ag _ _ _ _ _ _ _ au (@ag _ _ _ _ _ _ _ (af 6) ak rfl) rfl)) rfl (.inl rfl))
   (@aw _ _ _ _ _ _ _ (Jp (i:=7) (j:=8) rfl eB.nd rfl rfl (@cW _ _ _ _ _ _ _ (@ag _ _ _ _ _ _ _ (aN (bq.mono (by decide)) hr rfl bo bp bt (@ag _ _ _ _ _ _ _ (af 3) (@ag _ _ _ _ _ _ _ (af 5) ak rfl) rfl) (ah (ah aD))) (@ag _ _ _ _ _ _ _ (aN (bq.mono (by decide)) hr rfl bo bp bt (@ag _ _ _ _ _ _ _ (af 3) (@ag _ _ _ _ _ _ _ (af 5) ak rfl) rfl) (ah (ah aD))) ak rfl) rfl)))
   (@aw _ _ _ _ _ _ _ (@bO _ _ _ _ _ _ 9 _ _ eB.nd rfl (by first | exact Or.inl rfl | exact Or.inr rfl) EW rfl (.inl rfl))
   (@aw _ _ _ _ _ _ _ (@bO _ _ _ _ _ _ 10 _ _ eB.nd rfl (by first | exact Or.inl rfl | exact Or.inr rfl) (aN (gS.mono (by decide)) hr rfl g7 g6 gJ (@ag _ _ _ _ _ _ _ (af 5) (@ag _ _ _ _ _ _ _ (af 6) (@ag _ _ _ _ _ _ _ (af 7) (@ag _ _ _ _ _ _ _ (af 8) (@ag _ _ _ _ _ _ _ (af 9) ak rfl) rfl) rfl) rfl) rfl) (ah (ah (ah (ah (ah aD)))))) rfl (.inl rfl))
   (@aw _ _ _ _ _ _ _ (@bO _ _ _ _ _ _ 11 _ _ eB.nd rfl (by first | exact Or.inl rfl | exact Or.inr rfl) (@gf _ _ _ _ _ _ _ _ _ _ (@aZ _ _ _ _ _ _ _ _ _ _ _ lj lh (af 10) au (aY _)) (aN (nG.mono (by decide)) hr rfl nD nJ nR (@ag _ _ _ _ _ _ _ (af 5) (@ag _ _ _ _ _ _ _ (af 6) (@ag _ _ _ _ _ _ _ (af 7) (@ag _ _ _ _ _ _ _ (af 8) (@ag _ _ _ _ _ _ _ (af 9) ak rfl) rfl) rfl) rfl) rfl) (ah (ah (ah (ah (ah aD)))))) (@cW _ _ _ _ _ _ _ (@ag _ _ _ _ _ _ _ f7 (@ag _ _ _ _ _ _ _ (af 10) (@ag _ _ _ _ _ _ _ au ak rfl) rfl) rfl))) rfl (.inl rfl))
   (@aw _ _ _ _ _ _ _ (@i3 _ _ _ _ _ _ _ _ _ _ (@tL _ _ _ _ _ _ (@jd _ _ _ _ _ _ pG (aN (jc.mono (by decide)) hr rfl jk jz jq (@ag _ _ _ _ _ _ _ (af 5) (@ag _ _ _ _ _ _ _ (af 6) (@ag _ _ _ _ _ _ _ (af 7) (@ag _ _ _ _ _ _ _ (af 8) (@ag _ _ _ _ _ _ _ (af 11) ak rfl) rfl) rfl) rfl) rfl) (ah (ah (ah (ah (ah aD)))))) (fun _=>rfl))) (@aE _ _ _ _ _ (@bA _ _ _ _ _ _ pw)) b8)
   (@aE _ _ _ _ _ (@i3 _ _ _ _ _ _ _ _ _ _ (@aZ _ _ _ _ _ _ _ _ _ _ _ (dq hr.units) fJ (af 1) au (aY _)) (@aw _ _ _ _ _ _ _ (@bO _ _ _ _ _ _ 5 _ _ eB.nd rfl (by first | exact Or.inl rfl | exact Or.inr rfl) (@aL _ _ _ _ _ _ _ _ _ _ _ cR c_ au (aN (bq.mono (by decide)) hr rfl bo bp bt (@ag _ _ _ _ _ _ _ (af 3) (@ag _ _ _ _ _ _ _ au ak rfl) rfl) (ah (ah aD)))) rfl (.inl rfl))
   (@aw _ _ _ _ _ _ _ (Ja (i:=6) (j:=7) (k:=8) rfl eB.nd rfl rfl rfl (@cW _ _ _ _ _ _ _ (@ag _ _ _ _ _ _ _ (aN (bq.mono (by decide)) hr rfl bo bp bt (@ag _ _ _ _ _ _ _ (af 3) (@ag _ _ _ _ _ _ _ (af 5) ak rfl) rfl) (ah (ah aD))) (@ag _ _ _ _ _ _ _ (aN (bq.mono (by decide)) hr rfl bo bp bt (@ag _ _ _ _ _ _ _ (af 3) (@ag _ _ _ _ _ _ _ (af 5) ak rfl) rfl) (ah (ah aD))) (@ag _ _ _ _ _ _ _ (aN (bq.mono (by decide)) hr rfl bo bp bt (@ag _ _ _ _ _ _ _ (af 3) (@ag _ _ _ _ _ _ _ (af 5) ak rfl) rfl) (ah (ah aD))) ak rfl) rfl) rfl)))
   (@aw _ _ _ _ _ _ _ (iQ (osc:=ai (aB 46)) [6] ["_law_one", "_law_k"] rfl rfl rfl rfl (by decide +kernel) ⟨by decide +kernel,by decide +kernel,rfl,by decide +kernel,rfl,by decide +kernel⟩ (@iA _ _ _ _ _ _ (aN (tQ.mono (by decide)) hr rfl sQ tP tO (@ag _ _ _ _ _ _ _ (af 5) ak rfl) (ah aD)))
    (fun cl C az aG fp=>(gb (@aZ _ _ _ _ _ _ _ _ _ _ _ (dq hr.units) fJ (bw eF dR rfl T.len PySem.boot_len (@ag _ _ _ _ _ _ _ (aN (eh.mono (by decide)) hr rfl eg eD dW (@ag _ _ _ _ _ _ _ (af 0) ak rfl) (ah aD)) ak rfl)) (af 1) (aY _)))) (fun cl C az aG fp=>(af 0)) (i:=12) eB.nd rfl)
   (@aE _ _ _ _ _ (@i3 _ _ _ _ _ _ _ _ _ _ (@tL _ _ _ _ _ _ (@jd _ _ _ _ _ _ pG (aN (jc.mono (by decide)) hr rfl jk jz jq (@ag _ _ _ _ _ _ _ (af 5) (@ag _ _ _ _ _ _ _ (af 6) (@ag _ _ _ _ _ _ _ (af 7) (@ag _ _ _ _ _ _ _ (af 8) (@ag _ _ _ _ _ _ _ (d_ (osc:=ai (aB 46)) [7,8] ["_law_one", "_law_a", "_law_b"] rfl rfl rfl rfl (by decide +kernel) ⟨by decide +kernel,by decide +kernel,rfl,by decide +kernel,rfl,by decide +kernel⟩ (@iA _ _ _ _ _ _ (af 12))
    (fun cl C az aG fp=>(gb (@aZ _ _ _ _ _ _ _ _ _ _ _ (dq hr.units) fJ (@cW _ _ _ _ _ _ _ (@ag _ _ _ _ _ _ _ (@cY _ _ _ _ _ _ _ _ _ _ bW cT (af 0) au (fun _ _=>rfl)) (@ag _ _ _ _ _ _ _ (@cY _ _ _ _ _ _ _ _ _ _ bW cT (af 0) (@pP _ _ _ _ _ _ _ _ _ kr kz au) (fun _ _=>rfl)) ak rfl) rfl)) (@cW _ _ _ _ _ _ _ (@ag _ _ _ _ _ _ _ (af 1) (@ag _ _ _ _ _ _ _ (af 2) ak rfl) rfl)) (aY _)))) (fun cl C az aG fp=>(af 0))) ak rfl) rfl) rfl) rfl) rfl) (ah (ah (ah (ah (ah aD)))))) (fun _=>rfl))) (@aE _ _ _ _ _ (@bA _ _ _ _ _ _ pw)) b8))))) b8))))))))))))
   (@aE _ _ _ _ _ (@bA _ _ _ _ _ _ pw)))
theorem xw:aH ["self", "row"] ["self", "row"] (ai (bG (aB 7))):=⟨rfl,rfl,rfl,by decide +kernel,rfl,by decide +kernel,by decide +kernel⟩
theorem vZ:∀y∈(["self", "row"]:List Str),(ai (bG (aB 7))).names.lookup y=some .local:=by decide +kernel
theorem xy:jh (bu (bG (aB 7))) ["row"]:=jh.cons rfl (.nil)
theorem xh:∀(kV doc pm:Value) (an:Option Addr) (cdv ct:Value) (us:List Value),us.length=(["self", "row"]:List Str).length->bindArgs (PySem.W.fnOf "__init__" "NoText.__init__" (dU (bG (aB 7))) (bu (bG (aB 7))) (ai (bG (aB 7))) .none kV doc pm an cdv ct) ⟨us,[]⟩=pure ((["self", "row"]:List Str).zip us):=fun _ _ _ _ _ _ us hl=>xj hl fun _ _=>rfl
theorem t_:aH ["self", "many", "most"] ["self", "many", "most"] (ai (bG (aB 8))):=⟨rfl,rfl,rfl,by decide +kernel,rfl,by decide +kernel,by decide +kernel⟩
theorem rA:∀y∈(["self", "many", "most"]:List Str),(ai (bG (aB 8))).names.lookup y=some .local:=by decide +kernel
theorem tY:jh (bu (bG (aB 8))) ["many", "most"]:=jh.cons rfl (jh.cons rfl (.nil))
theorem sY:∀(kV doc pm:Value) (an:Option Addr) (cdv ct:Value) (us:List Value),us.length=(["self", "many", "most"]:List Str).length->bindArgs (PySem.W.fnOf "__init__" "TooGreat.__init__" (dU (bG (aB 8))) (bu (bG (aB 8))) (ai (bG (aB 8))) .none kV doc pm an cdv ct) ⟨us,[]⟩=pure ((["self", "many", "most"]:List Str).zip us):=fun _ _ _ _ _ _ us hl=>Dc hl fun _ _ _=>rfl
end
structure Text (K:PySem.W.Frag) (ts:List Addr):Prop where
 gv:bQ K "_law_cell_at" (aB 32)
 gZ:bQ K "_law_pen_of" (aB 34)
 jI:bQ K "_law_next" (aB 33)
 jt:bQ K "_law_draw" (aB 35)
 jA:bQ K "_law_ends" (aB 41)
 iO:bQ K "_law_falls" (aB 38)
 ju:bQ K "_law_left" (aB 43)
 gL:bQ K "_law_listed" (aB 44)
 fZ:bQ K "_law_kind_of" (aB 36)
 gq:bQ K "_law_refused" (aB 37)
 kg:bQ K "falls_in" (aB 14)
 fU:bQ K "ends_counted" (aB 28)
 gY:bQ K "rank_beside" (aB 30)
 iP:bQ K "ends_begun" (aB 29)
 gT:bQ K "longer_ones" (aB 22)
 fF:bQ K "orders_listed" (aB 23)
 gR:bQ K "told_needed" (aB 19)
 kG:bQ K "is_whole" (aB 10)
 jy:bQ K "is_within" (aB 11)
 fq:bQ K "number_needed" (aB 12)
 eQ:bQ K "numbers_needed" (aB 18)
 iy:bQ K "end_needed" (aB 27)
 gM:bQ K "rest_counts" (aB 21)
 km:bQ K "rests_of" (aB 20)
 iL:bQ K "ends_count" (aB 25)
 kA:bQ K "ends_all" (aB 26)
 jx:bQ K "_law_told" (aB 42)
 iC:bQ K "_law_right" (aB 45)
 kj:bQ K "_law_all" (aB 39)
 De:bQ K "law" (aB 46)
 cls:Cg K
 lR:CIs K "NoText" (aB 7) ["row"]
 jB:CIs K "TooGreat" (aB 8) ["many", "most"]
 iR:PySem.W.nsIn K mainGlobals "ValueError" = some none
 xE:PySem.W.nsIn K mainGlobals "bool" = some none
 je:PySem.W.nsIn K mainGlobals "enumerate" = some none
 BY:PySem.W.nsIn K mainGlobals "int" = some none
 iD:PySem.W.nsIn K mainGlobals "isinstance" = some none
 C9:PySem.W.nsIn K mainGlobals "len" = some none
 wX:PySem.W.nsIn K mainGlobals "list" = some none
 B4:PySem.W.nsIn K mainGlobals "max" = some none
 uw:PySem.W.nsIn K mainGlobals "range" = some none
 xC:PySem.W.nsIn K mainGlobals "repr" = some none
 Bg:PySem.W.nsIn K mainGlobals "sum" = some none
 sX:PySem.W.nsIn K mainGlobals "tuple" = some none
 dA:∃t,PySem.W.nsIn K mainGlobals "MOST_LISTED" = some (some (Value.int 12 t))
 fc:∃t,PySem.W.nsIn K mainGlobals "MOST_TOLD" = some (some (Value.int 300 t))
 kx:Gd K ts "ends_all" (aB 26)
theorem all_mk {P:Program} {w:World} {K:PySem.W.Frag} {h:Heap} {mg:Str->Option Value} {fa:Addr} (X:K.In h) (G:h.Ns mainGlobals mg) (hfa:mg "law" = some (.ref fa)) {ts:List Addr} (hU:mkU K=true) (t:Text K ts) :
  ∃fd:FuncData,(∀(s:Shared) (v:Value),BindsTo s fd ⟨[v],[]⟩ [("_law_script", v)])/\∀base:Heap,K.In base->base.Ns mainGlobals mg->(∀P∈ts,base.BuiltinsAt mg P)->cQ P w K mg base CX0 17 fa fd ["_law_script"] (spM K (gOf mg) 1 pU):=by
 have T:Blt mg:=⟨PySem.W.mg_none_of X G t.iR,PySem.W.mg_none_of X G t.xE,PySem.W.mg_none_of X G t.je,PySem.W.mg_none_of X G t.BY,PySem.W.mg_none_of X G t.iD,PySem.W.mg_none_of X G t.C9,PySem.W.mg_none_of X G t.wX,PySem.W.mg_none_of X G t.B4,PySem.W.mg_none_of X G t.uw,PySem.W.mg_none_of X G t.xC,PySem.W.mg_none_of X G t.Bg,PySem.W.mg_none_of X G t.sX⟩
 obtain⟨j0,dA⟩:=t.dA
 have e9:=PySem.W.mg_of X G dA
 obtain⟨mS,fc⟩:=t.fc
 have gF:=PySem.W.mg_of X G fc
 have pB:=aM.of X G t.gv
 have qR:=aM.of X G t.gZ
 have wm:=aM.of X G t.jI
 have u9:=aM.of X G t.jt
 have vo:=aM.of X G t.jA
 have uc:=aM.of X G t.iO
 have vf:=aM.of X G t.ju
 have qy:=aM.of X G t.gL
 have pZ:=aM.of X G t.fZ
 have qh:=aM.of X G t.gq
 have xt:=aM.of X G t.kg
 have pA:=aM.of X G t.fU
 have qW:=aM.of X G t.gY
 have uu:=aM.of X G t.iP
 have qH:=aM.of X G t.gT
 have m4:=aM.of X G t.fF
 have qA:=aM.of X G t.gR
 have wH:=aM.of X G t.kG
 have vz:=aM.of X G t.jy
 have nK:=aM.of X G t.fq
 have mz:=aM.of X G t.eQ
 have uk:=aM.of X G t.iy
 have qP:=aM.of X G t.gM
 have xM:=aM.of X G t.km
 have tV:=aM.of X G t.iL
 have wQ:=aM.of X G t.kA
 have uU:=aM.of X G t.jx
 have tR:=aM.of X G t.iC
 have wF:=aM.of X G t.kj
 have Il:=aM.of X G t.De
 have CL:=rq.of X G t.cls
 have lY:=CIm.of X G t.lR
 have cS:=CIm.of X G t.jB
 obtain⟨f,fd,hm,F⟩:=Il
 have e:=hfa.symm.trans hm
 cases e
 refine⟨fd,?_,fun base _ _ hBA=>?_⟩
 ·obtain⟨oc,od,kV,doc,pm,an,cdv,ct,osl,rfl,lk,hcd⟩:=F.ex
  exact fun s v=>.of_eq rfl
 ·have eY:=mB (P:=P) (w:=w) (base:=base) (g:=gOf mg) pB T
  have fC:=nj (P:=P) (w:=w) (base:=base) (g:=gOf mg) qR T
  have gO:=qY (P:=P) (w:=w) (base:=base) (g:=gOf mg) wm T
  have gK:=qt (P:=P) (w:=w) (base:=base) (g:=gOf mg) u9 T gO
  have cJ:=qB (P:=P) (w:=w) (base:=base) (g:=gOf mg) vo T
  have cA:=pq (P:=P) (w:=w) (base:=base) (g:=gOf mg) uc T
  have gP:=qL (P:=P) (w:=w) (base:=base) (g:=gOf mg) vf T cA cJ
  have fB:=nV (P:=P) (w:=w) (base:=base) (g:=gOf mg) qy T gP
  have eP:=mw (P:=P) (w:=w) (base:=base) (g:=gOf mg) pZ T rfl CL
  have eN:=lX (P:=P) (w:=w) (base:=base) (g:=gOf mg) qh T rfl lY cS eP
  have iM:=uf (P:=P) (w:=w) (base:=base) (g:=gOf mg) xt T
  have bT:=mL (P:=P) (w:=w) (base:=base) (g:=gOf mg) pA T
  have fm:=nN (P:=P) (w:=w) (base:=base) (g:=gOf mg) qW T
  have gi:=pE (P:=P) (w:=w) (base:=base) (g:=gOf mg) uu T iM bT fm
  have fH:=nP (P:=P) (w:=w) (base:=base) (g:=gOf mg) qH T gi
  have dX:=lq (P:=P) (w:=w) (base:=base) (g:=gOf mg) m4 T fH
  have fw:=nS (P:=P) (w:=w) (base:=base) (g:=gOf mg) qA T rfl cS gF
  have ir:=tB (P:=P) (w:=w) (base:=base) (g:=gOf mg) wH T
  have gW:=qV (P:=P) (w:=w) (base:=base) (g:=gOf mg) vz T ir
  have aW:=kK (P:=P) (w:=w) (base:=base) (g:=gOf mg) nK T rfl CL gW
  have dF:=kc (P:=P) (w:=w) (base:=base) (g:=gOf mg) mz T e9 aW
  have gw:=qr (P:=P) (w:=w) (base:=base) (g:=gOf mg) uk T dF aW
  have fG:=nA (P:=P) (w:=w) (base:=base) (g:=gOf mg) qP T
  have df:=t7 (P:=P) (w:=w) (base:=base) (g:=gOf mg) xM T fG
  have fX:=pO (P:=P) (w:=w) (base:=base) (g:=gOf mg) tV T gw aW bT df
  have gQ:=qD (P:=P) (w:=w) (base:=base) (g:=gOf mg) wQ T (D5.of X G hBA hU t.kx) dX fw fX df
  have gU:=qE (P:=P) (w:=w) (base:=base) (g:=gOf mg) uU T rfl CL eN gQ
  have f9:=oY (P:=P) (w:=w) (base:=base) (g:=gOf mg) tR T gU
  have iG:=uy (P:=P) (w:=w) (base:=base) (g:=gOf mg) wF T
  have EX:=DK (P:=P) (w:=w) (base:=base) (g:=gOf mg) ⟨_,_,hm,F⟩ T eY fC gK cJ fB f9 iG cA
  exact Hb F hm EX
theorem walk {l:PySem.W.OpenLaw} {q:Program} {loose:List Str} {XP:(Str->Option Value)->Heap->Prop} {YP:World->Heap->Prop} {d:DefRec} {K:Params->PySem.W.Frag} {ts:List Addr} (hn:l.most=some 63) (hdf:d.params.defaults=[])
  (hY:∀(w:World) (h:Heap),YP w h->(K w.params).In h) (hT:∀(w:World) (h:Heap),YP w h->∀P∈ts,h.get? P=some (PySem.W.tabObj #[])) (hI:∀P,Gv (K P) ts=true)
  (ok:∀ns:List Int,ns.length<=63->∃h,pU [.scr (ns.map D.int)] []=.ok (.bl true) h)
  (F:∀(w:World) (mg:Str->Option Value) (fa:Addr) (h:Heap),(K w.params).In h->h.Ns mainGlobals mg->mg d.name=some (.ref fa) →
   ∃fd:FuncData,(∀(s:Shared) (u:Value),BindsTo s fd ⟨[u],[]⟩ [("_law_script", u)])/\∀base:Heap,(K w.params).In base->base.Ns mainGlobals mg->(∀P∈ts,base.BuiltinsAt mg P)->cQ l.prog w (K w.params) mg base CX0 17 fa fd ["_law_script"] (spM (K w.params) (gOf mg) 1 pU)) :
  PySem.W.WalkO q loose XP YP l.row.toRowW d [] (fun f vs=>PySem.call f vs):=
 EC (k:=17) hn hdf ⟨rfl,by decide,by decide,rfl⟩ hY hT hI ok F
theorem fT {i:Int} (h1:-(10 ^ 30)<=i) (h2:i<=10 ^ 30):sml i=true:=F4 (Nat.le_trans (show i.natAbs<=10 ^ 30 by omega) (by decide +kernel))
theorem Bd {h:Hh} {n:Nat} {ds:List D} (e:ax h n=some ds):n<h.length:=by
 unfold ax at e
 by_cases hl:n<h.length
 ·exact hl
 ·rw[List.getElem?_eq_none (by omega)] at e;cases e
theorem yM {h:Hh} {n:Nat} {ds es:List D} (e:ax h n=some ds):ax (h.set n (.lst es)) n=some es:=by
 unfold ax;rw[List.getElem?_set_self (Bd e)]
theorem kY {h t:Hh} {n:Nat} {ds:List D} (e:ax h n=some ds):ax (h++t) n=some ds:=by
 have:=Bd e
 unfold ax at e ⊢;rw[List.getElem?_append_left this];exact e
theorem zh {h t:Hh} {n:Nat} {o:O} (hn:n<h.length):(h++t).set n o=h.set n o++t:=List.set_append_left _ _ hn
structure Pen where
 a:Int
 b:Int
 s:Int
noncomputable abbrev qJ (p:Pen):List D:=[.int p.a,.int p.b,.int p.s]
noncomputable def nxt (x:Int):Int:=((x+7919) % 2147483647*((x+7919) % 2147483647)+48271*((x+7919) % 2147483647)+12345) % 2147483629
noncomputable def jv (p:Pen) (m:Int):Int:=if p.b=1/\0<p.a then p.a % m else nxt (nxt p.s+7) / 64 % m
noncomputable def jw (p:Pen) (m:Int):Pen:=if p.b=1/\0<p.a then ⟨p.a / m,p.b,p.s⟩ else ⟨p.a,p.b,nxt (nxt p.s+7)⟩
theorem Es (p:Pen) {m:Int} (h:0<m):0<=jv p m:=by unfold jv;split<;>exact Int.emod_nonneg _ (by omega)
theorem C5 (p:Pen) {m:Int} (h:0<m):jv p m<m:=by unfold jv;split<;>exact Int.emod_lt_of_pos _ h
@[simp] theorem Ko {x:Int} {h:Hh}:dM [.int x] h=.ok (.int (nxt x)) h:=by
 have h1:0<=(x+7919) % 2147483647:=Int.emod_nonneg _ (by decide)
 have h2:(x+7919) % 2147483647<2147483647:=Int.emod_lt_of_pos _ (by decide)
 have s1:sml ((x+7919) % 2147483647)=true:=fT (by omega) (by omega)
 have s2:sml 48271=true:=by decide +kernel
 simp[dM,aX,s1,s2,nxt]
theorem FU {p:Pen} {m:Int} {h:Hh} {n:Nat} (e:ax h n=some (qJ p)) (hm:0<m) (hm2:m<=10 ^ 20):av [.ref n,.int m] h=.ok (.int (jv p m)) (h.set n (.lst (qJ (jw p m)))):=by
 have s1:sml m=true:=fT (by omega) (by omega)
 have s2:sml 64=true:=by decide +kernel
 have i2:∀(x y z:Int) (h:Hh),ixK [D.int x,.int y,.int z] 2 h=.ok (.int z) h:=fun _ _ _ _=>rfl
 have n0:ixN (qJ p).length 0=some 0:=rfl
 have n2:ixN (qJ p).length 2=some 2:=rfl
 by_cases c:p.b=1
 ·by_cases c2:0<p.a
  ·simp[av,aX,oF e,c,c2,hm,s1,n_ e n0,jv,jw]
  ·simp[av,aX,oF e,c,c2,i2,n_ e n2,oF (yM e),s1,s2,hm,jv,jw]
 ·simp[av,aX,oF e,c,i2,n_ e n2,oF (yM e),s1,s2,hm,jv,jw]
@[simp] theorem iJ {p:Pen} {m:Int} {h t:Hh} (hm:0<m/\m<=10 ^ 20):av [.ref h.length,.int m] (h++.lst (qJ p)::t)=.ok (.int (jv p m)) (h++.lst (qJ (jw p m))::t):=by
 rw[FU cb hm.1 hm.2,lD]
noncomputable def wB (c:Int):Pen:=⟨max c (0 - c),if max c (0 - c) ≥ 10 ^ 18 then 1 else 0,max c (0 - c) % 1000003⟩
@[simp] theorem LH {c:Int} {h:Hh}:cw [.int c] h=.ok (.ref h.length) (h++[.lst (qJ (wB c))]):=by
 have s1:sml 10=true:=by decide +kernel
 simp[cw,aX,s1,wB]
@[simp] theorem Kl {ns:List Int} {h:Hh}:bX [.scr (ns.map D.int),.int 0] h=.ok (.int (ns.headD 0)) h:=by
 cases ns with
 | nil=>simp[bX,aX]
 | cons c r=>simp[bX,aX]
@[simp] theorem JS {i:Int} {h:Hh}:gk [.int i] h=.ok (.bl true) h:=by simp[gk,aX]
@[simp] theorem JG {i a b:Int} {h:Hh}:e_ [.int i,.int a,.int b] h=.ok (.bl (decide (a<=i/\i<=b))) h:=by
 by_cases z:a<=i<;>simp[e_,aX,z]
structure Ord (n:Nat) (xs:List Int):Prop where
 len:xs.length=n
 nd:xs.Nodup
 lo:∀x∈xs,0<=x
 hi:∀x∈xs,x<n
noncomputable def fN (lo:Int) (n:Nat):List Int:=(List.range n).map fun(i:Nat)=>lo+i
theorem zj (lo:Int) (n:Nat):cM lo n=(fN lo n).map D.int:=by simp[cM,fN,List.map_map]
theorem Ca (lo:Int) (n:Nat):(fN lo n).length=n:=by simp[fN]
theorem h_ (n:Nat):Ord n (fN 0 n):=by
 refine⟨Ca _ _,?_,?_,?_⟩
 ·unfold fN List.Nodup
  rw[List.pairwise_map]
  exact List.Pairwise.imp (fun{a b} h e=>h (by omega)) List.nodup_range
 ·intro x hx;simp[fN] at hx;omega
 ·intro x hx;simp[fN] at hx;omega
noncomputable def l7 {X:Type} (xs:List X) (lo hi:Option Int):List X:=(xs.drop (HT.sIx xs.length 0 lo)).take (HT.sIx xs.length xs.length hi - HT.sIx xs.length 0 lo)
theorem A2 {X:Type} (f:X->D) (xs:List X) (lo hi:Option Int):cutD (xs.map f) lo hi=(l7 xs lo hi).map f:=by
 unfold cutD l7
 rw[List.length_map,List.map_take,List.map_drop]
theorem oM {k:Nat} {h:Hh}:∀{ns:List Int},(∀x∈ns,sml x=true)->eC (toPy (k+1) h) (ns.map D.int)=some (ns.map PyData.int)
 | [],_=>rfl
 | n::r,hs=>by
  have h1:sml n=true:=hs n List.mem_cons_self
  rw[List.map_cons,eC,oM (ns:=r) fun x hx=>hs x (List.mem_cons_of_mem _ hx)]
  simp[toPy,h1]
theorem rP:∀ns:List Int,PyData.bulkAll (ns.map PyData.int)=ns.length
 | []=>rfl
 | n::r=>by rw[List.map_cons,PyData.bulkAll,rP r,PyData.bulk,List.length_cons];omega
theorem ya (i:Int):∀ns:List Int,((ns.map D.int).any fun d=>eqF d (.int i))=ns.any (· == i)
 | []=>rfl
 | n::r=>by rw[List.map_cons,List.any_cons,List.any_cons,ya i r];rfl
theorem zV (ns:List Int):(ns.map D.int).all fK=true:=by simp[fK]
@[simp] theorem Lv {neg:Bool} {i:Int} {ns:List Int} {h:Hh}:dIn neg (.int i) (.tup (ns.map D.int)) h=.ok (.bl (if neg then !(ns.any (· == i)) else ns.any (· == i))) h:=by
 simp only[dIn,iW,fK,zV,and_self,if_true,ya]
theorem DP {i:Int} (h0:0<=i) (h:i<=1000000):sml i=true:=fT (by omega) (by omega)
noncomputable def wJ (xs:List Int):List Nat:=(List.range (xs.length - 1)).filter fun i=>decide (gI xs (i+1)<gI xs i)
noncomputable def aP (xs:List Int):List Int:=(wJ xs).map fun(i:Nat)=>(i:Int)
theorem rS {xs:List Int} {h:Hh} {d:D} (hd:∀(i:Int),dIx d (.int i) h=ixK (xs.map D.int) i h):cy (aC asB (aq dGt (aq dIx (ae 1) (ae 0)) (aq dIx (ae 1) (aq (cL aR) (ae 0) (cC (.int 1)))))) (ae 0) (fun x=>[some x,some d]) (cM 0 (xs.length - 1)) h=.ok ((aP xs).map D.int) h:=by
 rw[vR (fun i=>decide (gI xs (i+1)<gI xs i)) (fun i=>D.int i)]
 ·simp[aP,wJ,List.map_map]
 ·intro i hi
  have e1:ixK (xs.map D.int) (i:Int) h=.ok (.int (gI xs i)) h:=jJ rfl (by omega)
  have e2:ixK (xs.map D.int) ((i:Int)+1) h=.ok (.int (gI xs (i+1))) h:=jJ (by omega) (by omega)
  simp[hd,e1,e2]
theorem GS {h:Hh} (w:Wf h) (p:Pen):Wf (h++[.lst (qJ p)]):=w.app rfl
theorem ph (p:Pen) (m:Int) (h:0<m):∃k:Nat,jv p m=(k:Int)/\(k:Int)<m:=by
 have h0:=Es p h
 have h1:=C5 p h
 exact⟨(jv p m).toNat,by omega,by omega⟩
theorem Al (ns:List Int) (lo hi:Option Int):cutD (ns.map D.int) lo hi=(l7 ns lo hi).map D.int:=A2 _ _ _ _
theorem EF {X:Type} (xs:List X) (lo hi:Option Int):(l7 xs lo hi).length<=xs.length:=by
 unfold l7;rw[List.length_take,List.length_drop];omega
noncomputable def sg (f:Nat->Int) (n:Nat):Int:=((List.range n).map f).sum
theorem Ap (f:Nat->Int):sg f 0=0:=rfl
theorem BQ (l:List Int) (x:Int):(l++[x]).sum=l.sum+x:=by
 induction l with
 | nil=>simp
 | cons a l ih=>simp only[List.cons_append,List.sum_cons,ih];omega
theorem qG (f:Nat->Int) (n:Nat):sg f (n+1)=sg f n+f n:=by
 unfold sg
 rw[List.range_succ,List.map_append]
 exact BQ _ _
theorem oZ {f g:Nat->Int}:∀{n:Nat},(∀i,i<n->f i=g i)->sg f n=sg g n
 | 0,_=>rfl
 | n+1,h=>by rw[qG,qG,oZ fun i hi=>h i (by omega),h n (by omega)]
theorem yt {f:Nat->Int} {n:Nat} (h:∀i,i<n->f i=0):sg f n=0:=by
 induction n with
 | zero=>rfl
 | succ n ih=>rw[qG,ih fun i hi=>h i (by omega),h n (by omega)];rfl
theorem uA (f:Nat->Int) (p:Nat):∀q,sg f (p+q)=sg f p+sg (fun i=>f (p+i)) q
 | 0=>by simp[Ap]
 | q+1=>by rw[<- Nat.add_assoc,qG,uA f p q,qG];omega
noncomputable def lss (r:Nat) (l:Int):Int:=if (r:Int)<l then 1 else 0
noncomputable def Rn:Nat->Int->Int->Int
 | 0,_,f=>if f=0 then 1 else 0
 | m+1,l,f=>sg (fun r=>Rn m r (f - lss r l)) (m+1)
theorem tH (r:Nat) (l:Int):0<=lss r l/\lss r l<=1:=by unfold lss;split<;>omega
theorem sT:∀(m:Nat) (l f:Int),f<0->Rn m l f=0
 | 0,l,f,h=>if_neg (by omega)
 | m+1,l,f,h=>yt fun r _=>sT m r _ (by have:=tH r l;omega)
theorem xc:∀(m:Nat) (l f:Int),(m:Int)<f->Rn m l f=0
 | 0,l,f,h=>if_neg (by omega)
 | m+1,l,f,h=>yt fun r _=>xc m r _ (by have:=tH r l;omega)
theorem Fz {f:Nat->Int} {B:Nat}:∀{n:Nat},(∀i,i<n->0<=f i/\f i<=B)->0<=sg f n/\sg f n<=(n*B:Nat)
 | 0,_=>by simp[Ap]
 | n+1,h=>by
  have ih:=Fz (n:=n) fun i hi=>h i (by omega)
  have:=h n (by omega)
  rw[qG,Nat.succ_mul]
  omega
noncomputable def qN:Nat->Nat
 | 0=>1
 | n+1=>(n+1)*qN n
theorem yT:∀(m:Nat) (l f:Int),0<=Rn m l f/\Rn m l f<=qN m
 | 0,l,f=>by unfold Rn qN;split<;>omega
 | m+1,l,f=>Fz fun r _=>yT m r _
theorem Hi:∀m,m<13->qN m<=10 ^ 20:=by decide +kernel
theorem JC {m:Nat} {l f:Int} (h:m<=12):sml (Rn m l f)=true:=by
 have:=yT m l f
 have:=Hi m (by omega)
 exact fT (by omega) (by omega)
noncomputable def dw (m:Nat) (l:Int):List Int:=(List.range (m+1)).map fun(f:Nat)=>Rn m l f
theorem i6 (m:Nat) (l:Int):(dw m l).length=m+1:=by simp[dw]
theorem s_ {m:Nat} {l:Int} {f:Nat} (h:f<=m):gI (dw m l) f=Rn m l f:=by
 rw[fL (by rw[i6];omega)];simp[dw]
noncomputable def dS (m:Nat):List (List Int):=(List.range (m+1)).map fun(l:Nat)=>dw m l
theorem vU (m:Nat):(dS m).length=m+1:=by simp[dS]
noncomputable def Eb (n:Nat) (k a b:Int):Int:=if n=1 then (if k=0 then 1 else 0) else if a=b then 0 else Rn (n - 2) ((a - b - 1) % n) (k - (if b<a then 1 else 0))
noncomputable def ltI (a b:Int):Int:=if a<b then 1 else 0
theorem HE {n:Nat} {k a b:Int} (h:k<0):Eb n k a b=0:=by
 unfold Eb
 split
 ·exact if_neg (by omega)
 ·split
  ·rfl
  ·exact sT _ _ _ (by split<;>omega)
theorem lV {a n:Int} (h0:-n<=a) (h1:a<n):a % n=if 0<=a then a else a+n:=by
 split
 ·exact Int.emod_eq_of_lt (by assumption) h1
 ·have:a=(a+n)+n*(-1):=by omega
  rw[this,Int.add_mul_emod_self_left,Int.emod_eq_of_lt (by omega) (by omega)]
  omega
theorem yi {n:Nat} {k a b:Int} (hn:2<=n) (a0:0<=a) (a1:a<n) (b0:0<=b) (b1:b<n) (ne:a≠b):Eb n k a b=sg (fun r=>Eb (n - 1) (k - lss r a) r (b - ltI a b)) (n - 1):=by
 obtain⟨m,rfl⟩:∃m,n=m+2:=⟨n - 2,by omega⟩
 have e1:m+2 - 1=m+1:=rfl
 rw[e1]
 have hE:Eb (m+2) k a b=Rn m ((a - b - 1) % (m+2:Nat)) (k - (if b<a then 1 else 0)):=by
  unfold Eb;rw[if_neg (by omega),if_neg ne];rfl
 rw[hE]
 cases m with
 | zero=>
  have:sg (fun r=>Eb (0+1) (k - lss r a) r (b - ltI a b)) (0+1)=Eb 1 (k - lss 0 a) 0 (b - ltI a b):=by rw[qG,Ap];simp
  rw[this]
  unfold Eb Rn lss
  rw[if_pos rfl]
  have:(k - (if b<a then 1 else 0)=0)↔(k - (if ((0:Nat):Int)<a then 1 else 0)=0):=by
   split<;>split<;>omega
  by_cases c:k - (if b<a then 1 else 0)=0
  ·rw[if_pos c,if_pos (this.mp c)]
  ·rw[if_neg c,if_neg (fun z=>c (this.mpr z))]
 | succ q=>
  -- n=q+3: numbers 0 .. q+1 are left,the last one is b' among them
  obtain⟨b',hb'⟩:∃b':Nat,b - ltI a b=(b':Int):=⟨(b - ltI a b).toNat,by unfold ltI;split<;>omega⟩
  rw[hb']
  have b'lt:b'<=q+1:=by unfold ltI at hb';split at hb'<;>omega
  obtain⟨c,hc⟩:∃c:Int,(a - b - 1) % ((q+1+2:Nat):Int)=c:=⟨_,rfl⟩
  have cv:c=if 0<=a - b - 1 then a - b - 1 else a - b - 1+(q+3:Nat):=by rw[<- hc];exact lV (by omega) (by omega)
  rw[hc]
  show sg (fun s=>Rn q s (k - (if b<a then 1 else 0) - lss s c)) (q+1)=_
  have term:∀r:Nat,r<q+2->r≠b'->∀s:Nat,(s:Int)=(if b'<r then (r:Int) - b' - 1 else (r:Int) - b' - 1+(q+2:Nat))->Eb (q+1+1) (k - lss r a) r b'=Rn q s (k - (if b<a then 1 else 0) - lss s c):=fun r hr nb s hs=>by
   have ne':¬ ((r:Int)=(b':Int)):=by omega
   unfold Eb
   rw[if_neg (by omega),if_neg ne']
   have em:((r:Int) - b' - 1) % ((q+1+1:Nat):Int)=s:=by
    rw[lV (by omega) (by omega),hs]
    split<;>split<;>omega
   rw[em]
   have:k - lss r a - (if (b':Int)<r then 1 else 0)=k - (if b<a then 1 else 0) - lss s c:=by
    unfold lss
    unfold ltI at hb'
    rw[cv]
    clear em hc cv
    split at hb'<;>split at hs<;>(repeat' split)<;>omega
   rw[this];rfl
  -- the sum over r,parted at b'
  generalize hg:(fun(s:Nat)=>Rn q s (k - (if b<a then 1 else 0) - lss s c))=g
  generalize hF:(fun(r:Nat)=>Eb (q+1+1) (k - lss r a) r b')=F
  have term':∀r:Nat,r<q+2->r≠b'->∀s:Nat,(s:Int)=(if b'<r then (r:Int) - b' - 1 else (r:Int) - b' - 1+(q+2:Nat))->F r=g s:=fun r hr nb s hs=>by
   rw[<- hF,<- hg];exact term r hr nb s hs
  have Fb:F b'=0:=by
   rw[<- hF]
   show Eb (q+1+1) (k - lss b' a) b' b'=0
   unfold Eb;rw[if_neg (by omega),if_pos rfl]
  have lhs:sg g (q+1)=sg g (q+1 - b')+sg (fun i=>g (q+1 - b'+i)) b':=by
   have:=uA g (q+1 - b') b'
   rwa [show q+1 - b'+b'=q+1 by omega] at this
  have rhs:sg F (q+1+1)=sg F b'+(sg (fun i=>F (b'+i)) 1+sg (fun i=>F (b'+(1+i))) (q+1 - b')):=by
   have:=uA F b' (1+(q+1 - b'))
   rw[show b'+(1+(q+1 - b'))=q+1+1 by omega,uA (fun i=>F (b'+i)) 1] at this
   exact this
  have mid:sg (fun i=>F (b'+i)) 1=0:=by rw[qG,Ap];show 0+F b'=0;rw[Fb];rfl
  have t1:sg F b'=sg (fun i=>g (q+1 - b'+i)) b':=oZ fun i hi=>term' i (by omega) (by omega) (q+1 - b'+i) (by rw[if_neg (by omega)];omega)
  have t2:sg (fun i=>F (b'+(1+i))) (q+1 - b')=sg g (q+1 - b'):=oZ fun i hi=>term' (b'+(1+i)) (by omega) (by omega) i (by rw[if_pos (by omega)];omega)
  rw[lhs,rhs,mid,t1,t2]
  omega
theorem Jw {n:Nat} {k a b:Int} (h:n<=12):sml (Eb n k a b)=true:=by
 unfold Eb
 split
 ·split<;>exact fT (by omega) (by omega)
 ·split
  ·exact fT (by omega) (by omega)
  ·exact JC (by omega)
structure Beg (n:Nat) (xs:List Int):Prop where
 len:xs.length<=n
 nd:xs.Nodup
 lo:∀x∈xs,0<=x
 hi:∀x∈xs,x<n
theorem Beg.nil (n:Nat):Beg n []:=⟨Nat.zero_le _,List.nodup_nil,fun _ h=>(nomatch h),fun _ h=>(nomatch h)⟩
theorem Beg.take {n:Nat} {xs:List Int} (o:Beg n xs) (k:Nat):Beg n (xs.take k):=
 ⟨Nat.le_trans (by rw[List.length_take];exact Nat.min_le_right _ _) o.len,o.nd.sublist (List.take_sublist _ _),fun x hx=>o.lo x (List.mem_of_mem_take hx),fun x hx=>o.hi x (List.mem_of_mem_take hx)⟩
noncomputable def gu (r:Int->Bool) (l:List Int):Nat:=(l.filter r).length
theorem ic (r:Int->Bool) (x:Int) (l:List Int):gu r (x::l)=(if r x=true then 1 else 0)+gu r l:=by
 unfold gu;rw[List.filter_cons];split<;>simp[Nat.add_comm]
theorem BG (r:Int->Bool) (v:Int):∀l:List Int,gu (fun x=>r x&&decide (x<v+1)) l=gu (fun x=>r x&&decide (x<v)) l+gu (fun x=>r x&&decide (x=v)) l
 | []=>rfl
 | x::l=>by
  rw[ic,ic,ic,BG r v l]
  cases h:r x<;>simp
  by_cases a:x<v
  ·have b:x<v+1:=by omega
   have c:¬ x=v:=by omega
   simp[a,b,c];omega
  ·by_cases c:x=v
   ·subst c
    have b:x<x+1:=by omega
    simp[b];omega
   ·have b:¬ x<v+1:=by omega
    simp[a,b,c]
theorem xu {r:Int->Bool}:∀{l:List Int},(∀x∈l,r x=false)->gu r l=0
 | [],_=>rfl
 | x::l,h=>by rw[ic,h x List.mem_cons_self,xu fun y hy=>h y (List.mem_cons_of_mem _ hy)];rfl
theorem xm {r:Int->Bool} {v:Int}:∀{l:List Int},l.Nodup->gu (fun x=>r x&&decide (x=v)) l=if v∈l/\r v=true then 1 else 0
 | [],_=>by simp[gu]
 | x::l,nd=>by
  obtain⟨n1,n2⟩:=List.nodup_cons.mp nd
  rw[ic,xm n2]
  by_cases c:x=v
  ·subst c
   cases h:r x<;>simp[n1,h]
  ·have c':¬ v=x:=fun z=>c z.symm
   simp[c,c']
theorem n6 {n:Nat} {xs:List Int} (b:Beg n xs):∀v:Nat,v<=n->gu (fun x=>!(xs.any (· == x))&&decide (x<(v:Int))) (fN 0 n)+gu (fun x=>true&&decide (x<(v:Int))) xs=v
 | 0,_=>by
  rw[xu,xu]
  ·intro x hx;have:=b.lo x hx;simp;omega
  ·intro x hx;have:=(h_ n).lo x hx;simp;omega
 | v+1,hv=>by
  have ih:=n6 b v (by omega)
  have e:((v+1:Nat):Int)=(v:Int)+1:=by omega
  rw[e,BG,BG,xm (h_ n).nd,xm b.nd]
  have m:(v:Int)∈fN 0 n:=List.mem_map.mpr ⟨v,List.mem_range.mpr (by omega),by omega⟩
  by_cases c:(v:Int)∈xs
  ·have a:xs.any (· == (v:Int))=true:=List.any_eq_true.mpr ⟨_,c,by simp⟩
   simp only[m,a,c,Bool.not_true,and_true,Bool.false_eq_true,and_false,if_false,if_true]
   omega
  ·have a:xs.any (· == (v:Int))=false:=by
    rw[List.any_eq_false];intro x hx z;exact c (beq_iff_eq.mp z ▸ hx)
   simp only[m,a,c,Bool.not_false,and_self,if_true,false_and,if_false]
   omega
noncomputable def aO (xs:List Int):Int:=gI xs (xs.length - 1)
noncomputable def lwI (xs:List Int):Int:=if xs.length=0 then 0 else aO xs - ((xs.filter fun x=>decide (x<aO xs)).length:Int)
noncomputable def aQ (n:Nat) (xs:List Int):List Int:=(fN 0 n).filter fun x=>!(xs.any (· == x))
theorem uC {xs:List Int} (h:xs.length≠0):aO xs∈xs:=by
 unfold aO;rw[fL (by omega)];exact List.getElem_mem _
theorem dO {n:Nat} {xs:List Int} (b:Beg n xs):(aQ n xs).length=n - xs.length:=by
 have:=n6 b n (Nat.le_refl _)
 have e1:gu (fun x=>!(xs.any (· == x))&&decide (x<(n:Int))) (fN 0 n)=(aQ n xs).length:=by
  unfold gu aQ
  rw[List.filter_congr]
  intro x hx;have:=(h_ n).hi x hx;simp[this]
 have e2:gu (fun x=>true&&decide (x<(n:Int))) xs=xs.length:=by
  unfold gu
  rw[List.filter_eq_self.mpr]
  intro x hx;have:=b.hi x hx;simp[this]
 omega
theorem lA {n:Nat} {xs:List Int} (b:Beg n xs) (h:xs.length≠0):(((aQ n xs).filter fun x=>decide (x<aO xs)).length:Int)=lwI xs:=by
 have m:=uC h
 have h0:=b.lo _ m
 have h1:=b.hi _ m
 have:=n6 b (aO xs).toNat (by omega)
 rw[show(((aO xs).toNat:Nat):Int)=aO xs by omega] at this
 have e1:gu (fun x=>!(xs.any (· == x))&&decide (x<aO xs)) (fN 0 n)=((aQ n xs).filter fun x=>decide (x<aO xs)).length:=by
  unfold gu aQ
  rw[List.filter_filter]
  congr 2
  funext x
  exact Bool.and_comm _ _
 have e2:gu (fun x=>true&&decide (x<aO xs)) xs=(xs.filter fun x=>decide (x<aO xs)).length:=by
  unfold gu;simp
 unfold lwI
 rw[if_neg h]
 omega
theorem Fs {n:Nat} {xs:List Int} (b:Beg n xs):0<=lwI xs/\lwI xs<=((n - xs.length:Nat):Int):=by
 by_cases h:xs.length=0
 ·unfold lwI;rw[if_pos h];omega
 ·rw[<- lA b h,<- dO b]
  have:=List.length_filter_le (fun x=>decide (x<aO xs)) (aQ n xs)
  omega
theorem Beg.snoc {n:Nat} {xs:List Int} {x:Int} (b:Beg n xs) (h:x∈aQ n xs):Beg n (xs++[x]):=by
 obtain⟨h1,h2⟩:=List.mem_filter.mp h
 have nx:x∉xs:=fun z=>by
  have:xs.any (· == x)=true:=List.any_eq_true.mpr ⟨_,z,by simp⟩
  rw[this] at h2;cases h2
 have l:=dO b
 have lp:=List.length_pos_of_mem h
 refine⟨by rw[List.length_append];show xs.length+1<=n;omega,List.nodup_append.mpr ⟨b.nd,List.nodup_cons.mpr ⟨by simp,List.nodup_nil⟩,fun a ha c hc=>?_⟩,fun y hy=>?_,fun y hy=>?_⟩
 ·simp at hc;subst hc;exact fun z=>nx (z ▸ ha)
 ·rcases List.mem_append.mp hy with z | z
  ·exact b.lo y z
  ·simp at z;subst z;exact(h_ n).lo _ h1
 ·rcases List.mem_append.mp hy with z | z
  ·exact b.hi y z
  ·simp at z;subst z;exact(h_ n).hi _ h1
theorem pH {xs:List Int} {h:Hh} (h1:xs.length≠0):ixK (xs.map D.int) (-1) h=.ok (.int (aO xs)) h:=by
 have e:ixN (xs.map D.int).length (-1)=some (xs.length - 1):=by rw[List.length_map];unfold ixN;simp;omega
 unfold ixK atI aO
 rw[e]
 simp[List.getElem?_eq_getElem (show xs.length - 1<xs.length by omega),fL (show xs.length - 1<xs.length by omega)]
theorem B7 {xs:List Int} {h:Hh} (hl:xs.length<=1000):gm [.tup (xs.map D.int)] h=.ok (.tup ((aP xs).map D.int)) h:=by
 by_cases c:xs.length=0
 ·have:xs=[]:=List.eq_nil_of_length_eq_zero c
  subst this
  kernel_rfl
 ·have z1:((xs.length:Int) - 1).natAbs<=1000000:=by omega
  have z2:((xs.length:Int) - 1).toNat=xs.length - 1:=by omega
  have z3:xs.length - 1<=1000000:=by omega
  have q:=rS (xs:=xs) (h:=h) (d:=.tup (xs.map D.int)) (fun i=>JI)
  simp[gm,aX,z1,z2,z3,q]
noncomputable def tpl (xs:List Int):D:=.tup (xs.map D.int)
theorem rG {n:Nat} {xs:List Int} {h:Hh} (hl:xs.length<=1000):cy (aC asB (aq (dIn true) (ae 0) (ae 1))) (aq (cL aR) (ae 1) (aj b_ (aa (ae 0) ao))) (fun x=>[some x,some (.tup (xs.map D.int))]) (cM 0 n) h=.ok ((aQ n xs).map fun x=>tpl (xs++[x])) h:=by
 rw[zj,comp_map D.int (fun x=>!(xs.any (· == x))) (fun x=>tpl (xs++[x])) (fN 0 n) fun x hx=>⟨by simp,fun _=>by
  have z:xs.length+1<=1000000:=by omega
  simp[tpl,z]⟩]
 rfl
theorem DX {σ:Type} {rd:Rdr} {tg:D->En->Hh->R En} {body:MS} (enc:Nat->D) (N:Nat) (E:σ->En) (G:σ->Hh) (I:Nat->σ->Prop) (hr:∀s i,i<N->rd (G s) i=some (some (enc i))) (hr2:∀s,rd (G s) N=some none)
  (st:∀i s,i<N->I i s->∃s',I (i+1) s'/\(tg (enc i) (E s) (G s)).bind body=.ok (.nx (E s')) (G s')) :
  ∀(k i:Nat) (s:σ),i+k=N->I i s->∃s',f_ rd tg body k i (E s) (G s)=.ok (.nx (E s')) (G s')/\I N s':=by
 intro k
 induction k with
 | zero=>
  intro i s e hi
  have:i=N:=by omega
  subst this
  refine⟨s,?_,hi⟩
  unfold f_
  rw[hr2]
 | succ k ih=>
  intro i s e hi
  obtain⟨s1,a,b⟩:=st i s (by omega) hi
  obtain⟨s2,c,d⟩:=ih (i+1) s1 (by omega) a
  refine⟨s2,?_,d⟩
  unfold f_
  rw[hr s i (by omega)]
  show(tg (enc i) (E s) (G s)).bind (fun e1 h1=>(body e1 h1).bind _)=_
  rw[<- bS,b]
  exact c
theorem ui {σ:Type} {tg:D->En->Hh->R En} {body:MS} (enc:Nat->D) (N:Nat) (E:σ->En) (G:σ->Hh) (I:Nat->σ->Prop)
  (st:∀i s,i<N->I i s->∃s',I (i+1) s'/\(tg (enc i) (E s) (G s)).bind body=.ok (.nx (E s')) (G s')) :
  ∀(k i:Nat) (s:σ),i+k=N->I i s->∃s',eR tg body ((List.range' i k).map enc) (E s) (G s)=.ok (.nx (E s')) (G s')/\I N s':=by
 intro k
 induction k with
 | zero=>
  intro i s e hi
  have:i=N:=by omega
  subst this
  exact⟨s,rfl,hi⟩
 | succ k ih=>
  intro i s e hi
  obtain⟨s1,a,b⟩:=st i s (by omega) hi
  obtain⟨s2,c,d⟩:=ih (i+1) s1 (by omega) a
  refine⟨s2,?_,d⟩
  rw[List.range'_succ,List.map_cons,eR,<- bS,b]
  exact c
theorem ua {v:Int}:∀{L:List Int},L.Pairwise (· < ·)->∀(r:Nat) (hr:r<L.length),L[r]<v↔r<(L.filter fun x=>decide (x<v)).length
 | [],_,r,hr=>by simp at hr
 | a::L,so,r,hr=>by
  obtain⟨h1,h2⟩:=List.pairwise_cons.mp so
  by_cases c:a<v
  ·rw[List.filter_cons,if_pos (by simpa using c),List.length_cons]
   cases r with
   | zero=>simp[c]
   | succ r=>
    have:=ua (v:=v) h2 r (by simpa using hr)
    simp only[List.getElem_cons_succ]
    omega
  ·have e:(a::L).filter (fun x=>decide (x<v))=[]:=by
    rw[List.filter_eq_nil_iff]
    intro x hx
    rcases List.mem_cons.mp hx with rfl | hx
    ·simpa using c
    ·have:=h1 x hx;simp;omega
   rw[e]
   have:¬ (a::L)[r]<v:=by
    have hm:=List.getElem_mem hr
    rcases List.mem_cons.mp hm with z | z
    ·rw[z];exact c
    ·have:=h1 _ z;omega
   simp[this]
theorem y_ {L:List Int} (so:L.Pairwise (· < ·)) (r:Nat) (hr:r<L.length):(L.filter fun x=>decide (x<L[r])).length=r:=by
 have h:=fun s hs=>ua (v:=L[r]) so s hs
 have lt:∀s (hs:s<L.length),L[s]<L[r]↔s<r:=fun s hs=>by
  constructor
  ·intro z
   by_cases c:s<r
   ·exact c
   ·by_cases e:s=r
    ·subst e;omega
    ·have:=List.pairwise_iff_getElem.mp so r s hr hs (by omega);omega
  ·intro z;exact List.pairwise_iff_getElem.mp so s r hs hr z
 generalize (L.filter fun x=>decide (x<L[r])).length=c at h
 by_cases c1:c<r
 ·have:=(h c (by omega)).mp ((lt c (by omega)).mpr c1);omega
 ·by_cases c2:r<c
  ·have:=(lt r hr).mp ((h r hr).mpr c2);omega
  ·omega
theorem Jh (n:Nat):(fN 0 n).Pairwise (· < ·):=by
 unfold fN
 rw[List.pairwise_map]
 exact List.Pairwise.imp (fun{a b} h=>by omega) List.pairwise_lt_range
theorem oh (n:Nat) (xs:List Int):(aQ n xs).Pairwise (· < ·):=(Jh n).filter _
theorem zT {n:Nat} {xs:List Int} {x:Int}:aQ n (xs++[x])=(aQ n xs).filter fun y=>!(x == y):=by
 unfold aQ
 rw[List.filter_filter]
 refine List.filter_congr fun y _=>?_
 rw[List.any_append,Bool.not_or,Bool.and_comm]
 simp
theorem k8 {xs ys:List Int} {i:Nat} (h:i<xs.length):gI (xs++ys) i=gI xs i:=by
 rw[fL (by simp;omega),fL h,List.getElem_append_left h]
theorem Bi {xs:List Int} {x:Int}:gI (xs++[x]) xs.length=x:=by
 rw[fL (by simp),List.getElem_append_right (Nat.le_refl _)];simp
theorem zL {xs:List Int} {x:Int}:aO (xs++[x])=x:=by
 unfold aO;rw[List.length_append];exact Bi
theorem xI {xs:List Int} {x:Int}:(aP (xs++[x])).length=(aP xs).length+(if xs.length≠0/\x<aO xs then 1 else 0):=by
 unfold aP wJ
 rw[List.length_map,List.length_map,List.length_append]
 show((List.range xs.length).filter _).length=_
 cases hl:xs.length with
 | zero=>simp
 | succ m=>
  rw[List.range_succ,List.filter_append,List.length_append,show m+1 - 1=m from rfl]
  congr 1
  ·congr 1
   refine List.filter_congr fun i hi=>?_
   have hi:=List.mem_range.mp hi
   rw[k8 (by omega),k8 (by omega)]
  ·have e1:gI (xs++[x]) (m+1)=x:=by rw[<- hl];exact Bi
   have e2:gI (xs++[x]) m=aO xs:=by unfold aO;rw[k8 (by omega),hl];rfl
   rw[List.filter_cons,e1,e2]
   by_cases c:x<aO xs<;>simp[c]
structure Cnt (n:Nat) (B:List Int->Int):Prop where
 pos:∀xs,Beg n xs->0<=B xs
 sum:∀xs,Beg n xs->xs.length<n->B xs=((aQ n xs).map fun x=>B (xs++[x])).sum
theorem E8 {α:Type} (L:List Int) (f:Int->α):L.map f=(List.range L.length).map fun i=>f (gI L i):=by
 refine List.ext_getElem (by simp) fun i h1 h2=>?_
 rw[List.length_map] at h1
 simp[fL h1]
noncomputable def nxB (n:Nat) (B:List Int->Int) (xs:List Int):List Int:=(aQ n xs).filter fun x=>decide (0<B (xs++[x]))
noncomputable def ug (B:List Int->Int) (xs l:List Int):Int:=(l.map fun x=>B (xs++[x])).sum
theorem jG {B:List Int->Int} {xs l:List Int} {x:Int}:ug B xs (x::l)=B (xs++[x])+ug B xs l:=by unfold ug;rw[List.map_cons,List.sum_cons]
theorem yc {B:List Int->Int} {xs:List Int}:∀{l:List Int},(∀x∈l,0<=B (xs++[x]))->0<=ug B xs l
 | [],_=>Int.le_refl _
 | x::l,h=>by
  rw[jG]
  have:=h x List.mem_cons_self
  have:=yc (l:=l) fun y hy=>h y (List.mem_cons_of_mem _ hy)
  omega
theorem BA {B:List Int->Int} {xs:List Int} {p:Int->Bool}:∀{l:List Int},(∀x∈l,0<=B (xs++[x]))->ug B xs ((l.filter fun x=>decide (0<B (xs++[x]))).filter p)=ug B xs (l.filter p)
 | [],_=>rfl
 | x::l,h=>by
  have h0:=h x List.mem_cons_self
  have ih:=BA (p:=p) (l:=l) fun y hy=>h y (List.mem_cons_of_mem _ hy)
  by_cases c:0<B (xs++[x])
  ·rw[List.filter_cons,if_pos (by simpa using c),List.filter_cons,List.filter_cons]
   split
   ·rw[jG,jG,ih]
   ·exact ih
  ·rw[List.filter_cons,if_neg (by simpa using c),List.filter_cons,ih]
   split
   ·rw[jG];omega
   ·rfl
section
variable {n:Nat} {B:List Int->Int} (C:Cnt n B)
include C
theorem Cnt.left {xs:List Int} (b:Beg n xs):∀x∈aQ n xs,0<=B (xs++[x]):=fun x hx=>C.pos _ (b.snoc hx)
theorem Cnt.nx {xs:List Int} (b:Beg n xs) (hl:xs.length<n):ug B xs (nxB n B xs)=B xs:=by
 rw[C.sum xs b hl]
 have:=BA (B:=B) (xs:=xs) (p:=fun _=>true) (C.left b)
 have e:∀l:List Int,l.filter (fun _=>true)=l:=fun l=>List.filter_eq_self.mpr (by simp)
 rw[e,e] at this
 exact this
end
theorem yL {n:Nat} {B:List Int->Int} {xs:List Int} {x:Int} (h:x∈nxB n B xs):x∈aQ n xs:=(List.mem_filter.mp h).1
noncomputable def rT (n:Nat) (B:List Int->Int) (C:D):Prop:=∃x ds np m,C=.clo x ds/\vP x=some (np,m)/\ds.length+1=np/\∀xs h,xs.length≠0->Beg n xs->m (ds++[.tup (xs.map D.int)]) h=.ok (.int (B xs)) h
theorem Cc {n:Nat} {B:List Int->Int} {C:D} (c:rT n B C) {xs:List Int} {f:ME} {a:MA} {env:En} {h h1 h2:Hh} (b0:xs.length≠0) (b:Beg n xs) (ef:f env h=.ok C h1) (ea:a env h1=.ok [.tup (xs.map D.int)] h2):p8 vP f a env h=.ok (.int (B xs)) h2:=by
 obtain⟨x,ds,np,m,rfl,et,el,em⟩:=c
 unfold p8
 rw[ef]
 show(match vP x with | some (np,m)=>_ | none=>_)=_
 rw[et]
 show(if ds.length+1=np then _ else _)=_
 rw[if_pos el,ea]
 exact em xs h2 b0 b
theorem zu {n:Nat} {B:List Int->Int} {C:D} {xs:List Int} {h:Hh} (c:rT n B C) (b:Beg n xs) (hn:n<=1000):cI [.int n,.tup (xs.map D.int),C] h=.ok (.frl ((nxB n B xs).map fun x=>tpl (xs++[x]))) h:=by
 have bl:=b.len
 have q:=rG (n:=n) (xs:=xs) (h:=h) (by omega)
 have q2:cy (aC asB (aq dGt (p8 vP (ae 1) (aa (ae 0) ao)) (cC (.int 0)))) (ae 0) (fun x=>[some x,some C]) ((aQ n xs).map fun x=>tpl (xs++[x])) h=.ok ((nxB n B xs).map fun x=>tpl (xs++[x])) h:=by
  rw[comp_map (fun x=>tpl (xs++[x])) (fun x=>decide (0<B (xs++[x]))) (fun x=>tpl (xs++[x])) (aQ n xs) fun x hx=>⟨by
   have e:=Cc (f:=ae 1) (a:=aa (ae 0) ao) (env:=[some (tpl (xs++[x])),some C]) (h:=h) (h1:=h) (h2:=h) c (by simp) (b.snoc hx) (by simp) (by simp[tpl])
   simp only[FY,Ik,e]
   simp,fun _=>by simp⟩]
  rfl
 have l1:((aQ n xs).map fun x=>tpl (xs++[x])).length<=1000000:=by rw[List.length_map,dO b];omega
 have z2:(n:Int).natAbs<=1000000:=by omega
 have z3:n<=1000000:=by omega
 generalize ((aQ n xs).map fun x=>tpl (xs++[x]))=W at *
 generalize ((nxB n B xs).map fun x=>tpl (xs++[x]))=W2 at *
 generalize xs.map D.int=X at *
 simp[cI,aX,z2,z3,q,l1,q2]
theorem r6 (k:Nat) (h:Hh):∀xs ys:List Int,eqL (eqD (k+1) h) (xs.map D.int) (ys.map D.int)=some (decide (xs=ys))
 | [],[]=>rfl
 | [],y::ys=>rfl
 | x::xs,[]=>rfl
 | x::xs,y::ys=>by
  have ih:=r6 k h xs ys
  have e1:eqD (k+1) h (.int x) (.int y)=some (x == y):=rfl
  simp only[List.map_cons,eqL,e1,ih]
  by_cases a:x=y<;>by_cases b:xs=ys<;>simp[a,b]
theorem IM {h:Hh} {xs ys:List Int}:dEq (.tup (xs.map D.int)) (.tup (ys.map D.int)) h=.ok (.bl (decide (xs=ys))) h:=by
 have:eqD eqN h (.tup (xs.map D.int)) (.tup (ys.map D.int))=some (decide (xs=ys)):=r6 10 h xs ys
 simp only[dEq,this]
noncomputable def tpI (b:List Int):D:=.tup (b.map D.int)
noncomputable def gz (n:Nat) (b:List Int):List (List Int):=((List.range n).filter fun(i:Nat)=>!(b.any (· == (i:Int)))).map fun(i:Nat)=>b++[(i:Int)]
noncomputable def allI (n:Nat):Nat->List (List Int)
 | 0=>[[]]
 | k+1=>(allI n k).flatMap (gz n)
theorem tE (n:Nat) (b:List Int):(gz n b).length<=n:=by
 unfold gz
 rw[List.length_map]
 exact Nat.le_trans (List.length_filter_le _ _) (by simp)
theorem vv (n:Nat):∀L:List (List Int),(L.flatMap (gz n)).length<=L.length*n
 | []=>by simp
 | b::L=>by
  rw[List.flatMap_cons,List.length_append,List.length_cons,Nat.succ_mul]
  have:=tE n b;have:=vv n L;omega
theorem uF (n:Nat):∀k,(allI n k).length<=n ^ k
 | 0=>by simp[allI]
 | k+1=>by
  rw[allI,Nat.pow_succ]
  exact Nat.le_trans (vv n _) (Nat.mul_le_mul_right n (uF n k))
theorem AV (n:Nat):∀k,∀b∈allI n k,b.length=k/\∀x∈b,0<=x/\x<n
 | 0=>by intro b hb;simp[allI] at hb;subst hb;simp
 | k+1=>by
  intro b hb
  rw[allI] at hb
  obtain⟨c,hc,hb⟩:=List.mem_flatMap.mp hb
  obtain⟨l,r⟩:=AV n k c hc
  unfold gz at hb
  obtain⟨i,hi,rfl⟩:=List.mem_map.mp hb
  have hi:=List.mem_range.mp (List.mem_filter.mp hi).1
  refine⟨by simp[l],fun x hx=>?_⟩
  rcases List.mem_append.mp hx with hx | hx
  ·exact r x hx
  ·rw[List.mem_singleton.mp hx];omega
theorem zt {n k:Nat} (hn:n<=7) (hk:k<=7):n ^ k<=900000:=
 Nat.le_trans (Nat.pow_le_pow_left hn k) (Nat.le_trans (Nat.pow_le_pow_right (by decide) hk) (by decide))
theorem Bk {n:Nat} {b:List Int} {h:Hh} (hb:b.length<=1000):cy (aC asB (aq (dIn true) (ae 0) (ae 1))) (aq (cL aR) (ae 1) (aj b_ (aa (ae 0) ao))) (fun d=>[some d,some (tpI b)]) (cM 0 n) h=.ok ((gz n b).map tpI) h:=by
 have z:b.length+1<=1000000:=by omega
 rw[vR (fun(i:Nat)=>!(b.any (· == (i:Int)))) (fun(i:Nat)=>tpI (b++[(i:Int)]))]
 ·simp[gz,List.map_map]
  try rfl
 ·intro i hi
  refine⟨by simp[tpI],fun _=>by simp[tpI,z]⟩
theorem Bs {σ X:Type} {tg:D->En->Hh->R En} {body:MS} (n:Nat) (enc:X->D) (xs:List X) (E:σ->En) (G:σ->Hh) (f:σ->X->σ) (I:Nat->σ->Prop) (hl:∀s,ax (G s) n=some (xs.map enc))
  (st:∀i x s,xs[i]?=some x->I i s->I (i+1) (f s x)/\(tg (enc x) (E s) (G s)).bind body=.ok (.nx (E (f s x))) (G (f s x))) :
  ∀(k i:Nat) (s:σ),i+k=xs.length->I i s->f_ (Src.live n).rdr tg body k i (E s) (G s)=.ok (.nx (E ((xs.drop i).foldl f s))) (G ((xs.drop i).foldl f s))/\I xs.length ((xs.drop i).foldl f s):=by
 intro k
 induction k with
 | zero=>
  intro i s e hi
  have:i=xs.length:=by omega
  subst this
  rw[List.drop_length,List.foldl_nil]
  refine⟨?_,hi⟩
  unfold f_
  simp[Src.rdr,hl]
 | succ k ih=>
  intro i s e hi
  have lt:i<xs.length:=by omega
  obtain⟨a,b⟩:=st i xs[i] s (List.getElem?_eq_getElem lt) hi
  have:=ih (i+1) (f s xs[i]) (by omega) a
  rw[List.drop_eq_getElem_cons lt,List.foldl_cons]
  refine⟨?_,this.2⟩
  unfold f_
  have g:(Src.live n).rdr (G s) i=some (some (enc xs[i])):=by simp[Src.rdr,hl,List.getElem?_eq_getElem lt]
  rw[g]
  show(tg (enc xs[i]) (E s) (G s)).bind (fun e1 h1=>(body e1 h1).bind _)=_
  rw[<- bS,b]
  exact this.1
noncomputable def hpA (n t:Nat):Hh:=(List.range t).map fun k=>O.lst ((allI n (k+1)).map tpI)
theorem n4 (n t:Nat):(hpA n t).length=t:=by simp[hpA]
theorem xA {n t:Nat} {r:Hh} (k:Nat) (hk:k<t):ax (hpA n t++r) k=some ((allI n (k+1)).map tpI):=by
 unfold ax
 rw[List.getElem?_append_left (by rw[n4];exact hk)]
 simp[hpA,hk]
theorem IU (n t:Nat):hpA n (t+1)=hpA n t++[O.lst ((allI n (t+1)).map tpI)]:=by simp[hpA,List.range_succ]
noncomputable def BI:MS:=fi (eA dP (ae 3) (aa (cx aR (fk ft (aa (ae 0) ao)) [4] (aC asB (aq (dIn true) (ae 0) (ae 1))) (aq (cL aR) (ae 1) (aj b_ (aa (ae 0) ao)))) ao))
theorem Fj {n t:Nat} {b:List Int} {acc:List (List Int)} {d1 d2:Option D} (hn:n<=7) (hb:b.length<=7) (ha:acc.length+(gz n b).length<=1000000):BI [some (.int n),d1,d2,some (.ref t),some (tpI b)] (hpA n t++[.lst (acc.map tpI)])=.ok (.nx [some (.int n),d1,d2,some (.ref t),some (tpI b)]) (hpA n t++[.lst ((acc++gz n b).map tpI)]):=by
 have q:=Bk (n:=n) (b:=b) (h:=hpA n t++[.lst (acc.map tpI)]) (by omega)
 have l:ax (hpA n t++[.lst (acc.map tpI)]) t=some (acc.map tpI):=by
  have:=cb (h:=hpA n t) (ds:=acc.map tpI) (t:=[])
  rw[n4] at this;exact this
 have ex:dP (.ref t) [.frl ((gz n b).map tpI)] (hpA n t++[.lst (acc.map tpI)])=.ok .non (hpA n t++[.lst (acc.map tpI++(gz n b).map tpI)]):=by
  have:=sj (h:=hpA n t) (ds:=acc.map tpI) (ys:=(gz n b).map tpI) (t:=[])
  rw[n4,if_pos (by simpa using ha)] at this;exact this
 have z:n<=1000000:=by omega
 simp[BI,uB l,z,q,ex]
theorem Bj {n t:Nat} {d2 d4:Option D} (hn:n<=7) (ht:t+2<=7):∃d4',f_ (Src.live t).rdr (gN 4) BI (allI n (t+1)).length 0 [some (.int n),some (.ref t),d2,some (.ref (t+1)),d4] (hpA n (t+1)++[.lst []])=.ok (.nx [some (.int n),some (.ref t),d2,some (.ref (t+1)),d4']) (hpA n (t+2)):=by
 have pl:(allI n (t+1)).length*n<=900000:=Nat.le_trans (Nat.mul_le_mul_right n (uF n (t+1))) (by rw[<- Nat.pow_succ];exact zt hn ht)
 obtain⟨q,q2⟩:=Bs (σ:=Option D × List (List Int)) (tg:=gN 4) (body:=BI) t tpI (allI n (t+1)) (fun s=>[some (.int n),some (.ref t),d2,some (.ref (t+1)),s.1]) (fun s=>hpA n (t+1)++[.lst (s.2.map tpI)]) (fun s b=>(some (tpI b),s.2++gz n b))
  (fun i s=>s.2.length<=i*n) (fun s=>xA t (by omega)) (fun i x s hx hi=>by
   have hx':x∈allI n (t+1):=List.mem_of_getElem? hx
   have lx:=(AV n (t+1) x hx').1
   have il:i<(allI n (t+1)).length:=(List.getElem?_eq_some_iff.mp hx).1
   have el:=tE n x
   refine⟨by simp only[List.length_append];rw[Nat.succ_mul];omega,?_⟩
   have bd:s.2.length+(gz n x).length<=1000000:=by
    have:=Nat.mul_le_mul_right n (show i+1<=(allI n (t+1)).length from il)
    rw[Nat.succ_mul] at this
    omega
   simp[Fj (n:=n) (t:=t+1) (b:=x) (acc:=s.2) (d1:=some (.ref t)) (d2:=d2) hn (by omega) bd]) (allI n (t+1)).length 0 (d4,[]) (by omega) (by simp)
 have fd:∀(L:List (List Int)) (s:Option D × List (List Int)),(L.foldl (fun(s:Option D × List (List Int)) b=>(some (tpI b),s.2++gz n b)) s).2=s.2++L.flatMap (gz n):=by
  intro L
  induction L with
  | nil=>intro s;simp
  | cons b L ih=>intro s;rw[List.foldl_cons,ih,List.flatMap_cons,List.append_assoc]
 rw[List.drop_zero,fd,List.nil_append] at q
 refine⟨((allI n (t+1)).foldl (fun(s:Option D × List (List Int)) b=>(some (tpI b),s.2++gz n b)) (d4,[])).1,?_⟩
 rw[IU n (t+1),show allI n (t+1+1)=(allI n (t+1)).flatMap (gz n) from rfl]
 exact q
noncomputable def BO:MS:=(aF (aV 3 (aj (dy jg) ao)) (aF (fD (cN (ae 1)) (gN 4) BI) (aV 1 (ae 3))))
noncomputable def slot1:Nat->D
 | 0=>.frl [.tup []]
 | t+1=>.ref t
theorem JH {n t:Nat} {d2 d3 d4:Option D} (hn:n<=7) (ht:t<n):∃d3' d4',BO [some (.int n),some (slot1 t),d2,d3,d4] (hpA n t)=.ok (.nx [some (.int n),some (slot1 (t+1)),d2,d3',d4']) (hpA n (t+1)):=by
 cases t with
 | zero=>
  have b:=Fj (n:=n) (t:=0) (b:=[]) (acc:=[]) (d1:=some (.frl [.tup []])) (d2:=d2) hn (by simp) (by have:=tE n [];simp;omega)
  have e0:hpA n 0=[]:=rfl
  have e1:hpA n 1=[.lst ((gz n []).map tpI)]:=by simp[hpA,allI]
  rw[e0] at b
  simp only[List.nil_append,List.map_nil,tpI] at b
  refine⟨some (.ref 0),some (.tup []),?_⟩
  rw[e0,e1]
  simp[BO,slot1,jH,oj,b]
 | succ t=>
  obtain⟨d4',q⟩:=Bj (n:=n) (t:=t) (d2:=d2) (d4:=d4) hn (by omega)
  have l:ax (hpA n (t+1)++[.lst []]) t=some ((allI n (t+1)).map tpI):=xA t (by omega)
  refine⟨some (.ref (t+1)),d4',?_⟩
  have nl:∀h:Hh,dy jg [] h=.ok (.ref h.length) (h++[.lst []]):=fun h=>by simp
  have sk:Dx (gN 4) BI [some (.int n),some (.ref t),d2,some (.ref (t+1)),d4] (.live t) (hpA n (t+1)++[.lst []])=.ok (.nx [some (.int n),some (.ref t),d2,some (.ref (t+1)),d4']) (hpA n (t+2)):=by
   show f_ (Src.live t).rdr (gN 4) BI ((ax (hpA n (t+1)++[.lst []]) t).getD []).length 0 _ _=_
   rw[l,Option.getD_some,List.length_map]
   exact q
  simp[BO,slot1,n4,CP l,sk]
theorem wo {n:Nat} (hn:n<=7):∀(k j:Nat) (d2 d3 d4:Option D),j+k=n->∃d2' d3' d4',eR (gN 2) BO (((List.range k).map fun i=>j+i).map fun(i:Nat)=>D.int i) [some (.int n),some (slot1 j),d2,d3,d4] (hpA n j)=.ok (.nx [some (.int n),some (slot1 n),d2',d3',d4']) (hpA n n)
 | 0,j,d2,d3,d4,e=>⟨d2,d3,d4,by
   have:j=n:=by omega
   subst this
   simp[oj]⟩
 | k+1,j,d2,d3,d4,e=>by
  obtain⟨e3,e4,b⟩:=JH (n:=n) (t:=j) (d2:=some (.int j)) (d3:=d3) (d4:=d4) hn (by omega)
  obtain⟨d2',d3',d4',q⟩:=wo hn k (j+1) (some (.int j)) e3 e4 (by omega)
  refine⟨d2',d3',d4',?_⟩
  have er:((List.range (k+1)).map fun i=>j+i)=j::(List.range k).map fun i=>(j+1)+i:=by
   rw[List.range_succ_eq_map,List.map_cons,List.map_map]
   congr 1
   apply List.map_congr_left
   intro i _
   simp;omega
  rw[er,List.map_cons,jH]
  generalize (((List.range k).map fun i=>(j+1)+i).map fun(i:Nat)=>D.int i)=TL at q ⊢
  simp[b,q]
theorem EM {H:Hh} {k:Nat} {ds:List D} (e:ax H k=some ds) (l:ds.all (deep 7)=true):bU [] (.ref k) H=.ok (.frl ds) []:=by
 have fz:eV 0 H 8 (.ref k)=some (.frl ds):=by
  unfold eV
  simp only[Nat.not_lt_zero,if_false,e]
  rw[gA fun d hd=>dJ 7 d (List.all_eq_true.mp l d hd)]
  rfl
 unfold bU
 simp[fz]
theorem A1 (L:List (List Int)):(L.map tpI).all (deep 7)=true:=by
 rw[List.all_map,List.all_eq_true]
 intro b _
 simp[tpI]
theorem Ey (L:List (List Int)):bD 0 (L.map tpI)=true:=lT fun b=>by simp[tpI,g8]
theorem Ic {n:Nat} (h1:1<=n) (hn:n<=7) (h:Hh):dG [.int n] h=.ok (.frl ((allI n n).map tpI)) h:=by
 obtain⟨d2,d3,d4,q⟩:=wo hn n 0 none none none (by omega)
 have q':eR (gN 2) BO (cM 0 n) [some (.int n),some (.frl [.tup []]),none,none,none] []=.ok (.nx [some (.int n),some (slot1 n),d2,d3,d4]) (hpA n n):=by
  rw[fR]
  have:((List.range n).map fun i=>0+i)=List.range n:=by simp
  rw[this] at q
  exact q
 obtain⟨k,rfl⟩:∃k,n=k+1:=⟨n - 1,by omega⟩
 have l:ax (hpA (k+1) (k+1)) k=some ((allI (k+1) (k+1)).map tpI):=by
  have:=xA (n:=k+1) (t:=k+1) (r:=[]) k (by omega)
  simpa using this
 have ex:=EM l (A1 _)
 have z:k+1<=1000000:=by omega
 have me:dG=AB (fun ds h=>((cn 5 (aF (aV 1 (aj (dy aR) (aa (aj b_ ao) ao))) (aF (fD (fk ft (aa (ae 0) ao)) (gN 2) BO) (bB (ae 1))))) ds h).bind (bU h)):=rfl
 have lo:bD 0 [D.int ((k+1:Nat):Int)]=true:=by simp[bD,g8]
 have lo2:g8 0 (.frl ((allI (k+1) (k+1)).map tpI))=true:=by simp only[g8];exact Ey _
 rw[me]
 generalize hK:((k+1:Nat):Int)=K1 at q' lo ⊢
 have z1:K1.natAbs<=1000000:=by omega
 have z2:K1.toNat=k+1:=by omega
 simp[AB,lo,aX,z1,z2,q',slot1,ex,lo2]
noncomputable def fll (n:Nat) (B:List Int->Int):Nat->List (List Int)
 | 0=>[[]]
 | m+1=>(fll n B m).flatMap fun xs=>(nxB n B xs).map fun x=>xs++[x]
noncomputable def wsm (B:List Int->Int) (L:List (List Int)):Int:=(L.map B).sum
theorem Fd {B:List Int->Int} {L1 L2:List (List Int)}:wsm B (L1++L2)=wsm B L1+wsm B L2:=by unfold wsm;rw[List.map_append,List.sum_append]
theorem pX {B:List Int->Int} {x:List Int} {L:List (List Int)}:wsm B (x::L)=B x+wsm B L:=by unfold wsm;rw[List.map_cons,List.sum_cons]
theorem Dy {B:List Int->Int} {xs l:List Int}:wsm B (l.map fun x=>xs++[x])=ug B xs l:=by unfold wsm ug;rw[List.map_map];rfl
theorem fQ {n:Nat} {B:List Int->Int}:∀m,∀xs∈fll n B m,xs.length=m/\Beg n xs
 | 0,xs,h=>by simp[fll] at h;subst h;exact⟨rfl,Beg.nil n⟩
 | m+1,xs,h=>by
  unfold fll at h
  obtain⟨ys,hy,hx⟩:=List.mem_flatMap.mp h
  obtain⟨x,hz,rfl⟩:=List.mem_map.mp hx
  obtain⟨l,b⟩:=fQ m ys hy
  exact⟨by simp[l],b.snoc (yL hz)⟩
theorem wC {n:Nat} {B:List Int->Int} (C:Cnt n B):∀{L:List (List Int)},(∀xs∈L,Beg n xs/\xs.length<n)->wsm B (L.flatMap fun xs=>(nxB n B xs).map fun x=>xs++[x])=wsm B L
 | [],_=>rfl
 | xs::L,h=>by
  obtain⟨b,l⟩:=h xs List.mem_cons_self
  rw[List.flatMap_cons,Fd,wC C fun ys hy=>h ys (List.mem_cons_of_mem _ hy),pX,Dy,C.nx b l]
theorem yS {n:Nat} {B:List Int->Int} (C:Cnt n B):∀m,m<=n->wsm B (fll n B m)=B []
 | 0,_=>by show wsm B [[]]=_;rw[pX];show B []+0=_;omega
 | m+1,hm=>by
  show wsm B ((fll n B m).flatMap _)=_
  rw[wC C fun ys hy=>by
   obtain⟨l,b⟩:=fQ m ys hy
   exact⟨b,by omega⟩,yS C m (by omega)]
theorem Dw {n:Nat} {B:List Int->Int} (h0:0<B []):∀m,∀xs∈fll n B m,0<B xs
 | 0,xs,h=>by simp[fll] at h;subst h;exact h0
 | m+1,xs,h=>by
  unfold fll at h
  obtain⟨ys,hy,hx⟩:=List.mem_flatMap.mp h
  obtain⟨x,hz,rfl⟩:=List.mem_map.mp hx
  have:=(List.mem_filter.mp hz).2
  simpa using this
theorem tF {n:Nat} {B:List Int->Int} (C:Cnt n B) {xs:List Int} (b:Beg n xs) (hl:xs.length<n) (h:¬ 0<B xs):nxB n B xs=[]:=by
 have s:=C.nx b hl
 have p:=C.pos xs b
 cases e:nxB n B xs with
 | nil=>rfl
 | cons x l=>
  have hx:x∈nxB n B xs:=by rw[e];exact List.mem_cons_self
  have h1:=(List.mem_filter.mp hx).2
  have h1:0<B (xs++[x]):=by simpa using h1
  rw[e,jG] at s
  have:=yc (B:=B) (xs:=xs) (l:=l) fun y hy=>C.left b y (yL (by rw[e];exact List.mem_cons_of_mem _ hy))
  omega
theorem qo {n:Nat} {xs:List Int}:gz n xs=(aQ n xs).map fun x=>xs++[x]:=by
 unfold gz aQ fN
 rw[List.filter_map,List.map_map]
 simp only[Function.comp_def,Int.zero_add]
theorem n9 {n:Nat} {B:List Int->Int} (C:Cnt n B):∀m,m<=n->(∀xs∈allI n m,xs.length=m/\Beg n xs)/\(0<B []->(allI n m).filter (fun xs=>decide (0<B xs))=fll n B m)
 | 0,_=>⟨fun xs h=>by simp[allI] at h;subst h;exact⟨rfl,Beg.nil n⟩,fun h=>by
  show List.filter _ [[]]=_
  rw[List.filter_cons,if_pos (by simpa using h)];rfl⟩
 | m+1,hm=>by
  obtain⟨i1,i2⟩:=n9 C m (by omega)
  have key:∀L:List (List Int),(∀xs∈L,xs.length=m/\Beg n xs)->(L.flatMap (gz n)).filter (fun xs=>decide (0<B xs))=(L.filter fun xs=>decide (0<B xs)).flatMap fun xs=>(nxB n B xs).map fun x=>xs++[x]:=by
   intro L
   induction L with
   | nil=>intro _;rfl
   | cons xs L ih=>
    intro hL
    obtain⟨l,b⟩:=hL xs List.mem_cons_self
    have ih:=ih fun ys hy=>hL ys (List.mem_cons_of_mem _ hy)
    rw[List.flatMap_cons,List.filter_append,ih,qo]
    have e:((aQ n xs).map fun x=>xs++[x]).filter (fun xs=>decide (0<B xs))=(nxB n B xs).map fun x=>xs++[x]:=by
     rw[List.filter_map];rfl
    rw[e,List.filter_cons]
    by_cases c:0<B xs
    ·rw[if_pos (by simpa using c),List.flatMap_cons]
    ·rw[if_neg (by simpa using c),tF C b (by omega) c];rfl
  refine⟨fun xs h=>?_,fun h=>?_⟩
  ·rw[allI] at h
   obtain⟨ys,hy,hx⟩:=List.mem_flatMap.mp h
   rw[qo] at hx
   obtain⟨x,hz,rfl⟩:=List.mem_map.mp hx
   obtain⟨l,b⟩:=i1 ys hy
   exact⟨by simp[l],b.snoc hz⟩
  ·rw[allI,key _ i1,i2 h];rfl
structure KI (P:List Key->Int->Prop) (kvs:List (List Key × D)):Prop where
 nd:(kvs.map (·.1)).Nodup
 all:∀kv∈kvs,∃v,kv.2=.int v/\P kv.1 v
theorem vS {k:List Key} {d:D}:∀{kvs:List (List Key × D)},fv kvs k=some d->(k,d)∈kvs
 | [],e=>by cases e
 | p::r,e=>by
  unfold fv at e
  split at e
  ·rename_i c
   cases e
   rw[<- c]
   exact List.mem_cons_self
  ·exact List.mem_cons_of_mem _ (vS e)
theorem oS {k:List Key}:∀{kvs:List (List Key × D)},(fv kvs k=none/\k∉kvs.map (·.1)/\(kvs.any fun kv=>decide (kv.1=k))=false)\/((∃d,fv kvs k=some d)/\(kvs.any fun kv=>decide (kv.1=k))=true)
 | []=>.inl ⟨rfl,by simp,rfl⟩
 | p::r=>by
  unfold fv
  by_cases c:p.1=k
  ·exact .inr ⟨⟨p.2,if_pos c⟩,by simp[c]⟩
  ·rw[if_neg c]
   rcases oS (kvs:=r) (k:=k) with⟨a,b,e⟩ | ⟨a,e⟩
   ·refine .inl ⟨a,fun h=>?_,by rw[List.any_cons,e];simp[c]⟩
    rcases List.mem_cons.mp h with z | z
    ·exact c z.symm
    ·exact b z
   ·exact .inr ⟨a,by rw[List.any_cons,e];simp⟩
theorem vT {k:List Key} {d:D}:∀{kvs:List (List Key × D)},(kvs.any fun kv=>decide (kv.1=k))=true->fv (kvs.map fun kv=>if kv.1=k then (kv.1,d) else kv) k=some d
 | [],e=>by cases e
 | p::r,e=>by
  rw[List.map_cons]
  by_cases c:p.1=k
  ·rw[if_pos c];unfold fv;rw[if_pos c]
  ·rw[if_neg c];unfold fv;rw[if_neg c]
   refine vT ?_
   rw[List.any_cons] at e
   simpa [c] using e
theorem uO {k:List Key} {d:D}:∀{kvs:List (List Key × D)},fv kvs k=none->fv (kvs++[(k,d)]) k=some d
 | [],_=>if_pos rfl
 | p::r,e=>by
  unfold fv at e
  split at e
  ·cases e
  ·rename_i c
   rw[List.cons_append];unfold fv;rw[if_neg c];exact uO e
theorem Ce {kvs:List (List Key × D)} {k:List Key} {d:D}:fv (qZ kvs k d) k=some d:=by
 unfold qZ
 rcases oS (kvs:=kvs) (k:=k) with⟨a,b,e⟩ | ⟨a,e⟩
 ·rw[if_neg (by rw[e];exact Bool.false_ne_true)];exact uO a
 ·rw[if_pos e];exact vT e
theorem KI.put {P:List Key->Int->Prop} {kvs:List (List Key × D)} {k:List Key} {v:Int} (r:KI P kvs) (p:P k v):KI P (qZ kvs k (.int v)):=by
 unfold qZ
 rcases oS (kvs:=kvs) (k:=k) with⟨a,b,e⟩ | ⟨a,e⟩
 ·rw[if_neg (by rw[e];exact Bool.false_ne_true)]
  refine⟨?_,fun kv h=>?_⟩
  ·rw[List.map_append]
   exact List.nodup_append.mpr ⟨r.nd,List.nodup_cons.mpr ⟨by simp,List.nodup_nil⟩,fun x hx y hy=>by
    simp only[List.map_cons,List.map_nil,List.mem_singleton] at hy
    subst hy
    exact fun z=>b (z ▸ hx)⟩
  ·rcases List.mem_append.mp h with h | h
   ·exact r.all kv h
   ·rw[List.mem_singleton] at h;subst h;exact⟨v,rfl,p⟩
 ·rw[if_pos e]
  refine⟨?_,fun kv h=>?_⟩
  ·have:(kvs.map fun kv=>if kv.1=k then (kv.1,D.int v) else kv).map (·.1)=kvs.map (·.1):=by
    rw[List.map_map]
    refine List.map_congr_left fun kv _=>?_
    show(if kv.1=k then (kv.1,D.int v) else kv).1=kv.1
    split<;>rfl
   rw[this];exact r.nd
  ·obtain⟨kv',h',rfl⟩:=List.mem_map.mp h
   by_cases c:kv'.1=k
   ·rw[if_pos c];exact⟨v,rfl,by rw[c];exact p⟩
   ·rw[if_neg c];exact r.all kv' h'
theorem uz:∀(n:Nat) (xs:List Int),xs.Nodup->(∀x∈xs,0<=x/\x<n)->xs.length<=n
 | 0,xs,_,h=>by
  cases xs with
  | nil=>simp
  | cons x r=>have:=h x List.mem_cons_self;omega
 | n+1,xs,nd,h=>by
  by_cases hm:(n:Int)∈xs
  ·have ih:=uz n (xs.erase n) (nd.erase _) (fun x hx=>by
    obtain⟨a,b⟩:=(List.Nodup.mem_erase_iff nd).mp hx
    have:=h x b;omega)
   rw[List.length_erase_of_mem hm] at ih
   omega
  ·have ih:=uz n xs nd (fun x hx=>by
    have a:=h x hx
    have b:x≠(n:Int):=fun e=>hm (e ▸ hx)
    omega)
   omega
theorem KI.len {P:List Key->Int->Prop} {kvs:List (List Key × D)} (r:KI P kvs) (enc:List Key->Int) (N:Nat) (hE:∀k v,P k v->0<=enc k/\enc k<N) (hI:∀k k' v v',P k v->P k' v'->enc k=enc k'->k=k'):kvs.length<=N:=by
 have nd:((kvs.map (·.1)).map enc).Nodup:=by
  have key:∀l:List (List Key),l.Nodup->(∀k∈l,∃v,P k v)->(l.map enc).Nodup:=by
   intro l
   induction l with
   | nil=>intros;exact List.nodup_nil
   | cons k l ih=>
    intro nd h
    obtain⟨n1,n2⟩:=List.nodup_cons.mp nd
    rw[List.map_cons]
    refine List.nodup_cons.mpr ⟨fun z=>?_,ih n2 fun k' hk=>h k' (List.mem_cons_of_mem _ hk)⟩
    obtain⟨k',hk',e⟩:=List.mem_map.mp z
    obtain⟨v,p⟩:=h k List.mem_cons_self
    obtain⟨v',p'⟩:=h k' (List.mem_cons_of_mem _ hk')
    exact n1 (hI k' k v' v p' p e ▸ hk')
  refine key _ r.nd fun k hk=>?_
  obtain⟨kv,hkv,rfl⟩:=List.mem_map.mp hk
  obtain⟨v,_,p⟩:=r.all kv hkv
  exact⟨v,p⟩
 have:=uz N _ nd fun x hx=>by
  obtain⟨k,hk,rfl⟩:=List.mem_map.mp hx
  obtain⟨kv,hkv,rfl⟩:=List.mem_map.mp hk
  obtain⟨v,_,p⟩:=r.all kv hkv
  exact hE _ v p
 simpa using this
theorem KI.val {P:List Key->Int->Prop} {kvs:List (List Key × D)} {k:List Key} {d:D} (r:KI P kvs) (e:fv kvs k=some d):∃v,d=.int v/\P k v:=by
 obtain⟨v,e1,p⟩:=r.all _ (vS e)
 exact⟨v,e1,p⟩
theorem nZ {h:Hh} {m:Nat} {kvs:List (List Key × D)} (hm:m<h.length):hV (h.set m (.dit kvs)) m=some kvs:=by
 unfold hV;rw[List.getElem?_set_self hm]
theorem CG {h:Hh} {m:Nat} {kvs:List (List Key × D)} {d v:D} {k:List Key} (e:hV h m=some kvs) (ek:pj d=some k) (ev:fv kvs k=some v):sF (.ref m) d h=.ok v h:=by
 delta sF;rw[ek];dsimp only;rw[e];dsimp only;rw[ev]
theorem Ck {h:Hh} {m:Nat} {kvs:List (List Key × D)} {d:D} {k:List Key} (e:hV h m=some kvs) (ek:pj d=some k):jQ d (.ref m) h=.ok (.bl (!(fv kvs k).isSome)) h:=by
 delta jQ;rw[ek];dsimp only;rw[e]
theorem HC {h:Hh} {m:Nat} {kvs:List (List Key × D)} {d v:D} {k:List Key} (e:hV h m=some kvs) (ek:pj d=some k) (hl:kvs.length<1000000):rH (.ref m) d v h=.ok () (h.set m (.dit (qZ kvs k v))):=by
 delta rH;rw[ek];dsimp only;rw[e];exact if_pos hl
theorem KI.low {P:List Key->Int->Prop} {kvs:List (List Key × D)} {j:Nat} (r:KI P kvs):jS j (.dit kvs)=true:=by
 show bD j (kvs.map (·.2))=true
 refine g9 fun d hd=>?_
 obtain⟨kv,hkv,rfl⟩:=List.mem_map.mp hd
 obtain⟨v,e,_⟩:=r.all kv hkv
 rw[e];rfl
theorem KI.nil {P:List Key->Int->Prop}:KI P []:=⟨List.nodup_nil,by simp⟩
noncomputable def f1 (xs:List Int):D:=.frl (xs.map D.int)
noncomputable def f2 (xss:List (List Int)):D:=.frl (xss.map f1)
theorem HA {l:List Int} {i j:Nat} {v:Int} (hj:j<l.length):gI (l.set i v) j=if i=j then v else gI l j:=by
 rw[fL (by simpa using hj),fL hj,List.getElem_set]
theorem Ie {xs ys:List Int} (h:xs.length=ys.length) (e:∀i,i<xs.length->gI xs i=gI ys i):xs=ys:=by
 refine List.ext_getElem h fun i h1 h2=>?_
 have:=e i h1
 rwa [fL h1,fL h2] at this
theorem HB {n:Nat} {ns:List Int} {i:Int} {j:Nat} {h:Hh} (e:ax h n=some (ns.map D.int)) (hi:i=(j:Int)) (hj:j<ns.length):BZ (.ref n) (.int i) h=.ok (.int (gI ns j)) h:=by
 have:=jJ (ns:=ns) (h:=h) hi hj
 delta BZ;dsimp only;rw[oF e];exact this
theorem ET (L:List (List Int)):eK (L.map f1)=(List.range L.length).map fun(i:Nat)=>D.tup [.int i,f1 (L.getD i [])]:=by
 unfold eK
 rw[List.length_map]
 refine List.map_congr_left fun i hi=>?_
 have hi:=List.mem_range.mp hi
 simp[hi]
noncomputable def RIB:MS:=(uj (ae 2) (aq (cL aR) (ae 6) (ae 5)) (ae 7))
noncomputable def ROB:MS:=(aF (aV 5 (cIf (aC asB (aq dLt (ae 3) (ae 1))) (cC (.int 1)) (cC (.int 0)))) (fD (jl (ae 4)) (gT2 6 7) RIB))
theorem JF:cq=fun ds h=>((cn 8 (aF (aV 2 (aq (vn jg) (aj (dy aR) (aa (cC (.int 0)) ao)) (aq (cL aR) (aj eI (aa (ae 0) ao)) (cC (.int 1))))) (aF (fD (jl (ae 0)) (gT2 3 4) ROB) (bB (ae 2))))) ds h).bind (bU h):=rfl
theorem BK {m i:Nat} {l:Int} {c:List Int} {h:Hh} {d0 d1 d3 d4 y6 y7:Option D} (hc:c.length=m+2) (hi:i<=m) (hm:m<=20):∃c' y6' y7',c'.length=m+2/\(∀f,f<m+2->gI c' f=gI c f+Rn m i ((f:Int) - lss i l))/\eR (gT2 6 7) RIB (eK ((dw m i).map D.int)) [d0,d1,some (.ref h.length),d3,d4,some (.int (lss i l)),y6,y7] (h++[.lst (c.map D.int)])=.ok (.nx [d0,d1,some (.ref h.length),d3,d4,some (.int (lss i l)),y6',y7']) (h++[.lst (c'.map D.int)]):=by
 have l01:=tH i l
 obtain⟨t,ht⟩:∃t:Nat,lss i l=(t:Int):=⟨(lss i l).toNat,by omega⟩
 have t1:t<=1:=by omega
 rw[ht,rB,i6]
 obtain⟨q,q2⟩:=yN (σ:=List Int × Option D × Option D) (tg:=gT2 6 7) (body:=RIB) (fun(j:Nat)=>D.tup [.int j,.int (gI (dw m i) j)]) (m+1) (fun s=>[d0,d1,some (.ref h.length),d3,d4,some (.int t),s.2.1,s.2.2]) (fun s=>h++[.lst (s.1.map D.int)]) (fun s j=>(s.1.set (j+t) (gI s.1 (j+t)+gI (dw m i) j),some (.int j),some (.int (gI (dw m i) j))))
  (fun j s=>s.1.length=m+2/\∀f,f<m+2->gI s.1 f=gI c f+if (f:Int) - t<j then Rn m i ((f:Int) - t) else 0) (c,y6,y7) ⟨hc,fun f hf=>by
   by_cases z:(f:Int) - t<((0:Nat):Int)
   ·rw[if_pos z,sT _ _ _ (by omega)];simp
   ·rw[if_neg z];simp⟩ (fun j s hj ⟨sl,sv⟩=>by
   refine⟨⟨by simp[sl],fun f hf=>?_⟩,.inl ?_⟩
   ·dsimp only
    rw[HA (by omega)]
    by_cases e:j+t=f
    ·subst e
     rw[if_pos rfl,sv _ hf,s_ (by omega),if_neg (by omega),if_pos (by omega),show(((j+t:Nat):Int)) - t=j by omega]
     omega
    ·rw[if_neg e,sv f hf]
     by_cases z:(f:Int) - t<j
     ·rw[if_pos z,if_pos (by omega)]
     ·rw[if_neg z,if_neg (by omega)]
   ·have ij:(j:Int)+(t:Int)=((j+t:Nat):Int):=by omega
    have x1:=HB (n:=h.length) (ns:=s.1) (i:=((j+t:Nat):Int)) (j:=j+t) (h:=h++[.lst (s.1.map D.int)]) cb rfl (by omega)
    have n2:ixN (s.1.map D.int).length ((j+t:Nat):Int)=some (j+t):=by rw[List.length_map];exact Et rfl (by omega)
    have st:iE (.ref h.length) (.int ((j+t:Nat):Int)) (.int (gI s.1 (j+t)+gI (dw m i) j)) (h++[.lst (s.1.map D.int)])=.ok () (h++[.lst ((s.1.set (j+t) (gI s.1 (j+t)+gI (dw m i) j)).map D.int)]):=by
     rw[n_ cb n2,lD,List.map_set]
    generalize gI (dw m i) j=v at *
    generalize ((j+t:Nat):Int)=w at *
    generalize j+t=w' at *
    simp[RIB,ij,x1,st])
 obtain⟨sl,sv⟩:=q2
 exact⟨_,_,_,sl,fun f hf=>by
  rw[sv f hf]
  by_cases z:(f:Int) - t<((m+1:Nat):Int)
  ·rw[if_pos z]
  ·rw[if_neg z,xc _ _ _ (by omega)],q⟩
theorem El {m:Nat} {l:Int} {h:Hh} (hm:m<=20) (w:Wf h):cq [f2 (dS m),.int l] h=.ok (f1 (dw (m+1) l)) h:=by
 have key:∀(j i:Nat) (c:List Int) (y3 y4 y5 y6 y7:Option D),i+j=m+1->c.length=m+2->(∀f,f<m+2->gI c f=sg (fun r=>Rn m r ((f:Int) - lss r l)) i)->∃c' z3 z4 z5 z6 z7,c'.length=m+2/\(∀f,f<m+2->gI c' f=sg (fun r=>Rn m r ((f:Int) - lss r l)) (m+1)) ∧
   eR (gT2 3 4) ROB ((List.range' i j).map fun(i:Nat)=>D.tup [.int i,f1 (dw m i)]) [some (f2 (dS m)),some (.int l),some (.ref h.length),y3,y4,y5,y6,y7] (h++[.lst (c.map D.int)])=.ok (.nx [some (f2 (dS m)),some (.int l),some (.ref h.length),z3,z4,z5,z6,z7]) (h++[.lst (c'.map D.int)]):=by
  intro j
  induction j with
  | zero=>
   intro i c y3 y4 y5 y6 y7 e hc hv
   have:i=m+1:=by omega
   subst this
   exact⟨c,y3,y4,y5,y6,y7,hc,hv,rfl⟩
  | succ j ih=>
   intro i c y3 y4 y5 y6 y7 e hc hv
   obtain⟨c1,z6,z7,l1,v1,q1⟩:=BK (m:=m) (i:=i) (l:=l) (c:=c) (h:=h) (d0:=some (f2 (dS m))) (d1:=some (.int l)) (d3:=some (.int i)) (d4:=some (f1 (dw m i))) (y6:=y6) (y7:=y7) hc (by omega) hm
   obtain⟨c',w3,w4,w5,w6,w7,lc,vc,qc⟩:=ih (i+1) c1 (some (.int i)) (some (f1 (dw m i))) (some (.int (lss i l))) z6 z7 (by omega) l1 (fun f hf=>by rw[v1 f hf,hv f hf,qG])
   refine⟨c',w3,w4,w5,w6,w7,lc,vc,?_⟩
   rw[List.range'_succ,List.map_cons,jH]
   have b:ROB [some (f2 (dS m)),some (.int l),some (.ref h.length),some (.int i),some (f1 (dw m i)),y5,y6,y7] (h++[.lst (c.map D.int)])=.ok (.nx [some (f2 (dS m)),some (.int l),some (.ref h.length),some (.int i),some (f1 (dw m i)),some (.int (lss i l)),z6,z7]) (h++[.lst (c1.map D.int)]):=by
    have eE:rJ (f1 (dw m i)) (h++[.lst (c.map D.int)])=.ok (.snap (eK ((dw m i).map D.int))) (h++[.lst (c.map D.int)]):=rfl
    by_cases z:(i:Int)<l
    ·have le:lss i l=1:=if_pos z
     rw[le] at q1 ⊢
     simp[ROB,z,eE,q1]
    ·have le:lss i l=0:=if_neg z
     rw[le] at q1 ⊢
     simp[ROB,z,eE,q1]
   simp[b,qc]
 obtain⟨c',z3,z4,z5,z6,z7,lc,vc,q⟩:=key (m+1) 0 (List.replicate (m+2) 0) none none none none none (by omega) (by simp) (fun f hf=>by rw[Ap,fL (by simpa using hf)];simp)
 have ce:c'=dw (m+1) l:=Ie (by rw[lc,i6]) fun f hf=>by
  rw[lc] at hf
  rw[vc f hf,s_ (by omega)];rfl
 subst ce
 have en:rJ (f2 (dS m)) (h++[.lst (List.replicate (m+2) (.int 0))])=.ok (.snap ((List.range' 0 (m+1)).map fun(i:Nat)=>D.tup [.int i,f1 (dw m i)])) (h++[.lst (List.replicate (m+2) (.int 0))]):=by
  show R.ok (Src.snap (eK ((dS m).map f1))) _=_
  rw[ET,vU,<- List.range_eq_range']
  congr 2
  refine List.map_congr_left fun i hi=>?_
  have hi:=List.mem_range.mp hi
  simp[dS,hi]
 have ex:=rL (h:=h) (ds:=(dw (m+1) l).map D.int) (t:=[]) w (by simp[deep])
 have ll:eI [f2 (dS m)] h=.ok (.int ((m+1:Nat):Int)) h:=by
  show R.ok (D.int (((dS m).map f1).length:Int)) h=_
  rw[List.length_map,vU]
 have z1:(((m+1:Nat):Int)+1).toNat=m+2:=by omega
 have z2:m+2<=1000000:=by omega
 have z3:(((m+1:Nat):Int)+1).natAbs<=1000000:=by omega
 have z4:1<=(((m+1:Nat):Int)+1):=by omega
 rw[List.map_replicate] at q
 rw[JF]
 generalize f2 (dS m)=FT at *
 show _=R.ok (D.frl ((dw (m+1) l).map D.int)) h
 generalize (dw (m+1) l).map D.int=W at *
 simp[-Int.natCast_add,aX,ll,z1,z2,z3,z4,en,q,ex]
noncomputable def rsD (k:Nat):List D:=(List.range (k+1)).map fun j=>f2 (dS j)
theorem HU (k:Nat):rsD (k+1)=rsD k++[f2 (dS (k+1))]:=by simp[rsD,List.range_succ]
theorem uD (k:Nat):(rsD k).length=k+1:=by simp[rsD]
theorem Gq {k j:Nat} {i:Int} {h:Hh} (e:i=(j:Int)) (hj:j<=k):ixK (rsD k) i h=.ok (f2 (dS j)) h:=k9 e (by rw[rsD,List.getElem?_map,List.getElem?_range (by omega)];rfl)
theorem D3 {k:Nat} {h:Hh}:ixK (rsD k) (-1) h=.ok (f2 (dS k)) h:=by
 have e:ixN (rsD k).length (-1)=some k:=by rw[uD];unfold ixN;simp;omega
 unfold ixK atI
 rw[e]
 have:(rsD k)[k]?=some (f2 (dS k)):=by simp[rsD]
 simp[this]
noncomputable def RSB:MS:=(fi (eA fP (ae 1) (aa (cx aR (fk ft (aa (aq (cL aR) (ae 2) (cC (.int 1))) ao)) [1] tt1 (aj cq (aa (aq dIx (ae 1) (cUn jm (cC (.int 1)))) (aa (ae 0) ao)))) ao)))
theorem Ig:dC=fun ds h=>((cn 3 (aF (aV 1 (aj (dy jg) (aa (aj (dy aR) (aa (aj (dy aR) (aa (cC (.int 1)) ao)) ao)) ao))) (aF (fD (fk xX (aa (cC (.int 1)) (aa (aq (cL aR) (ae 0) (cC (.int 1))) ao))) (gN 2) RSB) (bB (ae 1))))) ds h).bind (bU h):=rfl
theorem vF {n:Nat} {h:Hh} (hn:n<=12) (w:Wf h):dC [.int n] h=.ok (.frl (rsD n)) h:=by
 have low:∀k j,bD j (rsD k)=true:=fun k j=>g9 fun d hd=>by
  obtain⟨i,_,rfl⟩:=List.mem_map.mp hd
  show bD j ((dS i).map f1)=true
  exact lT fun b=>by show bD j (b.map D.int)=true;exact pW
 obtain⟨q,e⟩:=Bp (σ:=Nat × Option D) (tg:=gN 2) (body:=RSB) 1 n (fun s=>[some (.int n),some (.ref h.length),s.2]) (fun s=>h++[.lst (rsD s.1)]) (fun s i=>(i+1,some (.int (1+i)))) (fun i s=>s.1=i) (0,none) rfl (fun i s hi hs=>⟨rfl,.inl (by
   subst hs
   obtain⟨i,y⟩:=s
   dsimp only at hi ⊢
   have c:cy tt1 (aj cq (aa (aq dIx (ae 1) (cUn jm (cC (.int 1)))) (aa (ae 0) ao))) (fun x=>[some x,some (.ref h.length)]) (cM 0 (i+2)) (h++[.lst (rsD i)])=.ok ((dS (i+1)).map f1) (h++[.lst (rsD i)]):=by
    have w2:Wf (h++[.lst (rsD i)]):=w.app (by show bD _ _=true;exact low i _)
    rw[zX (fun j=>f1 (dw (i+1) j)) (fun j hj=>by
     have r:=El (m:=i) (l:=(j:Int)) (h:=h++[.lst (rsD i)]) (by omega) w2
     simp[D3,r]),dS,List.map_map]
    rfl
   have z1:(1+(i:Int)+1).natAbs<=1000000:=by omega
   have z2:(1+(i:Int)+1).toNat=i+2:=by omega
   have z3:i+2<=1000000:=by omega
   have z4:(rsD i).length<1000000:=by rw[uD];omega
   rw[HU]
   show _=R.ok (Fl.nx [some (.int n),some (.ref h.length),some (.int (1+i))]) (h++[.lst (rsD i++[.frl ((dS (i+1)).map f1)])])
   generalize (dS (i+1)).map f1=W at *
   generalize rsD i=V at *
   simp[RSB,z1,z2,z3,z4,c])⟩)
 generalize List.foldl _ _ _=s9 at q e
 obtain⟨i9,y9⟩:=s9
 dsimp only at q e
 subst e
 have dp:(rsD i9).all (deep 7)=true:=by
  rw[List.all_eq_true]
  intro d hd
  obtain⟨j,_,rfl⟩:=List.mem_map.mp hd
  simp[f2,f1,deep,List.all_eq_true]
 have ex:=rL (h:=h) (ds:=rsD i9) (t:=[]) w dp
 have r0:rsD 0=[.frl [.frl [.int 1]]]:=rfl
 rw[r0] at q
 have z1:(i9:Int)+1 - 1=i9:=by omega
 have z2:i9<=1000000:=by omega
 have z3:((i9:Int)+1).natAbs<=1000000:=by omega
 rw[Ig]
 generalize rsD i9=V at *
 simp[aX,z1,z2,z3,q,ex]
noncomputable def rkI (xs:List Int) (b:Int):Int:=b - ((xs.filter fun x=>decide (x<b)).length:Int)
noncomputable def ebV (n:Nat) (k a b:Int) (xs:List Int):Int:=if xs.length=0 then Eb n k a b else if gI xs 0=a/\b∉xs.dropLast then Eb (n+1 - xs.length) (k - ((aP xs).length:Int)) (lwI xs) (rkI xs.dropLast b) else 0
theorem FH {n:Nat} {k a b:Int}:0<=Eb n k a b:=by
 unfold Eb
 split
 ·split<;>omega
 ·split
  ·omega
  ·exact(yT _ _ _).1
theorem oy:∀{a b:Nat},a<=b->qN a<=qN b
 | a,0,h=>by have:a=0:=by omega
             subst this;exact Nat.le_refl _
 | a,b+1,h=>by
  by_cases c:a=b+1
  ·subst c;exact Nat.le_refl _
  ·have:=oy (a:=a) (b:=b) (by omega)
   show _<=(b+1)*qN b
   rw[Nat.succ_mul];omega
theorem HX {n:Nat} {k a b:Int} {N:Nat} (h:n<=N+2):Eb n k a b<=qN N:=by
 have f1:1<=qN N:=oy (a:=0) (by omega)
 unfold Eb
 split
 ·split<;>omega
 ·split
  ·omega
  ·have:=(yT (n - 2) ((a - b - 1) % n) (k - (if b<a then 1 else 0))).2
   have:=oy (a:=n - 2) (b:=N) (by omega)
   omega
theorem JM {n:Nat} {k a b:Int} {xs:List Int}:0<=ebV n k a b xs:=by
 unfold ebV
 split
 ·exact FH
 ·split
  ·exact FH
  ·omega
theorem om {n:Nat} {xs:List Int} {v:Int} (b:Beg n xs) (h0:0<=v) (h1:v<n):rkI xs v=(((aQ n xs).filter fun x=>decide (x<v)).length:Int):=by
 have:=n6 b v.toNat (by omega)
 rw[show((v.toNat:Nat):Int)=v by omega] at this
 have e1:gu (fun x=>!(xs.any (· == x))&&decide (x<v)) (fN 0 n)=((aQ n xs).filter fun x=>decide (x<v)).length:=by
  unfold gu aQ
  rw[List.filter_filter]
  congr 2
  funext x
  exact Bool.and_comm _ _
 have e2:gu (fun x=>true&&decide (x<v)) xs=(xs.filter fun x=>decide (x<v)).length:=by
  unfold gu;simp
 unfold rkI
 omega
theorem eW {xs:List Int} (h:xs.length≠0):xs.dropLast++[aO xs]=xs:=by
 have h0:xs≠[]:=fun z=>h (by rw[z];rfl)
 have e:aO xs=xs.getLast h0:=by
  unfold aO
  rw[fL (by omega),List.getLast_eq_getElem]
 rw[e]
 exact List.dropLast_concat_getLast h0
theorem lH {xs:List Int} {v:Int} (h:xs.length≠0):rkI xs.dropLast v=rkI xs v+(if aO xs<v then 1 else 0):=by
 have e:(xs.filter fun x=>decide (x<v))=(xs.dropLast.filter fun x=>decide (x<v))++([aO xs].filter fun x=>decide (x<v)):=by
  rw[<- List.filter_append,eW h]
 unfold rkI
 rw[e,List.length_append,List.filter_cons]
 generalize aO xs=l
 by_cases c:l<v<;>simp[c]<;>omega
theorem zd {xs:List Int} (h:xs.length≠0):lwI xs=rkI xs (aO xs):=by
 unfold lwI rkI;rw[if_neg h]
theorem jE {n:Nat} {xs:List Int} {b:Int} (h0:0<=b) (h1:b<n) (h:b∉xs):b∈aQ n xs:=by
 refine List.mem_filter.mpr ⟨List.mem_map.mpr ⟨b.toNat,List.mem_range.mpr (by omega),by omega⟩,?_⟩
 have:xs.any (· == b)=false:=by
  rw[List.any_eq_false];intro x hx z;exact h (beq_iff_eq.mp z ▸ hx)
 rw[this];rfl
theorem Ff {n r:Nat} {xs:List Int} {x:Int} (b:Beg n xs) (hr:r<(aQ n xs).length) (hx':(aQ n xs)[r]=x):lwI (xs++[x])=r/\((aP (xs++[x])).length:Int)=((aP xs).length:Int)+lss r (lwI xs):=by
 have so:=oh n xs
 have xin:x∈aQ n xs:=hx' ▸ List.getElem_mem hr
 have b2:=b.snoc xin
 constructor
 ·rw[<- lA b2 (by simp),zL,zT,List.filter_filter]
  have:((aQ n xs).filter fun y=>decide (y<x)&&!(x == y))=(aQ n xs).filter fun y=>decide (y<x):=List.filter_congr fun y _=>by
   by_cases c:y<x
   ·have:¬ x=y:=by omega
    simp[c,this]
   ·simp[c]
  rw[this]
  have:=y_ so r hr
  rw[hx'] at this
  omega
 ·rw[xI]
  by_cases c:xs.length=0
  ·have:lwI xs=0:=if_pos c
   rw[this]
   have:lss r 0=0:=if_neg (by omega)
   rw[this]
   simp[c]
  ·rw[<- lA b c]
   have:=ua (v:=aO xs) so r hr
   rw[hx'] at this
   unfold lss
   by_cases d:x<aO xs
   ·have:=this.mp d
    rw[if_pos ⟨c,d⟩,if_pos (by omega)];omega
   ·have:¬ r<((aQ n xs).filter fun x=>decide (x<aO xs)).length:=fun z=>d (this.mpr z)
    rw[if_neg (fun z=>d z.2),if_neg (by omega)];omega
theorem xZ {V a:Int} (a0:0<=a):∀n:Nat,sg (fun i=>if (i:Int)=a then V else 0) n=if a<n then V else 0
 | 0=>by rw[Ap,if_neg (by omega)]
 | n+1=>by
  rw[qG,xZ a0 n]
  by_cases c:(n:Int)=a
  ·rw[if_neg (by omega),if_pos c,if_pos (by omega)];omega
  ·by_cases d:a<(n:Int)
   ·rw[if_pos d,if_neg c,if_pos (by omega)];omega
   ·rw[if_neg d,if_neg c,if_neg (by omega)];omega
theorem Hj {L:List Int} {f:Int->Int} (h:∀x∈L,f x=0):(L.map f).sum=0:=by
 induction L with
 | nil=>rfl
 | cons x L ih=>rw[List.map_cons,List.sum_cons,h x List.mem_cons_self,ih fun y hy=>h y (List.mem_cons_of_mem _ hy)];rfl
theorem tI {n:Nat} {k a b x:Int} {xs:List Int} (h:xs.length≠0):ebV n k a b (xs++[x])=if gI xs 0=a/\b∉xs then Eb (n - xs.length) (k - ((aP (xs++[x])).length:Int)) (lwI (xs++[x])) (rkI xs b) else 0:=by
 unfold ebV
 rw[if_neg (by simp),k8 (by omega),List.dropLast_concat,List.length_append]
 show(if _ then Eb (n+1 - (xs.length+1)) _ _ _ else _)=_
 rw[show n+1 - (xs.length+1)=n - xs.length by omega]
theorem zi {n:Nat} {k a:Int} (h:n≠1):Eb n k a a=0:=by unfold Eb;rw[if_neg h,if_pos rfl]
theorem Cs {n:Nat} {k a b:Int} (a0:0<=a) (a1:a<n) (b0:0<=b) (b1:b<n):Cnt n (ebV n k a b):=by
 refine⟨fun xs _=>JM,fun xs bg hl=>?_⟩
 by_cases c:xs.length=0
 ·have:xs=[]:=List.eq_nil_of_length_eq_zero c
  subst this
  have e1:ebV n k a b []=Eb n k a b:=if_pos rfl
  have el:aQ n []=fN 0 n:=by unfold aQ;simp
  rw[e1,el]
  have e2:∀x:Int,ebV n k a b ([]++[x])=if x=a then Eb n k a b else 0:=fun x=>by
   unfold ebV
   have l0:lwI [x]=x:=by
    unfold lwI aO
    simp[gI]
   have g0:gI [x] 0=x:=rfl
   have f0:aP [x]=[]:=rfl
   simp only[List.nil_append]
   rw[if_neg (by simp),g0,l0,f0]
   show(if x=a/\b∉([]:List Int) then Eb n (k - 0) x (b - 0) else 0)=_
   by_cases z:x=a
   ·subst z;simp
   ·simp[z]
  have e3:((fN 0 n).map fun x=>ebV n k a b ([]++[x])).sum=sg (fun(i:Nat)=>if (i:Int)=a then Eb n k a b else 0) n:=by
   unfold fN sg
   rw[List.map_map]
   congr 1
   refine List.map_congr_left fun i _=>?_
   show ebV n k a b ([]++[0+(i:Int)])=_
   rw[e2,Int.zero_add]
  rw[e3,xZ a0 n,if_pos a1]
 ·by_cases ha:gI xs 0=a
  ·by_cases hb:b∈xs
   ·rw[Hj fun x _=>by rw[tI c,if_neg (fun z=>z.2 hb)]]
    unfold ebV
    rw[if_neg c]
    by_cases hd:b∈xs.dropLast
    ·rw[if_neg (fun z=>z.2 hd)]
    ·rw[if_pos ⟨ha,hd⟩]
     have e:b=aO xs:=by
      rw[<- eW c] at hb
      rcases List.mem_append.mp hb with z | z
      ·exact absurd z hd
      ·simpa using z
     have:rkI xs.dropLast b=lwI xs:=by
      rw[zd c,lH c,e,if_neg (by omega)];omega
     rw[this,zi (by omega)]
   ·have hd:b∉xs.dropLast:=fun z=>hb (by rw[<- eW c];exact List.mem_append_left _ z)
    have ll:=dO bg
    obtain⟨m,hm⟩:∃m,n - xs.length=m+1:=⟨n - xs.length - 1,by omega⟩
    rw[hm] at ll
    have so:=oh n xs
    obtain⟨s,hs⟩:∃s:Nat,((aQ n xs).filter fun x=>decide (x<b)).length=s:=⟨_,rfl⟩
    obtain⟨t,ht⟩:∃t:Nat,((aQ n xs).filter fun x=>decide (x<aO xs)).length=t:=⟨_,rfl⟩
    have er:rkI xs b=s:=by rw[om bg b0 b1,hs]
    have ew:lwI xs=t:=by rw[<- lA bg c,ht]
    have ld:rkI xs.dropLast b=rkI xs b+(if aO xs<b then 1 else 0):=lH c
    have lb:=uC c
    have nl:aO xs≠b:=fun z=>hb (z ▸ lb)
    have bl:=jE b0 b1 hb
    obtain⟨j,hj,ej⟩:=List.getElem_of_mem bl
    have js:=y_ so j hj
    rw[ej,hs] at js
    have ji:=ua (v:=aO xs) so j hj
    rw[ej,ht] at ji
    have ti:t<=m+1:=by rw[<- ht,<- ll];exact List.length_filter_le _ _
    have mono:aO xs<b->t<=s:=fun z=>by
     rw[<- ht,<- hs,<- List.countP_eq_length_filter,<- List.countP_eq_length_filter]
     exact List.countP_mono_left fun x _ hx=>by simp at hx ⊢;omega
    have lt:ltI (lwI xs) (rkI xs.dropLast b)=if aO xs<b then 1 else 0:=by
     unfold ltI
     rw[ew,ld,er]
     by_cases z:aO xs<b
     ·have:=mono z
      rw[if_pos z,if_pos (by omega)]
     ·have:=ji.mp (by omega)
      rw[if_neg z,if_neg (by omega)]
    have ne:lwI xs≠rkI xs.dropLast b:=by
     rw[ew,ld,er]
     by_cases z:aO xs<b
     ·have:=mono z
      rw[if_pos z];omega
     ·have:=ji.mp (by omega)
      rw[if_neg z];omega
    have e0:ebV n k a b xs=Eb (m+2) (k - ((aP xs).length:Int)) (lwI xs) (rkI xs.dropLast b):=by
     unfold ebV
     rw[if_neg c,if_pos ⟨ha,hd⟩,show n+1 - xs.length=m+2 by omega]
    rw[e0,yi (by omega) (by rw[ew];omega) (by rw[ew];omega) (by rw[ld,er];split<;>omega) (by rw[ld,er];split<;>omega) ne,lt,show rkI xs.dropLast b - (if aO xs<b then 1 else 0)=rkI xs b by rw[ld];omega,E8,ll]
    unfold sg
    congr 1
    refine List.map_congr_left fun r hr=>?_
    have hr:=List.mem_range.mp hr
    have hr':r<(aQ n xs).length:=by omega
    obtain⟨x,hx⟩:∃x,gI (aQ n xs) r=x:=⟨_,rfl⟩
    rw[hx]
    have hx':(aQ n xs)[r]=x:=by rw[<- hx,fL hr']
    obtain⟨q1,q2⟩:=Ff bg hr' hx'
    rw[tI c,if_pos ⟨ha,hb⟩,q1,q2,hm]
    congr 1
    omega
  ·rw[Hj fun x _=>by rw[tI c,if_neg (fun z=>ha z.1)]]
   unfold ebV
   rw[if_neg c,if_neg (fun z=>ha z.1)]
theorem Gm {n:Nat} {xs:List Int} {b:Int} (bg:Beg n xs) (l:xs.length=n) (h0:0<=b) (h1:b<n):b∈xs:=by
 by_cases c:b∈xs
 ·exact c
 ·have:=List.length_pos_of_mem (jE h0 h1 c)
  rw[dO bg] at this;omega
theorem Cy {n:Nat} {xs:List Int} {b:Int} (bg:Beg n xs) (l:xs.length=n) (h0:0<=b) (h1:b<n):b∉xs.dropLast↔aO xs=b:=by
 have c:xs.length≠0:=by omega
 have e:=eW c
 have m:=Gm bg l h0 h1
 have nd:=bg.nd
 rw[<- e] at m nd
 obtain⟨_,_,n3⟩:=List.nodup_append.mp nd
 constructor
 ·intro h
  rcases List.mem_append.mp m with z | z
  ·exact absurd z h
  ·simp at z;exact z.symm
 ·intro h z
  exact n3 b z (aO xs) (by simp) h.symm
theorem yI {n:Nat} {k a b:Int} {xs:List Int} (bg:Beg n xs) (l:xs.length=n) (h0:0<=b) (h1:b<n):ebV n k a b xs=if gI xs 0=a/\aO xs=b/\((aP xs).length:Int)=k then 1 else 0:=by
 unfold ebV
 rw[if_neg (by omega),show n+1 - xs.length=1 by omega]
 have d:=Cy bg l h0 h1
 by_cases c1:gI xs 0=a
 ·by_cases c2:aO xs=b
  ·rw[if_pos ⟨c1,d.mpr c2⟩]
   unfold Eb
   rw[if_pos rfl]
   by_cases c3:((aP xs).length:Int)=k
   ·rw[if_pos (by omega),if_pos ⟨c1,c2,c3⟩]
   ·rw[if_neg (by omega),if_neg (fun z=>c3 z.2.2)]
  ·rw[if_neg (fun z=>c2 (d.mp z.2)),if_neg (fun z=>c2 z.2.1)]
 ·rw[if_neg (fun z=>c1 z.1),if_neg (fun z=>c1 z.1)]
theorem yP {N s:Nat} {k a b:Int} {h:Hh} (h1:1<=s) (hs:s<=N+1) (hN:N<=12) (a0:0<=a) (a1:a<s) (b0:0<=b) (b1:b<s):a_ [.frl (rsD N),.int s,.int k,.int a,.int b] h=.ok (.int (Eb s k a b)) h:=by
 unfold Eb
 by_cases c1:s=1
 ·subst c1
  by_cases ck:k=0<;>simp[a_,aX,ck]
 ·have c1':¬ (s:Int)=1:=by omega
  rw[if_neg c1]
  by_cases c2:a=b
  ·rw[if_pos c2];simp[a_,aX,c1,c1',c2]
  ·rw[if_neg c2]
   have npos:(0:Int)<s:=by omega
   have mo:0<=(a - b - 1) % (s:Int)/\(a - b - 1) % (s:Int)<s:=⟨Int.emod_nonneg _ (by omega),Int.emod_lt_of_pos _ npos⟩
   have mo2:(a - b - 1) % (s:Int)<(s:Int) - 1:=by
    have:=lV (a:=a - b - 1) (n:=s) (by omega) (by omega)
    rw[this];split<;>omega
   obtain⟨c,hc⟩:∃c:Int,(a - b - 1) % (s:Int)=c:=⟨_,rfl⟩
   rw[hc] at mo mo2 ⊢
   have r1:ixK (rsD N) ((s:Int) - 2) h=.ok (f2 (dS (s - 2))) h:=Gq (by omega) (by omega)
   have r2:dIx (f2 (dS (s - 2))) (.int c) h=.ok (f1 (dw (s - 2) c)) h:=by
    show ixK ((dS (s - 2)).map f1) c h=_
    refine k9 (j:=c.toNat) (by omega) ?_
    rw[List.getElem?_map,dS,List.getElem?_map,List.getElem?_range (by omega)]
    show some (f1 (dw (s - 2) ((c.toNat:Nat):Int)))=_
    rw[show((c.toNat:Nat):Int)=c by omega]
   have ll:eI [f1 (dw (s - 2) c)] h=.ok (.int ((s:Int) - 1)) h:=by
    show R.ok (D.int (((dw (s - 2) c).map D.int).length:Int)) h=_
    rw[List.length_map,i6]
    congr 2
    omega
   have n0:¬ s=0:=by omega
   have n0':0<s:=by omega
   obtain⟨f,hf⟩:∃f:Int,k - (if b<a then 1 else 0)=f:=⟨_,rfl⟩
   rw[hf]
   have fin:(0<=f/\f<(s:Int) - 1->dIx (f1 (dw (s - 2) c)) (.int f) h=.ok (.int (Rn (s - 2) c f)) h):=fun z=>by
    show ixK ((dw (s - 2) c).map D.int) f h=_
    rw[jJ (j:=f.toNat) (by omega) (by rw[i6];omega),s_ (by omega),show((f.toNat:Nat):Int)=f by omega]
   have out:¬ (0<=f/\f<(s:Int) - 1)->Rn (s - 2) c f=0:=fun z=>by
    by_cases z0:0<=f
    ·exact xc _ _ _ (by omega)
    ·exact sT _ _ _ (by omega)
   generalize f1 (dw (s - 2) c)=W at *
   generalize f2 (dS (s - 2))=V at *
   have st:(cIf (aC asB (aq dLt (ae 3) (ae 4))) (ae 2) (aq dg (ae 2) (cC (.int 1)))) [some (.frl (rsD N)),some (.int s),some (.int k),some (.int a),some (.int b),none,none] h=.ok (.int f) h:=by
    by_cases cl:b<a
    ·have cl':¬ a<b:=by omega
     rw[if_pos cl] at hf
     simp[cl',hf]
    ·have cl':a<b:=by omega
     rw[if_neg cl,Int.sub_zero] at hf
     simp[cl',hf]
   by_cases z0:0<=f
   ·by_cases z1:f<(s:Int) - 1
    ·have ix:=fin ⟨z0,z1⟩
     simp[a_,aX,c1,c1',c2,st,n0,n0',hc,r1,r2,-GV]
     simp[ll,z0,z1,ix]
    ·rw[out (fun z=>z1 z.2)]
     simp[a_,aX,c1,c1',c2,st,n0,n0',hc,r1,r2,-GV]
     simp[ll,z0,z1]
   ·rw[out (fun z=>z0 z.1)]
    simp[a_,aX,c1,c1',c2,st,n0,n0',hc,r1,r2,-GV]
    simp[ll,z0]
theorem Gk {xs:List Int} {v:Int} {h:Hh} (hl:xs.length<=1000):cK [.tup (xs.map D.int),.int v] h=.ok (.int (rkI xs v)) h:=by
 have q:cy (aC asB (aq dLt (ae 0) (ae 1))) (ae 0) (fun x=>[some x,some (.int v)]) (xs.map D.int) h=.ok ((xs.filter fun x=>decide (x<v)).map D.int) h:=
  comp_map D.int (fun x=>decide (x<v)) D.int xs fun x hx=>⟨by simp,fun _=>by simp⟩
 have z6:xs.length<=1000000:=by omega
 simp[cK,aX,q,z6,rkI]
theorem u_ {X:Type} {xs:List X} (h:xs.length≠0):l7 xs none (some (-1))=xs.dropLast:=by
 unfold l7
 have e1:HT.sIx xs.length 0 none=0:=rfl
 have e2:HT.sIx xs.length xs.length (some (-1))=xs.length - 1:=by simp[HT.sIx];omega
 rw[e1,e2,List.drop_zero,Nat.sub_zero,List.dropLast_eq_take]
theorem xV {n:Nat} {xs:List Int} {b:Int} (c:xs.length≠0) (bg:Beg n xs) (b0:0<=b) (b1:b<n) (hb:b∉xs.dropLast):0<=rkI xs.dropLast b/\rkI xs.dropLast b<((n+1 - xs.length:Nat):Int):=by
 have bl:=bg.len
 have b2:Beg n xs.dropLast:=by rw[List.dropLast_eq_take];exact bg.take _
 have m:=jE b0 b1 hb
 obtain⟨j,hj,ej⟩:=List.getElem_of_mem m
 have js:=y_ (oh n xs.dropLast) j hj
 rw[ej] at js
 rw[om b2 b0 b1,js]
 rw[dO b2,List.length_dropLast] at hj
 omega
theorem KG {n:Nat} {k a b:Int} {xs:List Int} {h:Hh} (hn:n<=12) (a0:0<=a) (a1:a<n) (b0:0<=b) (b1:b<n) (c:xs.length≠0) (bg:Beg n xs):bP [.frl (rsD n),.int k,.int a,.int b,.tup (xs.map D.int)] h=.ok (.int (ebV n k a b xs)) h:=by
 have bl:=bg.len
 have sl:(i8 aR (ae 4) jK (jW (cUn jm (cC (.int 1))))) [some (.frl (rsD n)),some (.int k),some (.int a),some (.int b),some (.tup (xs.map D.int)),none,none,none] h=.ok (.tup (xs.dropLast.map D.int)) h:=by
  have:cutD (xs.map D.int) none (some (-1))=xs.dropLast.map D.int:=by
   show l7 (xs.map D.int) none (some (-1))=_
   rw[u_ (by rw[List.length_map];exact c),List.map_dropLast]
  simp[this]
 have g0:ixK (xs.map D.int) 0 h=.ok (.int (gI xs 0)) h:=jJ (j:=0) rfl (by omega)
 have lx:((xs.map D.int).length:Int)=(xs.length:Int):=by simp
 have lr:eI [.frl (rsD n)] h=.ok (.int ((n:Int)+1)) h:=by
  show R.ok (D.int ((rsD n).length:Int)) h=_
  rw[uD];rfl
 have fa:=B7 (xs:=xs) (h:=h) (by omega)
 have lf:eI [.tup ((aP xs).map D.int)] h=.ok (.int ((aP xs).length:Int)) h:=by simp
 have r1:=fun v=>Gk (xs:=xs.dropLast) (v:=v) (h:=h) (by rw[List.length_dropLast];omega)
 have il:=pH (h:=h) c
 have lw:rkI xs.dropLast (aO xs)=lwI xs:=by rw[zd c,lH c,if_neg (by omega)];omega
 have r2:=r1 (aO xs)
 rw[lw] at r2
 obtain⟨l0,l1⟩:=Fs bg
 have sz:(n:Int)+1 - (xs.length:Int)=((n+1 - xs.length:Nat):Int):=by omega
 unfold ebV
 rw[if_neg c]
 have bin:(dIn false) (.int b) (.tup (xs.dropLast.map D.int)) h=.ok (.bl (xs.dropLast.any (· == b))) h:=by generalize xs.dropLast=S;simp
 by_cases ha:gI xs 0=a
 ·by_cases hb:b∈xs.dropLast
  ·have an:xs.dropLast.any (· == b)=true:=List.any_eq_true.mpr ⟨_,hb,by simp⟩
   rw[an] at bin
   rw[if_neg (fun z=>z.2 hb)]
   generalize xs.dropLast.map D.int=S at *
   generalize xs.map D.int=X at *
   simp[bP,aX,sl,g0,ha,bin,-uK]
  ·have an:xs.dropLast.any (· == b)=false:=by
    rw[List.any_eq_false];intro x hx z;exact hb (beq_iff_eq.mp z ▸ hx)
   rw[an] at bin
   have ec:=yP (N:=n) (s:=n+1 - xs.length) (k:=k - ((aP xs).length:Int)) (a:=lwI xs) (b:=rkI xs.dropLast b) (h:=h) (by omega) (by omega) hn l0 (by omega) (xV c bg b0 b1 hb).1 (xV c bg b0 b1 hb).2
   rw[<- sz] at ec
   have r3:=r1 b
   rw[if_pos ⟨ha,hb⟩]
   generalize Eb (n+1 - xs.length) (k - ((aP xs).length:Int)) (lwI xs) (rkI xs.dropLast b)=V at *
   generalize rkI xs.dropLast b=RB at *
   generalize (aP xs).map D.int=F at *
   generalize ((aP xs).length:Int)=FL at *
   generalize (xs.length:Int)=L at *
   generalize xs.dropLast.map D.int=S at *
   generalize xs.map D.int=X at *
   generalize rsD n=RS at *
   simp[bP,aX,sl,g0,ha,bin,lr,lx,fa,lf,il,r2,r3,ec,-uK]
 ·rw[if_neg (fun z=>ha z.1)]
  generalize xs.dropLast.map D.int=S at *
  generalize xs.map D.int=X at *
  simp[bP,aX,sl,g0,ha,-uK]
theorem AY {h t:Hh} {ds:List D} {j:Nat} (w:Wf h) (el:ax (h++t) (h.length+j)=some ds) (e:ds.all (deep 7)=true):bU h (.ref (h.length+j)) (h++t)=.ok (.frl ds) h:=by
 unfold bU
 rw[List.take_left' rfl,if_pos (show h.all (jS h.length)=true from w)]
 have:eV h.length (h++t) 8 (.ref (h.length+j))=some (.frl ds):=by
  unfold eV
  have:¬ (h.length+j<h.length):=by omega
  simp only[this,if_false,el]
  rw[List.all_eq_true] at e
  rw[gA fun d hd=>dJ 7 d (e d hd)];rfl
 rw[this]
theorem AZ {h t:Hh} {ds:List D} {j:Nat} (w:Wf h) (el:ax (h++t) (h.length+j)=some ds) (e:ds.all (deep 8)=true):hZ h (.ref (h.length+j)) (h++t)=.ok (.ref h.length) (h++[.lst ds]):=by
 unfold hZ
 rw[List.take_left' rfl,if_pos (show h.all (jS h.length)=true from w)]
 have:h.length<=h.length+j:=by omega
 simp only[this,if_true,el]
 rw[List.all_eq_true] at e
 rw[gA fun d hd=>dJ 8 d (e d hd)]
theorem kO {k:Nat} {L:List (List Int)}:(L.map tpI).all (deep (k+2))=true:=by
 rw[List.all_eq_true];intro d hd
 obtain⟨x,_,rfl⟩:=List.mem_map.mp hd
 simp[tpI]
theorem Cd {B:List Int->Int}:∀{L:List (List Int)},(∀xs∈L,0<B xs)->(L.length:Int)<=wsm B L
 | [],_=>by simp[wsm]
 | x::L,h=>by
  rw[pX,List.length_cons]
  have:=h x List.mem_cons_self
  have:=Cd (L:=L) fun y hy=>h y (List.mem_cons_of_mem _ hy)
  omega
theorem G8 {n:Nat} {B:List Int->Int} (C:Cnt n B) (h0:0<B []) {m:Nat} (hm:m<=n):((fll n B m).length:Int)<=B []:=by
 rw[<- yS C m hm];exact Cd (Dw h0 m)
theorem BP {n:Nat} {B:List Int->Int} {xs:List Int} (b:Beg n xs):(nxB n B xs).length<=n:=by
 have:=List.length_filter_le (fun x=>decide (0<B (xs++[x]))) (aQ n xs)
 rw[dO b] at this
 unfold nxB;omega
noncomputable abbrev exB (n:Nat) (B:List Int->Int) (xs:List Int):List (List Int):=(nxB n B xs).map fun x=>xs++[x]
theorem Cq {M:List (List Int)} {ff:D->En} {H:Hh} (hf:∀e h,ae 1 (ff e) h=.ok e h):∀(k j:Nat) (acc:List (List Int)),j+k=M.length->acc.length+k<=1000000->vG H.length (Src.snap (M.map tpI)).rdr (ae 1) ff k j (H++[.lst (acc.map tpI)])=.ok () (H++[.lst ((acc++M.drop j).map tpI)])
 | 0,j,acc,e,_=>by
  unfold vG
  have:(Src.snap (M.map tpI)).rdr (H++[.lst (acc.map tpI)]) j=some none:=by
   simp only[Src.rdr]
   rw[List.getElem?_eq_none (by simp;omega)]
  rw[this,List.drop_eq_nil_of_le (by omega)]
  simp
 | k+1,j,acc,e,l=>by
  unfold vG
  have lt:j<M.length:=by omega
  have g:(Src.snap (M.map tpI)).rdr (H++[.lst (acc.map tpI)]) j=some (some (tpI M[j])):=by
   simp only[Src.rdr]
   rw[List.getElem?_map,List.getElem?_eq_getElem lt];rfl
  rw[g]
  have a:Bv H.length (tpI M[j]) (H++[.lst (acc.map tpI)])=.ok () (H++[.lst ((acc++[M[j]]).map tpI)]):=by
   unfold Bv
   rw[cb]
   dsimp only
   rw[if_pos (by rw[List.length_map];omega),lD,List.map_append]
   rfl
  dsimp only
  rw[hf,bH,a,bH,Cq hf k (j+1) _ (by omega) (by simp;omega),List.drop_eq_getElem_cons lt,List.append_assoc]
  rfl
noncomputable def MI2:MI:=(cN (aj cI (aa (ae 2) (aa (ae 0) (aa (ae 3) ao)))))
theorem CT {n r:Nat} {B:List Int->Int} {C y:D} {L:List (List Int)} {H:Hh} {d2 d3:Option D} (c:rT n B C) (hn:n<=12) (er:ax H r=some (L.map tpI)) (hb:∀b∈L,Beg n b):∀(k i:Nat) (acc:List (List Int)),i+k=L.length->acc.length+k*12<=1000000->ud H.length (Src.live r).rdr MI2 (ae 1) (hW [0,1] [some (.int n),some C,d2,d3]) k i (H++[.lst (acc.map tpI)])=.ok () (H++[.lst ((acc++(L.drop i).flatMap (exB n B)).map tpI)])
 | 0,i,acc,e,_=>by
  unfold ud
  have:(Src.live r).rdr (H++[.lst (acc.map tpI)]) i=some none:=by
   simp only[Src.rdr]
   rw[kY er,Option.map_some,List.getElem?_eq_none (by rw[List.length_map];omega)]
  rw[this,List.drop_eq_nil_of_le (by omega)]
  simp
 | k+1,i,acc,e,l=>by
  have lt:i<L.length:=by omega
  unfold ud
  have g:(Src.live r).rdr (H++[.lst (acc.map tpI)]) i=some (some (tpI L[i])):=by
   simp only[Src.rdr]
   rw[kY er,Option.map_some,List.getElem?_map,List.getElem?_eq_getElem lt];rfl
  rw[g]
  have bi:=hb _ (List.getElem_mem lt)
  have cp:∀a b,hW [0,1] [some (.int n),some C,d2,d3] a b=[a,b,some (.int n),some C]:=fun a b=>by simp[hW]
  have nl:=BP (B:=B) bi
  have mi:MI2 (hW [0,1] [some (.int n),some C,d2,d3] (some (tpI L[i])) none) (H++[.lst (acc.map tpI)])=.ok (.snap ((exB n B L[i]).map tpI)) (H++[.lst (acc.map tpI)]):=by
   rw[cp]
   have lo:=zu (h:=H++[.lst (acc.map tpI)]) c bi (by omega)
   have e:((nxB n B L[i]).map fun x=>tpl (L[i]++[x]))=(exB n B L[i]).map tpI:=by rw[List.map_map];rfl
   rw[e] at lo
   generalize (exB n B L[i]).map tpI=W at *
   simp only[tpI]
   generalize L[i].map D.int=X at *
   simp[MI2,lo]
  have fu:(Src.snap ((exB n B L[i]).map tpI)).fuel (H++[.lst (acc.map tpI)])=(exB n B L[i]).length:=by
   show((exB n B L[i]).map tpI).length=_
   simp
  have el:(exB n B L[i]).length<=12:=by simp[exB];omega
  have l2:acc.length+12+k*12<=1000000:=by omega
  dsimp only
  rw[mi,bH,fu]
  rw[Cq (M:=exB n B L[i]) (ff:=fun e=>hW [0,1] [some (.int n),some C,d2,d3] (some (tpI L[i])) (some e)) (fun e h=>by rw[cp];simp) (exB n B L[i]).length 0 acc (by omega) (by omega),bH,List.drop_zero]
  have:=CT (y:=y) (d2:=d2) (d3:=d3) c hn er hb k (i+1) (acc++exB n B L[i]) (by omega) (by rw[List.length_append];omega)
  rw[this,List.drop_eq_getElem_cons lt,List.flatMap_cons,List.append_assoc]
theorem II {n r:Nat} {B:List Int->Int} {C:D} {L:List (List Int)} {H:Hh} {d3:Option D} (c:rT n B C) (hn:n<=12) (er:ax H r=some (L.map tpI)) (hb:∀b∈L,Beg n b) (hl:L.length<=10000):iK (cN (ae 2)) [0,1] MI2 (ae 1) [some (.int n),some C,some (.ref r),d3] H=.ok (.ref H.length) (H++[.lst ((L.flatMap (exB n B)).map tpI)]):=by
 unfold iK
 have s:cN (ae 2) [some (.int n),some C,some (.ref r),d3] H=.ok (.live r) H:=by
  show(ae 2 [some (.int n),some C,some (.ref r),d3] H).bind vq=_
  have:ae 2 [some (.int n),some C,some (.ref r),d3] H=.ok (.ref r) H:=by simp
  rw[this,bH,CP er]
 have f:(Src.live r).fuel H=L.length:=by simp[Src.fuel,er]
 have:=CT (y:=.non) (d2:=some (.ref r)) (d3:=d3) c hn er hb L.length 0 [] (by omega) (by simp;omega)
 simp only[List.drop_zero,List.nil_append,List.map_nil] at this
 rw[s,bH,f,this]
 rfl
theorem EU {n:Nat} {B:List Int->Int} {C:D} {h:Hh} (c:rT n B C) (hn:n<=12) (hL:∀m,m<=n->(fll n B m).length<=10000) (w:Wf h):cF [.int n,C] h=.ok (.ref h.length) (h++[.lst ((fll n B n).map tpI)]):=by
 obtain⟨s,lp,si⟩:=ui (σ:=Hh × Nat × Option D) (tg:=gN 3) (body:=(aV 2 (iK (cN (ae 2)) [0,1] MI2 (ae 1)))) (fun(i:Nat)=>D.int i) n (fun s=>[some (.int n),some C,some (.ref (h.length+s.2.1)),s.2.2]) (fun s=>h++s.1) (fun i s=>ax (h++s.1) (h.length+s.2.1)=some ((fll n B i).map tpI)) (fun i s hi hs=>by
  obtain⟨T,j,y⟩:=s
  dsimp only at hs ⊢
  have fl:=hL i (by omega)
  have q:=II (C:=C) (d3:=some (.int i)) c hn hs (fun b hb=>(fQ i b hb).2) (by omega)
  refine⟨(T++[.lst ((fll n B (i+1)).map tpI)],T.length,some (.int i)),?_,?_⟩
  ·dsimp only
   rw[<- List.append_assoc,<- List.length_append]
   exact cb
  ·have e:fll n B (i+1)=(fll n B i).flatMap (exB n B):=rfl
   rw[e,<- List.append_assoc,<- List.length_append]
   generalize ((fll n B i).flatMap (exB n B)).map tpI=W at *
   simp only[FP,bH,List.set,IQ]
   rw[q]
   rfl) n 0 ([.lst [tpI []]],0,none) (by omega) (by show ax (h++[O.lst [tpI []]]) (h.length+0)=_;rw[Nat.add_zero];exact cb)
 obtain⟨T,j,y⟩:=s
 dsimp only at lp si
 rw[<- List.range_eq_range',<- fR,Nat.add_zero] at lp
 have z2:(n:Int).natAbs<=1000000:=by omega
 have z3:n<=1000000:=by omega
 have ex:=AZ w si (kO (k:=6))
 have eq:cF=fun ds h=>((cn 4 (aF (aV 2 (aj (dy jg) (aa (aj b_ ao) ao))) (aF (fD (fk ft (aa (ae 0) ao)) (gN 3) (aV 2 (iK (cN (ae 2)) [0,1] MI2 (ae 1)))) (bB (ae 2))))) ds h).bind (hZ h):=rfl
 have t0:tpI []=.tup []:=rfl
 rw[t0] at lp
 rw[eq]
 generalize (fll n B n).map tpI=W at *
 generalize (aV 2 (iK (cN (ae 2)) [0,1] MI2 (ae 1)))=BD at *
 simp[aX,jg,z2,z3,lp,ex]
theorem wN {n:Nat} {B:List Int->Int} (C:Cnt n B) (h0:¬ 0<B []):∀m,m<n->fll n B (m+1)=[]
 | 0,h=>by
  show([[]]:List (List Int)).flatMap _=_
  rw[List.flatMap_cons,tF C (Beg.nil n) h h0];rfl
 | m+1,h=>by
  show(fll n B (m+1)).flatMap _=_
  rw[wN C h0 m (by omega)];rfl
theorem oz {n:Nat} {B:List Int->Int} (C:Cnt n B) (h3:B []<=300) (m:Nat) (hm:m<=n):(fll n B m).length<=300:=by
 by_cases c:0<B []
 ·have:=G8 C c hm;omega
 ·cases m with
  | zero=>show 1<=300;omega
  | succ m=>rw[wN C c m hm];simp
theorem CQ {n:Nat} {B:List Int->Int} (C:Cnt n B) (h0:¬ 0<B []):∀m,m<=n->(allI n m).filter (fun xs=>decide (0<B xs))=[]
 | 0,_=>by
  show List.filter _ [[]]=_
  rw[List.filter_cons,if_neg (by simpa using h0)];rfl
 | m+1,hm=>by
  have i2:=CQ C h0 m (by omega)
  have i1:=(n9 C m (by omega)).1
  rw[allI,List.filter_eq_nil_iff]
  intro xs hx z
  have z:0<B xs:=by simpa using z
  obtain⟨ys,hy,hz⟩:=List.mem_flatMap.mp hx
  rw[qo] at hz
  obtain⟨x,hl,rfl⟩:=List.mem_map.mp hz
  obtain⟨l,b⟩:=i1 ys hy
  have ny:¬ 0<B ys:=fun q=>by
   have:=(List.filter_eq_nil_iff.mp i2) ys hy
   exact this (by simpa using q)
  have e:=tF C b (by omega) ny
  have:x∈nxB n B ys:=List.mem_filter.mpr ⟨hl,by simpa using z⟩
  rw[e] at this;cases this
theorem GX {n:Nat} {B:List Int->Int} (C:Cnt n B) (h1:1<=n):(allI n n).filter (fun xs=>decide (0<B xs))=fll n B n:=by
 by_cases c:0<B []
 ·exact(n9 C n (Nat.le_refl _)).2 c
 ·rw[CQ C c n (Nat.le_refl _)]
  obtain⟨m,rfl⟩:∃m,n=m+1:=⟨n - 1,by omega⟩
  rw[wN C c m (by omega)]
section
variable {env:En} {h:Hh}
@[simp] theorem A4 {β γ:Type} {x:Xc} {f:β->Hh->R γ}:(R.err x h:R β).bind f=.err x h:=Eq.trans rfl rfl
@[simp] theorem JZ {x:Str}:xB x env h=.err ⟨x,[]⟩ h:=Eq.trans rfl rfl
theorem GN {mb:MS} {mr:MF} {fl:Fl} {h':Hh} (e:mb env h=.ok fl h'):sS mb mr env h=.ok fl h':=by unfold sS;rw[e]
theorem G3 {mb:MS} {mr:MF} {x:Xc} {d:D} (w:Wf h) (e:mb env h=.err x h) (c:bN.contains x.cls=true) (r:mr [.exc x.cls x.fs] h=.ok d h):sS mb mr env h=.ok (.rt d) h:=by
 unfold sS
 rw[e]
 have w':(h.take h.length).all (jS h.length)=true:=by rw[List.take_length];exact w
 show(if (bN.contains x.cls&&(h.take h.length).all (jS h.length))=true then _ else _)=_
 rw[c,w',List.take_length,r]
 rfl
end
theorem GH {n:Nat} {k a b:Int} (hn:n<=12) (a0:0<=a) (a1:a<n) (b0:0<=b) (b1:b<n):rT n (ebV n k a b) (.clo "ends_begun" [.frl (rsD n),.int k,.int a,.int b]):=⟨_,_,5,bP,rfl,nU,rfl,fun xs h c b=>KG hn a0 a1 b0 b1 c b⟩
theorem HJ {n:Nat} {k a:Int} {h:Hh} (h1:1<=n) (hn:n<=12) (k0:0<=k) (k1:k<=12) (a0:0<=a) (a1:a<n):eG [.int n,.int k,.int a] h=.ok .non h:=by
 have z0:(1:Int)<=n/\(n:Int)<=12:=by omega
 have z1:0<=k/\k<=12:=by omega
 have z2:0<=a/\a<=(n:Int) - 1:=by omega
 simp[eG,dh,bc,aX,up,z0,z1,z2]
theorem wx {n:Nat} {k a b:Int} {h:Hh} (w:Wf h) (h1:1<=n) (hn:n<=12) (k0:0<=k) (k1:k<=12) (a0:0<=a) (a1:a<n) (b0:0<=b) (b1:b<n):dZ [.int n,.int k,.int a,.int b] h=.ok (.int (Eb n k a b)) h:=by
 have en:=HJ (h:=h) h1 hn k0 k1 a0 a1
 have z2:0<=b/\b<=(n:Int) - 1:=by omega
 have rs:=vF (h:=h) hn w
 have ec:=yP (N:=n) (s:=n) (k:=k) (a:=a) (b:=b) (h:=h) h1 (by omega) hn a0 a1 b0 b1
 generalize rsD n=RS at *
 simp[dZ,bc,aX,up,en,z2,rs,ec]
theorem GO {n:Nat} {k a b:Int} {h:Hh} (w:Wf h) (h1:1<=n) (hn:n<=12) (k0:0<=k) (k1:k<=12) (a0:0<=a) (a1:a<n) (b0:0<=b) (b1:b<n) (c:Eb n k a b<=300):bR [.int n,.int k,.int a,.int b] h=.ok (.ref h.length) (h++[.lst ((fll n (ebV n k a b) n).map tpI)]):=by
 have ct:=wx w h1 hn k0 k1 a0 a1 b0 b1
 have rs:=vF (h:=h) hn w
 have C:=Cs (n:=n) (k:=k) a0 a1 b0 b1
 have ol:=EU (h:=h) (GH (k:=k) hn a0 a1 b0 b1) hn (fun m hm=>by have:=oz C (show ebV n k a b []<=300 from c) m hm;omega) w
 have c':¬ 300<Eb n k a b:=by omega
 have tn:cj [.int (Eb n k a b)] h=.ok .non h:=by
  simp[cj,aX,up,c']
 generalize Eb n k a b=V at *
 generalize (fll n (ebV n k a b) n).map tpI=W at *
 generalize rsD n=RS at *
 delta bR Eu
 simp[up,ct,tn,rs,xk,ol]
theorem EI {n:Nat} {k a b:Int} {h:Hh} (w:Wf h) (h1:1<=n) (hn:n<=12) (k0:0<=k) (k1:k<=12) (a0:0<=a) (a1:a<n) (b0:0<=b) (b1:b<n) (c:300<Eb n k a b):bR [.int n,.int k,.int a,.int b] h=.err ⟨"TooGreat", [("many", Eb n k a b),("most", 300)]⟩ h:=by
 have ct:=wx w h1 hn k0 k1 a0 a1 b0 b1
 generalize Eb n k a b=V at *
 have ri:nX "TooGreat" ["many", "most"] (aa (up (ae 0)) (aa (up (cC (.int 300))) ao)) [some (.int V)] h=.err ⟨"TooGreat", [("many", V),("most", 300)]⟩ h:=by kernel_rfl
 have tn:cj [.int V] h=.err ⟨"TooGreat", [("many", V),("most", 300)]⟩ h:=by
  simp[cj,aX,up,c,ri]
 delta bR Eu
 simp[up,ct,tn]
noncomputable abbrev TGr (V:Int):D:=.tup [.str "great", .int V,.int 300]
theorem Kv {h:Hh} {V:Int}:bV [.exc "TooGreat" [("many", V),("most", 300)]] h=.ok (TGr V) h:=by kernel_rfl
theorem exQ {d:D} {h t:Hh} (w:Wf h) (nr:∀n,d≠.ref n) (e:deep 8 d=true):exitQ h d (h++t)=.ok d h:=by
 have:=gr (t:=t) w e
 cases d<;>first | exact this | exact absurd rfl (nr _)
theorem FF:cZ=fun ds h=>((cn 5 (sS (bB (aj bR (aa (up (ae 0)) (aa (up (ae 1)) (aa (up (ae 2)) (aa (up (ae 3)) ao)))))) bV)) ds h).bind (exitQ h):=rfl
theorem B1 {n:Nat} {k a b:Int} {h:Hh} (w:Wf h) (h1:1<=n) (hn:n<=12) (k0:0<=k) (k1:k<=12) (a0:0<=a) (a1:a<n) (b0:0<=b) (b1:b<n) (c:300<Eb n k a b):cZ [.int n,.int k,.int a,.int b] h=.ok (TGr (Eb n k a b)) h:=by
 have er:=EI w h1 hn k0 k1 a0 a1 b0 b1 c
 have tb:(bB (aj bR (aa (up (ae 0)) (aa (up (ae 1)) (aa (up (ae 2)) (aa (up (ae 3)) ao)))))) [some (.int n),some (.int k),some (.int a),some (.int b),none] h=.err ⟨"TooGreat", [("many", Eb n k a b),("most", 300)]⟩ h:=by
  simp[up,er]
 have q:=G3 (mr:=bV) w tb (show bN.contains "TooGreat" = true by decide) Kv
 have tup:exitQ h (TGr (Eb n k a b)) h=.ok (TGr (Eb n k a b)) h:=by have:=exQ (t:=[]) (d:=TGr (Eb n k a b)) w (fun _ e=>nomatch e) rfl;simpa using this
 rw[FF]
 simp[aX,q,tup]
theorem DR {n:Nat} {k a b:Int} {h:Hh} (w:Wf h) (h1:1<=n) (hn:n<=12) (k0:0<=k) (k1:k<=12) (a0:0<=a) (a1:a<n) (b0:0<=b) (b1:b<n) (c:Eb n k a b<=300):cZ [.int n,.int k,.int a,.int b] h=.ok (.ref h.length) (h++[.lst ((fll n (ebV n k a b) n).map tpI)]):=by
 have er:=GO w h1 hn k0 k1 a0 a1 b0 b1 c
 have ex:exitQ h (.ref h.length) (h++[.lst ((fll n (ebV n k a b) n).map tpI)])=.ok (.ref h.length) (h++[.lst ((fll n (ebV n k a b) n).map tpI)]):=Av (t:=[]) w (kO (k:=6))
 generalize (fll n (ebV n k a b) n).map tpI=DU at *
 have tb:(bB (aj bR (aa (up (ae 0)) (aa (up (ae 1)) (aa (up (ae 2)) (aa (up (ae 3)) ao)))))) [some (.int n),some (.int k),some (.int a),some (.int b),none] h=.ok (.rt (.ref h.length)) (h++[.lst DU]):=by
  simp[up,er]
 have q:=GN (mr:=bV) tb
 rw[FF]
 simp[aX,q,ex]
theorem oX {k:Nat} {h:Hh}:∀{L:List (List Int)},(∀b∈L,∀x∈b,sml x=true)->eC (toPy (k+2) h) (L.map tpI)=some (L.map fun b=>PyData.tuple (b.map PyData.int))
 | [],_=>rfl
 | b::L,hs=>by
  have e1:toPy (k+2) h (tpI b)=some (.tuple (b.map PyData.int)):=by
   show(eC (toPy (k+1) h) (b.map D.int)).map PyData.tuple=_
   rw[oM (hs b List.mem_cons_self)];rfl
  rw[List.map_cons,eC,e1,oX fun x hx=>hs x (List.mem_cons_of_mem _ hx)]
  rfl
theorem zf:∀{L:List (List Int)},(∀b∈L,b.length<=12)->PyData.bulkAll (L.map fun b=>PyData.tuple (b.map PyData.int))<=24*L.length
 | [],_=>by simp[PyData.bulkAll]
 | b::L,hs=>by
  have:=hs b List.mem_cons_self
  have:=zf (L:=L) fun x hx=>hs x (List.mem_cons_of_mem _ hx)
  rw[List.map_cons,PyData.bulkAll,PyData.bulk,rP,List.length_cons];omega
theorem G_ {L:List (List Int)} (hs:∀b∈L,∀x∈b,sml x=true) (hb:∀b∈L,b.length<=12) (hl:L.length<=300):∃s,(∀(h:Hh) (n:Nat),ax h n=some (L.map tpI)->kR [.ref n] h=.ok (.str s) h)/\∀h:Hh,kR [.frl (L.map tpI)] h=.ok (.str s) h:=by
 have bk:PyData.bulk (.list (L.map fun b=>PyData.tuple (b.map PyData.int)))<=8000:=by rw[PyData.bulk];have:=zf hb;omega
 refine⟨PyData.shown (.list (L.map fun b=>PyData.tuple (b.map PyData.int))),fun h n e=>?_,fun h'=>?_⟩
 ·have e1:toPy 12 h (.ref n)=some (.list (L.map fun b=>PyData.tuple (b.map PyData.int))):=by
   show(match ax h n with | some ds=>(eC (toPy (9+2) h) ds).map PyData.list | none=>none)=_
   rw[e]
   show(eC (toPy (9+2) h) (L.map tpI)).map PyData.list=_
   rw[oX hs];rfl
  show oq (.ref n) h=_
  delta oq;rw[e1];exact if_pos bk
 ·have e2:toPy 12 h' (.frl (L.map tpI))=some (.list (L.map fun b=>PyData.tuple (b.map PyData.int))):=by
   show(eC (toPy (9+2) h') (L.map tpI)).map PyData.list=_
   rw[oX hs];rfl
  show oq (.frl (L.map tpI)) h'=_
  delta oq;rw[e2];exact if_pos bk
theorem Ha {V:Int} (sV:sml V=true):∃s,∀h:Hh,kR [TGr V] h=.ok (.str s) h:=by
 refine⟨PyData.shown (.tuple [.str "great", .int V,.int 300]),fun h=>?_⟩
 have e1:toPy 11 h (.str "great")=some (.str "great"):=by kernel_rfl
 have e2:toPy 11 h (.int V)=some (.int V):=by show(if sml V=true then some (PyData.int V) else none)=_;rw[if_pos sV]
 have e3:toPy 11 h (.int 300)=some (.int 300):=by kernel_rfl
 have e4:toPy 12 h (TGr V)=some (.tuple [.str "great", .int V,.int 300]):=by
  show(eC (toPy 11 h) [.str "great", .int V,.int 300]).map PyData.tuple=_
  simp only[eC,e1,e2,e3];rfl
 show oq (TGr V) h=_
 delta oq;rw[e4]
 exact if_pos (show PyData.bulk (.tuple [.str "great", .int V,.int 300])<=8000 by simp[PyData.bulk,PyData.bulkAll];try decide)
noncomputable def PG (k:List Key) (v:Int):Prop:=∃n f a b:Nat,k=[.inl (n:Int),.inl (f:Int),.inl (a:Int),.inl (b:Int)]/\n<=12/\f<=12/\a<=12/\b<=12/\v=Eb n f a b
noncomputable def Li:List Key->Int
 | [.inl n,.inl f,.inl a,.inl b]=>((n*20+f)*20+a)*20+b
 | _=>0
theorem GB {kvs:List (List Key × D)} (r:KI PG kvs):kvs.length<1000000:=by
 have:=r.len Li 120000 (fun k v ⟨n,f,a,b,e,h1,h2,h3,h4,_⟩=>by subst e;show 0<=(((n:Int)*20+f)*20+a)*20+b/\(((n:Int)*20+f)*20+a)*20+b<_;omega) (fun k k' v v' ⟨n,f,a,b,e,h1,h2,h3,h4,_⟩ ⟨n',f',a',b',e',h1',h2',h3',h4',_⟩ z=>by
  subst e e'
  have z:(((n:Int)*20+f)*20+a)*20+b=(((n':Int)*20+f')*20+a')*20+b':=z
  have:n=n'/\f=f'/\a=a'/\b=b':=by omega
  obtain⟨rfl,rfl,rfl,rfl⟩:=this
  rfl)
 omega
theorem uI {m:Nat} {h:Hh} (hm:m<h.length):∀(d n:Nat) (k a b:Int) (kvs:List (List Key × D)),KI PG kvs->1<=n->n<=d->n<=12->k<=12->0<=a->a<n->0<=b->b<n →
  ∃kvs',KI PG kvs'/\aU d [.int n,.int k,.int a,.int b,.ref m] (h.set m (.dit kvs))=.ok (.int (Eb n k a b)) (h.set m (.dit kvs'))
 | 0,n,k,a,b,kvs,r,h1,hd,hn,hk,a0,a1,b0,b1=>by omega
 | d+1,n,k,a,b,kvs,r,h1,hd,hn,hk,a0,a1,b0,b1=>by
  by_cases c1:n=1
  ·subst c1
   refine⟨kvs,r,?_⟩
   rw[cH]
   show _=R.ok (D.int (if k=0 then 1 else 0)) _
   by_cases ck:k<0
   ·have k0:¬ k=0:=by omega
    simp[aX,ck,k0]
   ·by_cases k0:k=0<;>simp[aX,ck,k0]
  ·have c1':¬ (n:Int)=1:=by omega
   by_cases ck:k<0
   ·refine⟨kvs,r,?_⟩
    rw[cH,HE ck]
    simp[aX,ck,c1,c1']
   by_cases cab:a=b
   ·refine⟨kvs,r,?_⟩
    have:Eb n k a b=0:=by unfold Eb;rw[if_neg c1,if_pos cab]
    rw[cH,this]
    simp[aX,ck,c1,c1',cab]
   ·obtain⟨kn,rfl⟩:∃kn:Nat,k=(kn:Int):=⟨k.toNat,by omega⟩
    obtain⟨an,rfl⟩:∃an:Nat,a=(an:Int):=⟨a.toNat,by omega⟩
    obtain⟨bn,rfl⟩:∃bn:Nat,b=(bn:Int):=⟨b.toNat,by omega⟩
    have cab':¬ an=bn:=by omega
    have ek:pj (.tup [.int (n:Int),.int (kn:Int),.int (an:Int),.int (bn:Int)])=some [.inl (n:Int),.inl (kn:Int),.inl (an:Int),.inl (bn:Int)]:=rfl
    have ni:=Ck (d:=.tup [.int (n:Int),.int (kn:Int),.int (an:Int),.int (bn:Int)]) (nZ (kvs:=kvs) hm) ek
    cases ev:fv kvs [.inl (n:Int),.inl (kn:Int),.inl (an:Int),.inl (bn:Int)] with
    | some dv=>
     obtain⟨v,rfl,n',f',a',b',e,_,_,_,_,ve⟩:=r.val ev
     have gt:=CG (nZ (kvs:=kvs) hm) ek ev
     have:(n:Int)=n'/\(kn:Int)=f'/\(an:Int)=a'/\(bn:Int)=b':=by
      simp only[List.cons.injEq,Sum.inl.injEq,and_true] at e
      exact e
     obtain⟨q1,q2,q3,q4⟩:=this
     have e1:n'=n:=by omega
     have e2:f'=kn:=by omega
     have e3:a'=an:=by omega
     have e4:b'=bn:=by omega
     subst e1 e2 e3 e4
     rw[ev] at ni
     refine⟨kvs,r,?_⟩
     rw[cH,<- ve]
     simp[aX,ck,c1,c1',cab,cab',ni,gt]
    | none=>
     rw[ev] at ni
     obtain⟨b',hb'⟩:∃b':Int,(bn:Int) - ltI an bn=b':=⟨_,rfl⟩
     have br:0<=b'/\b'<(n:Int) - 1:=by unfold ltI at hb';split at hb'<;>omega
     have comp:∀(l:List Nat) (kvs:List (List Key × D)),(∀r∈l,r<n - 1)->KI PG kvs->∃kvs',KI PG kvs'/\cy tt1 (aj (aU d) (aa (aq dg (ae 1) (cC (.int 1))) (aa (aq dg (ae 2) (aj kN (aa (aq dLt (ae 0) (ae 3)) ao))) (aa (ae 0) (aa (ae 4) (aa (ae 5) ao)))))) (fun x=>[some x,some (.int (n:Int)),some (.int (kn:Int)),some (.int (an:Int)),some (.int b'),some (.ref m)]) (l.map fun(r:Nat)=>D.int r) (h.set m (.dit kvs))=.ok ((l.map fun(r:Nat)=>Eb (n - 1) ((kn:Int) - lss r an) r b').map D.int) (h.set m (.dit kvs')):=by
      intro l
      induction l with
      | nil=>intro kvs _ r;exact⟨kvs,r,rfl⟩
      | cons q l ih=>
       intro kvs hl r
       have hq:=hl q List.mem_cons_self
       have l01:=tH q an
       obtain⟨k1,r1,e1⟩:=uI hm d (n - 1) ((kn:Int) - lss q an) q b' kvs r (by omega) (by omega) (by omega) (by omega) (by omega) (by omega) (by omega) (by omega)
       obtain⟨k2,r2,e2⟩:=ih k1 (fun x hx=>hl x (List.mem_cons_of_mem _ hx)) r1
       refine⟨k2,r2,?_⟩
       have nn:(n:Int) - 1=((n - 1:Nat):Int):=by omega
       rw[List.map_cons,cy,JO,bH,if_pos rfl]
       have t:(aj (aU d) (aa (aq dg (ae 1) (cC (.int 1))) (aa (aq dg (ae 2) (aj kN (aa (aq dLt (ae 0) (ae 3)) ao))) (aa (ae 0) (aa (ae 4) (aa (ae 5) ao)))))) [some (.int (q:Int)),some (.int (n:Int)),some (.int (kn:Int)),some (.int (an:Int)),some (.int b'),some (.ref m)] (h.set m (.dit kvs))=.ok (.int (Eb (n - 1) ((kn:Int) - lss q an) q b')) (h.set m (.dit k1)):=by
        rw[<- e1]
        unfold lss
        by_cases z:(q:Int)<an<;>simp[nn,z]
       rw[t,bH,e2,bH]
       rfl
     obtain⟨k1,r1,e1⟩:=comp (List.range (n - 1)) kvs (fun r hr=>List.mem_range.mp hr) r
     rw[<- fR] at e1
     have sm:((List.range (n - 1)).map fun(r:Nat)=>Eb (n - 1) ((kn:Int) - lss r an) r b').sum=Eb n kn an bn:=by
      rw[yi (by omega) a0 a1 b0 b1 cab,hb']
      rfl
     have pu:=HC (v:=.int (Eb n kn an bn)) (nZ (kvs:=k1) hm) ek (GB r1)
     rw[List.set_set] at pu
     have gt:=CG (v:=.int (Eb n kn an bn)) (nZ (kvs:=qZ k1 [.inl (n:Int),.inl (kn:Int),.inl (an:Int),.inl (bn:Int)] (.int (Eb n kn an bn))) hm) ek Ce
     refine⟨_,r1.put (k:=[.inl (n:Int),.inl (kn:Int),.inl (an:Int),.inl (bn:Int)]) (v:=Eb n kn an bn) ⟨n,kn,an,bn,rfl,by omega,by omega,by omega,by omega,rfl⟩,?_⟩
     have z1:((n:Int) - 1).natAbs<=1000000:=by omega
     have z2:((n:Int) - 1).toNat=n - 1:=by omega
     have z3:n - 1<=1000000:=by omega
     rw[cH]
     generalize qZ k1 [.inl (n:Int),.inl (kn:Int),.inl (an:Int),.inl (bn:Int)] (.int (Eb n kn an bn))=k2 at *
     generalize ((List.range (n - 1)).map fun(r:Nat)=>Eb (n - 1) ((kn:Int) - lss r an) r b')=W at *
     unfold ltI at hb'
     by_cases z:(an:Int)<bn
     ·have z':an<bn:=by omega
      rw[if_pos z] at hb'
      simp[aX,ck,c1,c1',cab,cab',ni,z,z',hb',z1,z2,z3,e1,sm,pu,gt]
     ·have z':¬ an<bn:=by omega
      rw[if_neg z,Int.sub_zero] at hb'
      subst hb'
      simp[aX,ck,c1,c1',cab,cab',ni,z,z',z1,z2,z3,e1,sm,pu,gt]
structure EH (n:Nat) (k a b:Int):Prop where
 h1:1<=n
 hn:n<=12
 k0:0<=k
 k1:k<=12
 a0:0<=a
 a1:a<n
 b0:0<=b
 b1:b<n
theorem EH.cnt {n:Nat} {k a b:Int} (E:EH n k a b):Cnt n (ebV n k a b):=Cs E.a0 E.a1 E.b0 E.b1
theorem BC {L:List Int} {v:Int} (so:L.Pairwise (· < ·)) (m:v∈L):L.findIdx? (· == v)=some (L.filter fun x=>decide (x<v)).length:=by
 obtain⟨j,hj,ej⟩:=List.getElem_of_mem m
 have js:=y_ so j hj
 rw[ej] at js
 rw[js,List.findIdx?_eq_some_iff_getElem]
 refine⟨hj,by rw[ej];exact beq_self_eq_true v,fun i hi=>?_⟩
 have:=List.pairwise_iff_getElem.mp so i j (by omega) hj hi
 rw[ej] at this
 have:¬ L[i]=v:=by omega
 simpa using this
theorem we {xs:List Int} {h:Hh} (hl:xs.length<=1000) (h1:xs.length≠0):bx [.tup (xs.map D.int)] h=.ok (.tup ((aP xs).map D.int)) h:=by
 have z1:((xs.length:Int) - 1).natAbs<=1000000:=by omega
 have z2:((xs.length:Int) - 1).toNat=xs.length - 1:=by omega
 have z3:xs.length - 1<=1000000:=by omega
 have q:=rS (xs:=xs) (h:=h) (d:=.tup (xs.map D.int)) (fun i=>by simp)
 simp[bx,aX,z1,z2,z3,q]
theorem yx {q n:Nat} {k a b:Int} {h:Hh} {xs:List Int} {kvs:List (List Key × D)} (E:EH n k a b) (hq:q<h.length) (r:KI PG kvs) (bg:Beg n xs) (c:xs.length≠0) (ca:gI xs 0=a) :
  ∃kvs',KI PG kvs'/\a9 [.int n,.int k,.tup (xs.map D.int),.int b,.ref q] (h.set q (.dit kvs))=.ok (.int (ebV n k a b xs)) (h.set q (.dit kvs')):=by
 have bl:=bg.len
 have hn:=E.hn
 have fa:=fun H:Hh=>we (xs:=xs) (h:=H) (by omega) c
 have il:=fun H:Hh=>pH (h:=H) c
 have lx:((xs.map D.int).length:Int)=(xs.length:Int):=by simp
 have lf:(((aP xs).map D.int).length:Int)=((aP xs).length:Int):=by simp
 by_cases cf:xs.length=n
 ·refine⟨kvs,r,?_⟩
  rw[yI bg cf E.b0 E.b1]
  have ln:((xs.map D.int).length:Int)=(n:Int):=by rw[lx,cf]
  have ln':(xs.map D.int).length=n:=by rw[List.length_map,cf]
  generalize h.set q (.dit kvs)=H at *
  generalize (aP xs).map D.int=F at *
  generalize ((aP xs).length:Int)=FL at *
  generalize xs.map D.int=X at *
  by_cases c1:aO xs=b
  ·by_cases c2:FL=k
   ·rw[if_pos ⟨ca,c1,c2⟩]
    simp[a9,aX,ln',ln,il,c1,fa,lf,c2]
   ·rw[if_neg (fun z=>c2 z.2.2)]
    simp[a9,aX,ln',ln,il,c1,fa,lf,c2]
  ·rw[if_neg (fun z=>c1 z.2.1)]
   simp[a9,aX,ln',ln,il,c1]
 ·have cf':¬ (xs.length:Int)=(n:Int):=by omega
  have cf2:¬ (xs.map D.int).length=n:=by rw[List.length_map];exact cf
  by_cases hb:b∈xs
  ·refine⟨kvs,r,?_⟩
   have ez:ebV n k a b xs=0:=by
    unfold ebV
    rw[if_neg c]
    by_cases hd:b∈xs.dropLast
    ·rw[if_neg (fun z=>z.2 hd)]
    ·rw[if_pos ⟨ca,hd⟩]
     have e:b=aO xs:=by
      rw[<- eW c] at hb
      rcases List.mem_append.mp hb with z | z
      ·exact absurd z hd
      ·simpa using z
     have:rkI xs.dropLast b=lwI xs:=by
      rw[zd c,lH c,e,if_neg (by omega)];omega
     rw[this,zi (by omega)]
   have bin:(dIn false) (.int b) (.tup (xs.map D.int)) (h.set q (.dit kvs))=.ok (.bl true) (h.set q (.dit kvs)):=by
    have:xs.any (· == b)=true:=List.any_eq_true.mpr ⟨_,hb,by simp⟩
    have e:(dIn false) (.int b) (.tup (xs.map D.int)) (h.set q (.dit kvs))=.ok (.bl (xs.any (· == b))) (h.set q (.dit kvs)):=by simp
    rw[e,this]
   rw[ez]
   generalize h.set q (.dit kvs)=H at *
   generalize xs.map D.int=X at *
   simp[a9,aX,cf2,lx,cf',bin]
  ·have hd:b∉xs.dropLast:=fun z=>hb (by rw[<- eW c];exact List.mem_append_left _ z)
   have bin:(dIn false) (.int b) (.tup (xs.map D.int)) (h.set q (.dit kvs))=.ok (.bl false) (h.set q (.dit kvs)):=by
    have:xs.any (· == b)=false:=by
     rw[List.any_eq_false];intro x hx z;exact hb (beq_iff_eq.mp z ▸ hx)
    have e:(dIn false) (.int b) (.tup (xs.map D.int)) (h.set q (.dit kvs))=.ok (.bl (xs.any (· == b))) (h.set q (.dit kvs)):=by simp
    rw[e,this]
   have b2:Beg n xs.dropLast:=by rw[List.dropLast_eq_take];exact bg.take _
   have lm:=uC c
   have nl:aO xs∉xs.dropLast:=fun z=>by
    have nd:=bg.nd
    rw[<- eW c] at nd
    exact(List.nodup_append.mp nd).2.2 _ z _ (by simp) rfl
   have so:=oh n xs.dropLast
   have i1:=BC so (jE (bg.lo _ lm) (bg.hi _ lm) nl)
   have i2:=BC so (jE E.b0 E.b1 hd)
   have rl:=dO b2
   have lw:rkI xs.dropLast (aO xs)=lwI xs:=by rw[zd c,lH c,if_neg (by omega)];omega
   have r1:=om b2 (bg.lo _ lm) (bg.hi _ lm)
   have r2:=om b2 E.b0 E.b1
   rw[lw] at r1
   rw[List.length_dropLast] at rl
   have d1:∀H:Hh,gG (.frl ((aQ n xs.dropLast).map D.int)) [.int (aO xs)] H=.ok (.int (lwI xs)) H:=fun H=>by
    rw[v9 i1 (by omega),r1]
   have d2:∀H:Hh,gG (.frl ((aQ n xs.dropLast).map D.int)) [.int b] H=.ok (.int (rkI xs.dropLast b)) H:=fun H=>by
    rw[v9 i2 (by omega),r2]
   obtain⟨l0,l1⟩:=Fs bg
   obtain⟨p0,p1⟩:=xV c bg E.b0 E.b1 hd
   obtain⟨k1,g1,e1⟩:=uI hq 14 (n+1 - xs.length) (k - ((aP xs).length:Int)) (lwI xs) (rkI xs.dropLast b) kvs r (by omega) (by omega) (by omega) (by have:=E.k1;omega) l0 (by omega) p0 p1
   refine⟨k1,g1,?_⟩
   have cu:cutD (xs.map D.int) none (some (-1))=xs.dropLast.map D.int:=by
    show l7 (xs.map D.int) none (some (-1))=_
    rw[u_ (by rw[List.length_map];exact c),List.map_dropLast]
   have qc:cy (aC asB (aq (dIn true) (ae 0) (i8 aR (ae 1) jK (jW (cUn jm (cC (.int 1))))))) (ae 0) (fun x=>[some x,some (.tup (xs.map D.int))]) (cM 0 n) (h.set q (.dit kvs))=.ok ((aQ n xs.dropLast).map D.int) (h.set q (.dit kvs)):=by
    rw[zj]
    generalize xs.map D.int=X at *
    generalize xs.dropLast=S at *
    rw[comp_map D.int (fun x=>!(S.any (· == x))) D.int (fN 0 n) fun x hx=>⟨by simp[cu],fun _=>by simp⟩]
    rfl
   have ev:ebV n k a b xs=Eb (n+1 - xs.length) (k - ((aP xs).length:Int)) (lwI xs) (rkI xs.dropLast b):=by
    unfold ebV
    rw[if_neg c,if_pos ⟨ca,hd⟩]
   rw[ev]
   have ll:(((aQ n xs.dropLast).map D.int).length:Int)=((n+1 - xs.length:Nat):Int):=by rw[List.length_map,rl];omega
   have il2:∀H:Hh,isL (.frl ((aQ n xs.dropLast).map D.int)) H=true:=fun H=>rfl
   have z2:(n:Int).natAbs<=1000000:=by omega
   have z3:n<=1000000:=by omega
   generalize (aQ n xs.dropLast).map D.int=RL at *
   generalize Eb (n+1 - xs.length) (k - ((aP xs).length:Int)) (lwI xs) (rkI xs.dropLast b)=V at *
   generalize rkI xs.dropLast b=RB at *
   generalize h.set q (.dit kvs)=H at *
   generalize h.set q (.dit k1)=H1 at *
   generalize (aP xs).map D.int=F at *
   generalize ((aP xs).length:Int)=FL at *
   generalize ((n+1 - xs.length:Nat):Int)=SZ at *
   generalize xs.map D.int=X at *
   simp[a9,aX,cf2,lx,cf',bin,z2,z3,qc,fa,lf,il,il2,ll,d1,d2,e1]
theorem jO {h:Hh} {p q:Nat} {o:O} (e:p≠q):ax (h.set q o) p=ax h p:=by
 unfold ax;rw[List.getElem?_set_ne (Ne.symm e)]
theorem vI {h t:Hh} {q:Nat} {o:O} (hq:q<h.length):(h++t).set q o=h.set q o++t:=by
 rw[List.set_append_left _ _ hq]
theorem FD {n:Nat} {k a b:Int} {xs:List Int} (c:xs.length≠0) (h:0<ebV n k a b xs):gI xs 0=a:=by
 unfold ebV at h
 rw[if_neg c] at h
 split at h
 ·rename_i z;exact z.1
 ·omega
theorem A7 {n:Nat} {B:List Int->Int} {m:Nat} (m1:1<=m):∀xs∈fll n B m,0<B xs:=fun xs h=>by
 obtain⟨m,rfl⟩:∃j,m=j+1:=⟨m - 1,by omega⟩
 unfold fll at h
 obtain⟨ys,hy,hx⟩:=List.mem_flatMap.mp h
 obtain⟨x,hz,rfl⟩:=List.mem_map.mp hx
 have:=(List.mem_filter.mp hz).2
 simpa using this
theorem GJ {n m:Nat} {k a b:Int} (m1:1<=m):∀xs∈fll n (ebV n k a b) m,gI xs 0=a:=fun xs h=>
 FD (by have:=(fQ m xs h).1;omega) (A7 m1 xs h)
theorem vy {a:Int} {p:Int->Bool}:∀{L:List Int},L.Nodup->a∈L->(∀x∈L,p x=true->x=a)->L.filter p=if p a=true then [a] else []
 | [],_,m,_=>(nomatch m)
 | x::L,nd,m,h=>by
  obtain⟨n1,n2⟩:=List.nodup_cons.mp nd
  by_cases c:x=a
  ·subst c
   have:L.filter p=[]:=List.filter_eq_nil_iff.mpr fun y hy z=>n1 (h y (List.mem_cons_of_mem _ hy) z ▸ hy)
   rw[List.filter_cons,this]
  ·have mx:a∈L:=by
    rcases List.mem_cons.mp m with z | z
    ·exact absurd z.symm c
    ·exact z
   rw[List.filter_cons,if_neg (fun z=>c (h x List.mem_cons_self z)),vy n2 mx fun y hy=>h y (List.mem_cons_of_mem _ hy)]
theorem IS {n:Nat} {k a b:Int} (E:EH n k a b):fll n (ebV n k a b) 1=if 0<ebV n k a b [a] then [[a]] else []:=by
 have el:aQ n []=fN 0 n:=by unfold aQ;simp
 have e:=vy (a:=a) (p:=fun x=>decide (0<ebV n k a b ([]++[x]))) (L:=fN 0 n) (h_ n).nd (List.mem_map.mpr ⟨a.toNat,List.mem_range.mpr (by have:=E.a1;have:=E.a0;omega),by have:=E.a0;omega⟩) (fun x _ hx=>by
  have:=FD (by simp) (of_decide_eq_true hx)
  exact this)
 show([[]]:List (List Int)).flatMap _=_
 rw[List.flatMap_cons,List.flatMap_nil,List.append_nil]
 unfold nxB
 rw[el,e]
 simp only[List.nil_append]
 by_cases c:0<ebV n k a b [a]
 ·rw[if_pos (decide_eq_true c),if_pos c];rfl
 ·rw[if_neg (by simpa using c),if_neg c];rfl
noncomputable def LLB:MS:=(aF (aV 9 (cx aR (fk ft (aa (ae 0) ao)) [8] (aC asB (aq (dIn true) (ae 0) (ae 1))) (aq (cL aR) (ae 1) (aj b_ (aa (ae 0) ao))))) (fi (eA dP (ae 7) (aa (cx aR (cN (ae 9)) [0,1,3,4] (aC asB (aq dGt (aj a9 (aa (ae 1) (aa (ae 2) (aa (ae 0) (aa (ae 3) (aa (ae 4) ao)))))) (cC (.int 0)))) (ae 0)) ao))))
noncomputable def LLO:MS:=(aF (aV 7 (aj (dy jg) ao)) (aF (fD (cN (ae 5)) (gN 8) LLB) (aV 5 (ae 7))))
theorem yX {q n:Nat} {k u0 v0:Int} {h:Hh} {xs:List Int} (E:EH n k u0 v0) (hq:q<h.length) (c0:xs.length≠0) (cu:gI xs 0=u0) (b:Beg n xs):∀(l:List Int) (kvs:List (List Key × D)),(∀x∈l,x∈aQ n xs)->KI PG kvs->∃kvs',KI PG kvs'/\cy (aC asB (aq dGt (aj a9 (aa (ae 1) (aa (ae 2) (aa (ae 0) (aa (ae 3) (aa (ae 4) ao)))))) (cC (.int 0)))) (ae 0) (fun x=>[some x,some (.int n),some (.int k),some (.int v0),some (.ref q)]) (l.map fun x=>tpI (xs++[x])) (h.set q (.dit kvs))=.ok ((l.filter fun x=>decide (0<ebV n k u0 v0 (xs++[x]))).map fun x=>tpI (xs++[x])) (h.set q (.dit kvs'))
 | [],kvs,_,r=>⟨kvs,r,rfl⟩
 | x::l,kvs,hl,r=>by
  obtain⟨k1,r1,e1⟩:=yx E hq r (b.snoc (hl x List.mem_cons_self)) (by simp) (by rw[k8 (by omega)];exact cu)
  obtain⟨k2,r2,e2⟩:=yX E hq c0 cu b l k1 (fun y hy=>hl y (List.mem_cons_of_mem _ hy)) r1
  refine⟨k2,r2,?_⟩
  rw[List.map_cons,cy,List.filter_cons]
  have t:(aC asB (aq dGt (aj a9 (aa (ae 1) (aa (ae 2) (aa (ae 0) (aa (ae 3) (aa (ae 4) ao)))))) (cC (.int 0)))) [some (tpI (xs++[x])),some (.int n),some (.int k),some (.int v0),some (.ref q)] (h.set q (.dit kvs))=.ok (decide (0<ebV n k u0 v0 (xs++[x]))) (h.set q (.dit k1)):=by
   simp only[tpI]
   generalize (xs++[x]).map D.int=X at *
   simp[e1]
  rw[t,bH]
  by_cases c:0<ebV n k u0 v0 (xs++[x])
  ·have v:ae 0 [some (tpI (xs++[x])),some (.int n),some (.int k),some (.int v0),some (.ref q)] (h.set q (.dit k1))=.ok (tpI (xs++[x])) (h.set q (.dit k1)):=rfl
   rw[decide_eq_true c,if_pos rfl,v,bH,e2,bH,if_pos rfl]
   rfl
  ·rw[decide_eq_false c,if_neg Bool.false_ne_true,e2,if_neg Bool.false_ne_true]
theorem DJ {q n:Nat} {k u0 v0:Int} {K:Hh} {xs:List Int} {acc:List (List Int)} {kvs:List (List Key × D)} {d3 d4 y7:Option D} (E:EH n k u0 v0) (hq:q<K.length) (c0:xs.length≠0) (cu:gI xs 0=u0) (b:Beg n xs) (ha:acc.length<=10000) (r:KI PG kvs) :
  ∃kvs' z7,KI PG kvs'/\LLB [some (.int n),some (.int k),some (.int u0),some (.int v0),some (.ref q),d3,d4,some (.ref K.length),some (tpI xs),y7] ((K++[O.lst (acc.map tpI)]).set q (.dit kvs))=.ok (.nx [some (.int n),some (.int k),some (.int u0),some (.int v0),some (.ref q),d3,d4,some (.ref K.length),some (tpI xs),z7]) ((K++[O.lst ((acc++exB n (ebV n k u0 v0) xs).map tpI)]).set q (.dit kvs')):=by
 have bl:=b.len
 have hn:=E.hn
 have q1:=rG (n:=n) (xs:=xs) (h:=(K++[O.lst (acc.map tpI)]).set q (.dit kvs)) (by omega)
 obtain⟨k1,r1,e1⟩:=yX E (q:=q) (h:=K++[O.lst (acc.map tpI)]) (by simp;omega) c0 cu b (aQ n xs) kvs (fun _ z=>z) r
 refine⟨k1,some (.frl ((aQ n xs).map fun x=>tpI (xs++[x]))),r1,?_⟩
 have es:∀(A:List D) (kv:List (List Key × D)),(K++[O.lst A]).set q (.dit kv)=K.set q (.dit kv)++[O.lst A]:=fun A kv=>zh hq
 have L1:∀kv,(K.set q (O.dit kv)).length=K.length:=fun kv=>List.length_set
 have ll:((aQ n xs).map fun x=>tpI (xs++[x])).length<=1000000:=by rw[List.length_map,dO b];omega
 have fe:((aQ n xs).filter fun x=>decide (0<ebV n k u0 v0 (xs++[x]))).map (fun x=>tpI (xs++[x]))=(exB n (ebV n k u0 v0) xs).map tpI:=by rw[List.map_map];rfl
 rw[fe] at e1
 have nl:=BP (B:=ebV n k u0 v0) b
 have ex:dP (.ref K.length) [.frl ((exB n (ebV n k u0 v0) xs).map tpI)] ((K++[O.lst (acc.map tpI)]).set q (.dit k1))=.ok .non ((K++[O.lst ((acc++exB n (ebV n k u0 v0) xs).map tpI)]).set q (.dit k1)):=by
  rw[es,es]
  have:=sj (h:=K.set q (.dit k1)) (ds:=acc.map tpI) (ys:=(exB n (ebV n k u0 v0) xs).map tpI) (t:=[])
  rw[L1] at this
  rw[this,if_pos (by simp[exB];omega),List.map_append]
 have il:isL (.ref K.length) ((K++[O.lst (acc.map tpI)]).set q (.dit kvs))=true:=by
  rw[es]
  have:ax (K.set q (O.dit kvs)++[O.lst (acc.map tpI)]) K.length=some (acc.map tpI):=by rw[<- L1 kvs];exact cb
  exact uB this
 have q1:cy (aC asB (aq (dIn true) (ae 0) (ae 1))) (aq (cL aR) (ae 1) (aj b_ (aa (ae 0) ao))) (fun x=>[some x,some (tpI xs)]) (cM 0 n) ((K++[O.lst (acc.map tpI)]).set q (.dit kvs))=.ok ((aQ n xs).map fun x=>tpI (xs++[x])) ((K++[O.lst (acc.map tpI)]).set q (.dit kvs)):=q1
 have z2:(n:Int).natAbs<=1000000:=by omega
 have z3:n<=1000000:=by omega
 generalize ((aQ n xs).map fun x=>tpI (xs++[x]))=W1 at *
 generalize (exB n (ebV n k u0 v0) xs).map tpI=W2 at *
 generalize (K++[O.lst (acc.map tpI)]).set q (.dit kvs)=H0 at *
 generalize (K++[O.lst (acc.map tpI)]).set q (.dit k1)=H1 at *
 generalize (K++[O.lst ((acc++exB n (ebV n k u0 v0) xs).map tpI)]).set q (.dit k1)=H2 at *
 generalize tpI xs=X at *
 simp[LLB,z2,z3,q1,ll,e1,il,ex]
theorem Bx {q n m:Nat} {k u0 v0:Int} {K:Hh} {kvs:List (List Key × D)} {fd:D} {y5 y6 y7 d4:Option D} (E:EH n k u0 v0) (hq:q<K.length) (m1:1<=m) (hm:m<n) (h3:ebV n k u0 v0 []<=300) (r:KI PG kvs)
  (hf:fd=.frl ((fll n (ebV n k u0 v0) m).map tpI)\/∃p,p≠q/\fd=.ref p/\ax K p=some ((fll n (ebV n k u0 v0) m).map tpI)) :
  ∃kvs' z6 z7,KI PG kvs'/\LLO [some (.int n),some (.int k),some (.int u0),some (.int v0),some (.ref q),some fd,d4,y5,y6,y7] (K.set q (.dit kvs))=.ok (.nx [some (.int n),some (.int k),some (.int u0),some (.int v0),some (.ref q),some (.ref K.length),d4,some (.ref K.length),z6,z7]) ((K++[O.lst ((fll n (ebV n k u0 v0) (m+1)).map tpI)]).set q (.dit kvs')):=by
 have C:=E.cnt
 have L0:(K.set q (O.dit kvs)).length=K.length:=List.length_set
 have fb:=fun xs (hx:xs∈fll n (ebV n k u0 v0) m)=>(fQ m xs hx).2
 have fl1:=oz C h3 (m+1) (by omega)
 have fS:fll n (ebV n k u0 v0) (m+1)=(fll n (ebV n k u0 v0) m).flatMap (exB n (ebV n k u0 v0)):=rfl
 have accle:∀i,(((fll n (ebV n k u0 v0) m).take i).flatMap (exB n (ebV n k u0 v0))).length<=300:=fun i=>by
  have e:fll n (ebV n k u0 v0) (m+1)=((fll n (ebV n k u0 v0) m).take i).flatMap (exB n (ebV n k u0 v0))++((fll n (ebV n k u0 v0) m).drop i).flatMap (exB n (ebV n k u0 v0)):=by
   rw[<- List.flatMap_append,List.take_append_drop];rfl
  rw[e,List.length_append] at fl1
  omega
 have stp:∀(i:Nat) (s:List (List Int) × List (List Key × D) × Option D × Option D),i<(fll n (ebV n k u0 v0) m).length->(s.1=((fll n (ebV n k u0 v0) m).take i).flatMap (exB n (ebV n k u0 v0))/\KI PG s.2.1)->∃s':List (List Int) × List (List Key × D) × Option D × Option D,(s'.1=((fll n (ebV n k u0 v0) m).take (i+1)).flatMap (exB n (ebV n k u0 v0))/\KI PG s'.2.1) ∧
   (gN 8 (tpI ((fll n (ebV n k u0 v0) m).getD i [])) [some (.int n),some (.int k),some (.int u0),some (.int v0),some (.ref q),some fd,d4,some (.ref K.length),s.2.2.1,s.2.2.2] ((K++[O.lst (s.1.map tpI)]).set q (.dit s.2.1))).bind LLB=.ok (.nx [some (.int n),some (.int k),some (.int u0),some (.int v0),some (.ref q),some fd,d4,some (.ref K.length),s'.2.2.1,s'.2.2.2]) ((K++[O.lst (s'.1.map tpI)]).set q (.dit s'.2.1)):=fun i s hi ⟨hs,rs⟩=>by
  obtain⟨acc,kv,y6,y7⟩:=s
  dsimp only at hs rs ⊢
  have ge:(fll n (ebV n k u0 v0) m).getD i []=(fll n (ebV n k u0 v0) m)[i]:=by rw[List.getD_eq_getElem?_getD,List.getElem?_eq_getElem hi];rfl
  have al:=accle i
  rw[<- hs] at al
  obtain⟨k1,z7,r1,e1⟩:=DJ E (K:=K) (acc:=acc) (d3:=some fd) (d4:=d4) (y7:=y7) hq (by have:=(fQ m _ (List.getElem_mem hi)).1;omega) (GJ m1 _ (List.getElem_mem hi)) (fb _ (List.getElem_mem hi)) (by omega) rs
  refine⟨(acc++exB n (ebV n k u0 v0) (fll n (ebV n k u0 v0) m)[i],k1,some (tpI (fll n (ebV n k u0 v0) m)[i]),z7),⟨?_,r1⟩,?_⟩
  ·dsimp only
   rw[List.take_succ_eq_append_getElem hi,List.flatMap_append,hs]
   simp
  ·dsimp only
   rw[ge]
   simp only[FP,bH,List.set]
   exact e1
 have H0:(K.set q (O.dit kvs))++[O.lst []]=(K++[O.lst (([]:List (List Int)).map tpI)]).set q (.dit kvs):=(zh hq).symm
 have fin:∀(s:List (List Int) × List (List Key × D) × Option D × Option D),s.1=((fll n (ebV n k u0 v0) m).take (fll n (ebV n k u0 v0) m).length).flatMap (exB n (ebV n k u0 v0))->s.1=fll n (ebV n k u0 v0) (m+1):=fun s e=>by rw[e,List.take_length];rfl
 rcases hf with rfl | ⟨p,hp,rfl,el⟩
 ·obtain⟨s,lp,si,rs⟩:=ui (σ:=List (List Int) × List (List Key × D) × Option D × Option D) (tg:=gN 8) (body:=LLB) (fun(i:Nat)=>tpI ((fll n (ebV n k u0 v0) m).getD i [])) (fll n (ebV n k u0 v0) m).length (fun s=>[some (.int n),some (.int k),some (.int u0),some (.int v0),some (.ref q),some (.frl ((fll n (ebV n k u0 v0) m).map tpI)),d4,some (.ref K.length),s.2.2.1,s.2.2.2]) (fun s=>(K++[O.lst (s.1.map tpI)]).set q (.dit s.2.1)) (fun i s=>s.1=((fll n (ebV n k u0 v0) m).take i).flatMap (exB n (ebV n k u0 v0))/\KI PG s.2.1) (fun i s hi hs=>stp i s hi hs) (fll n (ebV n k u0 v0) m).length 0 ([],kvs,y6,y7) (by omega) ⟨rfl,r⟩
  have si:=fin s si
  obtain⟨acc,kv,z6,z7⟩:=s
  dsimp only at lp si rs
  subst si
  refine⟨kv,z6,z7,rs,?_⟩
  have me:(List.range' 0 (fll n (ebV n k u0 v0) m).length).map (fun(i:Nat)=>tpI ((fll n (ebV n k u0 v0) m).getD i []))=(fll n (ebV n k u0 v0) m).map tpI:=by
   refine List.ext_getElem (by simp) fun i h1 h2=>?_
   rw[List.length_map] at h2
   simp[h2]
  rw[me] at lp
  generalize (fll n (ebV n k u0 v0) m).map tpI=F1 at *
  generalize (K++[O.lst ((fll n (ebV n k u0 v0) (m+1)).map tpI)]).set q (.dit kv)=H2 at *
  simp[LLO,jg,L0,H0] at lp ⊢
  rw[lp]
  rfl
 ·obtain⟨s,lp,si,rs⟩:=DX (σ:=List (List Int) × List (List Key × D) × Option D × Option D) (rd:=(Src.live p).rdr) (tg:=gN 8) (body:=LLB) (fun(i:Nat)=>tpI ((fll n (ebV n k u0 v0) m).getD i [])) (fll n (ebV n k u0 v0) m).length (fun s=>[some (.int n),some (.int k),some (.int u0),some (.int v0),some (.ref q),some (.ref p),d4,some (.ref K.length),s.2.2.1,s.2.2.2]) (fun s=>(K++[O.lst (s.1.map tpI)]).set q (.dit s.2.1)) (fun i s=>s.1=((fll n (ebV n k u0 v0) m).take i).flatMap (exB n (ebV n k u0 v0))/\KI PG s.2.1)
   (fun s i hi=>by
    have:ax ((K++[O.lst (s.1.map tpI)]).set q (.dit s.2.1)) p=some ((fll n (ebV n k u0 v0) m).map tpI):=by
     rw[jO hp];exact kY el
    show(ax _ p).map _=_
    rw[this]
    show some (((fll n (ebV n k u0 v0) m).map tpI)[i]?)=_
    rw[List.getElem?_map,List.getElem?_eq_getElem hi,List.getD_eq_getElem?_getD,List.getElem?_eq_getElem hi]
    rfl)
   (fun s=>by
    have:ax ((K++[O.lst (s.1.map tpI)]).set q (.dit s.2.1)) p=some ((fll n (ebV n k u0 v0) m).map tpI):=by
     rw[jO hp];exact kY el
    show(ax _ p).map _=_
    rw[this]
    show some (((fll n (ebV n k u0 v0) m).map tpI)[(fll n (ebV n k u0 v0) m).length]?)=_
    rw[List.getElem?_eq_none (by simp)])
   (fun i s hi hs=>stp i s hi hs) (fll n (ebV n k u0 v0) m).length 0 ([],kvs,y6,y7) (by omega) ⟨rfl,r⟩
  have si:=fin s si
  obtain⟨acc,kv,z6,z7⟩:=s
  dsimp only at lp si rs
  subst si
  refine⟨kv,z6,z7,rs,?_⟩
  have el2:ax ((K++[O.lst (([]:List (List Int)).map tpI)]).set q (.dit kvs)) p=some ((fll n (ebV n k u0 v0) m).map tpI):=by
   rw[jO hp];exact kY el
  have sq:=CP el2
  have sk:Dx (gN 8) LLB [some (.int n),some (.int k),some (.int u0),some (.int v0),some (.ref q),some (.ref p),d4,some (.ref K.length),y6,y7] (.live p) ((K++[O.lst (([]:List (List Int)).map tpI)]).set q (.dit kvs))=.ok (.nx [some (.int n),some (.int k),some (.int u0),some (.int v0),some (.ref q),some (.ref p),d4,some (.ref K.length),z6,z7]) ((K++[O.lst ((fll n (ebV n k u0 v0) (m+1)).map tpI)]).set q (.dit kv)):=by
   show f_ (Src.live p).rdr (gN 8) LLB ((ax _ p).getD []).length 0 _ _=_
   rw[el2]
   show f_ _ _ _ ((fll n (ebV n k u0 v0) m).map tpI).length 0 _ _=_
   rw[List.length_map]
   exact lp
  generalize (K++[O.lst ((fll n (ebV n k u0 v0) (m+1)).map tpI)]).set q (.dit kv)=H2 at *
  generalize hH1:(K++[O.lst (([]:List (List Int)).map tpI)]).set q (.dit kvs)=H1 at *
  simp[LLO,jg,L0,H0,sq,sk]
theorem DI {q n:Nat} {k u0 v0:Int} {h:Hh} {kvs:List (List Key × D)} (E:EH n k u0 v0) (hq:q<h.length) (h3:ebV n k u0 v0 []<=300) (r:KI PG kvs) (w:Wf h) :
  ∃kvs',KI PG kvs'/\bE [.int n,.int k,.int u0,.int v0,.ref q] (h.set q (.dit kvs))=.ok (.frl ((fll n (ebV n k u0 v0) n).map tpI)) (h.set q (.dit kvs')):=by
 have hn:=E.hn
 have h1:=E.h1
 obtain⟨k0,r0,e0⟩:=yx (xs:=[u0]) E hq r ⟨h1,by simp,fun x hx=>by simp at hx;subst hx;exact E.a0,fun x hx=>by simp at hx;subst hx;exact E.a1⟩ (by simp) rfl
 obtain⟨s,lp,sf,rs⟩:=ui (σ:=Hh × D × List (List Key × D) × Option D × Option D × Option D × Option D) (tg:=gN 6) (body:=LLO) (fun(i:Nat)=>D.int i) (n - 1) (fun s=>[some (.int n),some (.int k),some (.int u0),some (.int v0),some (.ref q),some s.2.1,s.2.2.2.1,s.2.2.2.2.1,s.2.2.2.2.2.1,s.2.2.2.2.2.2]) (fun s=>(h++s.1).set q (.dit s.2.2.1)) (fun i s=>((i=0/\s.2.1=.frl ((fll n (ebV n k u0 v0) (i+1)).map tpI))\/∃j,s.2.1=.ref (h.length+j)/\ax (h++s.1) (h.length+j)=some ((fll n (ebV n k u0 v0) (i+1)).map tpI))/\KI PG s.2.2.1) (fun i s hi hs=>by
  obtain⟨T,fd,kv,y4,y5,y6,y7⟩:=s
  obtain⟨sf,rs⟩:=hs
  dsimp only at sf rs ⊢
  obtain⟨k1,z6,z7,r1,e1⟩:=Bx E (q:=q) (K:=h++T) (d4:=some (.int i)) (y5:=y5) (y6:=y6) (y7:=y7) (by simp;omega) (by omega) (by omega) h3 rs (sf.elim (fun z=>.inl z.2) fun⟨j,a,b⟩=>.inr ⟨h.length+j,by omega,a,b⟩)
  refine⟨(T++[.lst ((fll n (ebV n k u0 v0) (i+1+1)).map tpI)],.ref (h.length+T.length),k1,some (.int i),some (.ref (h++T).length),z6,z7),⟨.inr ⟨T.length,rfl,?_⟩,r1⟩,?_⟩
  ·dsimp only
   rw[<- List.append_assoc,<- List.length_append]
   exact cb
  ·dsimp only
   rw[<- List.append_assoc,<- List.length_append]
   simp only[FP,bH,List.set]
   exact e1) (n - 1) 0 ([],.frl ((fll n (ebV n k u0 v0) 1).map tpI),k0,none,none,none,none) (by omega) ⟨.inl ⟨rfl,rfl⟩,r0⟩
 obtain⟨T,fd,kv,y4,y5,y6,y7⟩:=s
 dsimp only at lp sf rs
 rw[<- List.range_eq_range',<- fR,List.append_nil] at lp
 rw[show n - 1+1=n by omega] at sf
 refine⟨kv,rs,?_⟩
 have L0:(h.set q (O.dit kvs)).length=h.length:=List.length_set
 have L1:(h.set q (O.dit kv)).length=h.length:=List.length_set
 have w1:Wf (h.set q (.dit kv)):=by
  unfold Wf at w ⊢
  rw[List.length_set,List.all_eq_true] at *
  intro x hx
  rcases List.mem_or_eq_of_mem_set hx with hx | hx
  ·exact w x hx
  ·subst hx;exact rs.low
 have ex:bU (h.set q (.dit kvs)) fd ((h++T).set q (.dit kv))=.ok (.frl ((fll n (ebV n k u0 v0) n).map tpI)) (h.set q (.dit kv)):=by
  have e:bU (h.set q (.dit kv)) fd (h.set q (.dit kv)++T)=.ok (.frl ((fll n (ebV n k u0 v0) n).map tpI)) (h.set q (.dit kv)):=by
   rcases sf with⟨_,rfl⟩ | ⟨j,rfl,el⟩
   ·exact gr w1 (by show((fll n (ebV n k u0 v0) n).map tpI).all (deep 7)=true;exact kO (k:=5))
   ·have el2:ax (h.set q (O.dit kv)++T) ((h.set q (O.dit kv)).length+j)=some ((fll n (ebV n k u0 v0) n).map tpI):=by
     rw[L1,<- vI hq,jO (by omega)];exact el
    have e:=AY w1 el2 (kO (k:=5))
    rw[L1] at e
    exact e
  rw[vI hq]
  unfold bU at e ⊢
  rw[L1] at e
  rw[L0]
  exact e
 have z1:((n:Int) - 1).natAbs<=1000000:=by omega
 have z2:((n:Int) - 1).toNat=n - 1:=by omega
 have z3:n - 1<=1000000:=by omega
 have eq:bE=fun ds h=>((cn 10 (aF (aV 5 (cIf (aC asB (aq dGt (aj a9 (aa (ae 0) (aa (ae 1) (aa (aj b_ (aa (ae 2) ao)) (aa (ae 3) (aa (ae 4) ao)))))) (cC (.int 0)))) (aj (dy aR) (aa (aj b_ (aa (ae 2) ao)) ao)) (aj (dy aR) ao))) (aF (fD (fk ft (aa (aq dg (ae 0) (cC (.int 1))) ao)) (gN 6) LLO) (bB (ae 5))))) ds h).bind (bU h):=rfl
 rw[IS E] at lp
 rw[eq]
 have e0:a9 [.int n,.int k,.tup [.int u0],.int v0,.ref q] (h.set q (.dit kvs))=.ok (.int (ebV n k u0 v0 [u0])) (h.set q (.dit k0)):=e0
 generalize (fll n (ebV n k u0 v0) n).map tpI=W at *
 generalize ebV n k u0 v0 [u0]=V at *
 generalize (h++T).set q (.dit kv)=H2 at *
 have tu:tpI [u0]=.tup [.int u0]:=rfl
 by_cases c:0<V
 ·rw[if_pos c,List.map_cons,List.map_nil,tu] at lp
  simp[aX,e0,c,z1,z2,z3,lp,ex]
 ·rw[if_neg c,List.map_nil] at lp
  simp[aX,e0,c,z1,z2,z3,lp,ex]
noncomputable def RB:MS:=(aF (aV 6 (aj cZ (aa (ae 0) (aa (ae 1) (aa (ae 2) (aa (ae 3) ao)))))) (aF (dN (aC asB (aq dNe (aj kR (aa (ae 6) ao)) (aj kR (aa (ae 4) ao)))) (bB (cC (.bl false))) b9) (dN (aC lP (cUn (pS "list") (ae 6))) (fi (eA fP (ae 6) (aa (aj b_ ao) ao))) b9)))
theorem IV:bF=fun ds h=>((cn 7 (aF (fD (fk ft (aa (cC (.int 2)) ao)) (gN 5) RB) (bB (cC (.bl true))))) ds h).bind (bU h):=rfl
theorem ints2:cM 0 2=[.int 0,.int 1]:=rfl
theorem G6 {n:Nat} {B:List Int->Int} (hn:n<=12):∀b∈fll n B n,∀x∈b,sml x=true:=fun b hb x hx=>by
 have:=(fQ n b hb).2
 have:=this.lo x hx;have:=(fQ n b hb).2.hi x hx
 exact DP (by omega) (by omega)
theorem Dv {k:Nat} {L:List (List Int)}:bD k (L.map tpI++[.tup []])=true:=g9 fun d hd=>by
 rcases List.mem_append.mp hd with z | z
 ·obtain⟨x,_,rfl⟩:=List.mem_map.mp z
  show bD k (x.map D.int)=true
  exact pW
 ·simp at z;subst z;rfl
theorem wc {n:Nat} {k a b i:Int} {h:Hh} {y6:Option D} (E:EH n k a b) (w:Wf h) (c:Eb n k a b<=300):∃z6,RB [some (.int n),some (.int k),some (.int a),some (.int b),some (.frl ((fll n (ebV n k a b) n).map tpI)),some (.int i),y6] h=.ok (.nx [some (.int n),some (.int k),some (.int a),some (.int b),some (.frl ((fll n (ebV n k a b) n).map tpI)),some (.int i),z6]) (h++[.lst ((fll n (ebV n k a b) n).map tpI++[.tup []])]):=by
 have hn:=E.hn
 have to:=DR w E.h1 E.hn E.k0 E.k1 E.a0 E.a1 E.b0 E.b1 c
 have fl1:=oz E.cnt (show ebV n k a b []<=300 from c) n (Nat.le_refl n)
 obtain⟨s,e1,e2⟩:=G_ (L:=fll n (ebV n k a b) n) (G6 hn) (fun b hb=>by have:=(fQ n b hb).1;omega) fl1
 have e1:=e1 (h++[.lst ((fll n (ebV n k a b) n).map tpI)]) h.length cb
 have e2:=e2 (h++[.lst ((fll n (ebV n k a b) n).map tpI)])
 have ap:=Ah (h:=h) (ds:=(fll n (ebV n k a b) n).map tpI) (d:=.tup []) (t:=[])
 rw[if_pos (by rw[List.length_map];omega)] at ap
 have il:isL (.ref h.length) (h++[.lst ((fll n (ebV n k a b) n).map tpI)])=true:=uB cb
 have ii:pS "list" (.ref h.length) (h++[.lst ((fll n (ebV n k a b) n).map tpI)])=.ok (.bl true) (h++[.lst ((fll n (ebV n k a b) n).map tpI)]):=by
  have:(h++[O.lst ((fll n (ebV n k a b) n).map tpI)])[h.length]?=some (.lst ((fll n (ebV n k a b) n).map tpI)):=by simp
  unfold pS tyD
  dsimp only
  rw[this]
  rfl
 refine⟨some (.ref h.length),?_⟩
 generalize (fll n (ebV n k a b) n).map tpI=W at *
 generalize h++[O.lst (W++[.tup []])]=H2 at *
 generalize h++[O.lst W]=H1 at *
 simp[RB,to,e1,e2,ii,il,ap]
theorem vN {n:Nat} {k a b i:Int} {h:Hh} {y6:Option D} (E:EH n k a b) (w:Wf h) (c:300<Eb n k a b):∃z6,RB [some (.int n),some (.int k),some (.int a),some (.int b),some (TGr (Eb n k a b)),some (.int i),y6] h=.ok (.nx [some (.int n),some (.int k),some (.int a),some (.int b),some (TGr (Eb n k a b)),some (.int i),z6]) h:=by
 have to:=B1 w E.h1 E.hn E.k0 E.k1 E.a0 E.a1 E.b0 E.b1 c
 obtain⟨s,e1⟩:=Ha (V:=Eb n k a b) (Jw E.hn)
 refine⟨some (TGr (Eb n k a b)),?_⟩
 generalize Eb n k a b=V at *
 have ii:pS "list" (TGr V) h=.ok (.bl false) h:=by kernel_rfl
 simp[RB,to,e1,ii]
noncomputable def Due (n:Nat) (k a b:Int):D:=if Eb n k a b<=300 then .frl ((fll n (ebV n k a b) n).map tpI) else TGr (Eb n k a b)
theorem yg {n:Nat} {k a b:Int} {h:Hh} (E:EH n k a b) (w:Wf h):bF [.int n,.int k,.int a,.int b,Due n k a b] h=.ok (.bl true) h:=by
 unfold Due
 rw[IV]
 by_cases c:Eb n k a b<=300
 ·rw[if_pos c]
  obtain⟨z6,b1⟩:=wc (i:=0) (y6:=none) E w c
  have w1:Wf (h++[.lst ((fll n (ebV n k a b) n).map tpI++[.tup []])]):=w.app Dv
  obtain⟨u6,b2⟩:=wc (i:=1) (y6:=z6) E w1 c
  have ex:=gr (h:=h) (t:=[.lst ((fll n (ebV n k a b) n).map tpI++[.tup []])]++[.lst ((fll n (ebV n k a b) n).map tpI++[.tup []])]) (d:=.bl true) w rfl
  rw[<- List.append_assoc] at ex
  generalize (fll n (ebV n k a b) n).map tpI=W at *
  generalize h++[O.lst (W++[.tup []])]++[O.lst (W++[.tup []])]=H2 at *
  generalize h++[O.lst (W++[.tup []])]=H1 at *
  simp[aX,ints2,jH,oj,b1,b2,ex]
 ·rw[if_neg c]
  obtain⟨z6,b1⟩:=vN (i:=0) (y6:=none) E w (by omega)
  obtain⟨u6,b2⟩:=vN (i:=1) (y6:=z6) E w (by omega)
  have ex:=gr (h:=h) (t:=[]) (d:=.bl true) w rfl
  rw[List.append_nil] at ex
  generalize TGr (Eb n k a b)=W at *
  simp[aX,ints2,jH,oj,b1,b2,ex]
noncomputable def B0:MS:=(aF (aV 3 (aj cw (aa (ae 2) ao))) (aF (zM 4 5 (aa (aj av (aa (ae 3) (aa (cC (.int 5)) ao))) (aa (aq (cL aR) (cC (.int 1)) (aj av (aa (ae 3) (aa (cC (.int 12)) ao)))) ao))) (aF (aV 6 (aq dIx (aj (dy aR) (aa (cC (.int 1)) (aa (aq dg (ae 5) (cC (.int 2))) (aa (cC (.int 2)) (aa (aj av (aa (ae 3) (aa (cC (.int 13)) ao))) (aa (aj av (aa (ae 3) (aa (ae 5) ao))) ao)))))) (ae 4))) (aF (aV 6 (aj rE (aa (cC (.int 0)) (aa (ae 6) ao)))) (aF (A5 7 8 (aj b_ (aa (aj av (aa (ae 3) (aa (ae 5) ao))) (aa (aj av (aa (ae 3) (aa (ae 5) ao))) ao)))) (aF (aV 9 rV) (aF (aV 10 (aj (aU 14) (aa (ae 5) (aa (ae 6) (aa (ae 7) (aa (ae 8) (aa (ae 9) ao))))))) (aF (aV 11 (cIf (aC asB (aq dLt (ae 10) (cC (.int 301)))) (aj bE (aa (ae 5) (aa (ae 6) (aa (ae 7) (aa (ae 8) (aa (ae 9) ao)))))) (aj b_ (aa (cC (.str "great")) (aa (ae 10) (aa (cC (.int 300)) ao)))))) (aF (dN (j1 (aC lP (aj bF (aa (ae 5) (aa (ae 6) (aa (ae 7) (aa (ae 8) (aa (ae 11) ao)))))))) (bB (cC (.bl false))) b9) (dN (aC asB (aq dEq (ae 1) (cC (.int 0)))) (aF (aV 5 (aq (cL aR) (cC (.int 1)) (aj av (aa (ae 3) (aa (cC (.int 6)) ao))))) (aF (Bm 6 7 8 (aj b_ (aa (aj av (aa (ae 3) (aa (ae 5) ao))) (aa (aj av (aa (ae 3) (aa (ae 5) ao))) (aa (aj av (aa (ae 3) (aa (ae 5) ao))) ao))))) (aF (aV 12 (cx aR (cN (aj dG (aa (ae 5) ao))) [6] (aC asB (aq dEq (aj eI (aa (aj bx (aa (ae 0) ao)) ao)) (ae 1))) (ae 0))) (dN (j1 (aC lP (aj bF (aa (ae 5) (aa (ae 6) (aa (ae 7) (aa (ae 8) (aa (cx aR (cN (ae 12)) [7,8] (aC asB (aq dEq (aj b_ (aa (aq dIx (ae 0) (cC (.int 0))) (aa (aq dIx (ae 0) (cUn jm (cC (.int 1)))) ao))) (aj b_ (aa (ae 1) (aa (ae 2) ao))))) (ae 0)) ao)))))))) (bB (cC (.bl false))) b9)))) b9))))))))))
theorem B3:pU=fun ds h=>((cn 13 (aF (fD (jl (aq (cL aR) (aj (dy aR) (aa (aj bX (aa (ae 0) (aa (cC (.int 0)) ao))) ao)) (i8 aR (ae 0) (jW (cC (.int 1))) (jW (cC (.int 2)))))) (gT2 1 2) B0) (bB (cC (.bl true))))) ds h).bind (bU h):=rfl
noncomputable def Cv:Prop:=∀(ns:List Int) (i:Nat) (c:Int) (y3 y4 y5 y6 y7 y8 y9 y10 y11 y12:Option D) (h:Hh),Wf h->Ok (B0 [some (.scr (ns.map D.int)),some (.int i),some (.int c),y3,y4,y5,y6,y7,y8,y9,y10,y11,y12] h) fun fl h2=>∃z3 z4 z5 z6 z7 z8 z9 z10 z11 z12,fl=.nx [some (.scr (ns.map D.int)),some (.int i),some (.int c),z3,z4,z5,z6,z7,z8,z9,z10,z11,z12]/\Wf h2
theorem Gf (step:Cv) (ns:List Int) (hl:ns.length<=63):∃h,pU [.scr (ns.map D.int)] []=.ok (.bl true) h:=by
 have key:Ok (eR (gT2 1 2) B0 (eK (((ns.headD 0)::l7 ns (some 1) (some 2)).map D.int)) [some (.scr (ns.map D.int)),none,none,none,none,none,none,none,none,none,none,none,none] []) fun fl h2=>(∃e,fl=.nx e)/\Wf h2:=by
  rw[rB]
  refine sO (fun(i:Nat)=>D.tup [.int i,.int (gI ((ns.headD 0)::l7 ns (some 1) (some 2)) i)]) (fun e h=>(∃y1 y2 y3 y4 y5 y6 y7 y8 y9 y10 y11 y12,e=[some (.scr (ns.map D.int)),y1,y2,y3,y4,y5,y6,y7,y8,y9,y10,y11,y12])/\Wf h) _ _ _ ⟨⟨_,_,_,_,_,_,_,_,_,_,_,_,rfl⟩,Wf.nil⟩ (fun x e h _ ⟨⟨y1,y2,y3,y4,y5,y6,y7,y8,y9,y10,y11,y12,e1⟩,w⟩=>?_) (fun e h ⟨_,w⟩=>⟨⟨_,rfl⟩,w⟩)
  subst e1
  simp only[Ib,bH,List.set]
  refine(step ns x _ y3 y4 y5 y6 y7 y8 y9 y10 y11 y12 h w).mono fun fl h2 ⟨z3,z4,z5,z6,z7,z8,z9,z10,z11,z12,e2,w2⟩=>?_
  subst e2
  exact⟨⟨_,_,_,_,_,_,_,_,_,_,_,_,rfl⟩,w2⟩
 obtain⟨fl,h2,e,⟨e',rfl⟩,w⟩:=key
 have cl:=EF ns (some 1) (some 2)
 have c1:1+(l7 ns (some 1) (some 2)).length<=1000000:=by omega
 have ex:bU [] (.bl true) h2=.ok (.bl true) []:=by
  have:=gr (h:=[]) (t:=h2) (d:=.bl true) Wf.nil rfl
  simpa using this
 refine⟨[],?_⟩
 have e2:eR (gT2 1 2) B0 (eK (D.int (ns.headD 0)::(l7 ns (some 1) (some 2)).map D.int)) [some (.scr (ns.map D.int)),none,none,none,none,none,none,none,none,none,none,none,none] []=.ok (.nx e') h2:=e
 rw[B3]
 simp[aX,Al,c1,e2,ex,-List.headD_eq_head?_getD]
noncomputable def BS:MS:=(aF (aV 5 (aq (cL aR) (cC (.int 1)) (aj av (aa (ae 3) (aa (cC (.int 6)) ao))))) (aF (Bm 6 7 8 (aj b_ (aa (aj av (aa (ae 3) (aa (ae 5) ao))) (aa (aj av (aa (ae 3) (aa (ae 5) ao))) (aa (aj av (aa (ae 3) (aa (ae 5) ao))) ao))))) (aF (aV 12 (cx aR (cN (aj dG (aa (ae 5) ao))) [6] (aC asB (aq dEq (aj eI (aa (aj bx (aa (ae 0) ao)) ao)) (ae 1))) (ae 0))) (dN (j1 (aC lP (aj bF (aa (ae 5) (aa (ae 6) (aa (ae 7) (aa (ae 8) (aa (cx aR (cN (ae 12)) [7,8] (aC asB (aq dEq (aj b_ (aa (aq dIx (ae 0) (cC (.int 0))) (aa (aq dIx (ae 0) (cUn jm (cC (.int 1)))) ao))) (aj b_ (aa (ae 1) (aa (ae 2) ao))))) (ae 0)) ao)))))))) (bB (cC (.bl false))) b9))))
theorem Ip:B0=(aF (aV 3 (aj cw (aa (ae 2) ao))) (aF (zM 4 5 (aa (aj av (aa (ae 3) (aa (cC (.int 5)) ao))) (aa (aq (cL aR) (cC (.int 1)) (aj av (aa (ae 3) (aa (cC (.int 12)) ao)))) ao))) (aF (aV 6 (aq dIx (aj (dy aR) (aa (cC (.int 1)) (aa (aq dg (ae 5) (cC (.int 2))) (aa (cC (.int 2)) (aa (aj av (aa (ae 3) (aa (cC (.int 13)) ao))) (aa (aj av (aa (ae 3) (aa (ae 5) ao))) ao)))))) (ae 4))) (aF (aV 6 (aj rE (aa (cC (.int 0)) (aa (ae 6) ao)))) (aF (A5 7 8 (aj b_ (aa (aj av (aa (ae 3) (aa (ae 5) ao))) (aa (aj av (aa (ae 3) (aa (ae 5) ao))) ao)))) (aF (aV 9 rV) (aF (aV 10 (aj (aU 14) (aa (ae 5) (aa (ae 6) (aa (ae 7) (aa (ae 8) (aa (ae 9) ao))))))) (aF (aV 11 (cIf (aC asB (aq dLt (ae 10) (cC (.int 301)))) (aj bE (aa (ae 5) (aa (ae 6) (aa (ae 7) (aa (ae 8) (aa (ae 9) ao)))))) (aj b_ (aa (cC (.str "great")) (aa (ae 10) (aa (cC (.int 300)) ao)))))) (aF (dN (j1 (aC lP (aj bF (aa (ae 5) (aa (ae 6) (aa (ae 7) (aa (ae 8) (aa (ae 11) ao)))))))) (bB (cC (.bl false))) b9) (dN (aC asB (aq dEq (ae 1) (cC (.int 0)))) BS b9)))))))))):=rfl
noncomputable def hL (h:Hh) (p:Pen) (kvs:List (List Key × D)):Hh:=h++[.lst (qJ p),.dit kvs]
theorem uh {h:Hh} {p:Pen} {k1 k2:List (List Key × D)}:(hL h p k1).set (h.length+1) (.dit k2)=hL h p k2:=CJ
theorem IJ {h:Hh} {p:Pen} {k:List (List Key × D)}:h.length+1<(hL h p k).length:=by unfold hL;simp
theorem vt {h:Hh} {p:Pen} {k:List (List Key × D)} (w:Wf h) (r:KI PG k):Wf (hL h p k):=by
 have:=(GS w p).app (o:=.dit k) r.low
 unfold hL
 simpa using this
theorem nY {h:Hh} {p:Pen} {k:List (List Key × D)} {m:Int} (hm:0<m/\m<=10 ^ 20):∃(v:Nat) (p':Pen),(v:Int)<m/\av [.ref h.length,.int m] (hL h p k)=.ok (.int v) (hL h p' k):=by
 obtain⟨v,ev,bv⟩:=ph p m hm.1
 have d:=iJ (p:=p) (h:=h) (t:=[.dit k]) (m:=m) hm
 rw[ev] at d
 exact⟨v,_,bv,d⟩
theorem tT {n:Nat}:∀xs∈allI n n,xs.length=n/\Beg n xs:=(n9 (B:=fun _=>0) ⟨fun _ _=>Int.le_refl _,fun xs _ _=>(Hj fun _ _=>rfl).symm⟩ n (Nat.le_refl _)).1
theorem zN {n:Nat} {k a b:Int} (E:EH n k a b) (hn:n<=6):Due n k a b=.frl ((((allI n n).filter fun xs=>decide (((aP xs).length:Int)=k)).filter fun xs=>decide ([gI xs 0,aO xs]=[a,b])).map tpI):=by
 have le:=HX (n:=n) (k:=k) (a:=a) (b:=b) (N:=4) (by omega)
 have f4:qN 4=24:=rfl
 unfold Due
 rw[if_pos (by omega),<- GX E.cnt E.h1,List.filter_filter]
 congr 2
 refine List.filter_congr fun xs hx=>?_
 obtain⟨l,bg⟩:=tT xs hx
 rw[yI bg l E.b0 E.b1]
 by_cases c1:gI xs 0=a
 ·by_cases c2:aO xs=b
  ·by_cases c3:((aP xs).length:Int)=k
   ·rw[if_pos ⟨c1,c2,c3⟩];simp[c1,c2,c3]
   ·rw[if_neg (fun z=>c3 z.2.2)];simp[c3]
  ·rw[if_neg (fun z=>c2 z.2.1)];simp[c2]
 ·rw[if_neg (fun z=>c1 z.1)];simp[c1]
theorem IG {h:Hh} {p:Pen} {kvs:List (List Key × D)} {d0 d1 d2 d4 d5 d6 d7 d8 d9 d10 d11 d12:Option D} (w:Wf h) (r:KI PG kvs):∃z5 z6 z7 z8 z12 p',BS [d0,d1,d2,some (.ref h.length),d4,d5,d6,d7,d8,d9,d10,d11,d12] (hL h p kvs)=.ok (.nx [d0,d1,d2,some (.ref h.length),d4,z5,z6,z7,z8,d9,d10,d11,z12]) (hL h p' kvs):=by
 obtain⟨b,p1,hb,d6'⟩:=nY (h:=h) (p:=p) (k:=kvs) (m:=6) (by decide)
 obtain⟨n,hn⟩:∃n:Nat,1+(b:Int)=n:=⟨1+b,by omega⟩
 have h1:1<=n:=by omega
 have h2:n<=6:=by omega
 obtain⟨k,p2,hk,dk⟩:=nY (h:=h) (p:=p1) (k:=kvs) (m:=n) (by omega)
 obtain⟨u,p3,hu,du⟩:=nY (h:=h) (p:=p2) (k:=kvs) (m:=n) (by omega)
 obtain⟨v,p4,hv,dv⟩:=nY (h:=h) (p:=p3) (k:=kvs) (m:=n) (by omega)
 have E:EH n k u v:=⟨h1,by omega,by omega,by omega,by omega,hu,by omega,hv⟩
 have xa:=Ic h1 (by omega) (hL h p4 kvs)
 have rg:=yg E (vt (p:=p4) w r)
 rw[zN E h2] at rg
 have qa:cy (aC asB (aq dEq (aj eI (aa (aj bx (aa (ae 0) ao)) ao)) (ae 1))) (ae 0) (fun x=>[some x,some (.int (k:Int))]) ((allI n n).map tpI) (hL h p4 kvs)=.ok (((allI n n).filter fun xs=>decide (((aP xs).length:Int)=k)).map tpI) (hL h p4 kvs):=
  comp_map tpI (fun xs=>decide (((aP xs).length:Int)=k)) tpI (allI n n) fun xs hx=>⟨by
   obtain⟨l,bg⟩:=tT xs hx
   have fa:=we (xs:=xs) (h:=hL h p4 kvs) (by omega) (by omega)
   have lf:(((aP xs).map D.int).length:Int)=((aP xs).length:Int):=by simp
   simp only[tpI]
   generalize (aP xs).map D.int=F at *
   generalize ((aP xs).length:Int)=FL at *
   generalize xs.map D.int=X at *
   simp[fa,lf]
   rfl,fun _=>by simp⟩
 have qb:cy (aC asB (aq dEq (aj b_ (aa (aq dIx (ae 0) (cC (.int 0))) (aa (aq dIx (ae 0) (cUn jm (cC (.int 1)))) ao))) (aj b_ (aa (ae 1) (aa (ae 2) ao))))) (ae 0) (fun x=>[some x,some (.int (u:Int)),some (.int (v:Int))]) (((allI n n).filter fun xs=>decide (((aP xs).length:Int)=k)).map tpI) (hL h p4 kvs)=.ok ((((allI n n).filter fun xs=>decide (((aP xs).length:Int)=k)).filter fun xs=>decide ([gI xs 0,aO xs]=[(u:Int),(v:Int)])).map tpI) (hL h p4 kvs):=
  comp_map tpI (fun xs=>decide ([gI xs 0,aO xs]=[(u:Int),(v:Int)])) tpI _ fun xs hx=>⟨by
   obtain⟨l,bg⟩:=tT xs (List.mem_filter.mp hx).1
   have g0:ixK (xs.map D.int) 0 (hL h p4 kvs)=.ok (.int (gI xs 0)) (hL h p4 kvs):=jJ (j:=0) rfl (by omega)
   have il:=pH (xs:=xs) (h:=hL h p4 kvs) (by omega)
   have et:=IM (h:=hL h p4 kvs) (xs:=[gI xs 0,aO xs]) (ys:=[(u:Int),(v:Int)])
   simp only[List.map_cons,List.map_nil] at et
   simp only[tpI]
   generalize xs.map D.int=X at *
   generalize decide ([gI xs 0,aO xs]=[(u:Int),(v:Int)])=DD at *
   generalize hL h p4 kvs=H at *
   simp[g0,il,et],fun _=>by simp⟩
 have la:((allI n n).map tpI).length<=1000000:=by
  rw[List.length_map]
  have:=uF n n
  have:=Nat.pow_le_pow_left h2 n
  have:=Nat.pow_le_pow_right (show 0<6 by decide) h2
  omega
 have lb:(((allI n n).filter fun xs=>decide (((aP xs).length:Int)=k)).map tpI).length<=1000000:=by
  rw[List.length_map] at la ⊢
  exact Nat.le_trans (List.length_filter_le _ _) la
 refine⟨some (.int n),some (.int k),some (.int u),some (.int v),some (.frl (((allI n n).filter fun xs=>decide (((aP xs).length:Int)=k)).map tpI)),p4,?_⟩
 generalize (((allI n n).filter fun xs=>decide (((aP xs).length:Int)=k)).filter fun xs=>decide ([gI xs 0,aO xs]=[(u:Int),(v:Int)])).map tpI=W3 at *
 generalize ((allI n n).filter fun xs=>decide (((aP xs).length:Int)=k)).map tpI=W2 at *
 generalize (allI n n).map tpI=W1 at *
 generalize hL h p kvs=H0 at *
 generalize hL h p1 kvs=H1 at *
 generalize hL h p2 kvs=H2 at *
 generalize hL h p3 kvs=H3 at *
 generalize hL h p4 kvs=H4 at *
 simp[BS,d6',hn,dk,du,dv,xa,la,qa,lb,qb,rg]
theorem ix5 {w:Nat} {a b c d e:Int} (hw:w<5):∃v,(v=a\/v=b\/v=c\/v=d\/v=e)/\∀H:Hh,ixK [.int a,.int b,.int c,.int d,.int e] (w:Int) H=.ok (.int v) H:=by
 match w,hw with
 | 0,_=>exact⟨a,by simp,fun _=>rfl⟩
 | 1,_=>exact⟨b,by simp,fun _=>rfl⟩
 | 2,_=>exact⟨c,by simp,fun _=>rfl⟩
 | 3,_=>exact⟨d,by simp,fun _=>rfl⟩
 | 4,_=>exact⟨e,by simp,fun _=>rfl⟩
theorem Ei:Cv:=by
 intro ns i c y3 y4 y5 y6 y7 y8 y9 y10 y11 y12 h w
 obtain⟨wy,ew,hw⟩:=ph (wB c) 5 (by decide)
 have d5:=iJ (p:=wB c) (h:=h) (t:=[]) (m:=5) (by decide)
 rw[ew] at d5
 generalize jw (wB c) 5=p1 at d5
 obtain⟨b,eb,hb⟩:=ph p1 12 (by decide)
 have d12:=iJ (p:=p1) (h:=h) (t:=[]) (m:=12) (by decide)
 rw[eb] at d12
 generalize jw p1 12=p2 at d12
 obtain⟨n,hn⟩:∃n:Nat,1+(b:Int)=n:=⟨1+b,by omega⟩
 have h1:1<=n:=by omega
 have h2:n<=12:=by omega
 obtain⟨q1,e1,b1⟩:=ph p2 13 (by decide)
 have d13:=iJ (p:=p2) (h:=h) (t:=[]) (m:=13) (by decide)
 rw[e1] at d13
 generalize jw p2 13=p3 at d13
 obtain⟨q2,e2,b2⟩:=ph p3 n (by omega)
 have dn:=iJ (p:=p3) (h:=h) (t:=[]) (m:=n) (by omega)
 rw[e2] at dn
 generalize jw p3 n=p4 at dn
 obtain⟨k',hk',ik⟩:=ix5 (w:=wy) (a:=1) (b:=(n:Int) - 2) (c:=2) (d:=(q1:Int)) (e:=(q2:Int)) (by omega)
 obtain⟨k,hk⟩:∃k:Int,max 0 k'=k:=⟨_,rfl⟩
 have k0:0<=k/\k<=12:=by omega
 obtain⟨a,ea,ba⟩:=ph p4 n (by omega)
 have da:=iJ (p:=p4) (h:=h) (t:=[]) (m:=n) (by omega)
 rw[ea] at da
 generalize jw p4 n=p5 at da
 obtain⟨v,ev,bv⟩:=ph p5 n (by omega)
 have dv:=iJ (p:=p5) (h:=h) (t:=[]) (m:=n) (by omega)
 rw[ev] at dv
 generalize jw p5 n=p6 at dv
 have E:EH n k a v:=⟨h1,h2,k0.1,k0.2,by omega,ba,by omega,bv⟩
 obtain⟨k1,r1,g1⟩:=uI (m:=h.length+1) (h:=hL h p6 []) IJ 14 n k a v [] KI.nil h1 (by omega) h2 k0.2 (by omega) ba (by omega) bv
 rw[uh,uh] at g1
 obtain⟨k2,r2,g2⟩:∃k2,KI PG k2/\(cIf (aC asB (aq dLt (ae 10) (cC (.int 301)))) (aj bE (aa (ae 5) (aa (ae 6) (aa (ae 7) (aa (ae 8) (aa (ae 9) ao)))))) (aj b_ (aa (cC (.str "great")) (aa (ae 10) (aa (cC (.int 300)) ao))))) [some (.scr (ns.map D.int)),some (.int i),some (.int c),some (.ref h.length),some (.int wy),some (.int n),some (.int k),some (.int a),some (.int v),some (.ref (h.length+1)),some (.int (Eb n k a v)),y11,y12] (hL h p6 k1)=.ok (Due n k a v) (hL h p6 k2):=by
  unfold Due
  by_cases cc:Eb n k a v<=300
  ·obtain⟨k2,r2,g2⟩:=DI (q:=h.length+1) (h:=hL h p6 k1) E IJ cc r1 (vt w r1)
   rw[uh,uh] at g2
   refine⟨k2,r2,?_⟩
   rw[if_pos cc]
   have c':Eb n k a v<301:=by omega
   generalize (fll n (ebV n k a v) n).map tpI=W at *
   simp[c',g2]
  ·refine⟨k1,r1,?_⟩
   rw[if_neg cc]
   have c':¬ Eb n k a v<301:=by omega
   simp[c',TGr]
 have rg:=yg E (vt (p:=p6) w r2)
 have hi2:h++[O.lst (qJ p6),.dit []]=hL h p6 []:=rfl
 generalize Due n k a v=DU at *
 rw[Ip]
 generalize (cIf (aC asB (aq dLt (ae 10) (cC (.int 301)))) (aj bE (aa (ae 5) (aa (ae 6) (aa (ae 7) (aa (ae 8) (aa (ae 9) ao)))))) (aj b_ (aa (cC (.str "great")) (aa (ae 10) (aa (cC (.int 300)) ao)))))=CI at *
 by_cases c0:i=0
 ·subst c0
  obtain⟨z5,z6,z7,z8,z12,p',bs⟩:=IG (d0:=some (.scr (ns.map D.int))) (d1:=some (.int (0:Nat))) (d2:=some (.int c)) (d4:=some (.int wy)) (d5:=some (.int n)) (d6:=some (.int k)) (d7:=some (.int a)) (d8:=some (.int v)) (d9:=some (.ref (h.length+1))) (d10:=some (.int (Eb n k a v))) (d11:=some DU) (d12:=y12) (p:=p6) w r2
  simp only[Int.natCast_zero] at bs g2
  refine⟨.nx [some (.scr (ns.map D.int)),some (.int (0:Nat)),some (.int c),some (.ref h.length),some (.int wy),z5,z6,z7,z8,some (.ref (h.length+1)),some (.int (Eb n k a v)),some DU,z12],hL h p' k2,?_,⟨_,_,_,_,_,_,_,_,_,_,rfl,vt w r2⟩⟩
  generalize hL h p' k2=H4 at *
  generalize hL h p6 k2=H3 at *
  generalize hL h p6 k1=H2 at *
  generalize hL h p6 []=H1 at *
  simp[d5,d12,hn,d13,dn,ik,hk,da,dv,rV,hi2,g1,g2,rg,bs]
 ·have c0':¬ (i:Int)=0:=by omega
  refine⟨.nx [some (.scr (ns.map D.int)),some (.int i),some (.int c),some (.ref h.length),some (.int wy),some (.int n),some (.int k),some (.int a),some (.int v),some (.ref (h.length+1)),some (.int (Eb n k a v)),some DU,y12],hL h p6 k2,?_,⟨_,_,_,_,_,_,_,_,_,_,rfl,vt w r2⟩⟩
  generalize hL h p6 k2=H3 at *
  generalize hL h p6 k1=H2 at *
  generalize hL h p6 []=H1 at *
  simp[d5,d12,hn,d13,dn,ik,hk,da,dv,rV,hi2,g1,g2,rg,c0,c0']
theorem Hf (ns:List Int) (hl:ns.length<=63):∃h,pU [.scr (ns.map D.int)] []=.ok (.bl true) h:=Gf Ei ns hl
end FC
open PySem PySem.W PyProof.Rows
local macro_rules | `(tactic| o_head $H)=>`(tactic| (refine holds_open (q:=FC.Q) (loose:=[]) (Xt:=(fun s=>xlAt FC.Q [] s&&recOk (RowW.records (OpenRow.toRowW (OpenLaw.row PySem.Challenge.rw_fallcounts_k72_orders_by_ends))) s)) (XP:=XL FC.Q []) (Yf:=Hook.obs $H) (Ya:=Hook.val $H) (YP:=Hook.says $H) (N:=5588) (L2.FE.zH (by decide) (by kernel_rfl) (fun _=>by kernel_rfl) FC.Jo FC.IT (fun w os=>by kernel_rfl)) (Hook.of $H) (Hook.keeps $H) (fun s e=>xl_of s (Bool.and_eq_true_iff.mp e).1) XL.keeps (by rfl) (by rfl) (by rfl) (fun s e=>recFacts_of (Bool.and_eq_true_iff.mp e).2) (by rfl) (by first | assumption | decide +kernel) (by decide +kernel) ⟨rfl,rfl,rfl,rfl,rfl,by decide +kernel⟩ ?hw ?hc))
set_option maxRecDepth 100000 in
set_option maxHeartbeats 0 in
theorem PySem.Challenge.cw_fallcounts_k72_orders_by_ends_holds : PySem.Challenge.rw_fallcounts_k72_orders_by_ends.Holds := by
 w_on;o_law;k_head;w_witness2
 k_fill
 refine FC.walk (l:=PySem.Challenge.rw_fallcounts_k72_orders_by_ends) rfl rfl (fun w h Y=>by first | exact PySem.W.kIn_of Y | exact PySem.W.km_in_of Y) (fun w h Y=>PySem.W.km_tabs_of Y) (fun _=>by kernel_rfl) FC.Hf ?F
 case F=>
  intro w mg fa h KX G hmg
  refine FC.all_mk KX G hmg (by kernel_rfl) ?T
  case T=>
   refine' ⟨?gv,?gZ,?jI,?jt,?jA,?iO,?ju,?gL,?fZ,?gq,?kg,?fU,?gY,?iP,?gT,?fF,?gR,?kG,?jy,?fq,?eQ,?iy,?gM,?km,?iL,?kA,?jx,?iC,?kj,?De,?cls,?lR,?jB,?iR,?xE,?je,?BY,?iD,?C9,?wX,?B4,?uw,?xC,?Bg,?sX,?dA,?fc,?kx⟩
   (case gv=>refine' L2.FE.bj ?a ?l ?c ?k;(case a=>k_is);(case l=>k_is);(case c=>k_is);(case k=>k_is))
   (case gZ=>refine' L2.FE.bj ?a ?l ?c ?k;(case a=>k_is);(case l=>k_is);(case c=>k_is);(case k=>k_is))
   (case jI=>refine' L2.FE.bj ?a ?l ?c ?k;(case a=>k_is);(case l=>k_is);(case c=>k_is);(case k=>k_is))
   (case jt=>refine' L2.FE.bj ?a ?l ?c ?k;(case a=>k_is);(case l=>k_is);(case c=>k_is);(case k=>k_is))
   (case jA=>refine' L2.FE.bj ?a ?l ?c ?k;(case a=>k_is);(case l=>k_is);(case c=>k_is);(case k=>k_is))
   (case iO=>refine' L2.FE.bj ?a ?l ?c ?k;(case a=>k_is);(case l=>k_is);(case c=>k_is);(case k=>k_is))
   (case ju=>refine' L2.FE.bj ?a ?l ?c ?k;(case a=>k_is);(case l=>k_is);(case c=>k_is);(case k=>k_is))
   (case gL=>refine' L2.FE.bj ?a ?l ?c ?k;(case a=>k_is);(case l=>k_is);(case c=>k_is);(case k=>k_is))
   (case fZ=>refine' L2.FE.bj ?a ?l ?c ?k;(case a=>k_is);(case l=>k_is);(case c=>k_is);(case k=>k_is))
   (case gq=>refine' L2.FE.bj ?a ?l ?c ?k;(case a=>k_is);(case l=>k_is);(case c=>k_is);(case k=>k_is))
   (case kg=>refine' L2.FE.bj ?a ?l ?c ?k;(case a=>k_is);(case l=>k_is);(case c=>k_is);(case k=>k_is))
   (case fU=>refine' L2.FE.bj ?a ?l ?c ?k;(case a=>k_is);(case l=>k_is);(case c=>k_is);(case k=>k_is))
   (case gY=>refine' L2.FE.bj ?a ?l ?c ?k;(case a=>k_is);(case l=>k_is);(case c=>k_is);(case k=>k_is))
   (case iP=>refine' L2.FE.bj ?a ?l ?c ?k;(case a=>k_is);(case l=>k_is);(case c=>k_is);(case k=>k_is))
   (case gT=>refine' L2.FE.bj ?a ?l ?c ?k;(case a=>k_is);(case l=>k_is);(case c=>k_is);(case k=>k_is))
   (case fF=>refine' L2.FE.bj ?a ?l ?c ?k;(case a=>k_is);(case l=>k_is);(case c=>k_is);(case k=>k_is))
   (case gR=>refine' L2.FE.bj ?a ?l ?c ?k;(case a=>k_is);(case l=>k_is);(case c=>k_is);(case k=>k_is))
   (case kG=>refine' L2.FE.bj ?a ?l ?c ?k;(case a=>k_is);(case l=>k_is);(case c=>k_is);(case k=>k_is))
   (case jy=>refine' L2.FE.bj ?a ?l ?c ?k;(case a=>k_is);(case l=>k_is);(case c=>k_is);(case k=>k_is))
   (case fq=>refine' L2.FE.bj ?a ?l ?c ?k;(case a=>k_is);(case l=>k_is);(case c=>k_is);(case k=>k_is))
   (case eQ=>refine' L2.FE.bj ?a ?l ?c ?k;(case a=>k_is);(case l=>k_is);(case c=>k_is);(case k=>k_is))
   (case iy=>refine' L2.FE.bj ?a ?l ?c ?k;(case a=>k_is);(case l=>k_is);(case c=>k_is);(case k=>k_is))
   (case gM=>refine' L2.FE.bj ?a ?l ?c ?k;(case a=>k_is);(case l=>k_is);(case c=>k_is);(case k=>k_is))
   (case km=>refine' L2.FE.bj ?a ?l ?c ?k;(case a=>k_is);(case l=>k_is);(case c=>k_is);(case k=>k_is))
   (case iL=>refine' L2.FE.bj ?a ?l ?c ?k;(case a=>k_is);(case l=>k_is);(case c=>k_is);(case k=>k_is))
   (case kA=>refine' L2.FE.bj ?a ?l ?c ?k;(case a=>k_is);(case l=>k_is);(case c=>k_is);(case k=>k_is))
   (case jx=>refine' L2.FE.bj ?a ?l ?c ?k;(case a=>k_is);(case l=>k_is);(case c=>k_is);(case k=>k_is))
   (case iC=>refine' L2.FE.bj ?a ?l ?c ?k;(case a=>k_is);(case l=>k_is);(case c=>k_is);(case k=>k_is))
   (case kj=>refine' L2.FE.bj ?a ?l ?c ?k;(case a=>k_is);(case l=>k_is);(case c=>k_is);(case k=>k_is))
   (case De=>refine' L2.FE.bj ?a ?l ?c ?k;(case a=>k_is);(case l=>k_is);(case c=>k_is);(case k=>k_is))
   (case cls=>refine' L2.GR ?e0 ?e1 ?e2 ?e3 ?e4 ?e5 ?e6 ?e7 ?c;(case e0=>k_is);(case e1=>k_is);(case e2=>k_is);(case e3=>k_is);(case e4=>k_is);(case e5=>k_is);(case e6=>k_is);(case e7=>k_is);(case c=>kernel_rfl))
   (case lR=>refine' L2.yJ ?a ?b ?l ?c ?k ?o FC.xw FC.vZ FC.xy FC.xh (by decide);(case a=>k_is);(case b=>k_is);(case l=>k_is);(case c=>k_is);(case k=>k_is);(case o=>kernel_rfl))
   (case jB=>refine' L2.yJ ?a ?b ?l ?c ?k ?o FC.t_ FC.rA FC.tY FC.sY (by decide);(case a=>k_is);(case b=>k_is);(case l=>k_is);(case c=>k_is);(case k=>k_is);(case o=>kernel_rfl))
   (case iR=>k_is)
   (case xE=>k_is)
   (case je=>k_is)
   (case BY=>k_is)
   (case iD=>k_is)
   (case C9=>k_is)
   (case wX=>k_is)
   (case B4=>k_is)
   (case uw=>k_is)
   (case xC=>k_is)
   (case Bg=>k_is)
   (case sX=>k_is)
   (case dA=>exact⟨_,rfl⟩)
   (case fc=>exact⟨_,rfl⟩)
   (case kx=>refine' L2.FE.Ih ?a ?l ?c ?k ?h1 ?h2 ?h3;(case a=>k_is);(case l=>k_is);(case c=>k_is);(case k=>k_is);(case h1=>kernel_rfl);(case h2=>kernel_rfl);(case h3=>kernel_rfl))
