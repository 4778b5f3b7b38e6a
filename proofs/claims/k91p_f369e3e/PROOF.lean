import PyProof.Rows.All
import Wide.All
import OpenK.AllK
import Wide.FinOn
import Lean
import KE.KNestM
import PyProof.EqAt
import PyProof.EqKinds
import PyProof.TupleCall
import PyProof.EnumMake
import PyProof.Draws
import KE.KDictList
import KE.KTryMore
import KE.KEqDict
import PyProof.ExcInit
import PyProof.InstStoreFacts
import KE.KSortTup
import PyProof.Rows.StrWeight2
import PyProof.StrCalls
import PyProof.Rows.StrSplitJoin
import KE.KIntText
import PyProof.StrBlockH
import PyProof.Rows.CallKwBuiltin
import PySem.Challenge.RW_fallcounts_k91_orders_written
set_option Elab.async false
set_option linter.all false
set_option maxRecDepth 100000
set_option maxHeartbeats 8000000
namespace L2.FE
open PySem PySem.W PySem.Calls
noncomputable def AA:List Obj->BT->Nat->Option BT
 | [],t,_=>some t
 | o::r,t,n=>match ((t.ins n o).get n).isSome with
  | true=>AA r (t.ins n o) (n+1)
  | false=>none
theorem qh {life:Life}:∀{r:List Obj} {t T:BT} {n:Nat} {a:Array Obj},AA r t n=some T->absHeap t n life=⟨a,life⟩->absHeap T (n+r.length) life=⟨a++r.toArray,life⟩
 | [],t,T,n,a,h,e=>by cases h;simpa using e
 | o::r,t,T,n,a,h,e=>by
  unfold AA at h
  cases g:((t.ins n o).get n).isSome with
  | false=>rw[g] at h;cases h
  | true=>
   rw[g] at h
   have x:absHeap (t.ins n o) (n+1) life=⟨a.push o,life⟩:=by rw[absHeap_ins g,e];rfl
   have:=qh h x
   rw[List.length_cons,show n+(r.length+1)=n+1+r.length by omega,this]
   simp
noncomputable def sQ (p:Program) (w:World) (n₀:Nat) (ann:Option Value):Nat->SharedT->Thread->Option SharedT
 | 0,_,_=>none
 | n+1,s,t=>match through t with
  | true=>some s
  | false=>match PySem.W.Fast.tw6613529449190102663 n₀ ann t with
   | false=>none
   | true=>match PySem.W.Fast.tw10156331382660048174 (PySem.W.Fast.tw11892475500146522536 PySem.W.Fast.tw14364793385576792824) p w s t with
    | some (s',t')=>sQ p w n₀ ann n s' t'
    | none=>none
theorem qB {p:Program} {w:World} {n₀:Nat} {ann:Option Value}:∀{n:Nat} {s r:SharedT} {t:Thread},sQ p w n₀ ann n s t=some r->topRun treeTable p w n₀ ann n s.abs t=some r.abs
 | 0,_,_,_,h=>by cases h
 | n+1,s,r,t,h=>by
  unfold sQ at h
  unfold topRun
  cases ht:through t with
  | true=>rw[ht] at h;cases h;rfl
  | false=>
   rw[ht,<- PySem.W.Fast.te6613529449190102663] at h
   cases hk:stepOk n₀ ann t with
   | false=>simp only[hk] at h;cases h
   | true=>
    simp only[hk] at h
    rw[<- PySem.W.Fast.te10156331382660048174,<- PySem.W.Fast.te11892475500146522536,<- PySem.W.Fast.te14364793385576792824] at h
    cases hs:stepT (denote treeTable) p w s t with
    | none=>rw[hs] at h;cases h
    | some x=>obtain⟨s₂,t₂⟩:=x;rw[hs] at h;rw[stepT_spec hs];exact qB h
noncomputable def nv (p:Program) (w:World) (N:Nat) (os:OsState):Option SharedT:=
 match (boot_heap w.params).isNs mainGlobals with
 | true=>(AA (boot_heap w.params).objs.toList .nil 0).bind fun T=>sQ p w (boot_heap w.params).objs.size ((boot_heap w.params).nsMap mainGlobals (Str.ofString "__annotations__")) N ⟨T,(boot_heap w.params).objs.size,(boot_heap w.params).life,#[],boot_drawn,boot_toks,os⟩ (topStub p)
 | false=>none
noncomputable def wQ (p:Program) (w:World) (s₁:Shared):Bool:=staticsOk (PySem.W.Fast.tw5923862056798008813 p.main.body) (boot_heap w.params) s₁.heap&&namesBound p s₁.heap&&gensDone s₁&&laidKept (boot_heap w.params) s₁.heap
theorem uj {p q:Program} {loose:List Str} {Xt:Shared->Bool} {α:Type} {Yf:Shared->α} {Ya:World->α} {N:Nat} (hN:Nat.ble 600 N=true) (e:opening p=plainProg p.main.scope.names) (f:∀s,fenceModules? p s=some s)
  (h1:∀(w:World) (os:OsState),(nv p w N os).map (fun s=>wQ p w s.abs)=some true)
  (h2:∀(w:World) (os:OsState),(nv p w N os).map (fun s=>PySem.W.Fast.tw4187177175401517315 q loose (PySem.W.Fast.tw5923862056798008813 p.main.body) Xt true s.abs)=some (openGood q loose))
  (h3:∀(w:World) (os:OsState),(nv p w N os).map (fun s=>Yf s.abs)=some (Ya w)):LeftO p q loose Xt Yf Ya N:=fun w=>by
 obtain⟨s,hs,e'⟩:=Option.map_eq_some_iff.mp (boot_open e hN f w)
 obtain⟨H,gs,d,k,os⟩:=s
 obtain⟨rfl,rfl,rfl,rfl⟩:H=boot_heap w.params/\gs=_/\d=boot_drawn/\k=boot_toks:=by simpa using e'
 obtain⟨r,hr,l1⟩:=Option.map_eq_some_iff.mp (h1 w os)
 obtain⟨r2,hr2,l2⟩:=Option.map_eq_some_iff.mp (h2 w os)
 obtain⟨r3,hr3,l3⟩:=Option.map_eq_some_iff.mp (h3 w os)
 obtain rfl:r=r2:=Option.some.inj (hr.symm.trans hr2)
 obtain rfl:r=r3:=Option.some.inj (hr.symm.trans hr3)
 unfold wQ at l1
 rw[<- PySem.W.Fast.te5923862056798008813] at l1
 rw[<- PySem.W.Fast.te4187177175401517315,<- PySem.W.Fast.te5923862056798008813] at l2
 unfold nv at hr
 cases hn:(boot_heap w.params).isNs mainGlobals with
 | false=>rw[hn] at hr;cases hr
 | true=>
  rw[hn] at hr
  obtain⟨T,hT,hr⟩:=Option.bind_eq_some_iff.mp hr
  have z:=qh (life:=(boot_heap w.params).life) (n:=0) (a:=#[]) hT rfl
  have z':absHeap T (boot_heap w.params).objs.size (boot_heap w.params).life=boot_heap w.params:=by
   rw[Nat.zero_add,Array.length_toList] at z
   rw[z]
   simp
  have hr:=qB hr
  have st:(SharedT.mk T (boot_heap w.params).objs.size (boot_heap w.params).life #[] boot_drawn boot_toks os).abs=⟨boot_heap w.params,#[],boot_drawn,boot_toks,os⟩:=by
   show Shared.mk _ _ _ _ _=_
   rw[z']
  rw[st] at hr
  unfold openEnds
  rw[hs]
  show Option.map _ (topFrom treeTable p w N _)=_
  have t:topFrom treeTable p w N ⟨boot_heap w.params,#[],boot_drawn,boot_toks,os⟩=some r.abs:=by
   unfold topFrom
   dsimp only
   rw[hn]
   rw[hr]
   show(match staticsOk (importedModules p.main.body) (boot_heap w.params) r.abs.heap&&namesBound p r.abs.heap&&gensDone r.abs&&laidKept (boot_heap w.params) r.abs.heap with | true=>_ | false=>_)=_
   rw[l1]
  rw[t]
  show some (openSeen q loose (importedModules p.main.body) Xt true r.abs,Yf r.abs)=_
  rw[l2,l3]
noncomputable def viewOf (p:Program) (keep:List Nat):Program:={ p with main:={ p.main with body:=keep.filterMap fun i=>p.main.body[i]? } }
end L2.FE
section
open PySem PySem.W PyProof.Rows
noncomputable def FC.Q:Program:=L2.FE.viewOf PySem.Challenge.pw_fallcounts_k91_orders_written [1,2,3,4,5,6,7,8,10,11,13,14,15,17,18,19,20,21,22,23,25,26,27,28,29,30,31,32,33,34,35]
theorem FC.Dn:∀(w:World) (os:OsState),(L2.FE.nv PySem.Challenge.pw_fallcounts_k91_orders_written w 4900 os).map (fun s=>L2.FE.wQ PySem.Challenge.pw_fallcounts_k91_orders_written w s.abs)=some true:=fun w os=>by kernel_rfl
theorem FC.Ef:∀(w:World) (os:OsState),(L2.FE.nv PySem.Challenge.pw_fallcounts_k91_orders_written w 4900 os).map (fun s=>PySem.W.Fast.tw4187177175401517315 FC.Q [] (PySem.W.Fast.tw5923862056798008813 PySem.Challenge.pw_fallcounts_k91_orders_written.main.body) (fun s=>xlAt FC.Q [] s&&recOk (RowW.records (OpenRow.toRowW (OpenLaw.row PySem.Challenge.rw_fallcounts_k91_orders_written))) s) true s.abs)=some (openGood FC.Q []):=fun w os=>by kernel_rfl
end
namespace L2
open PySem PySem.Spec PyProof.Rows
noncomputable abbrev Key:=Sum Int Str
noncomputable def AO:Key->Value->Bool
 | .inl k,v=>Value.isInt k v
 | .inr x,v=>Value.isStrOf x v
noncomputable def FK (w:World):Key->Int
 | .inl k=>hashInt k
 | .inr x=>hashStr w x
theorem bP:∀{k:Key} {v:Value},AO k v=true->(∃i t,k=Sum.inl i/\v=Value.int i t)\/(∃x t,k=Sum.inr x/\v=Value.str x t)
 | .inl i,v,h=>by
  obtain⟨t,e⟩:=Value.isInt_shape (k:=i) (v:=v) h
  exact .inl ⟨i,t,rfl,e⟩
 | .inr x,v,h=>by
  obtain⟨t,e⟩:=Value.isStrOf_shape (x:=x) (v:=v) h
  exact .inr ⟨x,t,rfl,e⟩
theorem BR (a b:Int):decide ((Sum.inl a:Key)=Sum.inl b)=(a == b):=by
 by_cases e:a=b
 ·subst e;simp
 ·have h:¬ (Sum.inl a:Key)=Sum.inl b:=fun q=>e (Sum.inl.inj q)
  rw[decide_eq_false h]
  exact(beq_eq_false_iff_ne.mpr e).symm
theorem BG (a b:Str):decide ((Sum.inr a:Key)=Sum.inr b)=decide (a=b):=by
 by_cases e:a=b
 ·subst e;simp
 ·have h:¬ (Sum.inr a:Key)=Sum.inr b:=fun q=>e (Sum.inr.inj q)
  rw[decide_eq_false h,decide_eq_false e]
theorem Bm (a:Int) (b:Str):decide ((Sum.inl a:Key)=Sum.inr b)=false:=decide_eq_false (fun q=>nomatch q)
theorem C4 (a:Str) (b:Int):decide ((Sum.inr a:Key)=Sum.inl b)=false:=decide_eq_false (fun q=>nomatch q)
noncomputable def oP (prog:Program) (w:World):PySem.KeyKind prog w Key where
 is:=AO
 hash:=FK w
 inj:=fun v a b ha hb=>by
  rcases bP ha with⟨i,t,rfl,rfl⟩ | ⟨x,t,rfl,rfl⟩
  ·rcases bP hb with⟨j,u,rfl,e⟩ | ⟨y,u,rfl,e⟩
   ·injection e with e1 _;rw[e1]
   ·exact nomatch e
  ·rcases bP hb with⟨j,u,rfl,e⟩ | ⟨y,u,rfl,e⟩
   ·exact nomatch e
   ·injection e with e1 _;rw[e1]
 byValue:=fun k v h=>by
   rcases bP h with⟨i,t,rfl,rfl⟩ | ⟨x,t,rfl,rfl⟩<;>rfl
 pyHash:=fun hv h=>by
  rcases bP hv with⟨i,t,rfl,rfl⟩ | ⟨x,t,rfl,rfl⟩
  ·exact wpAny_pyHash_int h
  ·exact wpAny_pyHash_str h
 eqBool:=fun hu hv h=>by
  rcases bP hu with⟨i,t,rfl,rfl⟩ | ⟨x,t,rfl,rfl⟩
  ·rcases bP hv with⟨j,u,rfl,rfl⟩ | ⟨y,u,rfl,rfl⟩
   ·rw[BR] at h;exact wpAny_eqBool_int h
   ·rw[Bm] at h;exact SeqAt.EqAt.int_str i t y u _ _ _ _ h
  ·rcases bP hv with⟨j,u,rfl,rfl⟩ | ⟨y,u,rfl,rfl⟩
   ·rw[C4] at h;exact SeqAt.EqAt.str_int x t j u _ _ _ _ h
   ·rw[BG] at h;exact wpAny_eqBool_str h
 «strs»:=fun k x t v h=>by
  rcases bP h with⟨i,u,rfl,e⟩ | ⟨y,u,rfl,e⟩
  ·exact nomatch e
  ·injection e with e1 _
   subst e1
   cases v<;>rfl
inductive V where
 | non | bl (b:Bool) | int (i:Int) | str (x:Str) | byt (b:Array UInt8) | flt (b:UInt64) | ref (a:Addr) | ty (n:String)
 deriving DecidableEq
noncomputable def RelV:V->Value->Prop
 | .non,u=>u=Value.none
 | .bl b,u=>u=Value.bool b
 | .int i,u=>∃t,u=Value.int i t
 | .str x,u=>∃t,u=Value.str x t
 | .byt b,u=>∃t,u=Value.bytes b t
 | .flt b,u=>∃t,u=Value.float b t
 | .ref a,u=>u=Value.ref a
 | .ty n,u=>u=Value.type n
noncomputable abbrev Vals:List V->List Value->Prop:=Paired RelV
theorem Vals.length {xs:List V} {us:List Value} (r:Vals xs us):xs.length=us.length:=Paired.length r
theorem Vals.get:∀{xs:List V} {us:List Value} {i:Nat} {x:V},Vals xs us->xs[i]?=some x->∃u,us[i]?=some u/\RelV x u
 | _,_,_,_,.nil,e=>by simp at e
 | _,_,0,_,.cons r _,e=>by simp at e;subst e;exact⟨_,rfl,r⟩
 | _,_,i+1,x,.cons _ t,e=>by
  obtain⟨u,h1,h2⟩:=Vals.get (i:=i) (x:=x) t (by simpa using e)
  exact⟨u,by simpa using h1,h2⟩
theorem Vals.set {x:V} {u:Value} (r:RelV x u):∀{xs:List V} {us:List Value} (i:Nat),Vals xs us->Vals (xs.set i x) (us.set i u)
 | _,_,_,.nil=>.nil
 | _,_,0,.cons _ t=>.cons r t
 | _,_,i+1,.cons q t=>.cons q (Vals.set r i t)
theorem Vals.append:∀{xs ys:List V} {us ws:List Value},Vals xs us->Vals ys ws->Vals (xs++ys) (us++ws)
 | _,_,_,_,.nil,s=>s
 | _,_,_,_,.cons r t,s=>.cons r (Vals.append t s)
theorem Vals.take:∀{xs:List V} {us:List Value} (n:Nat),Vals xs us->Vals (xs.take n) (us.take n)
 | _,_,0,_=>.nil
 | _,_,_+1,.nil=>.nil
 | _,_,n+1,.cons r t=>.cons r (Vals.take n t)
theorem Vals.drop:∀{xs:List V} {us:List Value} (n:Nat),Vals xs us->Vals (xs.drop n) (us.drop n)
 | _,_,0,r=>r
 | _,_,_+1,.nil=>.nil
 | _,_,n+1,.cons _ t=>Vals.drop n t
noncomputable def Bl:Option V->Option Value->Prop
 | some v,some u=>RelV v u
 | none,none=>True
 | _,_=>False
noncomputable def KV {κ:Type}:List (κ × V)->List (κ × Value)->Prop:=Paired fun(p:κ × V) (q:κ × Value)=>p.1=q.1/\RelV p.2 q.2
noncomputable def kV:Key->V
 | .inl i=>.int i
 | .inr x=>.str x
inductive HO where
 | lst (xs:List V)
 | tup (xs:List V)
 | dK (kvs:List (Key × V)) | dT (kvs:List (List Key × V))
 | set (S:Int->Bool) (n:Nat)
 | ins (C dx:Addr) (fs:List (Str × V))
 | own (x:Addr)
 | xd (fs:List (Str × V))
 | met (f x:Addr)
 | rng (lo hi:Int)
 | frz (o:Obj) (u:HO)
 | tbl (ps:Array Value)
 | ext (φ:Heap->Prop)
noncomputable abbrev Hp:=Addr->Option HO
noncomputable def upd (H:Hp) (a:Addr) (o:HO):Hp:=fun b=>if b=a then some o else H b
theorem aL {H:Hp} {a:Addr} {o:HO}:upd H a o a=some o:=by unfold upd;rw[if_pos rfl]
theorem aB {H:Hp} {a b:Addr} {o:HO} (h:b≠a):upd H a o b=H b:=by unfold upd;rw[if_neg h]
theorem Az {H:Hp} {a:Addr} {o u:HO}:upd (upd H a o) a u=upd H a u:=by
 funext b;unfold upd;split<;>rfl
theorem aQ {H:Hp} {a b:Addr} {o:HO} (h:H a=some o) (h':H b=none):a≠b:=by
 intro e;subst e;rw[h] at h';cases h'
noncomputable def mj (h:Heap) (a:Addr) (its:Array Value):Prop:=∃o,h.get? a=some o/\(o.cls=.type "tuple" /\ ∃n,o.data=.seq its n)/\o.dict=none
theorem mj.tup {h:Heap} {a:Addr} {its:Array Value} (x:mj h a its):IsTup h a its:=let ⟨o,e,⟨c,n,d⟩,_⟩:=x;⟨o,e,c,n,d⟩
theorem mj.new (h:Heap) (its:Array Value):mj (h.push { cls:=.type "tuple", data:=.seq its }) h.objs.size its:=⟨_,Heap.get?_push_size _ rfl,⟨rfl,_,rfl⟩,rfl⟩
section
variable (P:Program) (w:World)
noncomputable def bO (H:Hp) (h:Heap) (a:Addr):HO->Prop
 | .lst xs=>xs.length<=sizeLine/\∃(its:List Value) (n:Nat),Vals xs its/\h.get? a=some { cls:=.type "list", data:=.seq its.toArray n }
 | .tup xs=>xs.length<=sizeLine/\∃its:List Value,Vals xs its/\mj h a its.toArray
 | .dK kvs=>kvs.length<=sizeLine/\(a == sysModules)=false/\∃vs,KV kvs vs/\h.DictOf (oP P w) a vs
 | .dT kvs=>kvs.length<=sizeLine/\(a == sysModules)=false/\∃xs:List (List Key × Addr × Value),
   Paired (fun(p:List Key × V) (q:List Key × Addr × Value)=>p.1=q.1/\H q.2.1=some (.tup (p.1.map kV))/\RelV p.2 q.2.2) kvs xs ∧
   ∃o es ep,h.get? a=some o/\o.ExactDict/\o.data=.dict es ep/\es.toList=xs.map (entryOfKey (tupleKind (oP P w)))/\(xs.map (·.1)).Nodup
 | .set S n=>h.SetOf (intKind P w) a S n
 | .ins C dx fs=>H dx=some (.own a)/\fs.length<=1000/\dx≠a/\h.get? a=some (PySem.W.instObj C dx) ∧
   ∃mA,h.Ns1 dx mA/\(∀f,Bl (fs.lookup f) (mA f))/\PySem.Within mA (fs.map (·.1))
 | .own _=>∃o,h.get? a=some o
 | .xd fs=>∃mA,h.Ns1 a mA/\∀f,Bl (fs.lookup f) (mA f)
 | .rng lo hi=>∃t u v,h.get? a=some { cls:=.type "range", data:=.fields #[.int lo t,.int hi u,.int 1 v] }
 | .frz o u=>h.get? a=some o/\bO H h a u
 | .tbl ps=>h.get? a=some { cls:=.none,data:=.fields ps }
 | .met f x=>h.get? a=some (PySem.W.methodObj (.ref f) (.ref x))
 | .ext φ=>φ h/\(∃o,h.get? a=some o)/\∀h1 h2:Heap,φ h1->(∀o,h1.get? a=some o->h2.get? a=some o)->φ h2
noncomputable def HOk (H:Hp) (h:Heap):Prop:=∀a o,H a=some o->bO P w H h a o
end
section
variable {P:Program} {w:World} {H H':Hp} {h h':Heap} {a:Addr} {o:HO}
theorem bO.lt (x:bO P w H h a o):a<h.objs.size:=by
 cases o with
 | lst xs=>obtain⟨_,_,_,_,e⟩:=x;exact Heap.lt_size e
 | tup xs=>obtain⟨_,_,_,_,e,_⟩:=x;exact Heap.lt_size e
 | dK kvs=>obtain⟨_,_,_,_,o,_,_,e,_⟩:=x;exact Heap.lt_size e
 | dT kvs=>obtain⟨_,_,_,_,o,_,_,e,_⟩:=x;exact Heap.lt_size e
 | set S n=>obtain⟨o,_,_,_,e,_⟩:=x;exact Heap.lt_size e
 | ins C dx fs=>obtain⟨_,_,_,e,_⟩:=x;exact Heap.lt_size e
 | own y=>obtain⟨_,e⟩:=x;exact Heap.lt_size e
 | xd fs=>obtain⟨_,⟨_,_,_,e,_⟩,_⟩:=x;exact Heap.lt_size e
 | rng lo hi=>obtain⟨_,_,_,e⟩:=x;exact Heap.lt_size e
 | frz ob u=>obtain⟨e,_⟩:=x;exact Heap.lt_size e
 | tbl ps=>exact Heap.lt_size (show h.get? a=some _ from x)
 | met f y=>exact Heap.lt_size (show h.get? a=some _ from x)
 | ext φ=>obtain⟨_,⟨_,e⟩,_⟩:=x;exact Heap.lt_size e
theorem Paired.zU {α β:Type} {F G:α->β->Prop}:∀{l₁:List α} {l₂:List β},Paired F l₁ l₂->(∀a b,F a b->G a b)->Paired G l₁ l₂
 | _,_,.nil,_=>.nil
 | _,_,.cons r t,f=>.cons (f _ _ r) (Paired.zU t f)
theorem bO.iR (x:bO P w H h a o) (k:∀b u,(b=a\/H b=some (.own a))->h.get? b=some u->h'.get? b=some u)
  (ho:∀b,H b=some (.own a)->H' b=some (.own a)) (ht:∀b xs,H b=some (.tup xs)->H' b=some (.tup xs)):bO P w H' h' a o:=by
 induction o with
 | lst xs=>obtain⟨z,its,n,r,e⟩:=x;exact⟨z,its,n,r,k _ _ (.inl rfl) e⟩
 | tup xs=>obtain⟨z,its,r,ob,e,c⟩:=x;exact⟨z,its,r,ob,k _ _ (.inl rfl) e,c⟩
 | dK kvs=>obtain⟨z,y,vs,r,ob,es,ep,e,c⟩:=x;exact⟨z,y,vs,r,ob,es,ep,k _ _ (.inl rfl) e,c⟩
 | dT kvs=>
  obtain⟨z,y,xs,r,ob,es,ep,e,c⟩:=x
  exact⟨z,y,xs,Paired.zU r fun p q z=>⟨z.1,ht _ _ z.2.1,z.2.2⟩,ob,es,ep,k _ _ (.inl rfl) e,c⟩
 | set S n=>obtain⟨ob,es,ep,t,e,c⟩:=x;exact⟨ob,es,ep,t,k _ _ (.inl rfl) e,c⟩
 | ins C dx fs=>
  obtain⟨d,z,ne,e,mA,⟨od,es,ep,e2,c⟩,r⟩:=x
  exact⟨ho _ d,z,ne,k _ _ (.inl rfl) e,mA,⟨od,es,ep,k _ _ (.inr d) e2,c⟩,r⟩
 | own y=>obtain⟨ob,e⟩:=x;exact⟨ob,k _ _ (.inl rfl) e⟩
 | xd fs=>obtain⟨mA,⟨od,es,ep,e,c⟩,r⟩:=x;exact⟨mA,⟨od,es,ep,k _ _ (.inl rfl) e,c⟩,r⟩
 | rng lo hi=>obtain⟨t,u,v,e⟩:=x;exact⟨t,u,v,k _ _ (.inl rfl) e⟩
 | frz ob u ih=>obtain⟨e,q⟩:=x;exact⟨k _ _ (.inl rfl) e,ih q⟩
 | tbl ps=>
  have e:h.get? a=some { cls:=.none,data:=.fields ps }:=x
  show h'.get? a=some { cls:=.none,data:=.fields ps }
  exact k a _ (.inl rfl) e
 | met f y=>
  have e:h.get? a=some (PySem.W.methodObj (.ref f) (.ref y)):=x
  show h'.get? a=some (PySem.W.methodObj (.ref f) (.ref y))
  exact k a _ (.inl rfl) e
 | ext φ=>obtain⟨p,⟨o,e⟩,st⟩:=x;exact⟨st _ _ p fun o q=>k _ _ (.inl rfl) q,⟨o,k _ _ (.inl rfl) e⟩,st⟩
theorem HOk.lt (x:HOk P w H h) (e:H a=some o):a<h.objs.size:=(x a o e).lt
theorem HOk.fresh (x:HOk P w H h) (e:h.objs.size<=a):H a=none:=by
 cases q:H a with
 | none=>rfl
 | some u=>exact absurd (Nat.lt_of_lt_of_le (x.lt q) e) (Nat.lt_irrefl _)
theorem HOk.kept (x:HOk P w H h) (k:∀b u,h.get? b=some u->h'.get? b=some u):HOk P w H h':=fun a o e=>
 (x a o e).iR (fun b u _ q=>k b u q) (fun _ q=>q) fun _ _ q=>q
theorem HOk.laid (x:HOk P w H h) (k:∀b u,h.get? b=some u->h'.get? b=some u) (hp:h.objs.size<=a) (new:bO P w (upd H a o) h' a o):HOk P w (upd H a o) h':=fun b u e=>by
 have hn:=x.fresh hp
 by_cases hb:b=a
 ·subst hb;rw[aL] at e;cases e;exact new
 ·rw[aB hb] at e
  exact(x b u e).iR (fun c v _ q=>k c v q) (fun c q=>by rw[aB (aQ q hn)];exact q) fun c xs q=>by rw[aB (aQ q hn)];exact q
end
noncomputable def Rd (H:Hp) (a:Addr) (u:HO):Prop:=H a=some u\/∃o,H a=some (.frz o u)
theorem Rd.ok {P:Program} {w:World} {H:Hp} {h:Heap} {a:Addr} {u:HO} (r:Rd H a u) (x:HOk P w H h):bO P w H h a u:=by
 rcases r with r | ⟨o,r⟩
 ·exact x a u r
 ·obtain⟨_,q⟩:=x a _ r
  exact q
noncomputable def Mut:Option HO->Prop
 | some (.lst _)=>True
 | some (.dK _)=>True
 | some (.dT _)=>True
 | some (.set _ _)=>True
 | some (.ins _ _ _)=>True
 | some (.ext _)=>True
 | _=>False
section
variable {P:Program} {w:World} {H:Hp} {h h':Heap} {x e:Addr} {o':HO}
theorem HOk.write (ok:HOk P w H h) (mu:Mut (H x)) (he:e=x\/H e=some (.own x)) (k:∀b u,b≠e->h.get? b=some u->h'.get? b=some u) (heo:∃u,h'.get? e=some u)
  (new:bO P w (upd H x o') h' x o'):HOk P w (upd H x o') h':=fun b u q=>by
 have nown:∀c y,H c=some (.own y)->c≠x:=fun c y r z=>by subst z;rw[r] at mu;exact mu
 have ntup:∀c xs,H c=some (.tup xs)->c≠x:=fun c xs r z=>by subst z;rw[r] at mu;exact mu
 by_cases hb:b=x
 ·subst hb;rw[aL] at q;cases q;exact new
 ·rw[aB hb] at q
  by_cases hbe:b=e
  ·have q':H b=some (.own x):=by
    rcases he with z | z
    ·exact absurd (hbe.trans z) hb
    ·rw[hbe];exact z
   rw[q] at q';cases q'
   obtain⟨v,hv⟩:=heo
   exact⟨v,by rw[hbe];exact hv⟩
  ·refine(ok b u q).iR (fun c v hc r=>k c v ?_ r) (fun c r=>by rw[aB (nown c b r)];exact r) fun c xs r=>by rw[aB (ntup c xs r)];exact r
   rcases hc with rfl | hc
   ·exact hbe
   ·rintro rfl
    rcases he with z | z
    ·exact nown c b hc z
    ·rw[hc] at z;cases z;exact hb rfl
end
structure Un (fs ex:List Addr) (H H':Hp) (h h':Heap):Prop where
 keep:∀b o,h.get? b=some o->H b=none->b∉fs->b∉ex->h'.get? b=some o
 slot:∀b o,h.get? b=some o->H b=none->b∈fs->b∉ex->∃sl,h'.get? b=some { o with slots:=sl }
 free:∀b o,h.get? b=some o->H b=none->b∉ex->H' b=none
 there:∀b o,h.get? b=some o->b∉ex->∃o',h'.get? b=some o'
 mS:∀b xs,H b=some (.tup xs)->H' b=some (.tup xs)
 lr:∀b o u,H b=some (.frz o u)->H' b=some (.frz o u)
 mP:∀b ps,H b=some (.tbl ps)->∃more,H' b=some (.tbl (ps++more))
section
variable {fs fs' ex ex':List Addr} {H H1 H2:Hp} {h h1 h2 h':Heap} {a x e:Addr} {o:HO}
theorem Un.any (u:Un fs ex H H1 h h1) {b:Addr} {ob:Obj} (q:h.get? b=some ob) (n:H b=none) (hx:b∉ex):∃sl,h1.get? b=some { ob with slots:=sl }:=by
 by_cases hb:b∈fs
 ·exact u.slot b ob q n hb hx
 ·exact⟨ob.slots,u.keep b ob q n hb hx⟩
theorem Un.kept (k:∀b u,h.get? b=some u->h'.get? b=some u):Un fs ex H H h h':=
 ⟨fun b ob q _ _ _=>k b ob q,fun b ob q _ _ _=>⟨ob.slots,k b ob q⟩,fun _ _ _ n _=>n,fun b ob q _=>⟨ob,k b ob q⟩,fun _ _ q=>q,fun _ _ _ q=>q,fun _ ps q=>⟨#[],by rw[q];simp⟩⟩
theorem Un.refl:Un fs ex H H h h:=Un.kept fun _ _ q=>q
theorem Un.laid (k:∀b u,h.get? b=some u->h'.get? b=some u) (hp:h.objs.size<=a) (hn:H a=none):Un fs ex H (upd H a o) h h' where
 keep:=fun b u q _ _ _=>k b u q
 slot:=fun b u q _ _ _=>⟨u.slots,k b u q⟩
 free:=fun b u q n _=>by rw[aB (Nat.ne_of_lt (Nat.lt_of_lt_of_le (Heap.lt_size q) hp))];exact n
 there:=fun b u q _=>⟨u,k b u q⟩
 mS:=fun b xs q=>by rw[aB (aQ q hn)];exact q
 lr:=fun b u xs q=>by rw[aB (aQ q hn)];exact q
 mP:=fun b ps q=>⟨#[],by rw[aB (aQ q hn),q];simp⟩
theorem Un.write (mu:Mut (H x)) (he:e=x\/H e=some (.own x)) (k:∀b u,b≠e->h.get? b=some u->h'.get? b=some u) (heo:∃u,h'.get? e=some u):Un fs ex H (upd H x o) h h':=by
 have hx:∀b,H b=none->b≠x:=fun b n z=>by subst z;rw[n] at mu;exact mu
 have hb:∀b,H b=none->b≠e:=fun b n z=>by
  subst z
  rcases he with r | r
  ·exact hx b n r
  ·rw[n] at r;cases r
 have hm:∀b u,H b=some u->¬ Mut (some u)->b≠x:=fun b u q nm z=>by subst z;rw[q] at mu;exact nm mu
 refine⟨fun b u q n _ _=>k b u (hb b n) q,fun b u q n _ _=>⟨u.slots,k b u (hb b n) q⟩,fun b u q n _=>by rw[aB (hx b n)];exact n,fun b u q _=>?_,
  fun b xs q=>by rw[aB (hm b _ q fun z=>z)];exact q,fun b u xs q=>by rw[aB (hm b _ q fun z=>z)];exact q,fun b ps q=>⟨#[],by rw[aB (hm b _ q fun z=>z),q];simp⟩⟩
 by_cases hbe:b=e
 ·subst hbe;exact heo
 ·exact⟨u,k b u hbe q⟩
end
noncomputable def trk (h:Heap) (H:Hp):List Addr:=(List.range h.objs.size).filter fun a=>(H a).isSome
noncomputable def nY (h:Heap) (H:Hp):Heap:=PySem.W.hideAll h (trk h H)
theorem uK (h:Heap) (H:Hp):(nY h H).objs.size=h.objs.size:=PySem.W.hideAll_size _ _
theorem yC {h:Heap} {H:Hp} {b:Addr} {o:Obj} (e:h.get? b=some o) (n:H b=none):(nY h H).get? b=some o:=
 PySem.W.hideAll_get _ e fun hm=>by
  have q:(H b).isSome=true:=(List.mem_filter.mp hm).2
  rw[n] at q;simp at q
theorem zv {h:Heap} {H:Hp} {b:Addr} {o:Obj} (e:(nY h H).get? b=some o):h.get? b=some o/\H b=none:=by
 have e':h.get? b=some o:=PySem.W.of_hideAll (trk h H) e
 refine⟨e',?_⟩
 cases q:H b with
 | none=>rfl
 | some x=>
  have hm:b∈trk h H:=List.mem_filter.mpr ⟨List.mem_range.mpr (Heap.lt_size e'),by simp[q]⟩
  have z:(nY h H).get? b=none:=PySem.W.hideAll_none (trk h H) hm
  rw[z] at e;cases e
structure Mod (K:PySem.W.Frag) (mg:Str->Option Value) (base:Heap):Prop where
 kin:K.In base
 glob:base.Ns mainGlobals mg
 blt:∃mb,base.Ns builtinsNs mb/\∀x:Str,x≠"__name__" -> mb x=bootBuiltins x
 nolimit:base.NoLimit
structure Cx where
 prog:Program
 w:World
 K:PySem.W.Frag
 mg:Str->Option Value
 base:Heap
 A:Around
 N:List Str
 aJ:Shared
 aT:Hp
 env:Env
 outer:List Env
 stack:List Env
 ex:List Addr
 fn:Str->Bool
 calm:Bool
 pn:List (Addr × Obj)
 xe:Value->Shared->Prop
noncomputable def frs (l:List Env):List Addr:=l.filterMap (·.frame)
noncomputable abbrev Cx.fs (X:Cx):List Addr:=frs X.outer
noncomputable def Vis (sc:Scope) (x:Str):Prop:=sc.names.lookup x=some .local\/sc.names.lookup x=some .cell\/sc.names.lookup x=some .free
noncomputable def Loc (sc:Scope) (x:Str):Prop:=sc.names.lookup x=some .local\/sc.names.lookup x=some .cell
noncomputable def Look (env:Env) (h:Heap) (m:Str->Option Value) (x:Str) (u:Value):Prop:=
 (env.kindOf x=some .local/\m x=some u)\/((env.kindOf x=some .cell\/env.kindOf x=some .free)/\∃c,env.cells.lookup x=some c/\h.IsCell c (some u))
structure Cx.Ok (X:Cx):Prop where
 mod:Mod X.K X.mg X.base
 kind:X.env.scope.kind=.function
 glob:X.env.globals=mainGlobals
 blt:X.env.builtins=builtinsNs
 above:X.aJ.heap.objs.size<=X.env.locals
 inj:∀x y c,X.env.cells.lookup x=some c->X.env.cells.lookup y=some c->x=y
 has:∀x,(X.env.kindOf x=some .cell\/X.env.kindOf x=some .free)->∃c,X.env.cells.lookup x=some c
 cab:∀x c,X.fn x=true->X.env.cells.lookup x=some c->X.aJ.heap.objs.size<=c
 hd:X.calm=true->X.A.handled=none
 frames:X.A.frames=some X.stack
 stk:X.stack=X.outer\/(X.stack=X.env::X.outer/\X.env.frame=some X.env.locals)
 exf:∀b∈X.ex,b≠X.env.locals/\∀x c,X.env.cells.lookup x=some c->c≠b
 bs:∀b o,X.base.get? b=some o->X.aJ.heap.get? b=some o/\X.aT b=none
 bsz:X.base.objs.size<=X.aJ.heap.objs.size
 oD:∀b o,X.base.get? b=some o->b∉X.ex
 qA:∀b∈X.ex,b∉X.fs
 hG:X.aJ.heap.FunFrames X.base X.outer
 frf:∀b∈X.fs,X.aT b=none
structure Inv (X:Cx) (pins:List (Addr × Obj)) (σ:List (Option V)) (H:Hp) (s:Shared):Prop where
 ok:X.Ok
 os:s.os=X.aJ.os
 bare:AllBare s.gens
 base:Un X.fs X.ex X.aT H X.aJ.heap s.heap
 loc:∃m,s.heap.Ns X.env.locals m/\∀(i:Nat) (x:Str) (v:V),X.N[i]?=some x->σ[i]?=some (some v)->Vis X.env.scope x->∃u,RelV v u/\Look X.env s.heap m x u
 cell:∀x c,X.env.cells.lookup x=some c->∃v,s.heap.IsCell c v
 free:H X.env.locals=none
 df:∀x c,X.env.cells.lookup x=some c->H c=none
 pin:∀p∈X.pn++pins,s.heap.get? p.1=some p.2/\H p.1=none/\p.1≠X.env.locals/\p.1∉X.fs/\∀v,p.2.data≠.cell v
 hok:HOk X.prog X.w H s.heap
 len:σ.length=X.N.length
section
variable {X:Cx} {pins:List (Addr × Obj)} {σ:List (Option V)} {H H':Hp} {s:Shared} {h':Heap}
theorem Cx.Ok.Fb (ok:X.Ok) {b:Addr} {o:Obj} (e:X.base.get? b=some o):b∉X.fs:=fun hb=>by
 have:=(ok.hG.mem hb).1
 rw[e] at this;cases this
theorem Inv.bs (I:Inv X pins σ H s):∀b o,X.base.get? b=some o->s.heap.get? b=some o/\H b=none:=fun b o e=>
 ⟨I.base.keep b o (I.ok.bs b o e).1 (I.ok.bs b o e).2 (I.ok.Fb e) (I.ok.oD b o e),I.base.free b o (I.ok.bs b o e).1 (I.ok.bs b o e).2 (I.ok.oD b o e)⟩
theorem Inv.bk (I:Inv X pins σ H s):∀b o,X.base.get? b=some o->s.heap.get? b=some o:=fun b o e=>(I.bs b o e).1
theorem Inv.mod (I:Inv X pins σ H s):Mod X.K X.mg X.base:=I.ok.mod
theorem Inv.kIn (I:Inv X pins σ H s):X.K.In s.heap:=I.ok.mod.kin.keeps I.bk
theorem Inv.lt (I:Inv X pins σ H s):X.env.locals<s.heap.objs.size:=let ⟨_,hn,_⟩:=I.loc;hn.lt
theorem Inv.sz (I:Inv X pins σ H s):X.aJ.heap.objs.size<=s.heap.objs.size:=Nat.le_trans I.ok.above (Nat.le_of_lt I.lt)
theorem Inv.Du (I:Inv X pins σ H s) {a:Addr} (h:s.heap.objs.size<=a):a∉X.fs:=fun hb=>by
 obtain⟨_,o,ho,_⟩:=I.ok.hG.mem hb
 exact absurd (Nat.lt_of_lt_of_le (Heap.lt_size ho) (Nat.le_trans I.sz h)) (Nat.lt_irrefl _)
theorem Inv.cne (I:Inv X pins σ H s):∀x c,X.env.cells.lookup x=some c->c≠X.env.locals:=fun x c e z=>by
 obtain⟨v,o,ho,hd⟩:=I.cell x c e
 obtain⟨m,⟨o',es,ep,ho',hd',_⟩,_⟩:=I.loc
 rw[z,ho'] at ho;cases ho;rw[hd'] at hd;cases hd
theorem Inv.hG (I:Inv X pins σ H s):s.heap.FunFrames X.base X.outer:=by
 have all:∀(l:List Env),(∀b∈frs l,b∈X.fs)->X.aJ.heap.FunFrames X.base l->s.heap.FunFrames X.base l:=by
  intro l
  induction l with
  | nil=>intro _ _;trivial
  | cons env r ih=>
   intro hs hl
   obtain⟨hk,⟨L,o,hf,hn,ho,hd⟩,hr⟩:=hl
   have hL:L∈X.fs:=hs L (by unfold frs;rw[List.filterMap_cons,hf];exact List.mem_cons_self)
   obtain⟨sl,e⟩:=I.base.slot L o ho (I.ok.frf L hL) hL fun z=>I.ok.qA L z hL
   exact⟨hk,⟨L,_,hf,hn,e,hd⟩,ih (fun b hb=>hs b (by unfold frs;rw[List.filterMap_cons,hf];exact List.mem_cons_of_mem _ hb)) hr⟩
 exact all X.outer (fun _ hb=>hb) I.ok.hG
theorem Inv.stack (I:Inv X pins σ H s):s.heap.FunFrames X.base X.stack:=by
 rcases I.ok.stk with e | ⟨e,hf⟩
 ·rw[e];exact I.hG
 ·rw[e]
  obtain⟨m,hn,_⟩:=I.loc
  refine .cons (by rw[I.ok.kind];decide) hf hn ?_ I.hG
  exact Heap.get?_none_of_le (Nat.le_trans I.ok.bsz I.ok.above)
theorem Inv.gB (I:Inv X pins σ H s):∀b∈frs X.stack,b∈X.env.locals::X.fs:=fun b hb=>by
 rcases I.ok.stk with e | ⟨e,hf⟩
 ·rw[e] at hb;exact List.mem_cons_of_mem _ hb
 ·rw[e] at hb
  unfold frs at hb
  rw[List.filterMap_cons,hf] at hb
  exact hb
theorem Inv.pG (I:Inv X pins σ H s):∀b∈frs X.stack,H b=none:=fun b hb=>by
 rcases List.mem_cons.mp (I.gB b hb) with e | hb
 ·rw[e];exact I.free
 ·obtain⟨_,o,ho,_⟩:=I.ok.hG.mem hb
  exact I.base.free b o ho (I.ok.frf b hb) fun z=>I.ok.qA b z hb
theorem Inv.step {g':Array GenState} {t':Nat} {d':Drawn} {ch:List Addr} (I:Inv X pins σ H s)
  (hch:∀b∈ch,(b∈X.ex\/X.aJ.heap.objs.size<=b)/\b≠X.env.locals/\(∀x c,X.env.cells.lookup x=some c->c≠b)/\∀p∈X.pn++pins,p.1≠b)
  (keep:∀b o,b≠X.env.locals->b∉X.fs->b∉ch->s.heap.get? b=some o->H b=none->h'.get? b=some o)
  (slot:∀b o,b≠X.env.locals->b∈X.fs->b∉ch->s.heap.get? b=some o->H b=none->∃sl,h'.get? b=some { o with slots:=sl }) (free:∀b o,b∉ch->s.heap.get? b=some o->H b=none->H' b=none)
  (there:∀b o,b∉ch->s.heap.get? b=some o->∃o',h'.get? b=some o')
  (mS:∀b xs,H b=some (.tup xs)->H' b=some (.tup xs)) (lr:∀b o u,H b=some (.frz o u)->H' b=some (.frz o u)) (mP:∀b ps,H b=some (.tbl ps)->∃more,H' b=some (.tbl (ps++more)))
  (ns:∀m,s.heap.Ns X.env.locals m->h'.Ns X.env.locals m) (hok:HOk X.prog X.w H' h') (hg:AllBare g') :
  Inv X pins σ H' { s with heap:=h',gens:=g',drawn:=d',toks:=t' }:=by
 have neL:∀b o,X.aJ.heap.get? b=some o->b≠X.env.locals:=fun b o e=>Nat.ne_of_lt (Nat.lt_of_lt_of_le (Heap.lt_size e) I.ok.above)
 have neC:∀b o,X.aJ.heap.get? b=some o->b∉X.ex->b∉ch:=fun b o e hx hb=>by
  rcases(hch b hb).1 with z | z
  ·exact hx z
  ·exact absurd (Nat.lt_of_lt_of_le (Heap.lt_size e) z) (Nat.lt_irrefl _)
 have cellK:∀x c,X.env.cells.lookup x=some c->∀v,s.heap.IsCell c v->h'.IsCell c v:=fun x c e v ⟨o,ho,hd⟩=>by
  have nch:c∉ch:=fun z=>(hch c z).2.2.1 x c e rfl
  by_cases hc:c∈X.fs
  ·obtain⟨sl,q⟩:=slot c o (I.cne x c e) hc nch ho (I.df x c e)
   exact⟨_,q,hd⟩
  ·exact⟨o,keep c o (I.cne x c e) hc nch ho (I.df x c e),hd⟩
 refine⟨I.ok,I.os,hg,⟨fun b o e n hb hx=>?_,fun b o e n hb hx=>?_,fun b o e n hx=>?_,fun b o e hx=>?_,fun b xs e=>mS b xs (I.base.mS b xs e),fun b o xs e=>lr b o xs (I.base.lr b o xs e),fun b ps e=>?_⟩,?_,fun x c e=>?_,?_,fun x c e=>?_,fun p hp=>?_,hok,I.len⟩
 ·exact keep b o (neL b o e) hb (neC b o e hx) (I.base.keep b o e n hb hx) (I.base.free b o e n hx)
 ·obtain⟨sl,e1⟩:=I.base.slot b o e n hb hx
  obtain⟨sl',e2⟩:=slot b _ (neL b o e) hb (neC b o e hx) e1 (I.base.free b o e n hx)
  exact⟨sl',e2⟩
 ·obtain⟨o',e1⟩:=I.base.there b o e hx
  exact free b o' (neC b o e hx) e1 (I.base.free b o e n hx)
 ·obtain⟨o',e1⟩:=I.base.there b o e hx
  exact there b o' (neC b o e hx) e1
 ·obtain⟨m1,e1⟩:=I.base.mP b ps e
  obtain⟨m2,e2⟩:=mP b _ e1
  exact⟨m1++m2,by rw[e2,Array.append_assoc]⟩
 ·obtain⟨m,hn,hl⟩:=I.loc
  refine⟨m,ns m hn,fun i x v e1 e2 e3=>?_⟩
  obtain⟨u,r,l⟩:=hl i x v e1 e2 e3
  refine⟨u,r,?_⟩
  rcases l with l | ⟨k,c,e,z⟩
  ·exact .inl l
  ·exact .inr ⟨k,c,e,cellK x c e _ z⟩
 ·obtain⟨v,z⟩:=I.cell x c e
  exact⟨v,cellK x c e v z⟩
 ·obtain⟨m,⟨o,_,_,ho,_⟩,_⟩:=I.loc
  exact free _ o (fun z=>(hch _ z).2.1 rfl) ho I.free
 ·obtain⟨v,o,ho,hd⟩:=I.cell x c e
  exact free c o (fun z=>(hch c z).2.2.1 x c e rfl) ho (I.df x c e)
 ·obtain⟨e,n,ne,nf,d⟩:=I.pin p hp
  have nch:p.1∉ch:=fun z=>(hch p.1 z).2.2.2 p hp rfl
  exact⟨keep p.1 p.2 ne nf nch e n,free p.1 p.2 nch e n,ne,nf,d⟩
theorem Inv.un {t':Nat} (I:Inv X pins σ H s) (u:Un X.fs [] H H' s.heap h') (hok:HOk X.prog X.w H' h'):Inv X pins σ H' { s with heap:=h',toks:=t' }:=by
 obtain⟨m,⟨o,es,ep,ho,r⟩,_⟩:=id I.loc
 obtain⟨sl,hL⟩:=u.any ho I.free (by simp)
 exact I.step (g':=s.gens) (d':=s.drawn) (ch:=[]) (fun _ z=>nomatch z) (fun b o _ hb _ e n=>u.keep b o e n hb (by simp)) (fun b o _ hb _ e n=>u.slot b o e n hb (by simp)) (fun b o _ e n=>u.free b o e n (by simp)) (fun b o _ e=>u.there b o e (by simp)) u.mS u.lr u.mP (fun m' hm=>by
  obtain⟨o',es',ep',ho',r'⟩:=hm
  rw[ho] at ho';cases ho'
  exact⟨_,es',ep',hL,r'⟩) hok I.bare
theorem Inv.call {g':Array GenState} {t':Nat} {d':Drawn} {ch:List Addr} (I:Inv X pins σ H s) (u:Un (frs X.stack) ch H H' s.heap h') (hok:HOk X.prog X.w H' h') (hg:AllBare g')
  (hch:∀b∈ch,(b∈X.ex\/X.aJ.heap.objs.size<=b)/\b≠X.env.locals/\(∀x c,X.env.cells.lookup x=some c->c≠b)/\∀p∈X.pn++pins,p.1≠b) :
  Inv X pins σ H' { s with heap:=h',gens:=g',drawn:=d',toks:=t' }:=by
 obtain⟨m,⟨o,es,ep,ho,r⟩,_⟩:=id I.loc
 obtain⟨sl,hL⟩:=u.any ho I.free fun z=>(hch _ z).2.1 rfl
 exact I.step (ch:=ch) hch (fun b o hL hb hc e n=>u.keep b o e n (fun z=>(List.mem_cons.mp (I.gB b z)).elim hL hb) hc) (fun b o _ _ hc e n=>u.any e n hc) (fun b o hc e n=>u.free b o e n hc) (fun b o hc e=>u.there b o e hc) u.mS u.lr u.mP (fun m' hm=>by
  obtain⟨o',es',ep',ho',r'⟩:=hm
  rw[ho] at ho';cases ho'
  exact⟨_,es',ep',hL,r'⟩) hok hg
theorem Inv.turned {t':Nat} {it:Addr} (I:Inv X pins σ H s) (k:∀b o,b≠it->s.heap.get? b=some o->h'.get? b=some o) (hn:H it=none) (hL:it≠X.env.locals)
  (h1:it∈X.ex\/X.aJ.heap.objs.size<=it) (h2:∀x c,X.env.cells.lookup x=some c->c≠it) (h3:∀p∈X.pn++pins,p.1≠it):Inv X pins σ H { s with heap:=h',toks:=t' }:=by
 have nit:∀b u,H b=some u->b≠it:=fun b u e z=>by rw[z,hn] at e;cases e
 refine I.step (g':=s.gens) (d':=s.drawn) (ch:=[it]) (fun b hb=>?_) (fun b o _ _ hc e _=>k b o (fun z=>hc (by simp[z])) e) (fun b o _ _ hc e _=>⟨o.slots,k b o (fun z=>hc (by simp[z])) e⟩) (fun _ _ _ _ n=>n)
  (fun b o hc e=>⟨o,k b o (fun z=>hc (by simp[z])) e⟩) (fun _ _ e=>e) (fun _ _ _ e=>e) (fun b ps e=>⟨#[],by rw[e];simp⟩) (fun m hm=>?_) (fun b u e=>?_) I.bare
 ·have e:b=it:=by simpa using hb
  subst e
  exact⟨h1,hL,h2,h3⟩
 ·obtain⟨o,es,ep,ho,r⟩:=hm
  exact⟨o,es,ep,k _ o (Ne.symm hL) ho,r⟩
 ·refine(I.hok b u e).iR (fun c v hc q=>k c v ?_ q) (fun _ q=>q) fun _ _ q=>q
  rcases hc with z | z
  ·rw[z];exact nit b u e
  ·exact nit c _ z
theorem Inv.tok (I:Inv X pins σ H s) (t:Nat):Inv X pins σ H { s with toks:=t }:=I.un (h':=s.heap) (t':=t) Un.refl I.hok
theorem Inv.kept {t':Nat} (I:Inv X pins σ H s) (k:∀b u,s.heap.get? b=some u->h'.get? b=some u):Inv X pins σ H { s with heap:=h',toks:=t' }:=I.un (Un.kept k) (I.hok.kept k)
theorem Inv.laid {a:Addr} {o:HO} {t':Nat} (I:Inv X pins σ H s) (k:∀b u,s.heap.get? b=some u->h'.get? b=some u) (hp:s.heap.objs.size<=a) (new:bO X.prog X.w (upd H a o) h' a o) :
  Inv X pins σ (upd H a o) { s with heap:=h',toks:=t' }:=I.un (Un.laid k hp (I.hok.fresh hp)) (I.hok.laid k hp new)
theorem Inv.write {x e:Addr} {o:HO} {t':Nat} (I:Inv X pins σ H s) (mu:Mut (H x)) (he:e=x\/H e=some (.own x)) (k:∀b u,b≠e->s.heap.get? b=some u->h'.get? b=some u) (heo:∃u,h'.get? e=some u)
  (new:bO X.prog X.w (upd H x o) h' x o):Inv X pins σ (upd H x o) { s with heap:=h',toks:=t' }:=I.un (Un.write mu he k heo) (I.hok.write mu he k heo new)
theorem Inv.kZ {pins':List (Addr × Obj)} (I:Inv X pins σ H s) (h:∀p∈pins',s.heap.get? p.1=some p.2/\H p.1=none/\p.1≠X.env.locals/\p.1∉X.fs/\∀v,p.2.data≠.cell v):Inv X pins' σ H s:=
 ⟨I.ok,I.os,I.bare,I.base,I.loc,I.cell,I.free,I.df,fun p hp=>(List.mem_append.mp hp).elim (fun z=>I.pin p (List.mem_append_left _ z)) (h p),I.hok,I.len⟩
theorem qO {N:List Str} (hN:N.Nodup) {i j:Nat} {x:Str} (a:N[i]?=some x) (b:N[j]?=some x):i=j:=by
 obtain⟨h1,e1⟩:=List.getElem?_eq_some_iff.mp a
 obtain⟨h2,e2⟩:=List.getElem?_eq_some_iff.mp b
 exact(List.getElem_inj hN).mp (e1.trans e2.symm)
theorem uV {M:Model} {A:Around} {E:Value->Shared->Prop} {i:Nat} {x:Str} {v:V} {u:Value} {Q:Unit->Shared->Prop} (I:Inv X pins σ H s) (hN:X.N.Nodup) (hi:X.N[i]?=some x) (hx:Loc X.env.scope x) (r:RelV v u)
  (h:∀s',Inv X pins (σ.set i (some v)) H s'->(∃a,Heap.SameBut a s.heap s'.heap/\(a=X.env.locals\/X.env.cells.lookup x=some a))->Q () s') (hf:X.fn x=true\/X.env.scope.names.lookup x=some .local:=by first | exact .inl rfl | exact .inr rfl | assumption):wpAny M A (storeName X.env x u) Q E s:=by
 obtain⟨m,hn,hl⟩:=id I.loc
 have hcls:(X.env.scope.kind == .class || (X.env.scope.kind == .module&&X.env.locals != X.env.globals))=false:=by rw[I.ok.kind];rfl
 have hiσ:i<σ.length:=by rw[I.len];exact(List.getElem?_eq_some_iff.mp hi).1
 have cne:=I.cne
 have tracked:∀{a:Addr} {h':Heap},(∃o,s.heap.get? a=some o/\H a=none)->Heap.SameBut a s.heap h'->HOk X.prog X.w H h':=fun{a h'} ha hs b ob e=>by
  obtain⟨_,_,hfree⟩:=ha
  refine(I.hok b ob e).iR (fun c w' hc q=>(hs.2 c ?_).trans q) (fun _ q=>q) fun _ _ q=>q
  rintro rfl
  rcases hc with rfl | hc
  ·rw[hfree] at e;cases e
  ·rw[hfree] at hc;cases hc
 rcases hx with hk | hk
 ·refine wpAny_storeName_local hk hn (fun h' hn' hs=>?_) hcls
  obtain⟨oL,_,_,hoL,_⟩:=id hn
  refine h _ ⟨I.ok,I.os,I.bare,⟨fun b o e n hb hx=>?_,fun b o e n hb hx=>?_,I.base.free,fun b o e hx=>?_,I.base.mS,I.base.lr,I.base.mP⟩,⟨_,hn',fun j y v' e1 e2 e3=>?_⟩,fun y c e=>?_,I.free,I.df,fun p hp=>?_,tracked ⟨oL,hoL,I.free⟩ hs,by simpa using I.len⟩ ⟨_,hs,.inl rfl⟩
  ·exact(hs.2 b (Nat.ne_of_lt (Nat.lt_of_lt_of_le (Heap.lt_size e) I.ok.above))).trans (I.base.keep b o e n hb hx)
  ·obtain⟨sl,e1⟩:=I.base.slot b o e n hb hx
   exact⟨sl,(hs.2 b (Nat.ne_of_lt (Nat.lt_of_lt_of_le (Heap.lt_size e) I.ok.above))).trans e1⟩
  ·obtain⟨o',e1⟩:=I.base.there b o e hx
   exact⟨o',(hs.2 b (Nat.ne_of_lt (Nat.lt_of_lt_of_le (Heap.lt_size e) I.ok.above))).trans e1⟩
  ·by_cases hj:j=i
   ·subst hj
    rw[hi] at e1;cases e1
    rw[List.getElem?_set_self hiσ] at e2
    cases e2
    exact⟨u,r,.inl ⟨hk,by simp⟩⟩
   ·rw[List.getElem?_set_ne (Ne.symm hj)] at e2
    obtain⟨u',r',q⟩:=hl j y v' e1 e2 e3
    refine⟨u',r',?_⟩
    rcases q with⟨k,e⟩ | ⟨k,c,e,z⟩
    ·refine .inl ⟨k,?_⟩
     have:y≠x:=fun e=>hj (qO hN e1 (e ▸ hi))
     simp[this,e]
    ·exact .inr ⟨k,c,e,z.sameBut hs (cne y c e)⟩
  ·obtain⟨w',z⟩:=I.cell y c e
   exact⟨w',z.sameBut hs (cne y c e)⟩
  ·obtain⟨e,n,ne,nf,d⟩:=I.pin p hp
   exact⟨(hs.2 p.1 ne).trans e,n,ne,nf,d⟩
 ·have hfn:X.fn x=true:=by
   rcases hf with z | z
   ·exact z
   ·rw[z] at hk;cases hk
  obtain⟨c,hc⟩:=I.ok.has x (.inl hk)
  obtain⟨w',z⟩:=I.cell x c hc
  refine wpAny_storeName_cell I.ok.kind hk hc z (fun h' hc' hs=>?_)
  obtain⟨oc,hoc,hocd⟩:=id z
  refine h { s with heap:=h' } ⟨I.ok,I.os,I.bare,⟨fun b o e n hb hx=>?_,fun b o e n hb hx=>?_,I.base.free,fun b o e hx=>?_,I.base.mS,I.base.lr,I.base.mP⟩,⟨m,hn.sameBut hs (Ne.symm (cne x c hc)),fun j y v' e1 e2 e3=>?_⟩,fun y c' e=>?_,I.free,I.df,fun p hp=>?_,tracked ⟨oc,hoc,I.df x c hc⟩ hs,by simpa using I.len⟩ ⟨c,hs,.inr hc⟩
  ·exact(hs.2 b (Nat.ne_of_lt (Nat.lt_of_lt_of_le (Heap.lt_size e) (I.ok.cab x c hfn hc)))).trans (I.base.keep b o e n hb hx)
  ·obtain⟨sl,e1⟩:=I.base.slot b o e n hb hx
   exact⟨sl,(hs.2 b (Nat.ne_of_lt (Nat.lt_of_lt_of_le (Heap.lt_size e) (I.ok.cab x c hfn hc)))).trans e1⟩
  ·obtain⟨o',e1⟩:=I.base.there b o e hx
   exact⟨o',(hs.2 b (Nat.ne_of_lt (Nat.lt_of_lt_of_le (Heap.lt_size e) (I.ok.cab x c hfn hc)))).trans e1⟩
  ·by_cases hj:j=i
   ·subst hj
    rw[hi] at e1;cases e1
    rw[List.getElem?_set_self hiσ] at e2
    cases e2
    exact⟨u,r,.inr ⟨.inl hk,c,hc,hc'⟩⟩
   ·rw[List.getElem?_set_ne (Ne.symm hj)] at e2
    obtain⟨u',r',q⟩:=hl j y v' e1 e2 e3
    refine⟨u',r',?_⟩
    rcases q with q | ⟨k,c',e,z'⟩
    ·exact .inl q
    ·refine .inr ⟨k,c',e,z'.sameBut hs ?_⟩
     rintro rfl
     exact hj (qO hN e1 (I.ok.inj _ _ _ e hc ▸ hi))
  ·by_cases hcc:c'=c
   ·subst hcc;exact⟨_,hc'⟩
   ·obtain⟨w2,z2⟩:=I.cell y c' e
    exact⟨w2,z2.sameBut hs hcc⟩
  ·obtain⟨e,n,ne,nf,d⟩:=I.pin p hp
   refine⟨(hs.2 p.1 ?_).trans e,n,ne,nf,d⟩
   intro q
   rw[q,hoc] at e
   have q':oc=p.2:=Option.some.inj e
   exact d w' (by rw[<- q'];exact hocd)
theorem fQ {M:Model} {A:Around} {E:Value->Shared->Prop} {i:Nat} {x:Str} {v:V} {u:Value} {Q:Unit->Shared->Prop} (I:Inv X pins σ H s) (hN:X.N.Nodup) (hi:X.N[i]?=some x) (hx:Loc X.env.scope x) (r:RelV v u)
  (h:∀s',Inv X pins (σ.set i (some v)) H s'->Q () s') (hf:X.fn x=true\/X.env.scope.names.lookup x=some .local:=by first | exact .inl rfl | exact .inr rfl | assumption):wpAny M A (storeName X.env x u) Q E s:=
 uV I hN hi hx r (fun s' I' _=>h s' I') hf
theorem Inv.qP {s':Shared} {ch:List Addr} (I:Inv X pins σ H s) (ho:s'.os=s.os) (u:Un (frs X.stack) ch H H' s.heap s'.heap) (hok:HOk X.prog X.w H' s'.heap) (hg:AllBare s'.gens)
  (hch:∀b∈ch,(b∈X.ex\/X.aJ.heap.objs.size<=b)/\b≠X.env.locals/\(∀x c,X.env.cells.lookup x=some c->c≠b)/\∀p∈X.pn++pins,p.1≠b):Inv X pins σ H' s':=by
 obtain⟨h',g',d',t',o'⟩:=s'
 have e:o'=s.os:=ho
 subst e
 exact I.call (g':=g') (t':=t') (d':=d') u hok hg hch
end
noncomputable abbrev XK:=Value->Option Addr->Hp->Prop
noncomputable abbrev St:=List (Option V)
noncomputable abbrev VK:=V->Hp->Prop
noncomputable abbrev TE:=St->Hp->VK->Prop
noncomputable abbrev TT:=St->Hp->(Bool->Hp->Prop)->Prop
noncomputable abbrev TA:=St->Hp->(List V->Hp->Prop)->Prop
structure Ends where
 nx:St->Hp->Prop
 rt:VK
 bk:St->Hp->Prop:=fun _ _=>False
 ct:St->Hp->Prop:=fun _ _=>False
noncomputable abbrev TS:=Ends->St->Hp->Prop
noncomputable def EP (X:Cx) (pins:List (Addr × Obj)) (σ:St) (Q:VK) (u:Value) (s':Shared):Prop:=∃v H',Inv X pins σ H' s'/\RelV v u/\Q v H'
noncomputable def TP (X:Cx) (pins:List (Addr × Obj)) (σ:St) (Q:Bool->Hp->Prop) (b:Bool) (s':Shared):Prop:=∃H',Inv X pins σ H' s'/\Q b H'
noncomputable def AP (X:Cx) (pins:List (Addr × Obj)) (σ:St) (Q:List V->Hp->Prop) (us:List Value) (s':Shared):Prop:=∃vs H',Inv X pins σ H' s'/\Vals vs us/\Q vs H'
noncomputable def SP (X:Cx) (pins:List (Addr × Obj)) (D:Ends) (f:Flow) (s':Shared):Prop:=
 match f with
 | .next=>∃σ' H',Inv X pins σ' H' s'/\D.nx σ' H'
 | .brk=>∃σ' H',Inv X pins σ' H' s'/\D.bk σ' H'
 | .cont=>∃σ' H',Inv X pins σ' H' s'/\D.ct σ' H'
 | .ret u=>∃v σ' H',Inv X pins σ' H' s'/\RelV v u/\D.rt v H'
noncomputable def PE (X:Cx) (e:Expr) (t:TE):Prop:=
 ∀(pins:List (Addr × Obj)) (s:Shared) (σ:St) (H:Hp) (Q:VK),Inv X pins σ H s->t σ H Q->wpAny (model X.prog X.w) X.A (eval e X.env) (EP X pins σ Q) X.xe s
noncomputable def PT (X:Cx) (e:Expr) (t:TT):Prop:=
 ∀(pins:List (Addr × Obj)) (s:Shared) (σ:St) (H:Hp) (Q:Bool->Hp->Prop),Inv X pins σ H s->t σ H Q->wpAny (model X.prog X.w) X.A (isTrue e X.env (eval e X.env)) (TP X pins σ Q) X.xe s
noncomputable def PW (X:Cx) (e:Expr) (t:TT):Prop:=
 ∀(whole:Sem Value) (pins:List (Addr × Obj)) (s:Shared) (σ:St) (H:Hp) (Q:Bool->Hp->Prop),Inv X pins σ H s->t σ H Q->wpAny (model X.prog X.w) X.A (isTrue e X.env whole) (TP X pins σ Q) X.xe s
theorem PW.pt {X:Cx} {e:Expr} {t:TT} (h:PW X e t):PT X e t:=h _
noncomputable def PA (X:Cx) (es:List Expr) (t:TA):Prop:=
 ∀(pos:Pos) (pins:List (Addr × Obj)) (s:Shared) (σ:St) (H:Hp) (Q:List V->Hp->Prop),Inv X pins σ H s->t σ H Q->wpAny (model X.prog X.w) X.A (spliced (backTo pos (starEach es X.env))) (AP X pins σ Q) X.xe s
noncomputable def PS (X:Cx) (st:Stmt) (t:TS):Prop:=
 ∀(pins:List (Addr × Obj)) (s:Shared) (σ:St) (H:Hp) (D:Ends),Inv X pins σ H s->t D σ H->wpAny (model X.prog X.w) X.A (exec st X.env) (SP X pins D) X.xe s
noncomputable def PSs (X:Cx) (st:List Stmt) (t:TS):Prop:=
 ∀(pins:List (Addr × Obj)) (s:Shared) (σ:St) (H:Hp) (D:Ends),Inv X pins σ H s->t D σ H->wpAny (model X.prog X.w) X.A (execs st X.env) (SP X pins D) X.xe s
theorem thn {α:Type} {t:Sem α} {Q Q':α->Shared->Prop} {M:Model} {A:Around} {E:Value->Shared->Prop} {s:Shared} (h:wpAny M A t Q E s) (hQ:∀a s,Q a s->Q' a s):wpAny M A t Q' E s:=wpAny_mono h hQ fun _ _ x=>x
section
variable {X:Cx}
noncomputable def Fy (i:Nat):TE:=fun σ H Q=>∃v,σ[i]?=some (some v)/\Q v H
noncomputable def tC (v:V):TE:=fun _ H Q=>Q v H
theorem vV {i:Nat} {x:Str} {pos:Pos} (hN:X.N[i]?=some x) (hv:Vis X.env.scope x) (hd:(x == ("__debug__" : Str))=false:=by decide) (hcd:(x == ("__classdict__" : Str))=false:=by decide):PE X (.Name x pos) (Fy i):=by
 intro pins s σ H Q I h
 obtain⟨v,e,h⟩:=h
 obtain⟨m,hn,hl⟩:=I.loc
 obtain⟨u,r,l⟩:=hl i x v hN e hv
 have fin:EP X pins σ Q u s:=⟨v,H,I,r,h⟩
 rcases l with⟨hk,hm⟩ | ⟨hk,c,hc,hcell⟩
 ·exact wpAny_Name (wpAny_loadName_local I.ok.kind hk hn hm fin) hd
 ·rcases hk with hk | hk
  ·exact wpAny_Name (wpAny_loadName_cell I.ok.kind hk hc hcell fin) hd
  ·exact wpAny_Name (wpAny_loadName_free I.ok.kind hk hc hcell fin hcd) hd
theorem Bu {i j pos}:PE X (.Constant (.int i) j pos) (tC (.int i)):=fun _ _ _ H _ I h=>wpAny_Constant_int ⟨.int i,H,I.tok _,⟨_,rfl⟩,h⟩
theorem DM {b j pos}:PE X (.Constant (.bool b) j pos) (tC (.bl b)):=fun _ _ _ H _ I h=>Constant_bool ⟨.bl b,H,I,rfl,h⟩
theorem BC {j pos}:PE X (.Constant .none j pos) (tC .non):=fun _ _ _ H _ I h=>Constant_none ⟨.non,H,I,rfl,h⟩
theorem Bs {x j pos}:PE X (.Constant (.str x) j pos) (tC (.str x)):=fun _ _ _ H _ I h=>Calls.Constant_str ⟨.str x,H,I.tok _,⟨_,rfl⟩,h⟩
noncomputable def Gl (X:Cx) (x:Str):Prop:=X.env.kindOf x=some .globalImplicit
theorem g8 {E:Value->Shared->Prop} {pins:List (Addr × Obj)} {s:Shared} {σ:St} {H:Hp} {x:Str} {u:Value} {pos:Pos} {Q:Value->Shared->Prop} (I:Inv X pins σ H s) (hg:Gl X x) (hm:X.mg x=some u) (h:Q u s)
  (hd:(x == ("__debug__" : Str))=false:=by decide):wpAny (model X.prog X.w) X.A (eval (.Name x pos) X.env) Q E s:=
 Calls.Name_function_global I.ok.kind hg (Calls.loadGlobal_global (by rw[I.ok.glob];exact I.mod.glob.keeps I.bk) hm h) hd
theorem lL {E:Value->Shared->Prop} {pins:List (Addr × Obj)} {s:Shared} {σ:St} {H:Hp} {x:Str} {u:Value} {pos:Pos} {Q:Value->Shared->Prop} (I:Inv X pins σ H s) (hg:Gl X x) (hm:X.mg x=none) (hv:bootBuiltins x=some u) (h:Q u s)
  (hn:x≠"__name__" := by decide) (hd:(x == ("__debug__" : Str))=false:=by decide):wpAny (model X.prog X.w) X.A (eval (.Name x pos) X.env) Q E s:=by
 obtain⟨mb,h1,h2⟩:=I.mod.blt
 exact Calls.Name_function_global I.ok.kind hg (Calls.loadGlobal_builtin (by rw[I.ok.glob];exact I.mod.glob.keeps I.bk) hm (by rw[I.ok.blt];exact h1.keeps I.bk) ((h2 x hn).trans hv) h) hd
theorem tV {x:Str} {v:V} {u:Value} {pos:Pos} (hg:Gl X x) (hm:X.mg x=some u) (r:RelV v u) (hd:(x == ("__debug__" : Str))=false:=by decide):PE X (.Name x pos) (tC v):=
 fun _ _ _ H _ I h=>g8 I hg hm ⟨v,H,I,r,h⟩ hd
theorem tO {x:Str} {v:V} {u:Value} {pos:Pos} (hg:Gl X x) (hm:X.mg x=none) (hv:bootBuiltins x=some u) (r:RelV v u) (hn:x≠"__name__" := by decide) (hd:(x == ("__debug__" : Str))=false:=by decide):PE X (.Name x pos) (tC v):=
 fun _ _ _ H _ I h=>lL I hg hm hv ⟨v,H,I,r,h⟩ hn hd
variable {a b:Expr} {ta tb:TE} {pos:Pos}
variable {tA tB':TT} {rest:List Expr}
noncomputable def FN (t u:TT):TT:=fun σ H Q=>t σ H fun c H1=>if c=true then u σ H1 Q else Q false H1
noncomputable def tOr (t u:TT):TT:=fun σ H Q=>t σ H fun c H1=>if c=true then Q true H1 else u σ H1 Q
noncomputable def E9 (t:TT):TT:=fun σ H Q=>t σ H fun c H1=>Q (!c) H1
theorem pw_and1 (ha:PT X a tA):PW X (.BoolOp .And [a] pos) tA:=by
 intro wh pins s σ H Q I h
 refine isTrue_and (thn (ha pins s σ H Q I h) fun c s1 e=>?_)
 cases c with
 | true=>exact isTrue_and_nil e
 | false=>exact e
theorem pw_or1 (ha:PT X a tA):PW X (.BoolOp .Or [a] pos) tA:=by
 intro wh pins s σ H Q I h
 refine isTrue_or (thn (ha pins s σ H Q I h) fun c s1 e=>?_)
 cases c with
 | false=>exact isTrue_or_nil e
 | true=>exact e
theorem pw_and (ha:PT X a tA) (hb:PW X (.BoolOp .And (b::rest) pos) tB'):PW X (.BoolOp .And (a::b::rest) pos) (FN tA tB'):=by
 intro wh pins s σ H Q I h
 refine isTrue_and (thn (ha pins s σ H _ I h) fun c s1 ⟨H1,I1,q1⟩=>?_)
 cases c with
 | true=>exact hb wh pins s1 σ H1 Q I1 q1
 | false=>exact⟨H1,I1,q1⟩
theorem pw_or (ha:PT X a tA) (hb:PW X (.BoolOp .Or (b::rest) pos) tB'):PW X (.BoolOp .Or (a::b::rest) pos) (tOr tA tB'):=by
 intro wh pins s σ H Q I h
 refine isTrue_or (thn (ha pins s σ H _ I h) fun c s1 ⟨H1,I1,q1⟩=>?_)
 cases c with
 | true=>exact⟨H1,I1,q1⟩
 | false=>exact hb wh pins s1 σ H1 Q I1 q1
theorem Ci (ha:PT X a tA):PT X (.UnaryOp .Not a pos) (E9 tA):=by
 intro pins s σ H Q I h
 exact isTrue_not (ha pins s σ H (fun c H1=>Q (!c) H1) I h)
noncomputable def D0 (ta tb:TE):TE:=fun σ H Q=>ta σ H fun x H1=>∃c,x=.bl c/\if c=true then tb σ H1 Q else Q (.bl false) H1
noncomputable def EC (ta:TE):TE:=fun σ H Q=>ta σ H fun x H1=>∃c,x=.bl c/\Q (.bl (!c)) H1
theorem Ct {op} {t:TE} (h:PE X a t):PE X (.BoolOp op [a] pos) t:=fun pins s σ H Q I hw=>BoolOp_one (h pins s σ H Q I hw)
theorem Bf (ha:PE X a ta) (hb:PE X (.BoolOp .And (b::rest) pos) tb):PE X (.BoolOp .And (a::b::rest) pos) (D0 ta tb):=by
 intro pins s σ H Q I h
 refine BoolOp_and (thn (ha pins s σ H _ I h) fun v s1 ⟨x,H1,I1,r1,q1⟩=>?_)
 obtain⟨c,rfl,q1⟩:=q1
 cases r1
 refine wpAny_truthy_bool ?_
 cases c with
 | true=>exact hb pins s1 σ H1 Q I1 q1
 | false=>exact⟨.bl false,H1,I1,rfl,q1⟩
theorem Be (ha:PE X a ta):PE X (.UnaryOp .Not a pos) (EC ta):=by
 intro pins s σ H Q I h
 refine UnaryOp_ (thn (ha pins s σ H _ I h) fun v s1 ⟨x,H1,I1,r1,q1⟩=>?_)
 obtain⟨c,rfl,q1⟩:=q1
 cases r1
 exact not_of (wpAny_truthy_bool ⟨.bl (!c),H1,I1,rfl,q1⟩)
noncomputable def tIf (t:TT) (ta tb:TE):TE:=fun σ H Q=>t σ H fun c H1=>if c=true then ta σ H1 Q else tb σ H1 Q
theorem xv {c:Expr} (hc:PT X c tA) (ha:PE X a ta) (hb:PE X b tb):PE X (.IfExp c a b pos) (tIf tA ta tb):=by
 intro pins s σ H Q I h
 refine wpAny_IfExp (thn (hc pins s σ H _ I h) fun d s1 ⟨H1,I1,q1⟩=>?_)
 cases d with
 | true=>exact ha pins s1 σ H1 Q I1 q1
 | false=>exact hb pins s1 σ H1 Q I1 q1
end
noncomputable def SqL (K:PySem.W.Frag) (H:Hp) (a:Addr) (xs:List V):Prop:=
 Rd H a (.lst xs) ∨
  ∃(o:Obj) (its:Array Value) (n:Nat),K.lookup a=some o/\o.cls=.type "list" /\ o.dict=none/\o.data=.seq its n/\its.size<=sizeLine/\Vals xs its.toList
noncomputable def SqT (K:PySem.W.Frag) (H:Hp) (a:Addr) (xs:List V):Prop:=
 Rd H a (.tup xs) ∨
  ∃(o:Obj) (its:Array Value) (n:Nat),K.lookup a=some o/\o.cls=.type "tuple" /\ o.data=.seq its n/\its.size<=sizeLine/\Vals xs its.toList
noncomputable def EW:Value->Option V
 | .none=>some .non
 | .bool b=>some (.bl b)
 | .int i _=>some (.int i)
 | .str x _=>some (.str x)
 | .bytes b _=>some (.byt b)
 | .float b _=>some (.flt b)
 | .ref a=>some (.ref a)
 | .type n=>some (.ty n)
 | _=>none
theorem RelV.abs {x:V} {u:Value} (r:RelV x u):EW u=some x:=by
 cases x with
 | non=>cases r;rfl
 | bl _=>cases r;rfl
 | int _=>obtain⟨t,rfl⟩:=r;rfl
 | str _=>obtain⟨t,rfl⟩:=r;rfl
 | byt _=>obtain⟨t,rfl⟩:=r;rfl
 | flt _=>obtain⟨t,rfl⟩:=r;rfl
 | ref _=>cases r;rfl
 | ty _=>cases r;rfl
theorem RelV.inj {x y:V} {u:Value} (r:RelV x u) (q:RelV y u):x=y:=Option.some.inj (r.abs.symm.trans q.abs)
theorem Vals.inj:∀{xs ys:List V} {us:List Value},Vals xs us->Vals ys us->xs=ys
 | _,_,_,.nil,.nil=>rfl
 | _,_,_,.cons r t,.cons r' t'=>by rw[r.inj r',Vals.inj t t']
section
variable {X:Cx} {pins:List (Addr × Obj)} {σ:St} {H:Hp} {s:Shared} {a:Addr} {xs ys:List V}
theorem SqL.of {K:PySem.W.Frag} (h:H a=some (.lst xs)):SqL K H a xs:=.inl (.inl h)
theorem SqT.of {K:PySem.W.Frag} (h:H a=some (.tup xs)):SqT K H a xs:=.inl (.inl h)
theorem Inv.list (I:Inv X pins σ H s) (h:SqL X.K H a xs):∃its:List Value,Vals xs its/\PlainL s.heap a its.toArray/\xs.length<=sizeLine:=by
 rcases h with h | ⟨o,its,n,hk,hc,hd,hs,hz,r⟩
 ·obtain⟨z,its,n,r,e⟩:=h.ok I.hok
  exact⟨its,r,⟨_,n,e,rfl,rfl,rfl⟩,z⟩
 ·refine⟨its.toList,r,⟨o,n,I.kIn a o hk,hc,hd,by simpa using hs⟩,?_⟩
  have e:=r.length
  simp only[Array.length_toList] at e
  omega
theorem Inv.tuple (I:Inv X pins σ H s) (h:SqT X.K H a xs):∃its:List Value,Vals xs its/\IsTup s.heap a its.toArray/\xs.length<=sizeLine:=by
 rcases h with h | ⟨o,its,n,hk,hc,hs,hz,r⟩
 ·obtain⟨z,its,r,p⟩:=h.ok I.hok
  exact⟨its,r,p.tup,z⟩
 ·refine⟨its.toList,r,⟨o,I.kIn a o hk,hc,n,by simpa using hs⟩,?_⟩
  have e:=r.length
  simp only[Array.length_toList] at e
  omega
theorem Inv.lO (I:Inv X pins σ H s) (h:SqL X.K H a xs) (h':SqL X.K H a ys):xs=ys:=by
 obtain⟨its,r,⟨o,n,e,_,_,d⟩,_⟩:=I.list h
 obtain⟨its',r',⟨o',n',e',_,_,d'⟩,_⟩:=I.list h'
 rw[e] at e';cases e'
 rw[d] at d'
 injection d' with d1 _
 have:its=its':=by simpa using congrArg Array.toList d1
 subst this
 exact r.inj r'
theorem Inv.nW (I:Inv X pins σ H s) (h:SqT X.K H a xs) (h':SqT X.K H a ys):xs=ys:=by
 obtain⟨its,r,⟨o,e,_,n,d⟩,_⟩:=I.tuple h
 obtain⟨its',r',⟨o',e',_,n',d'⟩,_⟩:=I.tuple h'
 rw[e] at e';cases e'
 rw[d] at d'
 injection d' with d1 _
 have:its=its':=by simpa using congrArg Array.toList d1
 subst this
 exact r.inj r'
end
noncomputable abbrev Cx.jy (X:Cx) (E:Value->Shared->Prop):Cx:={ X with xe:=E }
noncomputable abbrev Cx.nox (X:Cx):Cx:=X.jy fun _ _=>False
theorem Cx.Ok.jy {X:Cx} (ok:X.Ok) (E:Value->Shared->Prop):(X.jy E).Ok:=
 ⟨ok.mod,ok.kind,ok.glob,ok.blt,ok.above,ok.inj,ok.has,ok.cab,ok.hd,ok.frames,ok.stk,ok.exf,ok.bs,ok.bsz,ok.oD,ok.qA,ok.hG,ok.frf⟩
theorem Cx.Ok.eR {X:Cx} {E:Value->Shared->Prop} (ok:(X.jy E).Ok):X.Ok:=
 ⟨ok.mod,ok.kind,ok.glob,ok.blt,ok.above,ok.inj,ok.has,ok.cab,ok.hd,ok.frames,ok.stk,ok.exf,ok.bs,ok.bsz,ok.oD,ok.qA,ok.hG,ok.frf⟩
section
variable {X:Cx} {pins:List (Addr × Obj)} {σ:St} {H:Hp} {s:Shared} {E:Value->Shared->Prop}
theorem Inv.jy (I:Inv X pins σ H s) (E:Value->Shared->Prop):Inv (X.jy E) pins σ H s:=⟨I.ok.jy E,I.os,I.bare,I.base,I.loc,I.cell,I.free,I.df,I.pin,I.hok,I.len⟩
theorem Inv.eR (I:Inv (X.jy E) pins σ H s):Inv X pins σ H s:=⟨I.ok.eR,I.os,I.bare,I.base,I.loc,I.cell,I.free,I.df,I.pin,I.hok,I.len⟩
theorem SP.eR {D:Ends} {f:Flow} {s':Shared} (h:SP (X.jy E) pins D f s'):SP X pins D f s':=by
 cases f with
 | next=>obtain⟨σ',H',I,q⟩:=h;exact⟨σ',H',I.eR,q⟩
 | brk=>obtain⟨σ',H',I,q⟩:=h;exact⟨σ',H',I.eR,q⟩
 | cont=>obtain⟨σ',H',I,q⟩:=h;exact⟨σ',H',I.eR,q⟩
 | ret u=>obtain⟨v,σ',H',I,r,q⟩:=h;exact⟨v,σ',H',I.eR,r,q⟩
theorem PE.nox {e:Expr} {t:TE} (h:PE X.nox e t):PE X e t:=fun pins s σ H Q I hw=>
 wpAny_mono (h pins s σ H Q (I.jy _) hw) (fun _ _ ⟨v,H',I',r,q⟩=>⟨v,H',I'.eR,r,q⟩) fun _ _ z=>False.elim z
theorem PT.nox {e:Expr} {t:TT} (h:PT X.nox e t):PT X e t:=fun pins s σ H Q I hw=>
 wpAny_mono (h pins s σ H Q (I.jy _) hw) (fun _ _ ⟨H',I',q⟩=>⟨H',I'.eR,q⟩) fun _ _ z=>False.elim z
theorem PSs.nox {st:List Stmt} {t:TS} (h:PSs X.nox st t):PSs X st t:=fun pins s σ H D I hw=>
 wpAny_mono (h pins s σ H D (I.jy _) hw) (fun _ _ q=>q.eR) fun _ _ z=>False.elim z
end
section
variable {X:Cx} {st:Stmt} {rest:List Stmt} {t u:TS} {e:Expr} {te:TE} {pos:Pos}
noncomputable def DR:TS:=fun D σ H=>D.nx σ H
noncomputable def Fi (t u:TS):TS:=fun D σ H=>t { D with nx:=u D } σ H
theorem yR:PSs X [] DR:=fun _ _ σ H _ I h=>wpAny_execs_nil ⟨σ,H,I,h⟩
theorem yE (h1:PS X st t) (h2:PSs X rest u):PSs X (st::rest) (Fi t u):=by
 intro pins s σ H D I h
 refine wpAny_execs_cons (thn (h1 pins s σ H { D with nx:=u D } I h) fun f s1 q=>?_)
 cases f with
 | next=>
  obtain⟨σ',H',I',q⟩:=q
  exact h2 pins s1 σ' H' D I' q
 | ret v=>exact q
 | brk=>exact q
 | cont=>exact q
theorem sJ (h1:PS X st t):PSs X [st] t:=by
 intro pins s σ H D I h
 refine wpAny_execs_cons (thn (h1 pins s σ H D I h) fun f s1 q=>?_)
 cases f with
 | next=>exact wpAny_execs_nil q
 | ret v=>exact q
 | brk=>exact q
 | cont=>exact q
theorem Inv.quiet {pins:List (Addr × Obj)} {σ:St} {H:Hp} {s:Shared} (I:Inv X pins σ H s):interactive X.env=false:=by simp[interactive,I.ok.kind]
noncomputable def Dz (te:TE):TS:=fun D σ H=>te σ H fun _ H1=>D.nx σ H1
theorem Ap (he:PE X e te) (hs:swapsWith e none pos.line X.env=pure false:=by rfl):PS X (.Expr e pos) (Dz te):=by
 intro pins s σ H D I h
 exact wpAny_Expr_any (thn (he pins s σ H _ I h) fun v s1 ⟨x,H1,I1,r1,q1⟩=>⟨σ,H1,I1,q1⟩) I.quiet hs
noncomputable def Fo (te:TE):TS:=fun D σ H=>te σ H D.rt
theorem vI (he:PE X e te):PS X (.Return (some e) pos) (Fo te):=by
 intro pins s σ H D I h
 exact wpAny_Return_some (thn (he pins s σ H _ I h) fun v s1 ⟨x,H1,I1,r1,q1⟩=>⟨x,σ,H1,I1,r1,q1⟩)
noncomputable def Ft (c:TT) (t u:TS):TS:=fun D σ H=>c σ H fun b H1=>if b=true then t D σ H1 else u D σ H1
theorem EB {c:Expr} {a b:List Stmt} {tc:TT} (hc:PT X c tc) (ha:PSs X a t) (hb:PSs X b u):PS X (.If c a b pos) (Ft tc t u):=by
 intro pins s σ H D I h
 refine wpAny_If (thn (hc pins s σ H _ I h) fun d s1 ⟨H1,I1,q1⟩=>?_)
 cases d with
 | true=>exact ha pins s1 σ H1 D I1 q1
 | false=>exact hb pins s1 σ H1 D I1 q1
noncomputable def Cp:TS:=fun _ _ _=>False
theorem i_:PS X st Cp:=fun _ _ _ _ _ _ h=>h.elim
end
noncomputable abbrev TG:=V->St->Hp->(St->Hp->Prop)->Prop
noncomputable abbrev TGs:=List V->St->Hp->(St->Hp->Prop)->Prop
noncomputable def PG (X:Cx) (target:Expr) (t:TG):Prop:=
 ∀(pins:List (Addr × Obj)) (s:Shared) (σ:St) (H:Hp) (v:V) (u:Value) (Q:St->Hp->Prop),Inv X pins σ H s->RelV v u->t v σ H Q →
  wpAny (model X.prog X.w) X.A (assign target X.env u) (fun _ s'=>∃σ' H',Inv X pins σ' H' s'/\Q σ' H') X.xe s
noncomputable def PGs (X:Cx) (ts:List Expr) (t:TGs):Prop:=
 ∀(pins:List (Addr × Obj)) (s:Shared) (σ:St) (H:Hp) (vs:List V) (us:List Value) (Q:St->Hp->Prop),Inv X pins σ H s->Vals vs us->t vs σ H Q →
  wpAny (model X.prog X.w) X.A (assignInOrder ((assignEach ts X.env).map (·.2)) us) (fun _ s'=>∃σ' H',Inv X pins σ' H' s'/\Q σ' H') X.xe s
noncomputable abbrev xr:=V->V->V->Hp->(Hp->Prop)->Prop
noncomputable def Bp (X:Cx) (t:xr):Prop:=
 ∀(pins:List (Addr × Obj)) (s:Shared) (σ:St) (H:Hp) (o i v:V) (ov iv u:Value) (Q:Hp->Prop),Inv X pins σ H s->RelV o ov->RelV i iv->RelV v u->t o i v H Q →
  wpAny (model X.prog X.w) X.A (setItem ov iv u) (fun _ s'=>∃H',Inv X pins σ H' s'/\Q H') X.xe s
section
variable {X:Cx} {pos:Pos}
noncomputable def iT (i:Nat):TG:=fun v σ H Q=>Q (σ.set i (some v)) H
theorem cZ {i:Nat} {x:Str} (hN:X.N.Nodup) (hi:X.N[i]?=some x) (hx:Loc X.env.scope x) (hf:X.fn x=true\/X.env.scope.names.lookup x=some .local:=by first | exact .inl rfl | exact .inr rfl | assumption):PG X (.Name x pos) (iT i):=by
 intro pins s σ H v u Q I r h
 exact wpAny_assign_Name (fQ I hN hi hx r (fun s' I'=>⟨_,H,I',h⟩) hf)
noncomputable def Ew:TGs:=fun vs σ H Q=>vs=[]/\Q σ H
noncomputable def xx (t:TG) (u:TGs):TGs:=fun vs σ H Q=>∃v r,vs=v::r/\t v σ H fun σ' H'=>u r σ' H' Q
theorem tD:PGs X [] Ew:=by
 intro pins s σ H vs us Q I r h
 obtain⟨e,h⟩:=h
 subst e
 cases r
 exact assignInOrder_nil ⟨σ,H,I,h⟩
theorem i5 {e:Expr} {es:List Expr} {t:TG} {u:TGs} (h1:PG X e t) (h2:PGs X es u)
  (hs:(assignEach (e::es) X.env).map (·.2)=assign e X.env::(assignEach es X.env).map (·.2):=by rfl):PGs X (e::es) (xx t u):=by
 intro pins s σ H vs us Q I r h
 obtain⟨v,vr,e1,h⟩:=h
 subst e1
 cases r with
 | cons r rr=>
  rw[hs]
  refine assignInOrder_cons (thn (h1 pins s σ H _ _ _ I r h) fun _ s1 ⟨σ1,H1,I1,q1⟩=>?_)
  exact h2 pins s1 σ1 H1 _ _ Q I1 rr q1
noncomputable def DP (K:PySem.W.Frag) (n:Nat) (t:TGs):TG:=fun v σ H Q=>∃a xs,v=.ref a/\SqT K H a xs/\xs.length=n/\t xs σ H Q
theorem yd {es:List Expr} {k:Nat} {t:TGs} {n:Nat} (hc:X.calm=true) (h:PGs X es t)
  (hn:(assignEach es X.env).length=n:=by rfl) (hst:(assignEach es X.env).findIdx? (·.1)=none:=by rfl):PG X (.Tuple es k pos) (DP X.K n t):=by
 intro pins s σ H v u Q I r hw
 obtain⟨a,xs,e1,hq,hl,hw⟩:=hw
 subst e1
 cases r
 obtain⟨its,rv,ht,hz⟩:=I.tuple hq
 refine assign_Tuple_tuple (I.ok.hd hc) ht (by simp[hn,<- hl,rv.length]) hst fun h' hx=>?_
 have I1:Inv X pins σ H { s with heap:=h' }:=I.kept (t':=s.toks) fun b o e=>hx b o (Nat.ne_of_lt (Heap.lt_size e)) e
 exact h pins _ σ H xs _ Q I1 (by simpa using rv) hw
noncomputable def F9 (to ti:TE) (t:xr):TG:=fun v σ H Q=>to σ H fun o H1=>ti σ H1 fun i H2=>t o i v H2 fun H3=>Q σ H3
theorem Cq {o i:Expr} {to ti:TE} {t:xr} (ho:PE X o to) (hi:PE X i ti) (hs:Bp X t)
  (ha:∀v,assign (.Subscript o i pos) X.env v=(do
   let ov ← holding [v] (eval o X.env)
   let iv ← holding [v,ov] (eval i X.env)
   standAt pos
   holding [v,ov,iv] (setItem ov iv v)
   release [v,ov,iv] []):=by intro _;rfl):PG X (.Subscript o i pos) (F9 to ti t):=by
 intro pins s σ H v u Q I r h
 rw[ha]
 refine wpAny_bind (wpAny_holding (thn (ho pins s σ H _ I h) fun ov s1 ⟨x,H1,I1,r1,q1⟩=>?_))
 refine wpAny_bind (wpAny_holding (thn (hi pins s1 σ H1 _ I1 q1) fun iv s2 ⟨y,H2,I2,r2,q2⟩=>?_))
 refine wpAny_bind (wpAny_standAt (wpAny_bind (wpAny_holding (thn (hs pins s2 σ H2 x y v ov iv u _ I2 r1 r2 r q2) fun _ s3 ⟨H3,I3,q3⟩=>?_))))
 exact wpAny_release ⟨σ,H3,I3,q3⟩
noncomputable def BV (te:TE) (g:TG):TS:=fun D σ H=>te σ H fun x H1=>g x σ H1 D.nx
theorem vY {tg e:Expr} {te:TE} {g:TG} (he:PE X e te) (hg:PG X tg g) (hs:swapsWithSole [tg] e pos.line X.env=pure false:=by rfl) (hw:swappedStores [tg] e X.env=pure none:=by rfl)
  (h1:(assignEach [tg] X.env).map (·.2)=[assign tg X.env]:=by rfl):PS X (.Assign [tg] e pos) (BV te g):=by
 intro pins s σ H D I h
 refine wpAny_Assign_stores (thn (he pins s σ H _ I h) fun v s1 ⟨x,H1,I1,r1,q1⟩=>?_) hs hw
 rw[h1]
 exact thn (hg pins s1 σ H1 x v _ I1 r1 q1) fun _ s2 q=>q
theorem Ca {i:Nat} {x:Str} {e:Expr} {te:TE} {pos':Pos} (hN:X.N.Nodup) (hi:X.N[i]?=some x) (hx:Loc X.env.scope x) (he:PE X e te) (hs:swapsWith e (some (.Name x pos')) pos.line X.env=pure false:=by rfl) (hf:X.fn x=true\/X.env.scope.names.lookup x=some .local:=by first | exact .inl rfl | exact .inr rfl | assumption) :
  PS X (.Assign [.Name x pos'] e pos) (BV te (iT i)):=by
 intro pins s σ H D I h
 refine wpAny_Assign_Name (thn (he pins s σ H _ I h) fun v s1 ⟨y,H1,I1,r1,q1⟩=>?_) hs
 exact fQ I1 hN hi hx r1 (fun s2 I2=>⟨_,H1,I2,q1⟩) hf
noncomputable def F8 (i j:Nat) (ta:TA):TS:=fun D σ H=>ta σ H fun vs H1=>∃v w,vs=[v,w]/\D.nx ((σ.set i (some v)).set j (some w)) H1
theorem BE {i j:Nat} {x y:Str} {a b:Expr} {ta:TA} {px py pt:Pos} {kt k2 pt2} (hc:X.calm=true) (hN:X.N.Nodup) (hi:X.N[i]?=some x) (hj:X.N[j]?=some y) (hij:i≠j)
  (hx:X.env.scope.names.lookup x=some .local) (hy:X.env.scope.names.lookup y=some .local) (ha:PA X [a,b] ta)
  (hw:swappedStores [.Tuple [.Name x px,.Name y py] kt pt] (.Tuple [a,b] k2 pt2) X.env=pure (some [x,y]))
  (hs:swapsWithSole [.Tuple [.Name x px,.Name y py] kt pt] (.Tuple [a,b] k2 pt2) pos.line X.env=pure false:=by rfl) :
  PS X (.Assign [.Tuple [.Name x px,.Name y py] kt pt] (.Tuple [a,b] k2 pt2) pos) (F8 i j ta):=by
 intro pins s σ H D I h
 rw[exec_Assign_arm]
 refine wpAny_bind (wpAny_standAt ?_)
 rw[hs]
 refine wpAny_bind (wpAny_pure ?_)
 rw[if_neg (by decide)]
 refine wpAny_bind (Tuple_ (thn (ha _ pins s σ H _ I h) fun us s1 ⟨vs,H1,I1,r1,q1⟩=>?_))
 obtain⟨v,w,e1,q1⟩:=q1
 subst e1
 obtain⟨u1,u2,rfl,rv,rw'⟩:∃u1 u2,us=[u1,u2]/\RelV v u1/\RelV w u2:=by
  cases r1 with
  | cons p q=>
   cases q with
   | cons p' q'=>
    cases q'
    exact⟨_,_,rfl,p,p'⟩
 refine wpAny_newObj_type ?_ (by show 2<=sizeLine;decide)
 have I2:Inv X pins σ H1 { s1 with heap:=s1.heap.push { cls:=.type "tuple", data:=.seq [u1,u2].toArray } }:=I1.kept (t':=s1.toks) fun b o e=>Heap.get?_push_of_some _ e
 rw[hw]
 refine wpAny_bind (wpAny_pure ?_)
 show wpAny (model X.prog X.w) X.A (do rule "assign.swapped-stores"; let items ← unpackItems (.ref s1.heap.objs.size) 2 none;assignInOrder [fun v=>bindName X.env y v,fun v=>bindName X.env x v] items.reverse;pure Flow.next) _ _ _
 refine wpAny_bind (wpAny_rule (wpAny_bind (unpackItems_tuple (items:=#[u1,u2]) (I.ok.hd hc) (IsTup.new s1.heap _) fun h' hx'=>?_)))
 have I3:=I2.kept (h':=h') (t':=s1.toks) fun b o e=>hx' b o (Nat.ne_of_lt (Heap.lt_size e)) e
 show wpAny _ _ (assignInOrder [fun v=>bindName X.env y v,fun v=>bindName X.env x v] [u2,u1] >>= fun _=>pure Flow.next) _ _ _
 refine wpAny_bind (assignInOrder_cons (wpAny_bindName (fQ I3 hN hj (.inl hy) rw' (fun s2 I4=>?_) (.inr hy))))
 refine assignInOrder_cons (wpAny_bindName (fQ I4 hN hi (.inl hx) rv (fun s3 I5=>assignInOrder_nil (wpAny_pure ?_)) (.inr hx)))
 rw[List.set_comm _ _ (Ne.symm hij)] at I5
 exact⟨_,H1,I5,q1⟩
end
structure It where
 go:Nat->Hp->Prop
 yld:Nat->Hp->V->Hp->Prop
 stop:Nat->Hp->Prop
noncomputable def m4 (X:Cx) (pins:List (Addr × Obj)) (H:Hp) (b:Addr):Prop:=
 H b=none/\b≠X.env.locals/\b∉X.fs/\(b∈X.ex\/X.aJ.heap.objs.size<=b)/\(∀x c,X.env.cells.lookup x=some c->c≠b)/\∀p∈X.pn++pins,p.1≠b
theorem Inv.yS {X:Cx} {pins:List (Addr × Obj)} {σ:St} {H H':Hp} {s:Shared} {b:Addr} (I:Inv X pins σ H s) (hb:s.heap.objs.size<=b) (hn:H' b=none):m4 X pins H' b:=by
 refine⟨hn,Nat.ne_of_gt (Nat.lt_of_lt_of_le I.lt hb),I.Du hb,.inr (Nat.le_trans I.sz hb),fun x c e z=>?_,fun p hp z=>?_⟩
 ·obtain⟨v,q⟩:=I.cell x c e
  exact absurd (Nat.lt_of_lt_of_le q.lt (by rw[z];exact hb)) (Nat.lt_irrefl _)
 ·exact absurd (Nat.lt_of_lt_of_le (Heap.lt_size (I.pin p hp).1) (by rw[z];exact hb)) (Nat.lt_irrefl _)
structure Turn (P:Program) (w:World) (K:PySem.W.Frag) (tg:Expr) (J:It) (fp:List Addr) (it:Addr) (tn:Nat->Heap->Prop):Prop where
 mem:it∈fp
 obj:∀i h,tn i h->∀b∈fp,∃o,h.get? b=some o/\∀v,o.data≠.cell v
 keep:∀i h h',tn i h->(∀b∈fp,∀o,h.get? b=some o->h'.get? b=some o)->tn i h'
 item:∀(X:Cx),X.prog=P->X.w=w->X.K=K->X.calm=true->∀(i:Nat) (pins:List (Addr × Obj)) (s:Shared) (σ:St) (H:Hp) (E:Value->Shared->Prop),Inv X pins σ H s->(∀b∈fp,m4 X pins H b)->tn i s.heap->J.go i H →
  wpAny (model P w) X.A (pyNext (.ref it)) (fun r s1=>∃u,r=some u ∧
   wpAny (model P w) X.A (letOwnedTupleGo tg (.ref it) u) (fun _ s2=>∃x H',Inv X pins σ H' s2/\RelV x u/\J.yld i H x H'/\tn (i+1) s2.heap/\∀b∈fp,H' b=none) E s1) E s
 done:∀(X:Cx),X.prog=P->X.w=w->X.K=K->X.calm=true->∀(i:Nat) (pins:List (Addr × Obj)) (s:Shared) (σ:St) (H:Hp) (E:Value->Shared->Prop),Inv X pins σ H s->(∀b∈fp,m4 X pins H b)->tn i s.heap->J.stop i H →
  wpAny (model P w) X.A (pyNext (.ref it)) (fun r s1=>r=none/\Inv X pins σ H s1) E s
 self:∀(A:Around) (i:Nat) (s:Shared) (Q:Value->Shared->Prop) (E:Value->Shared->Prop),tn i s.heap->Q (.ref it) s->wpAny (model P w) A (pyIter (.ref it)) Q E s
noncomputable abbrev TI:=St->Hp->(It->Hp->Prop)->Prop
noncomputable def PIE (X:Cx) (pins:List (Addr × Obj)) (σ:St) (tg:Expr) (R:It->Hp->Prop) (itv:Value) (s2:Shared):Prop:=
 ∃(it:Addr) (fp:List Addr) (tn:Nat->Heap->Prop) (J:It) (H':Hp),itv=.ref it/\Inv X pins σ H' s2/\Turn X.prog X.w X.K tg J fp it tn/\tn 0 s2.heap/\(∀b∈fp,m4 X pins H' b)/\R J H'
noncomputable def PI (X:Cx) (tg iter:Expr) (wi:TI):Prop:=
 ∀(pins:List (Addr × Obj)) (s:Shared) (σ:St) (H:Hp) (R:It->Hp->Prop),Inv X pins σ H s->wi σ H R →
  wpAny (model X.prog X.w) X.A (eval iter X.env) (fun v s1=>wpAny (model X.prog X.w) X.A (pyIter v) (PIE X pins σ tg R) X.xe s1) X.xe s
theorem ym {M:Model} {A:Around} {E:Value->Shared->Prop} {s:Shared} {tg:Expr} {it:Addr} {u:Value} {o:Obj} {n:String} {vs:Array Value} {Q:Unit->Shared->Prop} (ho:s.heap.get? it=some o) (hc:o.cls=.type n) (hd:o.data=.fields vs)
  (hn:["enumerate", "zip", "dict_itemiterator", "dict_reverseitemiterator", "odict_iterator", "itertools.zip_longest", "itertools.pairwise"].contains n=false) (hQ:Q () s):wpAny M A (letOwnedTupleGo tg (.ref it) u) Q E s:=by
 unfold letOwnedTupleGo
 cases tg<;>first
  | exact wpAny_pure hQ
  | (cases u<;>first
    | exact wpAny_pure hQ
    | (refine wpAny_bind (wpAny_load ho ?_)
       rw[hc,hd]
       show wpAny M A (if (["enumerate", "zip", "dict_itemiterator", "dict_reverseitemiterator", "odict_iterator", "itertools.zip_longest", "itertools.pairwise"].contains n&&vs[0]? == some (rawInt _))=true then _ else _) Q E s
       rw[if_neg (by intro h;rw[hn,Bool.false_and] at h;cases h)]
       exact wpAny_pure hQ))
noncomputable def Itl (K:PySem.W.Frag) (a:Addr):It:=
 ⟨fun i H=>∃xs x,SqL K H a xs/\xs[i]?=some x,fun i H x H'=>H'=H/\∀xs,SqL K H a xs->xs[i]?=some x,fun i H=>∃xs,SqL K H a xs/\xs.length<=i⟩
noncomputable def Itt (K:PySem.W.Frag) (a:Addr):It:=
 ⟨fun i H=>∃xs x,SqT K H a xs/\xs[i]?=some x,fun i H x H'=>H'=H/\∀xs,SqT K H a xs->xs[i]?=some x,fun i H=>∃xs,SqT K H a xs/\xs.length<=i⟩
noncomputable def Itr (lo:Int) (n:Nat):It:=⟨fun i _=>i<n,fun i H x H'=>H'=H/\x=.int (lo+i),fun i _=>n<=i⟩
theorem uJ {P:Program} {w:World} {K:PySem.W.Frag} {tg:Expr} (a it:Addr):Turn P w K tg (Itl K a) [it] it (fun i h=>h.IsListIter it a i) where
 mem:=by simp
 obj:=fun i h st b hb=>by
  have e:b=it:=by simpa using hb
  subst e
  obtain⟨o,e,c,d⟩:=st
  exact⟨o,e,fun v z=>by rw[d] at z;cases z⟩
 keep:=fun i h h' st k=>st.at fun o e=>k it (by simp) o e
 item:=by
  intro X hP hw hK hc i pins s σ H E I hf st hg
  subst hP hw hK
  obtain⟨xs,x,hq,hx⟩:=hg
  obtain⟨its,rv,p,hz⟩:=I.list hq
  obtain⟨u,hu,ru⟩:=rv.get hx
  obtain⟨f0,f1,f2,f3,f4,f5⟩:=hf it (by simp)
  refine wpAny_pyNext_list_item st p.isList (x:=u) (by simpa using hu) fun h' st' sb=>?_
  have I1:Inv X pins σ H { s with heap:=h' }:=I.turned (t':=s.toks) (fun b o hb e=>(sb.2 b hb).trans e) f0 f1 f3 f4 f5
  obtain⟨o,e,c,d⟩:=id st'
  exact⟨u,rfl,ym (s:={ s with heap:=h' }) e c d (by decide) ⟨x,H,I1,ru,⟨rfl,fun ys hy=>by rw[I.lO hy hq];exact hx⟩,st',fun b hb=>(hf b hb).1⟩⟩
 done:=by
  intro X hP hw hK hc i pins s σ H E I hf st hg
  subst hP hw hK
  obtain⟨xs,hq,hx⟩:=hg
  obtain⟨its,rv,p,hz⟩:=I.list hq
  obtain⟨f0,f1,f2,f3,f4,f5⟩:=hf it (by simp)
  have hl:=rv.length
  exact wpAny_pyNext_list_end (I.ok.hd hc) st p.isList (by simp;omega) fun h' eb=>⟨rfl,I.turned (t':=s.toks) (fun b o hb e=>eb b o hb e) f0 f1 f3 f4 f5⟩
 self:=fun _ _ _ _ _ st h=>wpAny_pyIter_listiter st h
theorem rP {P:Program} {w:World} {K:PySem.W.Frag} {tg:Expr} (a it:Addr):Turn P w K tg (Itt K a) [it] it (fun i h=>h.IsTupleIter it a i) where
 mem:=by simp
 obj:=fun i h st b hb=>by
  have e:b=it:=by simpa using hb
  subst e
  obtain⟨o,e,c,d⟩:=st
  exact⟨o,e,fun v z=>by rw[d] at z;cases z⟩
 keep:=fun i h h' st k=>st.at fun o e=>k it (by simp) o e
 item:=by
  intro X hP hw hK hc i pins s σ H E I hf st hg
  subst hP hw hK
  obtain⟨xs,x,hq,hx⟩:=hg
  obtain⟨its,rv,p,hz⟩:=I.tuple hq
  obtain⟨u,hu,ru⟩:=rv.get hx
  obtain⟨f0,f1,f2,f3,f4,f5⟩:=hf it (by simp)
  refine wpAny_pyNext_tuple_item st (show s.heap.IsTuple a its.toArray from p) (x:=u) (by simpa using hu) fun h' st' sb=>?_
  have I1:Inv X pins σ H { s with heap:=h' }:=I.turned (t':=s.toks) (fun b o hb e=>(sb.2 b hb).trans e) f0 f1 f3 f4 f5
  obtain⟨o,e,c,d⟩:=id st'
  exact⟨u,rfl,ym (s:={ s with heap:=h' }) e c d (by decide) ⟨x,H,I1,ru,⟨rfl,fun ys hy=>by rw[I.nW hy hq];exact hx⟩,st',fun b hb=>(hf b hb).1⟩⟩
 done:=by
  intro X hP hw hK hc i pins s σ H E I hf st hg
  subst hP hw hK
  obtain⟨xs,hq,hx⟩:=hg
  obtain⟨its,rv,p,hz⟩:=I.tuple hq
  obtain⟨f0,f1,f2,f3,f4,f5⟩:=hf it (by simp)
  have hl:=rv.length
  exact wpAny_pyNext_tuple_end (I.ok.hd hc) st (show s.heap.IsTuple a its.toArray from p) (by simp;omega) fun h' eb=>⟨rfl,I.turned (t':=s.toks) (fun b o hb e=>eb b o hb e) f0 f1 f3 f4 f5⟩
 self:=fun _ _ _ _ _ st h=>wpAny_pyIter_tupleiter st h
theorem sd {P:Program} {w:World} {K:PySem.W.Frag} {tg:Expr} (it:Addr) (lo:Int) (n:Nat):Turn P w K tg (Itr lo n) [it] it (fun i h=>IsRangeIter h it (lo+(i:Nat)*1) ((n:Int) - (i:Nat)) 1) where
 mem:=by simp
 obj:=fun i h st b hb=>by
  have e:b=it:=by simpa using hb
  subst e
  exact⟨_,st,fun v z=>by
   have z':Data.fields _=Data.cell v:=z
   cases z'⟩
 keep:=fun i h h' st k=>k it (by simp) _ st
 item:=by
  intro X hP hw hK hc i pins s σ H E I hf st hg
  subst hP hw hK
  obtain⟨f0,f1,f2,f3,f4,f5⟩:=hf it (by simp)
  have W:=Walks.range (prog:=X.prog) (w:=X.w) (I.ok.hd hc) it lo 1 n
  refine W.item i s _ _ hg st fun v h' tk hv st' kk=>?_
  obtain⟨t,rfl⟩:=hv
  have I1:Inv X pins σ H { s with heap:=h',toks:=tk }:=I.turned (fun b o hb e=>kk b o (by simpa using hb) e) f0 f1 f3 f4 f5
  refine⟨_,rfl,ym (s:={ s with heap:=h',toks:=tk }) (n:="range_iterator") st' rfl rfl (by decide) ⟨.int (lo+i),H,I1,⟨t,?_⟩,⟨rfl,rfl⟩,st',fun b hb=>(hf b hb).1⟩⟩
  rw[Int.mul_one]
 done:=by
  intro X hP hw hK hc i pins s σ H E I hf st hg
  subst hP hw hK
  obtain⟨f0,f1,f2,f3,f4,f5⟩:=hf it (by simp)
  exact wpAny_pyNext_range_end (I.ok.hd hc) st (by have:n<=i:=hg;omega) fun h' eb=>⟨rfl,I.turned (t':=s.toks) (fun b o hb e=>eb b o hb e) f0 f1 f3 f4 f5⟩
 self:=fun _ _ _ _ _ st h=>wpAny_pyIter_rangeiter st h
section
variable {X:Cx} {tg:Expr}
theorem wk {pins:List (Addr × Obj)} {σ:St} {H:Hp} {s:Shared} {R:It->Hp->Prop} {E:Value->Shared->Prop} {lo hi:Int} {t u v:Tok} {tk:Nat} (I:Inv X pins σ H s) (h1:-(2 ^ 62)<=lo) (h2:lo<2 ^ 62) (h3:-(2 ^ 62)<=hi) (h4:hi<2 ^ 62)
  (q:R (Itr lo (hi - lo).toNat) H):wpAny (model X.prog X.w) X.A (pyIter (.ref s.heap.objs.size)) (PIE X pins σ tg R) E { s with heap:=s.heap.push { cls:=.type "range", data:=.fields #[.int lo t,.int hi u,.int 1 v] },toks:=tk }:=by
 refine wpAny_pyIter_range (IsRange.new ..) (small_one h1 h2 h3 h4) ?_
 have I1:Inv X pins σ H { s with heap:=s.heap.push { cls:=.type "range", data:=.fields #[.int lo t,.int hi u,.int 1 v] },toks:=tk }:=I.kept fun b o e=>Heap.get?_push_of_some _ e
 refine⟨(s.heap.push { cls:=.type "range", data:=.fields #[.int lo t,.int hi u,.int 1 v] }).objs.size,[(s.heap.push { cls:=.type "range", data:=.fields #[.int lo t,.int hi u,.int 1 v] }).objs.size],_,_,H,rfl,
  I1.kept (t':=tk) fun b o e=>Heap.get?_push_of_some _ e,sd _ lo (hi - lo).toNat,?_,fun b hb=>?_,q⟩
 ·have e1:lo+((0:Nat):Int)*1=lo:=by simp
  have e2:(((hi - lo).toNat:Nat):Int) - ((0:Nat):Int)=Builtin.Range.rangeSize lo hi 1:=by rw[rangeSize_one];split<;>omega
  show IsRangeIter _ _ (lo+((0:Nat):Int)*1) ((((hi - lo).toNat:Nat):Int) - ((0:Nat):Int)) 1
  rw[e1,e2]
  exact Heap.get?_push_size _ rfl
 ·have e:b=(s.heap.push { cls:=.type "range", data:=.fields #[.int lo t,.int hi u,.int 1 v] }).objs.size:=by simpa using hb
  subst e
  exact I1.yS (Nat.le_refl _) (I1.hok.fresh (Nat.le_refl _))
noncomputable def DZ (ta:TA):TI:=fun σ H R=>ta σ H fun vs H1=>∃j:Int,vs=[.int j]/\-(2 ^ 62)<=j/\j<2 ^ 62/\R (Itr 0 j.toNat) H1
theorem vy {a:Expr} {ta:TA} {p pos:Pos} (hg:Gl X "range") (hm:X.mg "range" = none) (ha:PA X [a] ta) (hs:starEach [a] X.env=[(false,eval a X.env)]:=by rfl):PI X tg (.Call (.Name "range" p) [a] [] pos) (DZ ta):=by
 intro pins s σ H R I h
 refine Call_ (lL I hg hm boot_range (PyProof.Rows.callWith_type1 (thn (ha pos pins s σ H _ I h) fun us s1 ⟨vs,H1,I1,r1,q1⟩=>?_) hs rfl))
 obtain⟨j,e,q1,q2,q⟩:=q1
 subst e
 cases r1 with
 | cons r rr=>
  cases rr
  obtain⟨t,rfl⟩:=r
  exact call_range_1 (wk I1 (by omega) (by omega) q1 q2 (by simpa using q))
noncomputable def FI (wi:TI) (g:TG) (tb:TS):TS:=fun D σ H=>wi σ H fun J H1=>∃W:Nat->Nat->St->Hp->Prop,(∃m,W 0 m σ H1)/\∀i m σ H,W i m σ H →
 (J.stop i H/\D.nx σ H)\/(J.go i H/\∃N:St->Hp->Prop,(∀σ' H',N σ' H'->∃m',m'<m/\W (i+1) m' σ' H')/\∀x H',J.yld i H x H'->g x σ H' fun σ2 H2=>tb { D with nx:=N,ct:=N,bk:=D.nx } σ2 H2)
noncomputable def lD (fp:List Addr) (h:Heap):List (Addr × Obj):=fp.filterMap fun b=>(h.get? b).map fun o=>(b,o)
theorem fW {fp:List Addr} {h:Heap} {b:Addr} {o:Obj} (hb:b∈fp) (e:h.get? b=some o):(b,o)∈lD fp h:=List.mem_filterMap.mpr ⟨b,hb,by rw[e];rfl⟩
theorem vk {fp:List Addr} {h:Heap} {p:Addr × Obj} (hp:p∈lD fp h):p.1∈fp/\h.get? p.1=some p.2:=by
 obtain⟨b,hb,e⟩:=List.mem_filterMap.mp hp
 cases q:h.get? b with
 | none=>rw[q] at e;cases e
 | some o=>
  rw[q] at e
  have e':(b,o)=p:=Option.some.inj e
  subst e'
  exact⟨hb,q⟩
theorem Inv.pinned {pins:List (Addr × Obj)} {σ:St} {H:Hp} {s:Shared} {fp:List Addr} (I:Inv X pins σ H s) (hf:∀b∈fp,m4 X pins H b) (ho:∀b∈fp,∃o,s.heap.get? b=some o/\∀v,o.data≠.cell v):Inv X (pins++lD fp s.heap) σ H s:=
 I.kZ fun p hp=>(List.mem_append.mp hp).elim (fun z=>I.pin p (List.mem_append_right _ z)) fun z=>by
  obtain⟨hb,e⟩:=vk z
  obtain⟨f0,f1,f2,_⟩:=hf p.1 hb
  obtain⟨o,e',d⟩:=ho p.1 hb
  rw[e] at e';cases e'
  exact⟨e,f0,f1,f2,d⟩
theorem Inv.iS {pins pl:List (Addr × Obj)} {σ:St} {H:Hp} {s:Shared} (I:Inv X (pins++pl) σ H s):Inv X pins σ H s:=I.kZ fun p hp=>I.pin p (List.mem_append_right _ (List.mem_append_left _ hp))
theorem BM {iter:Expr} {body:List Stmt} {wi:TI} {g:TG} {tb:TS} {pos:Pos} (hp:PassesOwn (model X.prog X.w) X.A X.env X.xe) (hc:X.calm=true) (hi:PI X tg iter wi) (hg:PG X tg g) (hb:PSs X body tb)
  (hs:∀x,foldedSetIterable iter X.env x=pure x:=by intro _;rfl):PS X (.For tg iter body [] pos) (FI wi g tb):=by
 intro pins s σ H D I h
 refine wpAny_For (thn (hi pins s σ H _ I h) fun v s1 h1=>thn h1 fun itv s2 h2=>?_) hs
 obtain⟨it,fp,tn,J,H2,e,I2,T,st2,f2,W,⟨m0,w0⟩,turn⟩:=h2
 subst e
 -- what stays true of the iterator's objects through the loop
 have stat:∀{H':Hp},(∀b∈fp,H' b=none)->∀b∈fp,m4 X pins H' b:=fun hn b hb=>⟨hn b hb,(f2 b hb).2⟩
 refine codeAny_forLoop_any (fun n s'=>∃i σ' H',Inv X pins σ' H' s'/\tn i s'.heap/\(∀b∈fp,H' b=none)/\W i n σ' H') ?_ m0 ⟨0,σ,H2,I2,st2,fun b hb=>(f2 b hb).1,w0⟩
 rintro n s3 ⟨i,σ3,H3,I3,st3,fr3,w3⟩
 rcases turn i n σ3 H3 w3 with⟨stop,qn⟩ | ⟨go,N,hN,step⟩
 ·refine wpAny_passesOwn hp (thn (T.done X rfl rfl rfl hc i pins s3 σ3 H3 X.xe I3 (stat fr3) st3 stop) fun r s4 ⟨hr,I4⟩=>?_)
  subst hr
  exact wpAny_execs_nil ⟨σ3,H3,I4,qn⟩
 ·refine wpAny_passesOwn hp (thn (T.item X rfl rfl rfl hc i pins s3 σ3 H3 X.xe I3 (stat fr3) st3 go) fun r s4 ⟨u,hr,h4⟩=>?_)
  subst hr
  refine wpAny_passesOwn hp (thn h4 fun _ s5 ⟨x,H5,I5,r5,y5,st5,fr5⟩=>?_)
  have I5':=I5.pinned (stat fr5) (T.obj _ _ st5)
  refine wpAny_passesOwn hp (thn (hg _ s5 σ3 H5 x u _ I5' r5 (step x H5 y5)) fun _ s6 ⟨σ6,H6,I6,q6⟩=>?_)
  refine wpAny_passesOwn hp (thn (hb _ s6 σ6 H6 _ I6 q6) fun f s7 q7=>?_)
  have again:∀{σ7:St} {H7:Hp},Inv X (pins++lD fp s5.heap) σ7 H7 s7->N σ7 H7->∃m,m<n/\∃i σ' H',Inv X pins σ' H' s7/\tn i s7.heap/\(∀b∈fp,H' b=none)/\W i m σ' H':=fun{σ7 H7} I7 n7=>by
   obtain⟨m',hm,w7⟩:=hN σ7 H7 n7
   refine⟨m',hm,i+1,σ7,H7,I7.iS,T.keep _ _ _ st5 fun b hb o e=>(I7.pin (b,o) (List.mem_append_right _ (List.mem_append_right _ (fW hb e)))).1,fun b hb=>?_,w7⟩
   obtain⟨o,e,d⟩:=T.obj _ _ st5 b hb
   exact(I7.pin (b,o) (List.mem_append_right _ (List.mem_append_right _ (fW hb e)))).2.1
  cases f with
  | next=>obtain⟨σ7,H7,I7,n7⟩:=q7;exact again I7 n7
  | cont=>obtain⟨σ7,H7,I7,n7⟩:=q7;exact again I7 n7
  | brk=>obtain⟨σ7,H7,I7,q7⟩:=q7;exact⟨σ7,H7,I7.iS,q7⟩
  | ret v=>obtain⟨x7,σ7,H7,I7,r7,q7⟩:=q7;exact⟨x7,σ7,H7,I7.iS,r7,q7⟩
end
noncomputable abbrev R2:=V->V->Hp->VK->Prop
noncomputable def OpR (X:Cx) (f:Value->Value->Sem Value) (r:R2):Prop:=
 ∀(pins:List (Addr × Obj)) (s:Shared) (σ:St) (H:Hp) (x y:V) (v u:Value) (Q:VK),Inv X pins σ H s->RelV x v->RelV y u->r x y H Q →
  wpAny (model X.prog X.w) X.A (f v u) (EP X pins σ Q) X.xe s
noncomputable def UnR (X:Cx) (f:Value->Sem Value) (r:V->Hp->VK->Prop):Prop:=
 ∀(pins:List (Addr × Obj)) (s:Shared) (σ:St) (H:Hp) (x:V) (v:Value) (Q:VK),Inv X pins σ H s->RelV x v->r x H Q →
  wpAny (model X.prog X.w) X.A (f v) (EP X pins σ Q) X.xe s
noncomputable def aP (X:Cx) (f:Value) (r:List V->Hp->VK->Prop):Prop:=
 ∀(pins:List (Addr × Obj)) (s:Shared) (σ:St) (H:Hp) (xs:List V) (us:List Value) (Q:VK),Inv X pins σ H s->Vals xs us->r xs H Q →
  wpAny (model X.prog X.w) X.A (call f us) (EP X pins σ Q) X.xe s
noncomputable def FH (X:Cx) (r:V->Hp->(Bool->Hp->Prop)->Prop):Prop:=
 ∀(pins:List (Addr × Obj)) (s:Shared) (σ:St) (H:Hp) (x:V) (v:Value) (Q:Bool->Hp->Prop),Inv X pins σ H s->RelV x v->r x H Q →
  wpAny (model X.prog X.w) X.A (truthy v) (TP X pins σ Q) X.xe s
noncomputable def tOp (r:R2) (ta tb:TE):TE:=fun σ H Q=>ta σ H fun x H1=>tb σ H1 fun y H2=>r x y H2 Q
noncomputable def tUn (r:V->Hp->VK->Prop) (ta:TE):TE:=fun σ H Q=>ta σ H fun x H1=>r x H1 Q
noncomputable def rI (C:Int->Int->Prop) (g:Int->Int->V):R2:=fun x y H Q=>∃i j,x=.int i/\y=.int j/\C i j/\Q (g i j) H
noncomputable def rI0 (g:Int->Int->V):R2:=fun x y H Q=>∃i j,x=.int i/\y=.int j/\Q (g i j) H
noncomputable def rU (g:Int->V):V->Hp->VK->Prop:=fun x H Q=>∃i,x=.int i/\Q (g i) H
section
variable {X:Cx} {a b c:Expr} {ta tb tc:TE} {pos:Pos}
theorem BY (ha:PE X a ta) (hb:PE X b tb) {pins:List (Addr × Obj)} {s:Shared} {σ:St} {H:Hp} {R:V->V->Hp->Prop} (I:Inv X pins σ H s)
  (h:ta σ H fun x H1=>tb σ H1 fun y H2=>R x y H2) {Q:Value->Shared->Prop} {f:Value->Value->Sem Value}
  (hf:∀v u s2 x y H2,Inv X pins σ H2 s2->RelV x v->RelV y u->R x y H2->wpAny (model X.prog X.w) X.A (f v u) Q X.xe s2) :
  wpAny (model X.prog X.w) X.A (eval a X.env) (fun v s₁=>wpAny (model X.prog X.w) X.A (eval b X.env) (fun u s₂=>wpAny (model X.prog X.w) X.A (f v u) Q X.xe s₂) X.xe s₁) X.xe s:=by
 refine thn (ha pins s σ H _ I h) fun v s1 ⟨x,H1,I1,r1,q1⟩=>?_
 refine thn (hb pins s1 σ H1 _ I1 q1) fun u s2 ⟨y,H2,I2,r2,q2⟩=>?_
 exact hf v u s2 x y H2 I2 r1 r2 q2
theorem D9 {op:Operator} {r:R2} (ho:OpR X (binaryOp op) r) (ha:PE X a ta) (hb:PE X b tb):PE X (.BinOp a op b pos) (tOp r ta tb):=by
 intro pins s σ H Q I h
 exact wpAny_BinOp (BY ha hb I h fun v u s2 x y H2 I2 rx ry q=>ho pins s2 σ H2 x y v u Q I2 rx ry q)
theorem Dd {op:UnaryOp} {r:V->Hp->VK->Prop} (ho:UnR X (unaryOp op) r) (ha:PE X a ta):PE X (.UnaryOp op a pos) (tUn r ta):=by
 intro pins s σ H Q I h
 exact UnaryOp_ (thn (ha pins s σ H _ I h) fun v s1 ⟨x,H1,I1,r1,q1⟩=>ho pins s1 σ H1 x v Q I1 r1 q1)
theorem opI {f:Value->Value->Sem Value} {C:Int->Int->Prop} {g:Int->Int->Int}
  (rule:∀(i j:Int) (t u:Tok) (s:Shared) (Q:Value->Shared->Prop) (E:Value->Shared->Prop),C i j->Q (.int (g i j) s.toks) { s with toks:=s.toks+1 }->wpAny (model X.prog X.w) X.A (f (.int i t) (.int j u)) Q E s) :
  OpR X f (rI C fun i j=>.int (g i j)):=by
 intro pins s σ H x y v u Q I rx ry h
 obtain⟨i,j,rfl,rfl,hc,q⟩:=h
 obtain⟨t,rfl⟩:=rx
 obtain⟨t',rfl⟩:=ry
 exact rule i j t t' s _ _ hc ⟨.int (g i j),H,I.tok _,⟨_,rfl⟩,q⟩
theorem Eu {f:Value->Value->Sem Value} {g:Int->Int->Int}
  (rule:∀(i j:Int) (t u:Tok) (s:Shared) (Q:Value->Shared->Prop) (E:Value->Shared->Prop),Q (.int (g i j) s.toks) { s with toks:=s.toks+1 }->wpAny (model X.prog X.w) X.A (f (.int i t) (.int j u)) Q E s) :
  OpR X f (rI0 fun i j=>.int (g i j)):=by
 intro pins s σ H x y v u Q I rx ry h
 obtain⟨i,j,rfl,rfl,q⟩:=h
 obtain⟨t,rfl⟩:=rx
 obtain⟨t',rfl⟩:=ry
 exact rule i j t t' s _ _ ⟨.int (g i j),H,I.tok _,⟨_,rfl⟩,q⟩
theorem zj {f:Value->Value->Sem Value} {g:Int->Int->Bool}
  (rule:∀(i j:Int) (t u:Tok) (s:Shared) (Q:Value->Shared->Prop) (E:Value->Shared->Prop),Q (.bool (g i j)) s->wpAny (model X.prog X.w) X.A (f (.int i t) (.int j u)) Q E s) :
  OpR X f (rI0 fun i j=>.bl (g i j)):=by
 intro pins s σ H x y v u Q I rx ry h
 obtain⟨i,j,rfl,rfl,q⟩:=h
 obtain⟨t,rfl⟩:=rx
 obtain⟨t',rfl⟩:=ry
 exact rule i j t t' s _ _ ⟨.bl (g i j),H,I,rfl,q⟩
theorem Cr:OpR X (binaryOp .Add) (rI0 fun i j=>.int (i+j)):=Eu fun _ _ _ _ _ _ _ q=>add_int q
theorem yI:OpR X (binaryOp .Sub) (rI0 fun i j=>.int (i - j)):=Eu fun _ _ _ _ _ _ _ q=>sub_int q
theorem lb:OpR X (binaryOp .Mod) (rI (fun _ j=>0<j) fun i j=>.int (i % j)):=opI fun i j _ _ _ _ _ hc q=>by
 have h1:(0:Int)<j:=hc
 exact mod_int' (by omega) (by rw[Int.fmod_eq_emod_of_nonneg i (by omega)];exact q)
theorem unI {f:Value->Sem Value} {g:Int->Int}
  (rule:∀(i:Int) (t:Tok) (s:Shared) (Q:Value->Shared->Prop) (E:Value->Shared->Prop),Q (.int (g i) s.toks) { s with toks:=s.toks+1 }->wpAny (model X.prog X.w) X.A (f (.int i t)) Q E s) :
  UnR X f (rU fun i=>.int (g i)):=by
 intro pins s σ H x v Q I rx h
 obtain⟨i,rfl,q⟩:=h
 obtain⟨t,rfl⟩:=rx
 exact rule i t s _ _ ⟨.int (g i),H,I.tok _,⟨_,rfl⟩,q⟩
theorem Bb:UnR X (unaryOp .USub) (rU fun i=>.int (-i)):=unI fun _ _ _ _ _ q=>neg_int q
end
section
variable {X:Cx} {a b c:Expr} {ta tb tc:TE} {pos:Pos}
theorem AD:OpR X (compareOp .Lt) (rI0 fun i j=>.bl (decide (i<j))):=zj fun _ _ _ _ _ _ _ q=>lt_int q
theorem nN:OpR X (compareOp .LtE) (rI0 fun i j=>.bl (decide (i<=j))):=zj fun _ _ _ _ _ _ _ q=>le_int q
theorem sC:OpR X (compareOp .Gt) (rI0 fun i j=>.bl (decide (j<i))):=zj fun _ _ _ _ _ _ _ q=>gt_int q
theorem Dw:OpR X (compareOp .GtE) (rI0 fun i j=>.bl (decide (j<=i))):=zj fun _ _ _ _ _ _ _ q=>ge_int q
theorem bL (b:Expr) {op:CmpOp} (h:op≠.In:=by decide) (h2:op≠.NotIn:=by decide):behindInMarks op b=false:=by
 have e1:(op == CmpOp.In)=false:=by cases op<;>first | rfl | exact absurd rfl h
 have e2:(op == CmpOp.NotIn)=false:=by cases op<;>first | rfl | exact absurd rfl h2
 cases b<;>simp[behindInMarks,e1,e2]
theorem zI {op:CmpOp} {r:R2} (ho:OpR X (compareOp op) r) (ha:PE X a ta) (hb:PE X b tb) (hm:behindInMarks op b=false):PE X (.Compare a [op] [b] pos) (tOp r ta tb):=by
 intro pins s σ H Q I h
 exact wpAny_Compare1 (BY ha hb I h fun v u s2 x y H2 I2 rx ry q=>ho pins s2 σ H2 x y v u Q I2 rx ry q) hm
noncomputable def wH (t:TE):TT:=fun σ H Q=>t σ H fun x H'=>∃k,x=.bl k/\Q k H'
theorem zr {op:CmpOp} {r:R2} (ho:OpR X (compareOp op) r) (ha:PE X a ta) (hb:PE X b tb) (hm:behindInMarks op b=false):PT X (.Compare a [op] [b] pos) (wH (tOp r ta tb)):=by
 intro pins s σ H Q I h
 refine wpAny_isTrue_Compare1 (thn (ha pins s σ H _ I h) fun v s1 ⟨x,H1,I1,r1,q1⟩=>thn (hb pins s1 σ H1 _ I1 q1) fun u s2 ⟨y,H2,I2,r2,q2⟩=>
  thn (ho pins s2 σ H2 x y v u _ I2 r1 r2 q2) fun c s3 ⟨z,H3,I3,r3,k,e,q3⟩=>?_) hm
 subst e
 cases r3
 exact wpAny_truthy_bool ⟨H3,I3,q3⟩
noncomputable def rQ (r r':R2) (ta tb tc:TE):TE:=fun σ H Q=>ta σ H fun x H1=>tb σ H1 fun y H2=>r x y H2 fun z H3=>∃k,z=.bl k ∧
 (if k=true then tc σ H3 fun w' H4=>r' y w' H4 Q else Q (.bl false) H3)
theorem xu {op op':CmpOp} {r r':R2} (ho:OpR X (compareOp op) r) (ho':OpR X (compareOp op') r') (ha:PE X a ta) (hb:PE X b tb) (hc:PE X c tc)
  (hm:lastMarks [op,op'] [b,c]=false:=by with_unfolding_all rfl):PE X (.Compare a [op,op'] [b,c] pos) (rQ r r' ta tb tc):=by
 intro pins s σ H Q I h
 refine Compare_chain (thn (ha pins s σ H _ I h) fun v s1 ⟨x,H1,I1,r1,q1⟩=>chain_link (thn (hb pins s1 σ H1 _ I1 q1) fun u s2 ⟨y,H2,I2,r2,q2⟩=>
  thn (ho pins s2 σ H2 x y v u _ I2 r1 r2 q2) fun d s3 ⟨z,H3,I3,r3,k,e,q3⟩=>?_)) hm
 subst e
 cases r3
 refine wpAny_truthy_bool ?_
 cases k with
 | false=>exact ite_ff ⟨.bl false,H3,I3,rfl,q3⟩
 | true=>exact ite_tt (chain_last (thn (hc pins s3 σ H3 _ I3 q3) fun w' s4 ⟨z',H4,I4,r4,q4⟩=>ho' pins s4 σ H4 y z' u w' Q I4 r2 r4 q4))
theorem xj {op op':CmpOp} {r r':R2} (ho:OpR X (compareOp op) r) (ho':OpR X (compareOp op') r') (ha:PE X a ta) (hb:PE X b tb) (hc:PE X c tc)
  (hm:lastMarks [op,op'] [b,c]=false:=by with_unfolding_all rfl):PT X (.Compare a [op,op'] [b,c] pos) (wH (rQ r r' ta tb tc)):=by
 intro pins s σ H Q I h
 refine isTrue_chain (thn (ha pins s σ H _ I h) fun v s1 ⟨x,H1,I1,r1,q1⟩=>test_link (thn (hb pins s1 σ H1 _ I1 q1) fun u s2 ⟨y,H2,I2,r2,q2⟩=>
  thn (ho pins s2 σ H2 x y v u _ I2 r1 r2 q2) fun d s3 ⟨z,H3,I3,r3,k,e,q3⟩=>?_)) hm
 subst e
 cases r3
 refine wpAny_truthy_bool ?_
 cases k with
 | false=>
  obtain⟨k',e',q'⟩:=q3
  cases e'
  exact ite_ff ⟨H3,I3,q'⟩
 | true=>
  refine ite_tt (test_last (thn (hc pins s3 σ H3 _ I3 q3) fun w' s4 ⟨z',H4,I4,r4,q4⟩=>thn (ho' pins s4 σ H4 y z' u w' _ I4 r2 r4 q4) fun d' s5 ⟨z2,H5,I5,r5,k2,e2,q5⟩=>?_))
  subst e2
  cases r5
  exact wpAny_truthy_bool ⟨H5,I5,q5⟩
noncomputable def zg (K:PySem.W.Frag) (x:V) (H:Hp) (k:Bool):Prop:=
 match x with
 | .non=>k=false
 | .bl b=>k=b
 | .int i=>k=(i != 0)
 | .str y=>y.length<=sizeLine/\k=((y.length:Int) != 0)
 | .byt y=>y.size<=sizeLine/\k=((y.size:Int) != 0)
 | .ref p=>(∃xs,SqL K H p xs/\k = !xs.isEmpty)\/(∃xs,SqT K H p xs/\k = !xs.isEmpty)\/∃kvs,H p=some (.dK kvs)/\k = !kvs.isEmpty
 | _=>False
theorem sj {κ:Type} {kvs:List (κ × V)} {vs:List (κ × Value)} (r:KV kvs vs):(!vs.isEmpty) = !kvs.isEmpty:=by
 cases r<;>rfl
theorem lW {xs:List V} {its:List Value} (r:Vals xs its):(!its.toArray.isEmpty) = !xs.isEmpty:=by
 cases r<;>simp
theorem iy:(sizeLine:Nat)<2 ^ 63:=by rw[sizeLine_eq];decide
theorem Bw:FH X (fun x H Q=>∃k,zg X.K x H k/\Q k H):=by
 intro pins s σ H x v Q I rx h
 obtain⟨k,e,q⟩:=h
 have hl:=iy
 have hs:sizeLine=16777216:=sizeLine_eq
 cases x with
 | non=>
  cases rx
  have e':k=false:=e
  subst e'
  exact truthy_none ⟨H,I,q⟩
 | bl b=>
  cases rx
  have e':k=b:=e
  subst e'
  exact wpAny_truthy_bool ⟨H,I,q⟩
 | int i=>
  obtain⟨t,rfl⟩:=rx
  have e':k=(i != 0):=e
  subst e'
  exact PySem.P.truthy_int ⟨H,I,q⟩
 | str y=>
  obtain⟨t,rfl⟩:=rx
  obtain⟨hy,e'⟩:y.length<=sizeLine/\k=((y.length:Int) != 0):=e
  subst e'
  exact PySem.P.truthy_str (by omega) ⟨H,I.tok _,q⟩
 | byt y=>
  obtain⟨t,rfl⟩:=rx
  obtain⟨hy,e'⟩:y.size<=sizeLine/\k=((y.size:Int) != 0):=e
  subst e'
  exact PySem.W.truthy_bytes (by omega) ⟨H,I.tok _,q⟩
 | ref p=>
  cases rx
  have e':(∃xs,SqL X.K H p xs/\k = !xs.isEmpty)\/(∃xs,SqT X.K H p xs/\k = !xs.isEmpty)\/∃kvs,H p=some (.dK kvs)/\k = !kvs.isEmpty:=e
  rcases e' with⟨xs,hx,e'⟩ | ⟨xs,hx,e'⟩ | ⟨kvs,hx,e'⟩
  ·subst e'
   obtain⟨its,r,pl,hz⟩:=I.list hx
   have hlen:=r.length
   exact wpAny_truthy_list pl.isList (by simp only[List.size_toArray];omega) ⟨H,I.tok _,by rw[lW r];exact q⟩
  ·subst e'
   obtain⟨its,r,pl,hz⟩:=I.tuple hx
   have hlen:=r.length
   exact truthy_tuple pl (by simp only[List.size_toArray];omega) ⟨H,I.tok _,by rw[lW r];exact q⟩
  ·subst e'
   obtain⟨hz,hS,vs,r,m⟩:kvs.length<=sizeLine/\(p == sysModules)=false/\∃vs,KV kvs vs/\s.heap.DictOf (oP X.prog X.w) p vs:=I.hok p _ hx
   have hlen:kvs.length=vs.length:=Paired.length r
   exact wpAny_truthy_dict hS m (by omega) ⟨H,I.tok _,by rw[sj r];exact q⟩
 | _=>exact(show False from e).elim
theorem we (ha:PE X a ta) (he:∀whole,isTrue a X.env whole=(do let v ← whole;standAt a.pos;holding [v] (truthy v))) :
  PT X a (fun σ H Q=>ta σ H fun x H'=>∃k,zg X.K x H' k/\Q k H'):=by
 intro pins s σ H Q I h
 exact isTrue_plain (thn (ha pins s σ H _ I h) fun v s1 ⟨x,H1,I1,r1,q1⟩=>Bw pins s1 σ H1 x v Q I1 r1 q1) (he _)
theorem rf:OpR X (binaryOp .Add) (fun x y H Q=>∃i j,x=.str i/\y=.str j/\i.length+j.length<=sizeLine/\Q (.str (i++j)) H):=by
 intro pins s σ H x y v u Q I rx ry h
 obtain⟨i,j,rfl,rfl,hz,q⟩:=h
 obtain⟨t,rfl⟩:=rx
 obtain⟨t',rfl⟩:=ry
 exact add_str (fun t' tk=>⟨.str (i++j),H,I.tok _,⟨_,rfl⟩,q⟩) hz
theorem vals1 {x:V} {us:List Value} (r:Vals [x] us):∃u,us=[u]/\RelV x u:=by
 cases r with
 | cons r1 r2=>cases r2;exact⟨_,rfl,r1⟩
theorem vals2 {x y:V} {us:List Value} (r:Vals [x,y] us):∃u w',us=[u,w']/\RelV x u/\RelV y w':=by
 cases r with
 | cons r1 r2=>
  cases r2 with
  | cons r3 r4=>cases r4;exact⟨_,_,rfl,r1,r3⟩
theorem uf (hc:X.calm=true):aP X (.builtin "max") (fun xs H Q=>∃i j,xs=[.int i,.int j]/\Q (.int (if j > i then j else i)) H):=by
 intro pins s σ H xs us Q I r h
 obtain⟨i,j,rfl,q⟩:=h
 obtain⟨u,w',rfl,⟨t,rfl⟩,⟨t',rfl⟩⟩:=vals2 r
 refine max_two_ints (I.ok.hd hc) fun h' tk k=>⟨_,H,I.kept k,?_,q⟩
 by_cases hj:j > i
 ·rw[if_pos hj,if_pos hj];exact⟨_,rfl⟩
 ·rw[if_neg hj,if_neg hj];exact⟨_,rfl⟩
theorem vv:aP X (.type "int") (fun xs H Q=>(∃i,xs=[.int i]/\Q (.int i) H)\/∃k,xs=[.bl k]/\Q (.int (if k then 1 else 0)) H):=by
 intro pins s σ H xs us Q I r h
 rcases h with⟨i,rfl,q⟩ | ⟨k,rfl,q⟩
 ·obtain⟨u,rfl,t,rfl⟩:=vals1 r
  exact call_int_int ⟨.int i,H,I,⟨_,rfl⟩,q⟩
 ·obtain⟨u,rfl,r1⟩:=vals1 r
  cases r1
  exact call_int_bool ⟨.int (if k then 1 else 0),H,I.tok _,⟨_,rfl⟩,q⟩
end
structure Cc (h:Heap) (x dx C:Addr) (mA:Str->Option Value):Prop where
 obj:h.get? x=some (PySem.W.instObj C dx)
 ns:h.Ns1 dx mA
 ne:dx≠x
theorem uI {h:Heap} {dx:Addr} {mA:Str->Option Value} (n:h.Ns1 dx mA):∃od,h.get? dx=some od/\∀name,PySem.W.lookIn name od=some (mA name):=by
 obtain⟨o,es,ep,ho,hd,hk,_,hm⟩:=n
 refine⟨o,ho,fun name=>?_⟩
 have e:=hm name
 unfold nsFind findBy at e
 rw[<- Array.find?_toList] at e
 unfold PySem.W.lookIn
 rw[hd]
 dsimp only
 split
 ·rename_i y q
  rw[q] at e
  exact congrArg some e
 ·rename_i q
  rw[q] at e
  have a:es.toList.any (·.refKey)=false:=by
   rw[List.any_eq_false]
   intro y hy
   obtain⟨z,t,hkey⟩:=hk y (Array.mem_toList_iff.mp hy)
   simp[DictEntry.refKey,hkey]
  have a':¬ es.toList.any (·.refKey)=true:=by rw[a];exact Bool.false_ne_true
  rw[if_neg a']
  exact congrArg some e
theorem Cc.look {h:Heap} {x dx C:Addr} {mA:Str->Option Value} (I:Cc h x dx C mA):∃od,PySem.W.InstAt h x (PySem.W.instObj C dx) C (some od)/\∀name,PySem.W.lookIn name od=some (mA name):=
 let ⟨od,ho,hl⟩:=uI I.ns
 ⟨od,⟨I.obj,rfl,rfl,ho⟩,hl⟩
section
variable {P:Program} {w:World} {H H':Hp} {h h':Heap} {a C dx:Addr} {fs fs':List (Str × V)}
theorem Ah (hok:HOk P w H h) (e:H a=some (.ins C dx fs)):∃mA,Cc h a dx C mA/\(∀f,Bl (fs.lookup f) (mA f))/\PySem.Within mA (fs.map (·.1))/\fs.length<=1000/\H dx=some (.own a):=by
 obtain⟨d,z,ne,ob,mA,n,r,q⟩:=(show bO P w H h a (.ins C dx fs) from hok a _ e)
 exact⟨mA,⟨ob,n,ne⟩,r,q,z,d⟩
end
structure Cls (K:PySem.W.Frag) (C:Addr):Prop where
 pg:PySem.W.plainGet K C Str.empty=true
 hd:PySem.W.hasDictIn K C=true
 po:PySem.W.plainOver K C=true
 sa:PySem.W.findIn K (.ref C) "__setattr__" = some (some (.builtin "object.__setattr__"))
theorem Cls.get {K:PySem.W.Frag} {C:Addr} (c:Cls K C) (f:Str):PySem.W.plainGet K C f=true:=c.pg
section
variable {X:Cx} {pins:List (Addr × Obj)} {σ:St} {H:Hp} {s:Shared} {a C dx:Addr} {fs:List (Str × V)} {f:Str} {v:V} {A:Around} {E:Value->Shared->Prop}
theorem Aa {prog:Program} {w:World} {env:Env} {e:Expr} {f:Str} {pos:Pos} {s:Shared} {Q:Value->Shared->Prop} (hb:attributeBase e f env (eval e env)=eval e env)
  (h:wpAny (model prog w) A (eval e env) (fun o s₁=>wpAny (model prog w) A (getAttr o f true) Q E s₁) E s):wpAny (model prog w) A (eval (.Attribute e f pos) env) Q E s:=
 Attribute_any_ h (by rw[arm_eval_Attribute,hb])
end
section
variable {X:Cx} {pins:List (Addr × Obj)} {σ:St} {H:Hp} {s:Shared} {A:Around} {E:Value->Shared->Prop} {Q:Value->Shared->Prop} {c:Value} {b:Bool}
inductive iF (K:PySem.W.Frag) (H:Hp):V->Value->Prop where
 | non:iF K H .non (.type "NoneType")
 | bl (x:Bool):iF K H (.bl x) (.type "bool")
 | int (i:Int):iF K H (.int i) (.type "int")
 | str (x:Str):iF K H (.str x) (.type "str")
 | flt (x:UInt64):iF K H (.flt x) (.type "float")
 | lst {a:Addr} {xs:List V} (e:H a=some (.lst xs)):iF K H (.ref a) (.type "list")
 | frz {a:Addr} {o:Obj} {xs:List V} (e:H a=some (.frz o (.lst xs))):iF K H (.ref a) (.type "list")
 | tup {a:Addr} {xs:List V} (e:H a=some (.tup xs)):iF K H (.ref a) (.type "tuple")
 | fk {a:Addr} {o:Obj} {kvs:List (Key × V)} (e:H a=some (.frz o (.dK kvs))):iF K H (.ref a) (.type "dict")
 | dK {a:Addr} {kvs:List (Key × V)} (e:H a=some (.dK kvs)):iF K H (.ref a) (.type "dict")
 | dT {a:Addr} {kvs:List (List Key × V)} (e:H a=some (.dT kvs)):iF K H (.ref a) (.type "dict")
 | ins {a C dx:Addr} {fs:List (Str × V)} (e:H a=some (.ins C dx fs)) (cl:Cls K C) (ha:PySem.W.findIn K (.ref C) "__class__" = some (some (.builtin "object.__class__")))
   (hn:PySem.W.specialIn K (.builtin "object.__class__") "__get__" = some (some (.builtin "getset_descriptor.__get__"))) (htk:PySem.W.takesIn K (.builtin "object.__class__")=some true)
   (hm:PySem.W.mroIn K C (.type "object")=some true):iF K H (.ref a) (.ref C)
theorem uC {x:V} {u t:Value} (I:Inv X pins σ H s) (rx:RelV x u) (ty:iF X.K H x t) (e:PySem.W.kitOne X.K t c=some b) (h:∀tk,Q (.bool b) { s with toks:=tk }) :
  wpAny (model X.prog X.w) A (call (.builtin "isinstance") [u,c]) Q E s:=by
 cases ty with
 | non=>cases (show u=Value.none from rx);exact PySem.W.kia_one PySem.W.kitx_none I.kIn True.intro e (fun z=>nomatch z) h
 | bl y=>cases (show u=Value.bool y from rx);exact PySem.W.kia_one PySem.W.kitx_bool I.kIn True.intro e (fun z=>nomatch z) h
 | int i=>obtain⟨t,q⟩:=(show ∃t,u=Value.int i t from rx);cases q;exact PySem.W.kia_one PySem.W.kitx_int I.kIn True.intro e (fun z=>nomatch z) h
 | str y=>obtain⟨t,q⟩:=(show ∃t,u=Value.str y t from rx);cases q;exact PySem.W.kia_one PySem.W.kitx_str I.kIn True.intro e (fun z=>nomatch z) h
 | flt y=>obtain⟨t,q⟩:=(show ∃t,u=Value.float y t from rx);cases q;exact PySem.W.kia_one PySem.W.kitx_float I.kIn True.intro e (fun z=>nomatch z) h
 | @lst a xs ea=>
  cases (show u=Value.ref a from rx)
  obtain⟨_,_,n,_,h1⟩:=(show bO X.prog X.w H s.heap a (.lst xs) from I.hok a _ ea)
  exact PySem.W.kia_one PySem.W.kitx_list I.kIn ⟨_,h1,rfl⟩ e (fun z=>nomatch z) h
 | @frz a ob xs ea=>
  cases (show u=Value.ref a from rx)
  obtain⟨_,_,_,n,_,h1⟩:=(show bO X.prog X.w H s.heap a (.frz ob (.lst xs)) from I.hok a _ ea)
  exact PySem.W.kia_one PySem.W.kitx_list I.kIn ⟨_,h1,rfl⟩ e (fun z=>nomatch z) h
 | @tup a xs ea=>
  cases (show u=Value.ref a from rx)
  obtain⟨_,_,_,p⟩:=(show bO X.prog X.w H s.heap a (.tup xs) from I.hok a _ ea)
  obtain⟨o,h1,⟨h2,_⟩,_⟩:=p
  exact PySem.W.kia_one PySem.W.kitx_tuple I.kIn ⟨o,h1,h2⟩ e (fun z=>nomatch z) h
 | @fk a ob kvs ea=>
  cases (show u=Value.ref a from rx)
  obtain⟨_,_,_,vs,_,p⟩:=(show bO X.prog X.w H s.heap a (.frz ob (.dK kvs)) from I.hok a _ ea)
  obtain⟨o,es,ep,h1,h2,_⟩:=p
  exact PySem.W.kia_one PySem.W.kitx_dict I.kIn ⟨o,h1,h2.1⟩ e (fun z=>nomatch z) h
 | @dK a kvs ea=>
  cases (show u=Value.ref a from rx)
  obtain⟨_,_,vs,_,p⟩:=(show bO X.prog X.w H s.heap a (.dK kvs) from I.hok a _ ea)
  obtain⟨o,es,ep,h1,h2,_⟩:=p
  exact PySem.W.kia_one PySem.W.kitx_dict I.kIn ⟨o,h1,h2.1⟩ e (fun z=>nomatch z) h
 | @dT a kvs ea=>
  cases (show u=Value.ref a from rx)
  obtain⟨_,_,xs,_,o,es,ep,h1,h2,_⟩:=(show bO X.prog X.w H s.heap a (.dT kvs) from I.hok a _ ea)
  exact PySem.W.kia_one PySem.W.kitx_dict I.kIn ⟨o,h1,h2.1⟩ e (fun z=>nomatch z) h
 | @ins a C dx fs ea cl ha hn htk hm=>
  cases (show u=Value.ref a from rx)
  obtain⟨mA,O,_⟩:=Ah I.hok ea
  obtain⟨od,J,_⟩:=O.look
  exact PySem.W.kia_one (PySem.W.kitx_own (cl.get _) cl.hd ha hn htk hm) I.kIn J e (fun z=>nomatch z) h
end
structure cO (k:Nat) (A:Around):Prop where
 hd:A.handled=none
 dp:A.depth+3*k+5<recursionLimit
 un:A.units+16*k+200<cLine
 gd:A.guards=some []
theorem cO.mono {j k:Nat} {A:Around} (r:cO k A) (h:j<=k):cO j A:=⟨r.hd,by have:=r.dp;omega,by have:=r.un;omega,r.gd⟩
theorem cO.deeper {k:Nat} {A:Around} (r:cO (k+1) A) (env:Env):cO k (A.deeper env):=
 ⟨r.hd,by have:=r.dp;show A.depth+1+3*k+5<_;omega,by have:=r.un;show A.units+3+16*k+200<_;omega,r.gd⟩
theorem cO.depth {k:Nat} {A:Around} (r:cO k A):A.depth<recursionLimit:=by have:=r.dp;omega
theorem cO.units {k:Nat} {A:Around} (r:cO k A):A.units+64<cLine:=by have:=r.un;omega
noncomputable def De:TA:=fun _ H Q=>Q [] H
noncomputable def AU (ta:TE) (tr:TA):TA:=fun σ H Q=>ta σ H fun x H1=>tr σ H1 fun xs H2=>Q (x::xs) H2
section
variable {X:Cx} {e:Expr} {es:List Expr} {te:TE} {t:TA} {pos:Pos}
theorem gS:PA X [] De:=fun _ _ _ _ H Q I h=>Calls.spliced_nil ⟨[],H,I,.nil,h⟩
theorem c_ (ha:PE X e te) (hr:PA X es t) (hs:starEach (e::es) X.env=(false,eval e X.env)::starEach es X.env:=by rfl):PA X (e::es) (AU te t):=by
 intro pos pins s σ H Q I h
 rw[hs]
 show wpAny _ _ (spliced ((false,eval e X.env)::backTo pos (starEach es X.env))) _ _ s
 refine Calls.spliced_cons (thn (ha pins s σ H _ I h) fun u s1 ⟨x,H1,I1,r1,q1⟩=>?_)
 exact thn (hr pos pins s1 σ H1 _ I1 q1) fun us s2 ⟨xs,H2,I2,r2,q2⟩=>⟨x::xs,H2,I2,.cons r1 r2,q2⟩
noncomputable def E3 (t:TA):TE:=fun σ H Q=>t σ H fun xs H1=>xs.length<=sizeLine/\∀p,H1 p=none->Q (.ref p) (upd H1 p (.tup xs))
noncomputable def F5 (t:TA):TE:=fun σ H Q=>t σ H fun xs H1=>xs.length<=sizeLine/\∀p,H1 p=none->Q (.ref p) (upd H1 p (.lst xs))
theorem C6 {x1} (h:PA X es t):PE X (.Tuple es x1 pos) (E3 t):=by
 intro pins s σ H Q I hq
 refine wpAny_Tuple_spliced (thn (h pos pins s σ H _ I hq) fun us s1 ⟨xs,H1,I1,r,z,q⟩=>⟨by rw[<- r.length];exact z,?_⟩)
 have hf:H1 s1.heap.objs.size=none:=I1.hok.fresh (Nat.le_refl _)
 refine⟨.ref s1.heap.objs.size,upd H1 s1.heap.objs.size (.tup xs),I1.laid (t':=s1.toks) (fun b u e=>Heap.get?_push_of_some _ e) (Nat.le_refl _) ?_,rfl,q _ hf⟩
 exact⟨z,us,r,⟨_,Heap.get?_push_size _ rfl,⟨rfl,_,rfl⟩,rfl⟩⟩
theorem A_ (h:PA X es t):PE X (.List es pos) (F5 t):=by
 intro pins s σ H Q I hq
 refine wpAny_List_spliced (thn (h pos pins s σ H _ I hq) fun us s1 ⟨xs,H1,I1,r,z,q⟩=>⟨by rw[<- r.length];exact z,?_⟩)
 have hf:H1 s1.heap.objs.size=none:=I1.hok.fresh (Nat.le_refl _)
 refine⟨.ref s1.heap.objs.size,upd H1 s1.heap.objs.size (.lst xs),I1.laid (t':=s1.toks) (fun b u e=>Heap.get?_push_of_some _ e) (Nat.le_refl _) ?_,rfl,q _ hf⟩
 exact⟨z,us,0,r,Heap.get?_push_size _ rfl⟩
end
noncomputable abbrev Sp:=List V->Hp->VK->XK->Prop
noncomputable abbrev CXT:=List Env->Hp->Shared->XK->Value->Shared->Prop
structure xq (P:Program) (w:World) (K:PySem.W.Frag) (mg:Str->Option Value) (base:Heap) (A:Around) (outer:List Env) (s:Shared) (H:Hp):Prop where
 frames:A.frames=some outer
 mod:Mod K mg base
 bs:∀b o,base.get? b=some o->s.heap.get? b=some o/\H b=none
 bsz:base.objs.size<=s.heap.objs.size
 hG:s.heap.FunFrames base outer
 frf:∀b∈frs outer,H b=none
 hok:HOk P w H s.heap
 bare:AllBare s.gens
noncomputable def CE (outer:List Env) (P:Program) (w:World) (H:Hp) (s:Shared) (Q:VK) (u:Value) (s':Shared):Prop:=
 ∃v H',s'.os=s.os/\AllBare s'.gens/\Un (frs outer) [] H H' s.heap s'.heap/\HOk P w H' s'.heap/\RelV v u/\Q v H'
noncomputable def CR (CX:CXT) (outer:List Env) (P:Program) (w:World) (H:Hp) (s:Shared) (Q:VK) (E:XK) (r:Result) (s':Shared):Prop:=
 match r with
 | .ok (.ret u)=>CE outer P w H s Q u s'
 | .ok _=>False
 | .error e=>CX outer H s E e s'
structure dq (P:Program) (w:World) (K:PySem.W.Frag) (mg:Str->Option Value) (base:Heap) (CX:CXT) (k:Nat) (f:Addr) (fd:FuncData) (ps:List Str) (sp:Sp):Prop where
 len:∀vs H Q E,sp vs H Q E->vs.length=ps.length
 run:∀(A:Around) (outer:List Env) (s:Shared) (H:Hp) (args:Args) (us:List Value) (vs:List V) (Q:VK) (E:XK),cO k A->xq P w K mg base A outer s H->BindsTo s fd args (ps.zip us)->Vals vs us->sp vs H Q E →
  codeAny (model P w) A (.call (.ref f) args) (CR CX outer P w H s Q E) s
theorem dq.mono {P:Program} {w:World} {K:PySem.W.Frag} {mg:Str->Option Value} {base:Heap} {CX:CXT} {j k:Nat} {f:Addr} {fd:FuncData} {ps:List Str} {sp:Sp} (F:dq P w K mg base CX j f fd ps sp) (h:j<=k) :
  dq P w K mg base CX k f fd ps sp:=⟨F.len,fun A outer s H args us vs Q E hr=>F.run A outer s H args us vs Q E (hr.mono h)⟩
theorem dq.imp {P:Program} {w:World} {K:PySem.W.Frag} {mg:Str->Option Value} {base:Heap} {CX:CXT} {k:Nat} {f:Addr} {fd:FuncData} {ps:List Str} {sp sp':Sp} (F:dq P w K mg base CX k f fd ps sp)
  (h:∀vs H Q E,sp' vs H Q E->sp vs H Q E):dq P w K mg base CX k f fd ps sp':=
 ⟨fun vs H Q E q=>F.len vs H Q E (h _ _ _ _ q),fun A outer s H args us vs Q E hr he hb hv hs=>F.run A outer s H args us vs Q E hr he hb hv (h _ _ _ _ hs)⟩
section
variable {X:Cx} {pins:List (Addr × Obj)} {σ:St} {H:Hp} {s s':Shared}
theorem Inv.Dy (I:Inv X pins σ H s):xq X.prog X.w X.K X.mg X.base X.A X.stack s H:=
 ⟨I.ok.frames,I.ok.mod,I.bs,Nat.le_trans I.ok.bsz I.sz,I.stack,I.pG,I.hok,I.bare⟩
theorem Inv.after {Q:VK} {u:Value} (I:Inv X pins σ H s) (h:CE X.stack X.prog X.w H s Q u s'):EP X pins σ Q u s':=by
 obtain⟨v,H',os,bare,un,hok,r,q⟩:=h
 obtain⟨hh,g,d,t,os'⟩:=s'
 obtain rfl:os'=s.os:=os
 exact⟨v,H',I.call (h':=hh) (g':=g) (d':=d) (t':=t) (ch:=[]) un hok bare (fun b z=>absurd z (by simp)),r,q⟩
end
noncomputable def AF (sp:Sp) (dvs:List V) (E:XK) (t:TA):TE:=fun σ H Q=>t σ H fun vs H1=>sp (vs++dvs) H1 Q E
noncomputable def Binds (K:PySem.W.Frag) (fd:FuncData) (ps:List Str) (ds:List Value):Prop:=
 ∀(s:Shared) (us:List Value),K.In s.heap->(us++ds).length=ps.length->BindsTo s fd ⟨us,[]⟩ (ps.zip (us++ds))
theorem Binds.all {K:PySem.W.Frag} {fd:FuncData} {ps:List Str} (h:∀us:List Value,us.length=ps.length->bindArgs fd ⟨us,[]⟩=pure (ps.zip us)):Binds K fd ps []:=fun s us _ hl=>by
 rw[List.append_nil] at hl ⊢
 exact .of_eq (h us hl)
noncomputable def Passes (CX:CXT) (X:Cx) (E:XK):Prop:=∀(pins:List (Addr × Obj)) (σ:St) (H:Hp) (s:Shared) (e:Value) (s':Shared),Inv X pins σ H s->CX X.stack H s E e s'->X.xe e s'
section
variable {X:Cx} {CX:CXT} {k:Nat} {f C:Addr} {fd:FuncData} {ps:List Str} {sp:Sp} {dvs:List V} {ds:List Value} {E:XK} {x m:Str} {p pos apos:Pos} {e o:Expr} {es:List Expr} {ta:TE} {t:TA}
theorem wc {pins:List (Addr × Obj)} {σ:St} {H:Hp} {s:Shared} {Q:VK} {us:List Value} {vs:List V} (F:dq X.prog X.w X.K X.mg X.base CX k f fd ps sp) (hr:cO k X.A) (hb:Binds X.K fd ps ds) (hd:Vals dvs ds) (hx:Passes CX X E)
  (I:Inv X pins σ H s) (r:Vals vs us) (h:sp (vs++dvs) H Q E):wpAny (model X.prog X.w) X.A (call (.ref f) us) (EP X pins σ Q) X.xe s:=by
 have r2:Vals (vs++dvs) (us++ds):=r.append hd
 have hl:(us++ds).length=ps.length:=by rw[<- r2.length];exact F.len _ _ _ _ h
 refine wpAny_call (codeAny_mono (F.run X.A X.stack s H ⟨us,[]⟩ (us++ds) (vs++dvs) Q E hr I.Dy (hb s us I.kIn hl) r2 h) fun r s' hq=>?_)
 cases r with
 | error e=>exact hx pins σ H s e s' I hq
 | ok fl=>
  cases fl with
  | ret u=>exact I.after hq
  | next=>exact False.elim hq
  | brk=>exact False.elim hq
  | cont=>exact False.elim hq
theorem t7 (F:dq X.prog X.w X.K X.mg X.base CX k f fd ps sp) (hr:cO k X.A) (hg:Gl X x) (hm:X.mg x=some (.ref f)) (hk:PySem.W.keepIn X.K (.ref f)=true) (hb:Binds X.K fd ps ds) (hd:Vals dvs ds) (hx:Passes CX X E)
  (ha:PA X (e::es) t) (hdb:(x == ("__debug__" : Str))=false:=by decide) (he:starEach (e::es) X.env=(false,eval e X.env)::starEach es X.env:=by rfl) (hpl:(backTo pos (starEach es X.env)).any (·.1)=false:=by rfl) :
  PE X (.Call (.Name x p) (e::es) [] pos) (AF sp dvs E t):=by
 intro pins s σ H Q I h
 refine wpAny_Call_Name_kw (g8 I hg hm ?_ hdb)
 refine PySem.W.callWith_K (h₀:=X.base) I.ok.mod.kin hk (thn (ha pos pins s σ H _ I h) fun us s1 ⟨vs,H1,I1,r,q⟩=>⟨I1.kIn,?_⟩) he hpl
 exact wc F hr hb hd hx I1 r q
end
structure aN (N P:List Str) (sc:Scope):Prop where
 kind:sc.kind=.function
 co:sc.isCoroutine=false
 gen:sc.isGenerator=false
 nd:N.Nodup
 pre:N.take P.length=P
 par:∀x∈P,sc.names.lookup x=some .local\/sc.names.lookup x=some .cell
 Cg:∀y∈sc.names,y.2≠.free
theorem nu {kindOf:Str->Option NameKind} {x:Str}:∀{binds:List (Str × Value)} {m:Str->Option Value},(∀v,(x,v)∉binds)->bindL kindOf binds m x=m x
 | [],_,_=>rfl
 | (n,v)::r,m,h=>by
  unfold bindL
  rw[nu fun w hw=>h w (List.mem_cons_of_mem _ hw)]
  split
  ·have:x≠n:=by rintro rfl;exact h v List.mem_cons_self
   simp[this]
  ·rfl
theorem nj {kindOf:Str->Option NameKind} {x:Str}:∀{binds:List (Str × Value)} {m:Str->Option Value},(∀v,(x,v)∉binds)->bindC kindOf binds m x=m x
 | [],_,_=>rfl
 | (n,v)::r,m,h=>by
  unfold bindC
  rw[nj fun w hw=>h w (List.mem_cons_of_mem _ hw)]
  split
  ·rfl
  ·have:x≠n:=by rintro rfl;exact h v List.mem_cons_self
   simp[this]
theorem nV {kindOf:Str->Option NameKind} {x:Str} {v:Value}:∀{P:List Str} {vs:List Value} {i:Nat} {m:Str->Option Value},P.Nodup->P[i]?=some x->vs[i]?=some v->kindOf x=some .local →
  bindL kindOf (P.zip vs) m x=some v
 | [],_,_,_,_,h,_,_=>by simp at h
 | _::_,[],_,_,_,_,h,_=>by simp at h
 | p::P,w::vs,0,m,nd,h1,h2,hk=>by
  simp at h1 h2;subst h1;subst h2
  show bindL kindOf ((p,w)::P.zip vs) m p=_
  unfold bindL
  rw[nu fun v hv=>(List.nodup_cons.mp nd).1 (List.of_mem_zip hv).1,if_pos hk]
  simp
 | p::P,w::vs,i+1,m,nd,h1,h2,hk=>by
  show bindL kindOf ((p,w)::P.zip vs) m x=_
  unfold bindL
  exact nV (i:=i) (List.nodup_cons.mp nd).2 (by simpa using h1) (by simpa using h2) hk
theorem nI {kindOf:Str->Option NameKind} {x:Str} {v:Value}:∀{P:List Str} {vs:List Value} {i:Nat} {m:Str->Option Value},P.Nodup->P[i]?=some x->vs[i]?=some v->kindOf x≠some .local →
  bindC kindOf (P.zip vs) m x=some v
 | [],_,_,_,_,h,_,_=>by simp at h
 | _::_,[],_,_,_,_,h,_=>by simp at h
 | p::P,w::vs,0,m,nd,h1,h2,hk=>by
  simp at h1 h2;subst h1;subst h2
  show bindC kindOf ((p,w)::P.zip vs) m p=_
  unfold bindC
  rw[nj fun v hv=>(List.nodup_cons.mp nd).1 (List.of_mem_zip hv).1,if_neg hk]
  simp
 | p::P,w::vs,i+1,m,nd,h1,h2,hk=>by
  show bindC kindOf ((p,w)::P.zip vs) m x=_
  unfold bindC
  exact nI (i:=i) (List.nodup_cons.mp nd).2 (by simpa using h1) (by simpa using h2) hk
noncomputable def start (N:List Str) (vs:List V):St:=vs.map some++List.replicate (N.length - vs.length) none
noncomputable def iC (CX:CXT) (P:Program) (w:World) (K:PySem.W.Frag) (mg:Str->Option Value) (base:Heap) (N:List Str) (qual:Str) (scope:Scope) (f:Addr) (cd:Value) (A:Around) (outer:List Env) (s:Shared) (H:Hp) (E:XK):Cx where
 prog:=P
 w:=w
 K:=K
 mg:=mg
 base:=base
 A:=A.deeper (envOfC qual scope s.heap.objs.size f cd)
 N:=N
 aJ:=s
 aT:=H
 env:=envOfC qual scope s.heap.objs.size f cd
 outer:=outer
 stack:=envOfC qual scope s.heap.objs.size f cd::outer
 ex:=[]
 calm:=true
 fn:=fun _=>true
 pn:=[]
 xe:=fun e s'=>wpAny (model P w) (A.deeper (envOfC qual scope s.heap.objs.size f cd)) (leaving (envOfC qual scope s.heap.objs.size f cd) e) (fun _ s''=>CX outer H s E e s'') (fun e' s''=>CX outer H s E e' s'') s'
theorem p8 {sc:Scope} {n:Nat} {x:Str} (h:sc.names.lookup x=some .cell):∃c,(cellsFrom n sc.names []).lookup x=some c:=by
 have q:=PySem.W.cellsFrom_some sc.names n [] (.inl h)
 exact Option.isSome_iff_exists.mp q
theorem nL {CX:CXT} {P:Program} {w:World} {K:PySem.W.Frag} {mg:Str->Option Value} {base:Heap} {N ps:List Str} {qual:Str} {scope:Scope} {f:Addr} {cd:Value} {A:Around} {outer:List Env} {s s1:Shared} {H:Hp} {E:XK} {us:List Value} {vs:List V}
  (S:aN N ps scope) (hd:A.handled=none) (e0:xq P w K mg base A outer s H) (hl:vs.length=ps.length) (r:Vals vs us)
  (x:InCallC s s.heap.objs.size (bindL (envOfC qual scope s.heap.objs.size f cd).kindOf (ps.zip us) fun _=>none) (cellsFrom (s.heap.objs.size+1) scope.names []) (bindC (envOfC qual scope s.heap.objs.size f cd).kindOf (ps.zip us) fun _=>none) s1) :
  Inv (iC CX P w K mg base N qual scope f cd A outer s H E) [] (start N vs) H s1:=by
 have hpl:ps.length<=N.length:=by have:=congrArg List.length S.pre;rw[List.length_take] at this;omega
 obtain⟨h1,tk,rfl,hk⟩:=x.done
 have noA:∀b:Addr,b∉(iC CX P w K mg base N qual scope f cd A outer s H E).ex:=fun b z=>absurd (show b∈([]:List Addr) from z) (by simp)
 refine⟨⟨e0.mod,S.kind,rfl,rfl,Nat.le_refl _,fun y z c h1 h2=>?_,fun y hy=>?_,fun y c _ h=>?_,fun _=>hd,Around.frames_deeper e0.frames,.inr ⟨rfl,rfl⟩,fun b z=>absurd z (noA b),e0.bs,e0.bsz,fun b _ _=>noA b,fun b z=>absurd z (noA b),e0.hG,e0.frf⟩,
  rfl,e0.bare,Un.kept hk,⟨_,x.toInCall.ns,fun i y v h1 h2 h3=>?_⟩,fun y c h=>⟨_,x.cell y c h⟩,e0.hok.fresh (Nat.le_refl _),fun y c h=>?_,fun p hp=>absurd (show p∈([]:List (Addr × Obj)) from hp) (by simp),e0.hok.kept hk,?_⟩
 ·exact name_of_addr x.apart (PySem.mem_of_lookup h1) (PySem.mem_of_lookup h2)
 ·have hy:scope.names.lookup y=some .cell\/scope.names.lookup y=some .free:=hy
  rcases hy with hy | hy
  ·exact p8 hy
  ·exact absurd rfl (S.Cg _ (PySem.mem_of_lookup hy))
 ·exact Nat.le_of_lt (x.above y c (PySem.mem_of_lookup h))
 ·have hi:i<vs.length:=by
   unfold start at h2
   by_cases hi:i<vs.length
   ·exact hi
   ·rw[List.getElem?_append_right (by simpa using hi)] at h2
    rw[List.getElem?_replicate] at h2
    split at h2<;>cases h2
  have ha:vs[i]?=some v:=by
   unfold start at h2
   rw[List.getElem?_append_left (by simpa using hi),List.getElem?_map] at h2
   cases e:vs[i]? with
   | none=>rw[e] at h2;cases h2
   | some a=>rw[e] at h2;cases h2;rfl
  obtain⟨u,hu,rv⟩:=r.get ha
  have hp:ps[i]?=some y:=by
   rw[<- S.pre,List.getElem?_take_of_lt (by omega)];exact h1
  have ndP:ps.Nodup:=by rw[<- S.pre];exact S.nd.sublist (List.take_sublist _ _)
  refine⟨u,rv,?_⟩
  rcases S.par y (List.mem_of_getElem? hp) with k | k
  ·exact .inl ⟨k,nV ndP hp hu k⟩
  ·obtain⟨c,e⟩:=p8 (n:=s.heap.objs.size+1) k
   refine .inr ⟨.inl k,c,e,?_⟩
   have q:=x.cell y c e
   rw[nI ndP hp hu (by show scope.names.lookup y≠_;rw[k];decide)] at q
   exact q
 ·exact e0.hok.fresh (Nat.le_of_lt (x.above y c (PySem.mem_of_lookup h)))
 ·unfold start
  show _=N.length
  rw[List.length_append,List.length_map,List.length_replicate]
  omega
theorem AI {CX:CXT} {P:Program} {w:World} {K:PySem.W.Frag} {mg:Str->Option Value} {base:Heap} {k:Nat} {f:Addr} {name qual:Str} {params:Arguments} {body:List Stmt} {scope:Scope} {dV kV doc pm cdv ct oc:Value} {an od:Option Addr}
  {osl:Array (Option Value)} {N ps:List Str} {sp:Sp} (lk:K.lookup f=some ⟨oc,od,.func (PySem.W.fnOf name qual params body scope dV kV doc pm an cdv ct),osl⟩) (hcd:PySem.W.codeIn K cdv qual=true) (S:aN N ps scope)
  (len:∀vs H Q E,sp vs H Q E->vs.length=ps.length)
  (hbody:∀(A:Around) (outer:List Env) (s:Shared) (H:Hp) (vs:List V) (Q:VK) (E:XK),cO k (A.deeper (envOfC qual scope s.heap.objs.size f cdv))->sp vs H Q E →
   ∃t,PSs (iC CX P w K mg base N qual scope f cdv A outer s H E) body t/\t { nx:=fun _ H'=>Q .non H',rt:=Q } (start N vs) H) :
  dq P w K mg base CX (k+1) f (PySem.W.fnOf name qual params body scope dV kV doc pm an cdv ct) ps sp:=by
 refine⟨len,fun A outer s H args us vs Q E hr e0 hb r hsp=>?_⟩
 have hl:=len _ _ _ _ hsp
 have KX:K.In s.heap:=e0.mod.kin.keeps fun b o e=>(e0.bs b o e).1
 have lim:s.heap.NoLimit:=e0.mod.nolimit.keeps fun b o e=>(e0.bs b o e).1
 have hkind:∀y∈ps.zip us,scope.names.lookup y.1=some .local\/(scope.names.lookup y.1=some .cell/\((cellsFrom (s.heap.objs.size+1) scope.names []).lookup y.1).isSome=true):=fun⟨n,v⟩ hy=>by
  rcases S.par n (List.of_mem_zip hy).1 with q | q
  ·exact .inl q
  ·exact .inr ⟨q,PySem.W.cellsFrom_some _ _ _ (.inl q)⟩
 refine codeAny_call_function hr.depth (KX _ _ lk) rfl S.co S.gen rfl (PySem.W.codeRec_of KX hcd) (hb _ _ _ _ ?_)
 refine wpAny_newFunctionEnv_cells S.kind hkind fun env he s1 x=>?_
 subst he
 refine⟨lim.keeps x.toInCall.keep,codeAny_func ?_⟩
 obtain⟨t,ht,hq⟩:=hbody A outer s H vs Q E (hr.deeper _) hsp
 have I:Inv (iC CX P w K mg base N qual scope f cdv A outer s H E) [] (start N vs) H s1:=nL S hr.hd e0 hl r x
 refine wpAny_mono (ht [] s1 (start N vs) H _ I hq) (fun fl s' hs=>?_) fun e s' hs=>hs
 have fin:∀{σ':St} {H':Hp} {v:V} {u:Value},Inv (iC CX P w K mg base N qual scope f cdv A outer s H E) [] σ' H' s'->RelV v u->Q v H'->CE outer P w H s Q u s':=
  fun{σ' H' v u} J rv q=>⟨v,H',J.os,J.bare,J.base,J.hok,rv,q⟩
 cases fl with
 | ret u=>
  obtain⟨v,σ',H',J,rv,q⟩:=hs
  exact fin J rv q
 | next=>
  obtain⟨σ',H',J,q⟩:=hs
  exact fin (v:=V.non) (u:=Value.none) J rfl q
 | brk=>
  obtain⟨_,_,_,q⟩:=hs
  exact False.elim q
 | cont=>
  obtain⟨_,_,_,q⟩:=hs
  exact False.elim q
section
variable {X:Cx} {x:Str} {p pos:Pos} {e:Expr} {es:List Expr} {t:TA} {id T:String} {r:List V->Hp->VK->Prop}
noncomputable def tCB (r:List V->Hp->VK->Prop) (t:TA):TE:=fun σ H Q=>t σ H fun vs H1=>r vs H1 Q
theorem ja (hc:aP X (.builtin id) r) (hg:Gl X x) (hm:X.mg x=none) (hv:bootBuiltins x=some (.builtin id)) (ha:PA X (e::es) t) (hn:x≠"__name__" := by decide) (hdb:(x == ("__debug__" : Str))=false:=by decide)
  (he:starEach (e::es) X.env=(false,eval e X.env)::starEach es X.env:=by rfl) (hpl:(backTo pos (starEach es X.env)).any (·.1)=false:=by rfl):PE X (.Call (.Name x p) (e::es) [] pos) (tCB r t):=by
 intro pins s σ H Q I h
 refine wpAny_Call_Name_kw (lL I hg hm hv ?_ hn hdb)
 exact PyProof.Rows.callWith_builtin1 (thn (ha pos pins s σ H _ I h) fun us s1 ⟨vs,H1,I1,r1,q1⟩=>hc pins s1 σ H1 vs us Q I1 r1 q1) he hpl
theorem fL (hc:aP X (.type T) r) (hg:Gl X x) (hm:X.mg x=none) (hv:bootBuiltins x=some (.type T)) (ha:PA X (e::es) t) (hn:x≠"__name__" := by decide) (hdb:(x == ("__debug__" : Str))=false:=by decide)
  (he:starEach (e::es) X.env=(false,eval e X.env)::starEach es X.env:=by rfl) (hpl:(backTo pos (starEach es X.env)).any (·.1)=false:=by rfl):PE X (.Call (.Name x p) (e::es) [] pos) (tCB r t):=by
 intro pins s σ H Q I h
 refine wpAny_Call_Name_kw (lL I hg hm hv ?_ hn hdb)
 exact PyProof.Rows.callWith_type1 (thn (ha pos pins s σ H _ I h) fun us s1 ⟨vs,H1,I1,r1,q1⟩=>hc pins s1 σ H1 vs us Q I1 r1 q1) he hpl
end
end L2
namespace HT
open PySem PyProof.Rows
section
variable {prog:Program} {w:World} {A:Around} {E:Value->Shared->Prop} {s:Shared}
theorem Ay {t b:Addr} {vs ws:List Value} {Q:Value->Shared->Prop} (ht:IsTup s.heap t vs.toArray) (hb:IsTup s.heap b ws.toArray) (hv:vs≠[])
  (h1:ws=[]->Q (.ref t) s) (h2:ws≠[]->Q (.ref s.heap.objs.size) { s with heap:=s.heap.push { cls:=.type "tuple", data:=.seq (vs++ws).toArray } })
  (hsz:vs.length+ws.length<=sizeLine):wpAny (model prog w) A (binaryOp .Add (.ref t) (.ref b)) Q E s:=by
 obtain⟨⟨cls,dd,data,sl⟩,ho,hc,n,hd⟩:=id ht
 obtain⟨⟨cls2,dd2,data2,sl2⟩,ho2,hc2,n2,hd2⟩:=id hb
 simp only at hc hd hc2 hd2
 subst hc hd hc2 hd2
 have e:vs.toArray++ws.toArray=(vs++ws).toArray:=by simp
 by_cases hw:ws=[]
 ·exact concat_meets ⟨_,ho,rfl⟩ ⟨_,ho2,rfl⟩ noFill_tuple_add seq_tuple_add PySem.F.slot_tuple_add PySem.F.entry_tuple_add (PySem.F.args_tuple_add_2 _ _)
   (tuple_addW1 t b vs.toArray ws.toArray n n2 dd dd2 sl sl2 (by simpa using hv) (by simp[hw])) ⟨ho,ho2,h1 hw⟩
 ·refine concat_meets ⟨_,ho,rfl⟩ ⟨_,ho2,rfl⟩ noFill_tuple_add seq_tuple_add PySem.F.slot_tuple_add PySem.F.entry_tuple_add (PySem.F.args_tuple_add_2 _ _)
   (tuple_addW2 t b vs.toArray ws.toArray n n2 dd dd2 sl sl2 (by simpa using hv) (by simpa using hw) (by rw[List.size_toArray,List.size_toArray];exact hsz)) ⟨ho,ho2,?_⟩
  rw[e]
  exact h2 hw
noncomputable def sIx (n d:Nat):Option Int->Nat
 | none=>d
 | some v=>if v<0 then (v+(n:Int)).toNat else min v.toNat n
theorem ql (n d:Nat):sIx n d none=d:=rfl
theorem tX (n d k:Nat):sIx n d (some (k:Int))=min k n:=by
 show(if (k:Int)<0 then ((k:Int)+(n:Int)).toNat else min (k:Int).toNat n)=min k n
 rw[if_neg (by omega),Int.toNat_natCast]
theorem BZ (n d:Nat) (hd:d<=n) (o:Option Int):sIx n d o<=n:=by
 cases o with
 | none=>exact hd
 | some v=>
  show(if v<0 then (v+(n:Int)).toNat else min v.toNat n)<=n
  by_cases hv:v<0
  ·rw[if_pos hv];omega
  ·rw[if_neg hv];exact Nat.min_le_right _ _
theorem sR (v:Int) (n d:Nat):(if v<0 then max (v+(n:Int)) 0 else min v (n:Int))=((sIx n d (some v):Nat):Int):=by
 show(if v<0 then max (v+(n:Int)) 0 else min v (n:Int))=(((if v<0 then (v+(n:Int)).toNat else min v.toNat n):Nat):Int)
 by_cases hv:v<0
 ·simp only[if_pos hv];omega
 ·simp only[if_neg hv];omega
theorem rR (lo hi:Option Int) (n:Nat):Builtin.Slice.sliceAdjust lo hi 1 (n:Int)=(((sIx n 0 lo:Nat):Int),((sIx n n hi:Nat):Int)):=by
 have h1:¬ ((1:Int)<0):=by omega
 unfold Builtin.Slice.sliceAdjust
 simp only[h1,if_false]
 refine Prod.ext ?_ ?_
 ·cases lo with
  | none=>rfl
  | some v=>exact sR v n 0
 ·cases hi with
  | none=>rfl
  | some v=>exact sR v n n
theorem sx (i j:Nat):Builtin.Slice.slicePlaces (i:Int) (j:Int) 1=j - i:=by
 unfold Builtin.Slice.slicePlaces
 have h1:(1:Int) > 0:=by omega
 simp only[h1,if_true,Int.ediv_one]
 split<;>omega
theorem lH {v:Value} {o:Option Int} {Q:Option Int->Shared->Prop} (p:IsPart v o) (h:Q o s):wpAny (model prog w) A (Builtin.Slice.slicePartIndex v) Q E s:=by
 cases p with
 | none=>exact slicePart_none h
 | int i t=>exact slicePart_int h
theorem fM {sl:Addr} {vl vu:Value} {lo hi:Option Int} {n:Nat} {Q:Int × Int × Nat->Shared->Prop} (hs:s.heap.IsSliceOf sl vl vu .none) (pl:IsPart vl lo) (pu:IsPart vu hi)
  (h:Q (((sIx n 0 lo:Nat):Int),1,sIx n n hi - sIx n 0 lo) s):wpAny (model prog w) A (Builtin.Slice.sliceApplied (.ref sl) (pure (n:Int))) Q E s:=by
 obtain⟨os,hos,hcs,hds⟩:=id hs
 unfold Builtin.Slice.sliceApplied Builtin.Slice.sliceFields
 refine wpAny_bind (wpAny_bind (wpAny_field hos hds (x:=vl) rfl (wpAny_bind (wpAny_field hos hds (x:=vu) rfl (wpAny_bind (wpAny_field hos hds (x:=.none) rfl (wpAny_pure ?_)))))))
 refine wpAny_bind (slicePart_none ?_)
 show wpAny _ _ (if ((1:Int) == 0)=true then _ else _) _ _ s
 rw[if_neg (by decide)]
 refine wpAny_bind (lH pl (wpAny_bind (lH pu (wpAny_bind (wpAny_pure ?_)))))
 show wpAny _ _ (match Builtin.Slice.sliceAdjust lo hi 1 (n:Int) with | (lo,hi)=>pure (lo,(1:Int),Builtin.Slice.slicePlaces lo hi 1)) _ _ s
 rw[rR lo hi n]
 show wpAny _ _ (pure (((sIx n 0 lo:Nat):Int),(1:Int),Builtin.Slice.slicePlaces ((sIx n 0 lo:Nat):Int) ((sIx n n hi:Nat):Int) 1)) _ _ s
 rw[sx]
 exact wpAny_pure h
theorem wz (xs:Array Value) (i k:Nat):((List.range k).filterMap fun(m:Nat)=>xs[((i:Int)+(m:Int)*1).toNat]?).toArray=((xs.toList.drop i).take k).toArray:=by
 have e:(fun(m:Nat)=>xs[((i:Int)+(m:Int)*1).toNat]?)=fun m=>xs[i+m]?:=by
  funext m
  have:((i:Int)+(m:Int)*1).toNat=i+m:=by omega
  rw[this]
 rw[e]
 have:=pick_run xs i k
 rw[List.filterMap_map] at this
 have e2:((fun x=>xs[x]?) ∘ fun x=>i+x)=fun m=>xs[i+m]?:=rfl
 rw[e2] at this
 rw[this]
theorem iY {t sl:Addr} {items:Array Value} {vl vu:Value} {lo hi:Option Int} {Q:Value->Shared->Prop} (ht:IsTup s.heap t items) (hs:s.heap.IsSliceOf sl vl vu .none) (pl:IsPart vl lo) (pu:IsPart vu hi)
  (hw:¬ (sIx items.size 0 lo=0/\sIx items.size items.size hi=items.size))
  (h:Q (.ref s.heap.objs.size) { s with heap:=s.heap.push { cls:=.type "tuple", data:=.seq ((items.toList.drop (sIx items.size 0 lo)).take (sIx items.size items.size hi - sIx items.size 0 lo)).toArray } })
  (hsz:items.size<=sizeLine):wpAny (model prog w) A (getItem (.ref t) (.ref sl)) Q E s:=by
 have htake:sizeOk (.seq ((items.toList.drop (sIx items.size 0 lo)).take (sIx items.size items.size hi - sIx items.size 0 lo)).toArray):=by
  show((items.toList.drop (sIx items.size 0 lo)).take (sIx items.size items.size hi - sIx items.size 0 lo)).toArray.size<=sizeLine
  rw[List.size_toArray,List.length_take,List.length_drop,Array.length_toList]
  omega
 have hj:sIx items.size items.size hi<=items.size:=BZ _ _ (Nat.le_refl _) hi
 obtain⟨os,hos,hcs,hds⟩:=id hs
 have hTs:s.TypeIs (.ref sl) "slice" := ⟨os,hos,hcs⟩
 unfold getItem
 try with_reducible refine wpAny_holding ?_
 first | refine wpAny_bind (wpAny_pure ?_) | skip
 refine wpAny_bind (wpAny_sequenceKey ht.typeIs (by decide) ?_)
 refine wpAny_bind (wpAny_callSpecial?_slot (name:=Str.ofString "__getitem__") ht.typeIs PyProof.Rows.slot_tuple_getitem
  (wpAny_call_entry PyProof.Rows.slot_tuple_getitem ht.typeIs entry_tuple_getitem ?_ (args_tuple_getitem _ _)))
 show wpAny _ _ (Builtin.Tuple.tupleItemsOf (.ref t) >>= _) _ _ s
 refine wpAny_bind (tupleItemsOf_ ht ?_)
 refine wpAny_bind (wpAny_typeOf hTs ?_)
 rw[if_pos (by decide)]
 refine wpAny_bind (fM hs pl pu ?_)
 have hno:¬ ((((sIx items.size 0 lo:Nat):Int) == 0&&(1:Int) == 1&&(sIx items.size items.size hi - sIx items.size 0 lo) == items.size)=true):=by
  intro q
  rw[Bool.and_eq_true,Bool.and_eq_true] at q
  have q1:((sIx items.size 0 lo:Nat):Int)=0:=eq_of_beq q.1.1
  have q2:sIx items.size items.size hi - sIx items.size 0 lo=items.size:=eq_of_beq q.2
  exact hw ⟨by omega,by omega⟩
 show wpAny _ _ (if (((sIx items.size 0 lo:Nat):Int) == 0&&(1:Int) == 1&&(sIx items.size items.size hi - sIx items.size 0 lo) == items.size)=true then _ else _) _ _ s
 rw[if_neg hno,wz]
 first
  | exact wpAny_bind (m:=Builtin.Tuple.tupleExact _) (wpAny_newObj_type (wpAny_pure ⟨_,rfl,wpAny_pure h⟩) htake)
  | exact wpAny_bind (m:=Builtin.Tuple.tupleExact _) (wpAny_newObj_type (wpAny_bind (wpAny_pure (wpAny_pure ⟨_,rfl,wpAny_pure h⟩))) htake)
  | exact wpAny_bind (wpAny_bind (m:=Builtin.Tuple.tupleExact _) (wpAny_newObj_type (wpAny_pure (wpAny_pure ⟨_,rfl,wpAny_pure h⟩)) htake))
  | exact wpAny_bind (wpAny_bind (m:=Builtin.Tuple.tupleExact _) (wpAny_newObj_type (wpAny_pure ⟨_,rfl,wpAny_pure h⟩) htake))
end
end HT
namespace L2
open PySem PySem.Spec PyProof.Rows
noncomputable abbrev TO:=St->Hp->(Option Int->Hp->Prop)->Prop
noncomputable def PO (X:Cx) (e:Option Expr) (t:TO):Prop:=
 ∀(pins:List (Addr × Obj)) (s:Shared) (σ:St) (H:Hp) (Q:Option Int->Hp->Prop),Inv X pins σ H s->t σ H Q →
  wpAny (model X.prog X.w) X.A (evalPart e X.env) (fun u s'=>∃o H',Inv X pins σ H' s'/\IsPart u o/\Q o H') X.xe s
noncomputable def zh:TO:=fun _ H Q=>Q none H
noncomputable def Eg (t:TE):TO:=fun σ H Q=>t σ H fun x H1=>∃i,x=.int i/\Q (some i) H1
theorem intsAre_of {ns:List Int}:∀{us:List Value},Vals (ns.map V.int) us->IntsAre us ns:=by
 induction ns with
 | nil=>intro us r;rw[List.map_nil] at r;cases r;exact .nil
 | cons n ns ih=>
  intro us r
  rw[List.map_cons] at r
  cases r with
  | cons r1 r2=>
   obtain⟨t,e⟩:=r1
   subst e
   exact .cons n t (ih r2)
section
variable {X:Cx} {e:Expr} {te:TE} {lo hi:Option Expr} {tl th:TO} {pos p2:Pos}
theorem yW:PO X none zh:=by
 intro pins s σ H Q I h
 rw[evalPart_none]
 exact wpAny_pure ⟨none,H,I,.none,h⟩
theorem zL (h:PE X e te):PO X (some e) (Eg te):=by
 intro pins s σ H Q I hw
 rw[evalPart_some]
 refine thn (h pins s σ H _ I hw) fun u s1 ⟨x,H1,I1,r1,q1⟩=>?_
 obtain⟨i,rfl,q⟩:=q1
 obtain⟨t,rfl⟩:=r1
 exact⟨some i,H1,I1,.int i t,q⟩
noncomputable def SlR (X:Cx) (r:V->Option Int->Option Int->Hp->VK->Prop):Prop:=
 ∀(pins:List (Addr × Obj)) (s:Shared) (σ:St) (H:Hp) (x:V) (v vl vu:Value) (lo hi:Option Int) (sl:Addr) (Q:VK),Inv X pins σ H s->RelV x v->s.heap.IsSliceOf sl vl vu .none->IsPart vl lo->IsPart vu hi->r x lo hi H Q →
  ∃T id,typeLookup (.type T) "__getitem__" = pure (some (.builtin id))/\s.TypeIs v T/\wpAny (model X.prog X.w) X.A (getItem v (.ref sl)) (EP X pins σ Q) X.xe s
theorem SlR.or {r r':V->Option Int->Option Int->Hp->VK->Prop} (h:SlR X r) (h':SlR X r'):SlR X (fun x lo hi H Q=>r x lo hi H Q\/r' x lo hi H Q):=by
 intro pins s σ H x v vl vu lo hi sl Q I rx hs pl pu q
 rcases q with q | q
 ·exact h pins s σ H x v vl vu lo hi sl Q I rx hs pl pu q
 ·exact h' pins s σ H x v vl vu lo hi sl Q I rx hs pl pu q
noncomputable def tSl (r:V->Option Int->Option Int->Hp->VK->Prop) (te:TE) (tl th:TO):TE:=fun σ H Q=>te σ H fun x H1=>tl σ H1 fun l H2=>th σ H2 fun u H3=>r x l u H3 Q
theorem qq {r:V->Option Int->Option Int->Hp->VK->Prop} (hr:SlR X r) (he:PE X e te) (hl:PO X lo tl) (hu:PO X hi th):PE X (.Subscript e (.Slice lo hi none p2) pos) (tSl r te tl th):=by
 intro pins s σ H Q I h
 refine Subscript_ (thn (he pins s σ H _ I h) fun v s1 ⟨x,H1,I1,r1,q1⟩=>?_)
 refine wpAny_Slice (thn (hl pins s1 σ H1 _ I1 q1) fun vl s2 ⟨l,H2,I2,pl,q2⟩=>thn (hu pins s2 σ H2 _ I2 q2) fun vu s3 ⟨u,H3,I3,pu,q3⟩=>?_)
 rw[evalPart_none]
 refine wpAny_pure ?_
 have I4:Inv X pins σ H3 { s3 with heap:=s3.heap.push { cls:=.type "slice", data:=.fields #[vl,vu,.none] } }:=I3.kept (t':=s3.toks) fun b ob q=>Heap.get?_push_of_some _ q
 obtain⟨T,id,hT,ht,hg⟩:=hr pins { s3 with heap:=s3.heap.push { cls:=.type "slice", data:=.fields #[vl,vu,.none] } } σ H3 x v vl vu l u s3.heap.objs.size Q I4 r1 (Heap.IsSliceOf.new ..) pl pu q3
 show wpAny (model X.prog X.w) X.A (subscriptTail e (.Slice lo hi none p2) v (.ref s3.heap.objs.size)) (EP X pins σ Q) X.xe { s3 with heap:=s3.heap.push { cls:=.type "slice", data:=.fields #[vl,vu,.none] } }
 exact tail_any (ops:=[.ref s3.heap.objs.size,v]) ht hT hg (by with_unfolding_all rfl)
noncomputable def mG (xs:List V) (lo hi:Option Int):List V:=(xs.drop (HT.sIx xs.length 0 lo)).take (HT.sIx xs.length xs.length hi - HT.sIx xs.length 0 lo)
theorem j7 (xs:List V) (lo hi:Option Int):(mG xs lo hi).length<=xs.length:=by
 unfold mG
 rw[List.length_take,List.length_drop]
 omega
noncomputable def Fe (K:PySem.W.Frag):V->Option Int->Option Int->Hp->VK->Prop:=fun x lo hi H Q=>∃a xs,x=.ref a/\SqT K H a xs ∧
 ¬ (HT.sIx xs.length 0 lo=0/\HT.sIx xs.length xs.length hi=xs.length)/\∀p,H p=none->Q (.ref p) (upd H p (.tup (mG xs lo hi)))
theorem Bq:SlR X (Fe X.K):=by
 intro pins s σ H x v vl vu lo hi sl Q I rx hs pl pu h
 obtain⟨a,xs,rfl,hx,hw,q⟩:=h
 cases rx
 obtain⟨its,r,ht,hz⟩:=I.tuple hx
 have hlen:its.toArray.size=xs.length:=by rw[List.size_toArray];exact r.length.symm
 refine⟨"tuple", _,PyProof.Rows.slot_tuple_getitem.lookup,ht.typeIs,?_⟩
 refine HT.iY ht hs pl pu (by rw[hlen];exact hw) ?_ (by rw[hlen];exact hz)
 rw[hlen]
 refine⟨.ref s.heap.objs.size,_,I.laid (t':=s.toks) (o:=.tup (mG xs lo hi)) (fun b ob q=>Heap.get?_push_of_some _ q) (Nat.le_refl _) ?_,rfl,q _ (I.hok.fresh (Nat.le_refl _))⟩
 exact⟨Nat.le_trans (j7 xs lo hi) hz,_,(r.drop (HT.sIx xs.length 0 lo)).take (HT.sIx xs.length xs.length hi - HT.sIx xs.length 0 lo),mj.new _ _⟩
noncomputable def A9 (K:PySem.W.Frag):R2:=fun x y H Q=>∃a b xs ys,x=.ref a/\y=.ref b/\SqT K H a xs/\SqT K H b ys/\xs≠[]/\xs.length+ys.length<=sizeLine ∧
 (ys=[]->Q (.ref a) H)/\(ys≠[]->∀p,H p=none->Q (.ref p) (upd H p (.tup (xs++ys))))
theorem Vals.oO {xs:List V} {us:List Value} (r:Vals xs us):us=[]↔xs=[]:=by
 cases r with
 | nil=>simp
 | cons _ _=>simp
theorem zo:OpR X (binaryOp .Add) (A9 X.K):=by
 intro pins s σ H x y v u Q I rx ry h
 obtain⟨a,b,xs,ys,rfl,rfl,ha,hb,hx,hz,q1,q2⟩:=h
 cases rx
 cases ry
 obtain⟨its,r1,p1,_⟩:=I.tuple ha
 obtain⟨its2,r2,p2,_⟩:=I.tuple hb
 refine HT.Ay p1 p2 (fun z=>hx (r1.oO.mp z)) (fun z=>⟨.ref a,H,I,rfl,q1 (r2.oO.mp z)⟩) (fun z=>?_) (by rw[<- r1.length,<- r2.length];exact hz)
 refine⟨.ref s.heap.objs.size,_,I.laid (t':=s.toks) (o:=.tup (xs++ys)) (fun b ob q=>Heap.get?_push_of_some _ q) (Nat.le_refl _) ?_,rfl,q2 (fun w=>z (r2.oO.mpr w)) _ (I.hok.fresh (Nat.le_refl _))⟩
 exact⟨by rw[List.length_append];exact hz,_,r1.append r2,mj.new _ _⟩
end
noncomputable def ixN (n:Nat) (i:Int):Option Nat:=if 0<=i then (if i<n then some i.toNat else none) else if -(n:Int)<=i then some (i+n).toNat else none
noncomputable def atI {α:Type} (xs:List α) (i:Int):Option α:=(ixN xs.length i).bind fun j=>xs[j]?
theorem oh {n:Nat} {i:Int} {j:Nat} (h:ixN n i=some j):seqIndex? i n=some j/\j<n/\-(n:Int)<=i/\i<n:=by
 unfold ixN at h
 by_cases h0:0<=i
 ·rw[if_pos h0] at h
  by_cases h1:i<n
  ·rw[if_pos h1] at h
   have e:i.toNat=j:=Option.some.inj h
   exact⟨by rw[seqIndex_of h0 h1,e],by omega,by omega,h1⟩
  ·rw[if_neg h1] at h;cases h
 ·rw[if_neg h0] at h
  by_cases h1:-(n:Int)<=i
  ·rw[if_pos h1] at h
   have e:(i+n).toNat=j:=Option.some.inj h
   exact⟨by rw[seqIndex_neg (by omega) h1,e],by omega,h1,by omega⟩
  ·rw[if_neg h1] at h;cases h
theorem nZ {α:Type} {xs:List α} {i:Int} {v:α} (h:atI xs i=some v):∃j,seqIndex? i xs.length=some j/\xs[j]?=some v/\j<xs.length/\-(xs.length:Int)<=i/\i<xs.length:=by
 unfold atI at h
 cases e:ixN xs.length i with
 | none=>rw[e] at h;cases h
 | some j=>
  rw[e] at h
  obtain⟨h1,h2,h3,h4⟩:=oh e
  exact⟨j,h1,h,h2,h3,h4⟩
theorem zy {α:Type} {xs:List α} {j:Nat} {v:α} (h:xs[j]?=some v):atI xs (j:Int)=some v:=by
 have hj:j<xs.length:=(List.getElem?_eq_some_iff.mp h).1
 have e:ixN xs.length (j:Int)=some j:=by
  unfold ixN
  rw[if_pos (by omega),if_pos (by omega)];simp
 unfold atI;rw[e];exact h
noncomputable def sU (b:Expr):Prop:=∀o i,subscripted b false o i=operate [o,i] (getItem o i)
noncomputable def IxR (X:Cx) (r:R2):Prop:=
 ∀(value slice:Expr) (pins:List (Addr × Obj)) (s:Shared) (σ:St) (H:Hp) (x y:V) (v u:Value) (Q:VK),Inv X pins σ H s->RelV x v->RelV y u->r x y H Q →
  subscripted slice false v u=operate [v,u] (getItem v u)->wpAny (model X.prog X.w) X.A (subscriptTail value slice v u) (EP X pins σ Q) X.xe s
noncomputable def MtR (X:Cx) (id:String) (r:V->List V->Hp->VK->Prop):Prop:=
 ∀(pins:List (Addr × Obj)) (s:Shared) (σ:St) (H:Hp) (x:V) (xs:List V) (v:Value) (us:List Value) (Q:VK),Inv X pins σ H s->RelV x v->Vals xs us->r x xs H Q →
  wpAny (model X.prog X.w) X.A (call (.builtin id) (v::us)) (EP X pins σ Q) X.xe s
section
variable {X:Cx} {a b:Expr} {ta tb:TE} {pos:Pos}
theorem IxR.or {r r':R2} (h:IxR X r) (h':IxR X r'):IxR X (fun x y H Q=>r x y H Q\/r' x y H Q):=by
 intro value slice pins s σ H x y v u Q I rx ry q hs
 rcases q with q | q
 ·exact h value slice pins s σ H x y v u Q I rx ry q hs
 ·exact h' value slice pins s σ H x y v u Q I rx ry q hs
theorem DX {r:R2} (hr:IxR X r) (ha:PE X a ta) (hb:PE X b tb) (hs:sU b):PE X (.Subscript a b pos) (tOp r ta tb):=by
 intro pins s σ H Q I h
 exact Subscript_ (BY ha hb I h fun v u s2 x y H2 I2 rx ry q=>hr a b pins s2 σ H2 x y v u Q I2 rx ry q (hs _ _))
noncomputable def D4 (K:PySem.W.Frag):R2:=fun x y H Q=>∃p xs i v,x=.ref p/\y=.int i/\SqL K H p xs/\atI xs i=some v/\Q v H
noncomputable def Dl (K:PySem.W.Frag):R2:=fun x y H Q=>∃p xs i v,x=.ref p/\y=.int i/\SqT K H p xs/\atI xs i=some v/\Q v H
noncomputable def Df:R2:=fun x y H Q=>∃z i c,x=.str z/\y=.int i/\z.length<=sizeLine/\atI z.cps.toList i=some c/\Q (.str ⟨#[c]⟩) H
theorem zT:IxR X (D4 X.K):=by
 intro value slice pins s σ H x y v u Q I rx ry h hs
 obtain⟨p,xs,i,z,rfl,rfl,hq,he,q⟩:=h
 cases rx
 obtain⟨t,rfl⟩:=ry
 obtain⟨its,r,pl,hz⟩:=I.list hq
 obtain⟨j,h1,h2,h3,h4,h5⟩:=nZ he
 obtain⟨w,ew,rw'⟩:=r.get h2
 have hl:=r.length
 have hn:=iy
 have fin:EP X pins σ Q w s:=⟨z,H,I,rw',q⟩
 by_cases h0:0<=i
 ·have hj:i.toNat=j:=by
   rw[seqIndex_of h0 h5] at h1
   exact Option.some.inj h1
  exact item_listR pl.isList h0 (by omega) (by rw[hj];simpa using ew) fin hs
 ·have hj:(i+(its.toArray.size:Int)).toNat=j:=by
   rw[seqIndex_neg (by omega) h4] at h1
   rw[List.size_toArray,<- hl]
   exact Option.some.inj h1
  exact subscriptTail_builtinR (x:=w) pl.isList.typeIs slot_list_getitem.lookup
   (wpAny_getItem_list_neg (Q:=fun r s'=>r=w/\EP X pins σ Q r s') pl.isList (by omega) (by rw[List.size_toArray]<;>omega) (by omega) (by rw[hj];simpa using ew) ⟨rfl,fin⟩) hs
theorem CA:IxR X (Dl X.K):=by
 intro value slice pins s σ H x y v u Q I rx ry h hs
 obtain⟨p,xs,i,z,rfl,rfl,hq,he,q⟩:=h
 cases rx
 obtain⟨t,rfl⟩:=ry
 obtain⟨its,r,pl,hz⟩:=I.tuple hq
 obtain⟨j,h1,h2,h3,h4,h5⟩:=nZ he
 obtain⟨w,ew,rw'⟩:=r.get h2
 have hl:=r.length
 have hn:=iy
 have fin:EP X pins σ Q w s:=⟨z,H,I,rw',q⟩
 exact subscriptTail_builtinR (x:=w) pl.typeIs slot_tuple_getitem.lookup
  (getItem_tuple (j:=j) (Q:=fun r s'=>r=w/\EP X pins σ Q r s') pl (by omega) (by omega) (by rw[List.size_toArray,<- hl];exact h1) (by simpa using ew) ⟨rfl,fin⟩) hs
theorem B6:IxR X Df:=by
 intro value slice pins s σ H x y v u Q I rx ry h hs
 obtain⟨z,i,c,rfl,rfl,hz,he,q⟩:=h
 obtain⟨t,rfl⟩:=rx
 obtain⟨t',rfl⟩:=ry
 obtain⟨j,h1,h2,h3,h4,h5⟩:=nZ he
 have hl:z.cps.toList.length=z.length:=by simp[Str.length]
 rw[hl] at h1 h4 h5
 have hn:=iy
 exact tail_any (typeIs_str s z t) slot_str_getitem.lookup (getItem_str (c:=c) (by
  have e1:decide (i < -(2 ^ 63:Int))=false:=decide_eq_false (by omega)
  have e2:decide (i ≥ 2 ^ 63)=false:=decide_eq_false (by omega)
  rw[e1,e2,Bool.or_false]) (by rw[h1];simpa using h2) ⟨.str ⟨#[c]⟩,H,I.tok _,⟨_,rfl⟩,q⟩) hs
noncomputable def rIx (K:PySem.W.Frag):R2:=fun x y H Q=>D4 K x y H Q\/Dl K x y H Q\/Df x y H Q
theorem cT:IxR X (rIx X.K):=zT.or (CA.or B6)
theorem rk (its:List Value) (n j:Nat) (u:Value):Obj.mapSeq (·.setIfInBounds j u) { cls:=.type "list", data:=.seq its.toArray n }={ cls:=.type "list", data:=.seq (its.set j u).toArray n }:=by
 simp[Obj.mapSeq]
theorem Inv.lst {pins:List (Addr × Obj)} {σ:St} {H:Hp} {s:Shared} {p:Addr} {xs:List V} (I:Inv X pins σ H s) (h:H p=some (.lst xs)) :
  ∃(its:List Value) (n:Nat),Vals xs its/\s.heap.get? p=some { cls:=.type "list", data:=.seq its.toArray n }/\xs.length<=sizeLine:=by
 obtain⟨z,its,n,r,e⟩:=I.hok p _ h
 exact⟨its,n,r,e,z⟩
theorem Inv.Bn {pins:List (Addr × Obj)} {σ:St} {H:Hp} {s:Shared} {p:Addr} {xs ys:List V} {its its':List Value} {n n':Nat} {f:Obj->Obj} (I:Inv X pins σ H s) (h:H p=some (.lst xs))
  (ho:s.heap.get? p=some { cls:=.type "list", data:=.seq its.toArray n }) (hf:f { cls:=.type "list", data:=.seq its.toArray n }={ cls:=.type "list", data:=.seq its'.toArray n' }) (r:Vals ys its') (hz:ys.length<=sizeLine) (t:Nat) :
  Inv X pins σ (upd H p (.lst ys)) { s with heap:=s.heap.update p f,toks:=t }:=by
 have e:(s.heap.update p f).get? p=some { cls:=.type "list", data:=.seq its'.toArray n' }:=by
  rw[Heap.get?_update_self f ho (by rw[hf]<;>rfl),hf]
 refine I.write (x:=p) (e:=p) (by rw[h];trivial) (.inl rfl) (fun b u hb q=>(Heap.get?_update_other _ _ (Ne.symm hb)).trans q) ⟨_,e⟩ ?_
 exact⟨hz,its',n',r,e⟩
noncomputable def AJ:V->V->V->Hp->(Hp->Prop)->Prop:=fun o i v H Q=>∃p xs k j,o=.ref p/\i=.int k/\H p=some (.lst xs)/\ixN xs.length k=some j/\Q (upd H p (.lst (xs.set j v)))
theorem set_list:Bp X AJ:=by
 intro pins s σ H o i v ov iv u Q I ro ri rv h
 obtain⟨p,xs,k,j,rfl,rfl,hp,hj,q⟩:=h
 cases ro
 obtain⟨t,rfl⟩:=ri
 obtain⟨its,n,r,ho,hz⟩:=I.lst hp
 obtain⟨h1,h2,h3,h4⟩:=oh hj
 have hl:=r.length
 have hn:=iy
 have I':Inv X pins σ (upd H p (.lst (xs.set j v))) { s with heap:=s.heap.update p (Obj.mapSeq (·.setIfInBounds j u)) }:=
  I.Bn hp ho (rk its n j u) (r.set rv j) (by rw[List.length_set];exact hz) s.toks
 by_cases h0:0<=k
 ·have hk:k.toNat=j:=by
   rw[seqIndex_of h0 h4] at h1
   exact Option.some.inj h1
  exact PySem.W.ki_setAt ho h0 (by omega) (by rw[List.size_toArray,<- hl];exact h4) (by rw[hk];exact⟨_,I',q⟩)
 ·have hk:(k+(its.toArray.size:Int)).toNat=j:=by
   rw[seqIndex_neg (by omega) h3] at h1
   rw[List.size_toArray,<- hl]
   exact Option.some.inj h1
  exact PySem.W.ki_setBack ho (by omega) (by rw[List.size_toArray,<- hl];exact h3) (by omega) (by rw[hk];exact⟨_,I',q⟩)
theorem o9 (lo hi:Option Int) (n:Nat):(sliceBounds lo hi none n).1=((HT.sIx n 0 lo:Nat):Int)/\(sliceBounds lo hi none n).2.1=((HT.sIx n n hi:Nat):Int)/\(sliceBounds lo hi none n).2.2=1:=by
 refine⟨?_,?_,rfl⟩
 ·cases lo with
  | none=>simp[sliceBounds,HT.sIx]
  | some i=>
   simp only[sliceBounds,HT.sIx,Option.getD_none,show(1:Int) > 0 by decide,if_true]
   by_cases h:i<0
   ·simp only[h,if_true]<;>omega
   ·simp only[h,if_false]<;>omega
 ·cases hi with
  | none=>simp[sliceBounds,HT.sIx]
  | some i=>
   simp only[sliceBounds,HT.sIx,Option.getD_none,show(1:Int) > 0 by decide,if_true]
   by_cases h:i<0
   ·simp only[h,if_true]<;>omega
   ·simp only[h,if_false]<;>omega
theorem mK (its:List Value) (lo hi:Option Int):slicePick its.toArray lo hi none=((its.drop (HT.sIx its.length 0 lo)).take (HT.sIx its.length its.length hi - HT.sIx its.length 0 lo)).toArray:=by
 obtain⟨h1,h2,h3⟩:=o9 lo hi its.toArray.size
 unfold slicePick
 rw[h1,h2,h3]
 simp only[sliceRange_one,pick_run,List.size_toArray]<;>rfl
noncomputable def F6 (K:PySem.W.Frag):V->Option Int->Option Int->Hp->VK->Prop:=fun x lo hi H Q=>∃a xs,x=.ref a/\SqL K H a xs/\∀p,H p=none->Q (.ref p) (upd H p (.lst (mG xs lo hi)))
theorem AB:SlR X (F6 X.K):=by
 intro pins s σ H x v vl vu lo hi sl Q I rx hs pl pu h
 obtain⟨a,xs,rfl,hx,q⟩:=h
 cases rx
 obtain⟨its,r,ht,hz⟩:=I.list hx
 have hlen:=r.length
 refine⟨"list", _,slot_list_getitem.lookup,ht.isList.typeIs,?_⟩
 refine wpAny_getItem_list_slice ht.isList hs pl pu .none (by simp) ?_ (by rw[List.size_toArray]<;>omega)
 rw[mK,<- hlen]
 refine⟨.ref s.heap.objs.size,_,I.laid (t':=s.toks) (o:=.lst (mG xs lo hi)) (fun b ob q=>Heap.get?_push_of_some _ q) (Nat.le_refl _) ?_,rfl,q _ (I.hok.fresh (Nat.le_refl _))⟩
 exact⟨Nat.le_trans (j7 xs lo hi) hz,_,0,(r.drop (HT.sIx xs.length 0 lo)).take (HT.sIx xs.length xs.length hi - HT.sIx xs.length 0 lo),Heap.get?_push_size _ rfl⟩
theorem pq:aP X (.builtin "len") (fun xs H Q=>∃p ys,xs=[.ref p]/\(SqL X.K H p ys\/SqT X.K H p ys)/\Q (.int ys.length) H):=by
 intro pins s σ H xs us Q I r h
 obtain⟨p,ys,rfl,hq,q⟩:=h
 obtain⟨u,rfl,rx⟩:=vals1 r
 cases rx
 have hn:=iy
 rcases hq with hq | hq
 ·obtain⟨its,r',pl,hz⟩:=I.list hq
  have hlen:=r'.length
  exact Calls.call_len_list pl.isList (by simp only[List.size_toArray]<;>omega) ⟨.int ys.length,H,I.tok _,⟨s.toks+1,by rw[List.size_toArray,hlen]⟩,q⟩
 ·obtain⟨its,r',pl,hz⟩:=I.tuple hq
  have hlen:=r'.length
  exact len_tuple pl (by simp only[List.size_toArray]<;>omega) ⟨.int ys.length,H,I.tok _,⟨s.toks+1,by rw[List.size_toArray,hlen]⟩,q⟩
theorem oX:aP X (.builtin "len") (fun xs H Q=>∃z,xs=[.str z]/\z.length<=sizeLine/\Q (.int z.length) H):=by
 intro pins s σ H xs us Q I r h
 obtain⟨z,rfl,hz,q⟩:=h
 obtain⟨u,rfl,t,rfl⟩:=vals1 r
 have hn:=iy
 exact len_str (by omega) ⟨.int z.length,H,I.tok _,⟨_,rfl⟩,q⟩
theorem aP.or {f:Value} {r r':List V->Hp->VK->Prop} (h:aP X f r) (h':aP X f r'):aP X f (fun xs H Q=>r xs H Q\/r' xs H Q):=by
 intro pins s σ H xs us Q I rs q
 rcases q with q | q
 ·exact h pins s σ H xs us Q I rs q
 ·exact h' pins s σ H xs us Q I rs q
theorem oy:aP X (.type "list") (fun xs H Q=>∃p ys,xs=[.ref p]/\(SqL X.K H p ys\/SqT X.K H p ys)/\∀l,H l=none->Q (.ref l) (upd H l (.lst ys))):=by
 intro pins s σ H xs us Q I r h
 obtain⟨p,ys,rfl,hq,q⟩:=h
 obtain⟨u,rfl,rx⟩:=vals1 r
 cases rx
 have fin:∀(its:List Value),Vals ys its->ys.length<=sizeLine->∀(h':Heap) (c':Nat),(∀b o',s.heap.get? b=some o'->h'.get? b=some o') →
   h'.get? s.heap.objs.size=some { cls:=.type "list", dict:=none,data:=.seq its.toArray c',slots:=#[] }->EP X pins σ Q (.ref s.heap.objs.size) { s with heap:=h' }:=fun its r' hz h' c' kp e=>
  ⟨.ref s.heap.objs.size,_,I.laid (t':=s.toks) kp (Nat.le_refl _) (show bO X.prog X.w _ h' _ (.lst ys) from⟨hz,its,c',r',e⟩),rfl,q _ (I.hok.fresh (Nat.le_refl _))⟩
 rcases hq with hq | hq
 ·obtain⟨its,r',pl,hz⟩:=I.list hq
  have hlen:=r'.length
  obtain⟨o,ho,hc,n,hd⟩:=pl.isList
  exact call_list_seq p (.inl rfl) ho hc hd (fun h' c' kp e=>fin its r' hz h' c' kp e) (by simp only[List.size_toArray]<;>omega)
 ·obtain⟨its,r',pl,hz⟩:=I.tuple hq
  have hlen:=r'.length
  obtain⟨o,ho,hc,n,hd⟩:=pl
  exact call_list_seq p (.inr rfl) ho hc hd (fun h' c' kp e=>fin its r' hz h' c' kp e) (by simp only[List.size_toArray]<;>omega)
theorem dG:aP X (.type "tuple") (fun xs H Q=>∃p ys,xs=[.ref p]/\((SqL X.K H p ys/\∀l,H l=none->Q (.ref l) (upd H l (.tup ys)))\/(SqT X.K H p ys/\Q (.ref p) H))):=by
 intro pins s σ H xs us Q I r h
 obtain⟨p,ys,rfl,h⟩:=h
 obtain⟨u,rfl,rx⟩:=vals1 r
 cases rx
 rcases h with⟨hq,q⟩ | ⟨hq,q⟩
 ·obtain⟨its,r',pl,hz⟩:=I.list hq
  have hlen:=r'.length
  refine call_tuple_list pl.isList (fun h' kp=>?_) (by simp only[List.size_toArray]<;>omega)
  have I1:Inv X pins σ H { s with heap:=h' }:=I.kept (t':=s.toks) kp
  have I2:Inv X pins σ (upd H h'.objs.size (.tup ys)) { s with heap:=h'.push { cls:=.type "tuple", data:=.seq its.toArray } }:=
   I1.laid (t':=s.toks) (fun b o e=>Heap.get?_push_of_some _ e) (Nat.le_refl _) (show bO X.prog X.w _ _ _ (.tup ys) from⟨hz,its,r',mj.new _ _⟩)
  exact⟨.ref h'.objs.size,_,I2,rfl,q _ (I1.hok.fresh (Nat.le_refl _))⟩
 ·obtain⟨its,r',pl,hz⟩:=I.tuple hq
  exact call_tuple_same pl ⟨.ref p,H,I,rfl,q⟩
noncomputable def tyV (K:PySem.W.Frag) (T:String) (x:V) (H:Hp):Prop:=match x with
 | .str _=>T="str"
 | .int _=>T="int"
 | .ref p=>(T="list" /\ ∃xs,SqL K H p xs)\/(T="tuple" /\ ∃o,K.lookup p=some o/\o.cls=.type "tuple" /\ o.dict=none) ∨
   (T="dict" /\ ((∃kvs,H p=some (.dK kvs))\/∃kvs,H p=some (.dT kvs)))\/(T="set" /\ ∃S n,H p=some (.set S n))\/(T="tuple" /\ ∃xs,H p=some (.tup xs))
 | _=>False
theorem xE {pins:List (Addr × Obj)} {σ:St} {H:Hp} {s:Shared} {T:String} {x:V} {v:Value} (I:Inv X pins σ H s) (r:RelV x v) (ty:tyV X.K T x H) :
  s.TypeIs v T/\∀a,v=.ref a->∃ob,s.heap.get? a=some ob/\ob.dict=none:=by
 cases x with
 | str z=>
  obtain⟨t,rfl⟩:=r
  cases (show T="str" from ty)
  exact⟨typeIs_str s z t,fun _ e=>nomatch e⟩
 | int i=>
  obtain⟨t,rfl⟩:=r
  cases (show T="int" from ty)
  exact⟨typeIs_int s i t,fun _ e=>nomatch e⟩
 | ref p=>
  cases r
  rcases ty with⟨rfl,xs,hq⟩ | ⟨rfl,o,hk,hc,hd⟩ | ⟨rfl,hk⟩ | ⟨rfl,S,n,hk⟩ | ⟨rfl,xs,hk⟩
  ·obtain⟨its,_,pl,_⟩:=I.list hq
   refine⟨pl.isList.typeIs,fun a e=>?_⟩
   cases e
   obtain⟨o,n,e,c,hd,_⟩:=pl
   exact⟨o,e,hd⟩
  ·refine⟨⟨o,I.kIn p o hk,hc⟩,fun a e=>?_⟩
   cases e
   exact⟨o,I.kIn _ o hk,hd⟩
  ·have z:∃o,s.heap.get? p=some o/\o.ExactDict:=by
    rcases hk with⟨kvs,hk⟩ | ⟨kvs,hk⟩
    ·obtain⟨_,_,_,_,o,_,_,e,ex,_⟩:=I.hok p _ hk
     exact⟨o,e,ex⟩
    ·obtain⟨_,_,_,_,o,_,_,e,ex,_⟩:=I.hok p _ hk
     exact⟨o,e,ex⟩
   obtain⟨o,e,ex⟩:=z
   refine⟨⟨o,e,ex.1⟩,fun a e2=>?_⟩
   cases e2
   exact⟨o,e,ex.2.1⟩
  ·obtain⟨o,_,_,_,e,ex,_⟩:=I.hok p _ hk
   refine⟨⟨o,e,ex.1⟩,fun a e2=>?_⟩
   cases e2
   exact⟨o,e,ex.2.1⟩
  ·obtain⟨_,_,_,o,e,⟨c,_⟩,hd⟩:=I.hok p _ hk
   refine⟨⟨o,e,c⟩,fun a e2=>?_⟩
   cases e2
   exact⟨o,e,hd⟩
 | _=>exact False.elim ty
noncomputable def Fz (K:PySem.W.Frag) (T:String) (r:V->List V->Hp->VK->Prop) (to:TE):TE:=fun σ H Q=>to σ H fun x H1=>tyV K T x H1/\r x [] H1 Q
noncomputable def tBM (K:PySem.W.Frag) (T:String) (r:V->List V->Hp->VK->Prop) (to:TE) (t:TA):TE:=fun σ H Q=>to σ H fun x H1=>tyV K T x H1/\t σ H1 fun xs H2=>r x xs H2 Q
variable {o e:Expr} {es:List Expr} {to:TE} {t:TA} {name:Str} {apos cpos:Pos} {T id:String} {r:V->List V->Hp->VK->Prop}
theorem BU (pa:PlainAttrs T) (slot:Slot T name id) (hty:typeOf (.builtin id)=pure (.type "method_descriptor")) (hm:MtR X id r) (ho:PE X o to)
  (hbase:attributeBase o name X.env (eval o X.env)=eval o X.env:=by rfl) (hline:(apos.endLine == cpos.line)=true:=by rfl):PE X (.Call (.Attribute o name apos) [] [] cpos) (Fz X.K T r to):=by
 intro pins s σ H Q I h
 refine wpAny_Call_method0_late hbase hline (thn (ho pins s σ H _ I h) fun v s1 ⟨x,H1,I1,r1,ty,q1⟩=>?_)
 obtain⟨h1,h2⟩:=xE I1 r1 ty
 exact⟨T,id,pa,slot,hty,h1,h2,Calls.callWith_builtin rfl (PySem.evalArgs_none (hm pins s1 σ H1 x [] v [] Q I1 r1 .nil q1))⟩
theorem vM (pa:PlainAttrs T) (slot:Slot T name id) (hty:typeOf (.builtin id)=pure (.type "method_descriptor")) (hm:MtR X id r) (ho:PE X o to) (ha:PA X (e::es) t)
  (hbase:attributeBase o name X.env (eval o X.env)=eval o X.env:=by rfl)
  (hfew:((backTo cpos (starEach (e::es) X.env)).all (fun x=>!x.1)&&(backToKw cpos (keywordEach [] X.env)).all (fun x=>x.1.isSome)
   && decide ((e::es).length+([]:List Keyword).length+(if ([]:List Keyword).isEmpty then 0 else 1)<30))=true:=by rfl)
  (hline:(apos.endLine == cpos.line)=true:=by rfl) (hs:starEach (e::es) X.env=(false,eval e X.env)::starEach es X.env:=by rfl) (hplain:(backTo cpos (starEach es X.env)).any (·.1)=false:=by rfl) :
  PE X (.Call (.Attribute o name apos) (e::es) [] cpos) (tBM X.K T r to t):=by
 intro pins s σ H Q I h
 refine wpAny_Call_method_late hbase hfew hline rfl (thn (ho pins s σ H _ I h) fun v s1 ⟨x,H1,I1,r1,ty,q1⟩=>?_)
 obtain⟨h1,h2⟩:=xE I1 r1 ty
 refine⟨T,id,pa,slot,hty,h1,h2,?_⟩
 have hA:=ha cpos pins s1 σ H1 _ I1 q1
 rw[hs] at hA ⊢
 refine Calls.callWith_builtin (by show(false || (backTo cpos (starEach es X.env)).any (·.1))=false;rw[hplain]<;>rfl) (Calls.evalArgs_plain ?_)
 exact thn hA fun us s2 ⟨vs,H2,I2,r2,q2⟩=>hm pins s2 σ H2 x vs v us Q I2 r1 r2 q2
/- xs.append(e),list.index on a module's tuple .. are MtR facts of 06m -/
end
noncomputable def MtM (X:Cx) (id:String) (r:V->List V->Hp->VK->Prop):Prop:=
 ∀(pins:List (Addr × Obj)) (s:Shared) (σ:St) (H:Hp) (x:V) (xs:List V) (v:Value) (us:List Value) (Q:VK),Inv X pins σ H s->RelV x v->Vals xs us->r x xs H Q →
  wpAny (model X.prog X.w) X.A (call (.builtin id) (v::us)) (EP X pins σ Q) X.xe s
theorem Vals.one:∀{x:V} {us:List Value},Vals [x] us->∃u,us=[u]/\RelV x u
 | _,_,.cons r .nil=>⟨_,rfl,r⟩
theorem Vals.eraseIdx:∀{xs:List V} {us:List Value} (i:Nat),Vals xs us->Vals (xs.eraseIdx i) (us.eraseIdx i)
 | _,_,_,.nil=>.nil
 | _,_,0,.cons _ t=>t
 | _,_,i+1,.cons r t=>.cons r (Vals.eraseIdx i t)
theorem Vals.rep {xs:List V} {us:List Value} (h:Vals xs us):∀k:Nat,Vals (List.replicate k xs).flatten (List.replicate k us).flatten
 | 0=>.nil
 | k+1=>by
  rw[List.replicate_succ,List.replicate_succ,List.flatten_cons,List.flatten_cons]
  exact Vals.append h (Vals.rep h k)
theorem nD {α:Type}:∀(l:List α) (i:Nat),(l.eraseIdx i).length<=l.length
 | [],_=>Nat.le_refl _
 | _::_,0=>Nat.le_succ _
 | _::r,i+1=>Nat.succ_le_succ (nD r i)
theorem foldl_rep (its:List Value):∀(k:Nat) (acc:List Value),
  List.foldl (fun x1 x2=>x1++x2) acc.toArray (List.replicate k its.toArray)=(acc++(List.replicate k its).flatten).toArray
 | 0,acc=>by simp
 | k+1,acc=>by
  have e:acc.toArray++its.toArray=(acc++its).toArray:=by simp
  have e2:(acc++its)++(List.replicate k its).flatten=acc++(List.replicate (k+1) its).flatten:=by
   rw[List.replicate_succ,List.flatten_cons,List.append_assoc]
  rw[<- e2,<- foldl_rep its k (acc++its),<- e,List.replicate_succ,List.foldl_cons]
section
variable {X:Cx} {pins:List (Addr × Obj)} {σ:St} {H:Hp} {s:Shared} {l b:Addr} {xs ys zs:List V}
theorem Inv.DI {its its':List Value} {n:Nat} {f:Array Value->Array Value} {t':Nat} (I:Inv X pins σ H s) (hH:H l=some (.lst xs))
  (e:s.heap.get? l=some { cls:=.type "list", data:=.seq its.toArray n }) (hf:f its.toArray=its'.toArray) (hv:Vals ys its') (hz:ys.length<=sizeLine) :
  Inv X pins σ (upd H l (.lst ys)) { s with heap:=s.heap.update l (Obj.mapSeq f),toks:=t' }:=by
 have q:=PySem.IsL.update e f
 rw[hf] at q
 refine I.write (x:=l) (e:=l) (by rw[hH];exact trivial) (.inl rfl) (fun b' u hb hu=>(Heap.get?_update_other s.heap (Obj.mapSeq f) (Ne.symm hb)).trans hu) ⟨_,q⟩ ?_
 exact⟨hz,its',_,hv,q⟩
theorem Inv.uL {its:List Value} {t':Nat} (I:Inv X pins σ H s) (hv:Vals ys its) (hz:ys.length<=sizeLine) :
  Inv X pins σ (upd H s.heap.objs.size (.lst ys)) { s with heap:=s.heap.push { cls:=.type "list", data:=.seq its.toArray },toks:=t' }:=
 I.laid (fun _ _ q=>Heap.get?_push_of_some _ q) (Nat.le_refl _) ⟨hz,its,0,hv,Heap.get?_push_size _ rfl⟩
theorem Inv.fresh (I:Inv X pins σ H s):H s.heap.objs.size=none:=I.hok.fresh (Nat.le_refl _)
theorem Inv.Dk (I:Inv X pins σ H s) (hH:H l=some (.lst xs)):xs.length<=sizeLine/\∃(its:List Value) (n:Nat),Vals xs its/\xs.length=its.length/\s.heap.get? l=some { cls:=.type "list", data:=.seq its.toArray n }:=by
 obtain⟨z,its,n,r,e⟩:=I.hok l _ hH
 exact⟨z,its,n,r,r.length,e⟩
theorem vR {n:Nat} (h:n<=sizeLine):Builtin.List.listTooLong n=false:=by
 unfold Builtin.List.listTooLong
 exact decide_eq_false (by omega)
end
section
variable {X:Cx}
noncomputable def sS:V->List V->Hp->VK->Prop:=fun x vs H Q=>∃l xs y,x=.ref l/\vs=[y]/\H l=some (.lst xs)/\xs.length<sizeLine/\Q .non (upd H l (.lst (xs++[y])))
theorem jS:MtM X "list.append" sS:=by
 intro pins s σ H x vs v us Q I rx rv h
 obtain⟨l,xs,y,rfl,rfl,hH,hz,q⟩:=h
 cases rx
 obtain⟨u,rfl,ru⟩:=rv.one
 obtain⟨z,its,n,r,hl,e⟩:=I.Dk hH
 refine call_meets F.slot_list_append ⟨_,e,rfl⟩ F.entry_list_append (F.args_list_append_2 _ _) (PySem.list_append l its.toArray n u (by rw[List.size_toArray];omega)) ⟨e,?_⟩
 refine⟨.non,_,I.DI (its':=its++[u]) hH e (by simp) (r.append (.cons ru .nil)) ?_,rfl,q⟩
 rw[List.length_append,List.length_singleton]
 omega
noncomputable def yn:V->List V->Hp->VK->Prop:=fun x vs H Q=>∃l xs i k y,x=.ref l/\vs=[.int i]/\H l=some (.lst xs)/\-(2 ^ 63)<=i/\i<2 ^ 63/\seqIndex? i xs.length=some k/\xs[k]?=some y/\Q y (upd H l (.lst (xs.eraseIdx k)))
theorem yh:MtM X "list.pop" yn:=by
 intro pins s σ H x vs v us Q I rx rv h
 obtain⟨l,xs,i,k,y,rfl,rfl,hH,h1,h2,hk,hy,q⟩:=h
 cases rx
 obtain⟨u,rfl,ru⟩:=rv.one
 obtain⟨t,rfl⟩:=ru
 obtain⟨z,its,n,r,hl,e⟩:=I.Dk hH
 obtain⟨w,hw,rw'⟩:=r.get hy
 refine call_meets F.slot_list_pop ⟨_,e,rfl⟩ F.entry_list_pop (F.args_list_pop_2 _ _)
  (MeetsSeq.list_pop_at l its.toArray n i t k w (fitsIndex_both h1 h2) (by rw[List.size_toArray,<- hl];exact hk) (by rw[<- Array.getElem?_toList];exact hw) (by rw[List.size_toArray];omega)) ⟨e,?_⟩
 refine⟨y,_,I.DI (its':=its.eraseIdx k) hH e ?_ (r.eraseIdx k) ?_,rw',q⟩
 ·show its.toArray.eraseIdxIfInBounds k=(its.eraseIdx k).toArray
  rw[List.eraseIdxIfInBounds_toArray]
 ·have:=nD xs k
  omega
theorem len_rep {α:Type} (xs:List α) (k:Nat):(List.replicate k xs).flatten.length=k*xs.length:=by
 induction k with
 | zero=>simp
 | succ k ih=>rw[List.replicate_succ,List.flatten_cons,List.length_append,ih,Nat.succ_mul,Nat.add_comm]
end
end L2
namespace Att
open PySem PySem.W PySem.Calls PyProof.Rows
theorem ko {P:Params} {h:Heap}:∀(ns:List Int) (vs:List Value),WellAll P h vs (ns.map WData.int)->IntsAre vs ns:=by
 intro ns
 induction ns with
 | nil=>
  intro vs w
  rw[List.map_nil] at w
  cases w
  exact .nil
 | cons n ns ih=>
  intro vs w
  rw[List.map_cons] at w
  cases w with
  | cons a b=>
   cases a
   exact .cons _ _ (ih _ b)
theorem uM {l:OpenLaw} {n:Nat} (hn:l.most=some n) {P:Params} {h:Heap} {args:List WData} {vals:List Value}
  (hpre:l.row.toRowW.claim.pre args=true) (hwl:WellAll P h vals args) :
  ∃a vs ns,vals=[Value.ref a]/\args=[WData.list (ns.map WData.int)]/\h.get? a=some { cls:=.type "list", data:=.seq vs.toArray }/\IntsAre vs ns/\ns.length<=n:=by
 have hsh:WShape.hasAll [] args [.list .int]=true:=(pre_splitW hpre).1
 have hc:l.pre.holds [] { args:=args }=true:=(pre_splitW hpre).2
 obtain⟨d,r,rfl,h1,h2⟩:=hasAllW_cons hsh
 obtain rfl:=hasAllW_nil h2
 obtain⟨xs,rfl,h3⟩:=hasW_list h1
 obtain⟨ns,rfl⟩:=items_int h3
 have hlen:ns.length<=n:=by
  unfold OpenLaw.pre at hc
  have h4:(WTm.not (.lt (.lit (.int (n:Int))) (.len (.arg 0)))).holds [] { args:=[.list (ns.map .int)] }=true:=by
   have h4:=(holds_andW hc).1
   rw[hn] at h4
   exact h4
  have h5:=condW_of h4 (w_not (w_lt w_lit (w_len_list (w_arg rfl))))
  rw[List.length_map] at h5
  refine Nat.le_of_not_lt fun q=>?_
  have q':(n:Int)<((ns.length:Nat):Int):=by omega
  first
   | (rw[decide_eq_true q'] at h5;exact absurd h5 (by decide))
   | (simp at h5;omega)
 cases hwl with
 | cons w1 w2=>
  cases w2
  cases w1 with
  | list ho hall=>exact⟨_,_,ns,rfl,rfl,ho,ko ns _ hall,hlen⟩
theorem uB (l:OpenLaw) (args:List WData):l.row.toRowW.claim.post args (.bool true) args=true:=
 postW_of (r:=l.row.toRowW) (X:=(true == true))
  (show WShape.has [] (.bool true) .bool=true by first | rfl | decide | simp[WShape.has,WShape.arms,WShape.armsAll])
  (show(WTm.eq .res (.lit (.bool true))).value [] { args:=args,res:=some (.bool true),after:=args }=some (.bool (true == true)) from w_eq_bool (w_res rfl) w_lit) rfl
theorem qm {l:OpenLaw} {n:Nat} {q:Program} {loose:List Str} {XP:(Str->Option Value)->Heap->Prop} {YP:World->Heap->Prop} {d:DefRec}
  (hn:l.most=some n) (hdf:d.params.defaults=[])
  (call:∀(w:World) (aJ s₁:Shared) (mg mb:Str->Option Value) (fa:Addr) (o:Obj) (pm cd doc:Value) (a:Addr) (vs:List Value) (ns:List Int),
   Ground q loose [] XP w aJ mg mb s₁.heap->YP w s₁.heap →
   s₁.heap.get? fa=some o->o.data=.func (docDef d.name d.params d.body d.scope pm cd doc)->s₁.heap.CodeRec cd d.name->mg d.name=some (.ref fa) →
   s₁.heap.get? a=some { cls:=.type "list", data:=.seq vs.toArray }->IntsAre vs ns->ns.length<=n->s₁.gens = #[] →
   codeAny (model l.prog w) callerA (.call (.ref fa) ⟨[.ref a],[]⟩) (fun r s'=>r=.ok (.ret (.bool true))/\OldK s₁.heap s'.heap/\s'.os=s₁.os/\AllBare s'.gens) s₁) :
  WalkO q loose XP YP l.row.toRowW d [] (fun f vs=>PySem.call f vs):=by
 intro w aJ s₁ mg mb G Y fa o pm cd doc dV kV ho hd hcd hD hmg hg args vals as hpre hlay hrd hwl hlo
 obtain rfl:dV=.none:=Dflts.none hD hdf
 obtain rfl:kV=.none:=Dflts.noKw hD
 obtain⟨a,vs,ns,rfl,rfl,hobj,hints,hlen⟩:=uM hn hpre hwl
 refine enter_call (codeAny_mono (call w aJ s₁ mg mb fa o pm cd doc a vs ns G Y ho (fd_plain hd) hcd hmg hobj hints hlen hg) fun r s' hq=>?_)
 obtain⟨rfl,h2,h3,h4⟩:=hq
 exact⟨.inl ⟨.bool true,.bool true,[],rfl,fun _=>rfl,.bool true,uB l _,fun _=>⟨List.Pairwise.nil,fun _ hm=>(nomatch hm)⟩⟩,h2,h3,h4⟩
end Att
namespace L2
open PySem PySem.Spec PyProof.Rows
theorem nS:∀{vs:List Value} {ns:List Int},IntsAre vs ns->Vals (ns.map V.int) vs
 | _,_,.nil=>.nil
 | _,_,.cons n t h=>.cons ⟨t,rfl⟩ (nS h)
noncomputable def Ar (H:Hp):Prop:=∀b,H b=none\/∃o xs,H b=some (.frz o (.lst xs))
theorem xV {P:Program} {w:World} {K:PySem.W.Frag} {mg mb:Str->Option Value} {CX:CXT} {k:Nat} {fa a:Addr} {fd:FuncData} {x:Str} {sp:Sp} {s₁:Shared} {vs:List Value} {ns:List Int}
  (KX:K.In s₁.heap) (hns:s₁.heap.Ns mainGlobals mg) (hb:s₁.heap.Ns builtinsNs mb) (hbb:∀x:Str,x≠"__name__" -> mb x=bootBuiltins x) (hlim:s₁.heap.NoLimit) (hg:s₁.gens = #[])
  (ha:s₁.heap.get? a=some { cls:=.type "list", data:=.seq vs.toArray }) (hi:IntsAre vs ns) (hl:ns.length<=sizeLine) (hr:cO k callerA)
  (F:∀base:Heap,K.In base->base.Ns mainGlobals mg->dq P w K mg base CX k fa fd [x] sp) (hbind:∀(s:Shared) (u:Value),BindsTo s fd ⟨[u],[]⟩ [(x,u)])
  (hsp:∀H:Hp,Ar H->SqL K H a (ns.map V.int)->sp [.ref a] H (fun v _=>v=.bl true) fun _ _ _=>False)
  (hCX:∀H e s',CX [] H s₁ (fun _ _ _=>False) e s'->False) :
  codeAny (model P w) callerA (.call (.ref fa) ⟨[.ref a],[]⟩) (fun r s'=>r=.ok (.ret (.bool true))/\OldK s₁.heap s'.heap/\s'.os=s₁.os/\AllBare s'.gens) s₁:=by
 have rv:=nS hi
 have lenV:=hi.length
 -- from an abstract heap in which nothing but the script may be tracked
 have core:∀H:Hp,Ar H->SqL K H a (ns.map V.int)->HOk P w H s₁.heap->(∀b,H b≠none->b=a)->(H a≠none->K.lookup a=none) →
   codeAny (model P w) callerA (.call (.ref fa) ⟨[.ref a],[]⟩) (fun r s'=>r=.ok (.ret (.bool true))/\OldK s₁.heap s'.heap/\s'.os=s₁.os/\AllBare s'.gens) s₁:=by
  intro H hO hS hok hA hK
  have base_of:∀{b:Addr} {o:Obj},s₁.heap.get? b=some o->H b=none->(nY s₁.heap H).get? b=some o:=fun e n=>yC e n
  have noA:∀{b:Addr} {o:Obj} {es:Array DictEntry} {ep:Nat},s₁.heap.get? b=some o->o.data=.dict es ep->H b=none:=fun{b o es ep} e d=>by
   cases q:H b with
   | none=>rfl
   | some u=>
    have e':b=a:=hA b (by rw[q];simp)
    subst e'
    rw[ha] at e;cases e
    have d':Data.seq vs.toArray _=Data.dict es ep:=d
    cases d'
  have nsK:∀{b:Addr} {m:Str->Option Value},s₁.heap.Ns b m->(nY s₁.heap H).Ns b m:=fun{b m} ⟨o,es,ep,e,d,r⟩=>⟨o,es,ep,base_of e (noA e d),d,r⟩
  have hKb:K.In (nY s₁.heap H):=fun b o e=>base_of (KX b o e) (by
   cases q:H b with
   | none=>rfl
   | some u=>
    have e':b=a:=hA b (by rw[q];simp)
    subst e'
    rw[hK (by rw[q];simp)] at e;cases e)
  have hM:Mod K mg (nY s₁.heap H):=⟨hKb,nsK hns,⟨mb,nsK hb,hbb⟩,let ⟨mc,h1,h2⟩:=hlim;⟨mc,nsK h1,h2⟩⟩
  have e0:xq P w K mg (nY s₁.heap H) callerA [] s₁ H:=⟨rfl,hM,fun b o e=>zv e,Nat.le_of_eq (uK _ _),trivial,fun b hb=>absurd (show b∈([]:List Addr) from hb) (by simp),hok,.of_eq hg⟩
  refine codeAny_mono ((F _ hKb (nsK hns)).run callerA [] s₁ H ⟨[.ref a],[]⟩ [.ref a] [.ref a] _ _ hr e0 (hbind s₁ (.ref a)) (.cons rfl .nil) (hsp H hO hS)) fun r s' h=>?_
  cases r with
  | error e=>exact(hCX H e s' h).elim
  | ok fl=>
   cases fl with
   | next=>exact False.elim h
   | brk=>exact False.elim h
   | cont=>exact False.elim h
   | ret u=>
    obtain⟨v,H',os,bare,un,hok',r',q⟩:=h
    have q':v=.bl true:=q
    subst q'
    obtain rfl:u=Value.bool true:=r'
    refine⟨rfl,OldK.of_keep fun b o e=>?_,os,bare⟩
    cases q:H b with
    | none=>exact un.keep b o e q (by intro z;exact absurd (show b∈([]:List Addr) from z) (by simp)) (by simp)
    | some u=>
     rcases hO b with z | ⟨ob,xs,z⟩
     ·rw[q] at z;cases z
     ·have z2:=un.lr b ob _ z
      obtain⟨e1,_⟩:=hok b _ z
      obtain⟨e2,_⟩:=hok' b _ z2
      rw[e] at e1;cases e1
      exact e2
 cases hk:K.lookup a with
 | some o=>
  -- the script is one of the module's own objects
  have e:=KX a o hk
  rw[ha] at e
  cases e
  refine core (fun _=>none) (fun _=>.inl rfl) (.inr ⟨_,vs.toArray,_,hk,rfl,rfl,rfl,by rw[List.size_toArray,lenV];exact hl,by simpa using rv⟩) (fun b u z=>by have z':(none:Option HO)=some u:=z;cases z') (fun b z=>absurd rfl z) fun z=>absurd rfl z
 | none=>
  refine core (fun b=>if b=a then some (.frz { cls:=.type "list", data:=.seq vs.toArray } (.lst (ns.map V.int))) else none) (fun b=>?_) (.inl (.inr ⟨{ cls:=.type "list", data:=.seq vs.toArray },if_pos rfl⟩)) (fun b u z=>?_) (fun b z=>?_) fun _=>hk
  ·by_cases hb:b=a
   ·exact .inr ⟨_,_,if_pos hb⟩
   ·exact .inl (if_neg hb)
  ·by_cases hb:b=a
   ·have z':=(if_pos hb).symm.trans z
    cases z'
    subst hb
    exact⟨ha,by rw[List.length_map];exact hl,vs,_,rv,ha⟩
   ·have z':=(if_neg hb).symm.trans z
    cases z'
  ·by_cases hb:b=a
   ·exact hb
   ·exact absurd (if_neg hb) z
noncomputable abbrev KOf {K:PySem.W.Frag} {h:Heap} (_:K.In h):PySem.W.Frag:=K
theorem zK {l:PySem.W.OpenLaw} {n k:Nat} {q:Program} {loose:List Str} {XP:(Str->Option Value)->Heap->Prop} {YP:World->Heap->Prop} {d:DefRec} {K:Params->PySem.W.Frag} {CX:World->CXT} {sp:World->Sp} {x:Str}
  (hn:l.most=some n) (hn2:n<=sizeLine) (hdf:d.params.defaults=[]) (hr:cO k callerA)
  (hY:∀(w:World) (h:Heap),YP w h->(K w.params).In h)
  (F:∀(w:World) (mg:Str->Option Value) (fa:Addr) (h:Heap),(K w.params).In h->h.Ns mainGlobals mg->mg d.name=some (.ref fa) →
   ∃fd:FuncData,(∀(s:Shared) (u:Value),BindsTo s fd ⟨[u],[]⟩ [(x,u)]) ∧
    ∀base:Heap,(K w.params).In base->base.Ns mainGlobals mg->dq l.prog w (K w.params) mg base (CX w) k fa fd [x] (sp w))
  (hsp:∀(w:World) (H:Hp) (a:Addr) (ns:List Int),ns.length<=n->Ar H->SqL (K w.params) H a (ns.map V.int)->sp w [.ref a] H (fun v _=>v=.bl true) fun _ _ _=>False)
  (hCX:∀(w:World) (H:Hp) (s:Shared) (e:Value) (s':Shared),CX w [] H s (fun _ _ _=>False) e s'->False) :
  PySem.W.WalkO q loose XP YP l.row.toRowW d [] (fun f vs=>PySem.call f vs):=by
 refine Att.qm hn hdf fun w aJ s₁ mg mb fa o pm cd doc a vs ns G Y ho hd hcd hmg hobj hints hlen hg=>?_
 have KX:=hY w _ Y
 obtain⟨fd,hb,hF⟩:=F w mg fa _ KX G.T.g hmg
 exact xV KX G.T.g G.T.b G.T.builtins G.T.nolimit hg hobj hints (Nat.le_trans hlen hn2) hr hF hb (fun H hO hS=>hsp w H a ns hlen hO hS) fun H e s'=>hCX w H s₁ e s'
end L2
/- THE LAST THEOREM (shape;LID,My.* are yours):
  My.Adr: a structure of the addresses that your layer names (classes,functions);My.Txt K t: a structure (Prop) of the equations over K;
  My.txt_mk:{K} {implicit addresses ..} (e1:nsIn K mainGlobals "law" = some (some (.ref f))) (e2:K.lookup f=some ⟨oc,od,.func (fnOf "law" "law" params body scope dV kV doc pm an cdv ct),sl⟩) (e3:codeIn K cdv "law" = true) .. : ∃t,My.Txt K t
(the tactic k_is has no namespace: write k_is) -/
namespace L2
open PySem PySem.Spec PyProof.Rows
noncomputable def eZ (s:Stmt):Arguments:=match s with
 | .FunctionDef _ a _ _ _ _ _ _ _ _=>a
 | _=>{ posonlyargs:=[],args:=[],vararg:=none,kwonlyargs:=[],kw_defaults:=[],kwarg:=none,defaults:=[] }
noncomputable def bS (s:Stmt):List Stmt:=match s with
 | .FunctionDef _ _ b _ _ _ _ _ _ _=>b
 | _=>[]
noncomputable def ak (s:Stmt):Scope:=match s with
 | .FunctionDef _ _ _ _ _ _ sc _ _ _=>sc
 | _=>{ kind:=.function,names:=[],isGenerator:=false,isCoroutine:=false }
noncomputable abbrev CX0:CXT:=fun _ _ _ _ _ _=>False
noncomputable abbrev E0:XK:=fun _ _ _=>False
theorem DN {X:Cx}:Passes CX0 X E0:=fun _ _ _ _ _ _ _ h=>h.elim
structure Fun (K:PySem.W.Frag) (x qual:Str) (st:Stmt) (f:Addr) (fd:FuncData):Prop where
 ex:∃(oc:Value) (od:Option Addr) (kV doc pm:Value) (an:Option Addr) (cdv ct:Value) (osl:Array (Option Value)),
  fd=PySem.W.fnOf x qual (eZ st) (bS st) (ak st) .none kV doc pm an cdv ct/\K.lookup f=some ⟨oc,od,.func fd,osl⟩/\PySem.W.codeIn K cdv qual=true
 kp:PySem.W.keepIn K (.ref f)=true
section
variable {P:Program} {w:World} {K:PySem.W.Frag} {mg:Str->Option Value} {base:Heap}
theorem Fun.ok {x qual:Str} {st:Stmt} {f:Addr} {fd:FuncData} {N ps:List Str} {k:Nat} {sp:Sp} (F:Fun K x qual st f fd) (S:aN N ps (ak st)) (len:∀vs H Q E,sp vs H Q E->vs.length=ps.length)
  (hbody:∀(cdv:Value) (A:Around) (outer:List Env) (s:Shared) (H:Hp) (vs:List V) (Q:VK) (E:XK),cO k (A.deeper (envOfC qual (ak st) s.heap.objs.size f cdv))->sp vs H Q E →
   ∃t,PSs (iC CX0 P w K mg base N qual (ak st) f cdv A outer s H E).nox (bS st) t/\t { nx:=fun _ H'=>Q .non H',rt:=Q } (start N vs) H):dq P w K mg base CX0 (k+1) f fd ps sp:=by
 obtain⟨oc,od,kV,doc,pm,an,cdv,ct,osl,rfl,lk,hcd⟩:=F.ex
 refine AI lk hcd S len fun A outer s H vs Q E hr hsp=>?_
 obtain⟨t,h,q⟩:=hbody cdv A outer s H vs Q E hr hsp
 exact⟨t,h.nox,q⟩
theorem Fun.binds {x qual:Str} {st:Stmt} {f:Addr} {fd:FuncData} {ps:List Str} (F:Fun K x qual st f fd)
  (h:∀(kV doc pm:Value) (an:Option Addr) (cdv ct:Value) (us:List Value),us.length=ps.length->bindArgs (PySem.W.fnOf x qual (eZ st) (bS st) (ak st) .none kV doc pm an cdv ct) ⟨us,[]⟩=pure (ps.zip us)):Binds K fd ps []:=by
 obtain⟨oc,od,kV,doc,pm,an,cdv,ct,osl,rfl,lk,hcd⟩:=F.ex
 exact .all (h kV doc pm an cdv ct)
theorem xi {x qual:Str} {st:Stmt} {f:Addr} {oc:Value} {od an:Option Addr} {osl:Array (Option Value)} {kV doc pm cdv ct:Value} (l:K.lookup f=some ⟨oc,od,.func (PySem.W.fnOf x qual (eZ st) (bS st) (ak st) .none kV doc pm an cdv ct),osl⟩)
  (c:PySem.W.codeIn K cdv qual=true) (k:PySem.W.keepIn K (.ref f)=true):Fun K x qual st f (PySem.W.fnOf x qual (eZ st) (bS st) (ak st) .none kV doc pm an cdv ct):=⟨⟨oc,od,kV,doc,pm,an,cdv,ct,osl,rfl,l,c⟩,k⟩
end
noncomputable def PTs (X:Cx) (ifs:List Expr) (t:TT):Prop:=
 ∀(pins:List (Addr × Obj)) (s:Shared) (σ:St) (H:Hp) (Q:Bool->Hp->Prop),Inv X pins σ H s->t σ H Q →
  wpAny (model X.prog X.w) X.A (forIn ifs true fun c r=>if r=true then do let ok ← isTrue c X.env (eval c X.env);pure (ForInStep.yield ok) else pure (ForInStep.yield r)) (TP X pins σ Q) X.xe s
noncomputable def DW:TT:=fun _ H Q=>Q true H
theorem zX {X:Cx}:PTs X [] DW:=fun _ _ _ H _ I h=>wpAny_tests_nil ⟨H,I,h⟩
theorem qR {prog:Program} {w:World} {A:Around} {R:Result->Shared->Prop} {s:Shared} {elt target iter:Expr} {ifs:List Expr} {scope:Scope} {pos:Pos} {it acc:Value} {env:Env} (I:Nat->Shared->Prop)
  (turn:∀n s,I n s->wpAny (model prog w) A (pyNext it) (fun r s₁=>match r with
   | none=>R (.ok .next) s₁
   | some v=>wpAny (model prog w) A (letOwnedTupleGo target it v) (fun _ s₁=>wpAny (model prog w) A (assign target env v) (fun _ s₂=>
     wpAny (model prog w) A (forIn ifs true fun c r=>if r=true then do let ok ← isTrue c env (eval c env);pure (ForInStep.yield ok) else pure (ForInStep.yield r)) (fun ok s₃=>
      if ok=true then wpAny (model prog w) A (eval elt env) (fun x s₄=>
       wpAny (model prog w) A (call (.builtin "list.append") [acc,x]) (fun _ s₅=>∃m,m<n/\I m s₅) (fun _ _=>False) s₄) (fun _ _=>False) s₃
      else ∃m,m<n/\I m s₃) (fun _ _=>False) s₂) (fun _ _=>False) s₁) (fun _ _=>False) s₁) (fun _ _=>False) s)
  (n:Nat) (h:I n s) :
  codeAny (model prog w) A (.compLoop (.ListComp elt [⟨target,iter,ifs,0⟩] scope pos) 0 it acc env) R s:=by
 refine codeAny_loop rfl I (fun n s hI=>?_) n h
 show wpAny _ A ((compTurn (.ListComp elt [⟨target,iter,ifs,0⟩] scope pos) 0 it acc env).onRaise (fun x=>do noteFrame x env;theTreesLotGoes x)) _ _ s
 refine wpAny_noted ?_
 rw[compTurn_list]
 refine wpAny_noRaise ?_
 refine wpAny_bind (wpAny_standAt (wpAny_bind (wpAny_mono (turn n s hI) (fun r s₁ h₁=>?_) fun _ _ h'=>h')))
 cases r with
 | none=>exact wpAny_pure h₁
 | some v=>
  refine wpAny_bind (wpAny_mono h₁ (fun _ s₁' h₁'=>?_) fun _ _ h'=>h')
  refine wpAny_bind (wpAny_mono h₁' (fun _ s₂ h₂=>wpAny_bind (wpAny_mono h₂ (fun ok s₃ h₃=>?_) fun _ _ h'=>h')) fun _ _ h'=>h')
  cases ok with
  | false=>exact wpAny_pure ⟨rfl,h₃⟩
  | true=>
   exact wpAny_bind (wpAny_bind (wpAny_mono h₃ (fun x s₄ h₄=>wpAny_bind (wpAny_mono h₄ (fun _ s₅ h₅=>wpAny_pure (wpAny_pure ⟨rfl,h₅⟩)) fun _ _ h'=>h')) fun _ _ h'=>h'))
noncomputable def cK (X:Cx) (scope:Scope) (cl:List (Str × Addr)) (C:Addr) (aJ:Shared) (aT:Hp) (fp:List Addr) (N':List Str):Cx:=
 { X with N:=N',aJ:=aJ,aT:=aT,env:=compEnvC scope cl C X.env,outer:=X.stack,ex:=fp,fn:=fun _=>false,pn:=[] }
theorem iB {env:Env}:∀(names:List (Str × NameKind)) (cs:List (Str × Addr)),(∀y∈names,y.2=.free->∃a,env.cells.lookup y.1=some a)->(∀x c,cs.lookup x=some c->env.cells.lookup x=some c) →
  ∃cl:List (Str × Addr),(forIn names cs fun(y:Str × NameKind) (r:List (Str × Addr))=>if (y.2 == NameKind.free)=true then do let a ← cellOf env y.1;pure (ForInStep.yield ((y.1,a)::r)) else pure (ForInStep.yield r):Sem (List (Str × Addr)))=pure cl ∧
   (∀x c,cl.lookup x=some c->env.cells.lookup x=some c)/\(∀x,((x,NameKind.free)∈names\/∃c,cs.lookup x=some c)->∃c,cl.lookup x=some c)
 | [],cs,_,h=>⟨cs,rfl,h,fun x hx=>by
   rcases hx with z | z
   ·cases z
   ·exact z⟩
 | (n,k)::r,cs,hf,h=>by
  by_cases hk:k=.free
  ·subst hk
   obtain⟨a,ha⟩:=hf (n,.free) (by simp) rfl
   obtain⟨cl,e,h1,h2⟩:=iB r ((n,a)::cs) (fun y hy=>hf y (List.mem_cons_of_mem _ hy)) (fun x c q=>by
    rw[List.lookup_cons] at q
    cases hx:x == n with
    | true=>
     rw[hx] at q
     have:x=n:=by simpa using hx
     subst this
     cases q;exact ha
    | false=>rw[hx] at q;exact h x c q)
   refine⟨cl,?_,h1,fun x hx=>?_⟩
   ·rw[List.forIn_cons]
    have e0:cellOf env n=pure a:=by unfold cellOf;rw[ha]
    simp only[beq_self_eq_true,if_true,e0]
    exact e
   ·have hc:∀z c,cs.lookup z=some c->∃c,((n,a)::cs).lookup z=some c:=fun z c q=>by
     rw[List.lookup_cons]
     cases z == n with
     | true=>exact⟨a,rfl⟩
     | false=>exact⟨c,q⟩
    rcases hx with z | ⟨c,z⟩
    ·rcases List.mem_cons.mp z with q | q
     ·cases q
      exact h2 n (.inr ⟨a,by simp[List.lookup_cons]⟩)
     ·exact h2 x (.inl q)
    ·exact h2 x (.inr (hc x c z))
  ·obtain⟨cl,e,h1,h2⟩:=iB r cs (fun y hy=>hf y (List.mem_cons_of_mem _ hy)) h
   have hb:(k == NameKind.free)=false:=by simpa using hk
   refine⟨cl,?_,h1,fun x hx=>?_⟩
   ·rw[List.forIn_cons]
    simp only[hb,Bool.false_eq_true,if_false]
    exact e
   ·rcases hx with z | z
    ·rcases List.mem_cons.mp z with q | q
     ·cases q;exact absurd rfl hk
     ·exact h2 x (.inl q)
    ·exact h2 x (.inr z)
theorem mQ {env:Env} {scope:Scope} (h:∀y∈scope.names,y.2=.free->∃a,env.cells.lookup y.1=some a) :
  ∃cl:List (Str × Addr),closureFor scope env=pure cl/\(∀x c,cl.lookup x=some c->env.cells.lookup x=some c)/\(∀x,(x,NameKind.free)∈scope.names->∃c,cl.lookup x=some c):=by
 obtain⟨cl,e,h1,h2⟩:=iB (env:=env) scope.names [] h (fun x c q=>by cases q)
 refine⟨cl,?_,h1,fun x hx=>h2 x (.inl hx)⟩
 exact Eq.trans (congrArg (fun t:Sem (List (Str × Addr))=>t >>= fun cs=>pure cs) e) rfl
theorem lookup_mem {x:Str} {k:NameKind}:∀{names:List (Str × NameKind)},names.lookup x=some k->(x,k)∈names
 | [],h=>by cases h
 | (n,j)::r,h=>by
  rw[List.lookup_cons] at h
  cases hx:x == n with
  | true=>
   rw[hx] at h
   have:x=n:=by simpa using hx
   subst this
   cases h;simp
  | false=>rw[hx] at h;exact List.mem_cons_of_mem _ (lookup_mem h)
theorem ef {env:Env} (hf:env.scope.kind=.function):∀{names:List (Str × NameKind)} {x:Str},names.lookup x=some .free->env.kindOf x=some .cell →
  (names.map fun(n,k)=>if (k == NameKind.free&&env.scope.kind == .function&&env.kindOf n == some .cell) then (n,NameKind.cell) else (n,k)).lookup x=some .cell
 | [],_,h,_=>by cases h
 | (n,k)::r,x,h,hc=>by
  have ih:=@ef env hf r x
  show List.lookup x ((if (k == NameKind.free&&env.scope.kind == .function&&env.kindOf n == some .cell)=true then (n,NameKind.cell) else (n,k))::_)=_
  cases hx:x == n with
  | true=>
   have:x=n:=by simpa using hx
   subst this
   simp only[List.lookup_cons,hx] at h
   cases h
   rw[if_pos (by simp[hf,hc])]
   simp[List.lookup_cons]
  | false=>
   simp only[List.lookup_cons,hx] at h
   by_cases hq:(k == NameKind.free&&env.scope.kind == .function&&env.kindOf n == some .cell)=true
   ·rw[if_pos hq];simp only[List.lookup_cons,hx];exact ih h hc
   ·rw[if_neg hq];simp only[List.lookup_cons,hx];exact ih h hc
theorem f9 {env:Env}:∀{names:List (Str × NameKind)} {x:Str} {k:NameKind},(names.map fun(n,k)=>if (k == NameKind.free&&env.scope.kind == .function&&env.kindOf n == some .cell) then (n,NameKind.cell) else (n,k)).lookup x=some k →
  names.lookup x=some k\/(names.lookup x=some .free/\k=.cell)
 | [],_,_,h=>by cases h
 | (n,j)::r,x,k,h=>by
  have ih:=@f9 env r x k
  have h':List.lookup x ((if (j == NameKind.free&&env.scope.kind == .function&&env.kindOf n == some .cell)=true then (n,NameKind.cell) else (n,j))::(r.map fun(n,k)=>if (k == NameKind.free&&env.scope.kind == .function&&env.kindOf n == some .cell) then (n,NameKind.cell) else (n,k)))=some k:=h
  by_cases hq:(j == NameKind.free&&env.scope.kind == .function&&env.kindOf n == some .cell)=true
  ·rw[if_pos hq] at h'
   have hj:j=.free:=by
    have:=Bool.and_eq_true_iff.mp (Bool.and_eq_true_iff.mp hq).1
    simpa using this.1
   simp only[List.lookup_cons] at h' ⊢
   cases hx:x == n with
   | true=>rw[hx] at h';cases h';exact .inr ⟨by rw[hj],rfl⟩
   | false=>rw[hx] at h';exact ih h'
  ·rw[if_neg hq] at h'
   simp only[List.lookup_cons] at h' ⊢
   cases hx:x == n with
   | true=>rw[hx] at h';cases h';exact .inl rfl
   | false=>rw[hx] at h';exact ih h'
noncomputable def nJ (ix:List Nat) (σ:St):St:=none::ix.map fun i=>(σ[i]?).join
noncomputable abbrev Dx (J:It) (tt:TT) (te:TE) (σ':V->St) (acc:Addr) (H1:Hp) (Q:VK):Prop:=
 ∃W:Nat->Nat->List V->Hp->Prop,(∃m,W 0 m [] (upd H1 acc (.lst [])))/\∀i m ys H,W i m ys H →
  (J.stop i H/\Q (.ref acc) H)\/(J.go i H/\∀x H',J.yld i H x H'->tt (σ' x) H' fun b H2=>if b=true then te (σ' x) H2 fun y H3=>
    H3 acc=some (.lst ys)/\ys.length<sizeLine/\∃m',m'<m/\W (i+1) m' (ys++[y]) (upd H3 acc (.lst (ys++[y])))
   else ∃m',m'<m/\W (i+1) m' ys H2)
noncomputable def A6 (wi:TI) (ix:List Nat) (tt:TT) (te:TE):TE:=fun σ H Q=>wi σ H fun J H1=>∀acc,H1 acc=none->Dx J tt te (fun x=>(nJ ix σ).set 0 (some x)) acc H1 Q
theorem HOk.sameBut {P:Program} {w:World} {H:Hp} {h h':Heap} {C:Addr} (x:HOk P w H h) (hn:H C=none) (k:∀b u,b≠C->h.get? b=some u->h'.get? b=some u):HOk P w H h':=fun b u e=>by
 have nC:∀b u,H b=some u->b≠C:=fun b u e z=>by rw[z,hn] at e;cases e
 refine(x b u e).iR (fun c v hc q=>k c v ?_ q) (fun _ q=>q) fun _ _ q=>q
 rcases hc with z | z
 ·rw[z];exact nC b u e
 ·exact nC c _ z
theorem qx:isSubtype (.type "tuple") (.type "set")=pure false:=by rw[isSubtype_type];kernel_rfl
theorem pM:isSubtype (.type "tuple") (.type "frozenset")=pure false:=by rw[isSubtype_type];kernel_rfl
noncomputable abbrev eh (led:Bool):Obj:={ cls:=.type "set", dict:=none,data:=.set #[] 0 (.fresh 0 0 led) }
set_option maxHeartbeats 3200000 in
theorem set_tuple {prog:Program} {w:World} {B:Around} {Er:Value->Shared->Prop} {z:Shared} {a:Addr} {its:Array Value} {zs:List Int} {Q:Value->Shared->Prop}
  (hh:B.handled=none) (ht:z.heap.IsTuple a its) (hi:IntsAre its.toList zs) (hb:its.size+1<scanBound)
  (fin:∀(g':Heap) (tk:Nat),g'.SetOf (intKind prog w) z.heap.objs.size (fun k'=>(firstMet (fun i=>zs.getD i 0) its.size).any (· == k')) (firstMet (fun i=>zs.getD i 0) its.size).length →
   (∀b o,b<z.heap.objs.size->z.heap.get? b=some o->g'.get? b=some o)->Q (.ref z.heap.objs.size) { z with heap:=g',toks:=tk }) :
  wpAny (model prog w) B (call (.type "set") [.ref a]) Q Er z:=by
 obtain⟨_,_,_⟩:=F.called_set.mro
 have:=F.called_set.made
 have:=F.called_set.sub
 refine wpAny_call (codeAny_of_tree ?_)
 show wpAny _ _ (callAny (.type "set") _) _ _ _
 refine wpAny_pure ⟨Code.quiet_builtin _ (by decide +kernel),codeAny_builtin F.entry_type_call ?_⟩
 rw[Around.under_plain (weight_type_call_type "set" [.ref a] []) rfl]
 have:=F.called_set.notType
 have:=F.called_set.canCreate
 have:=F.typeCall_set_1 (.ref a)
 repeat (any_goals (first | assumption | wp_step))
 refine codeAny_mono (code_set_new_1 (.ref a) (E:=Er) (Q₁:=fun v y=>∃led:Bool,v=.ref z.heap.objs.size/\y={ z with heap:=z.heap.push (eh led) }) fun led=>⟨led,rfl,rfl⟩) fun r y hr=>?_
 cases r with
 | error e=>exact hr
 | ok fl=>
  cases fl with
  | ret v=>
   obtain⟨led,rfl,rfl⟩:=hr
   have hS:(z.heap.push (eh led)).get? z.heap.objs.size=some (eh led):=Heap.get?_push_size _ rfl
   have hT:Shared.TypeIs { z with heap:=z.heap.push (eh led) } (.ref z.heap.objs.size) "set" := ⟨_,hS,rfl⟩
   have:=F.called_set.init.lookup
   have:=F.called_set.init.bind (.ref z.heap.objs.size)
   repeat (any_goals (first | assumption | wp_step))
   refine codeAny_mono (codeAny_call_builtin (R:=wants (fun r y=>r=.none/\∃g' tk,y={ z with heap:=g',toks:=tk } ∧
     g'.SetOf (intKind prog w) z.heap.objs.size (fun k'=>(firstMet (fun i=>zs.getD i 0) its.size).any (· == k')) (firstMet (fun i=>zs.getD i 0) its.size).length ∧
     (∀b o,b<z.heap.objs.size->z.heap.get? b=some o->g'.get? b=some o)) Er) F.called_set.init.plain F.entry_set_init (check_set_init_1 hT ?_)) fun r₂ y₂ hr₂=>?_
   ·obtain⟨ol,hol,hcl,nl,hdl⟩:=id ht
    obtain⟨oc,od,oda,osl⟩:=ol
    simp only at hcl hdl
    subst hcl;subst hdl
    have hol':(z.heap.push (eh led)).get? a=some { cls:=.type "tuple", dict:=od,data:=.seq its nl,slots:=osl }:=Heap.get?_push_of_some _ hol
    have:=qx
    have:=pM
    have:(Value.type "tuple" == Value.type "dict")=false:=by decide
    have ht1:(z.heap.push (eh led)).IsTuple a its:=⟨_,hol',rfl,nl,rfl⟩
    unfold Builtin.«set.__init__» noKeywords Builtin.Frozenset.updateFrom
    generalize hPI:pyIter=PI
    wp_walk
    subst hPI
    refine wpAny_pyIter_tuple ht1 ?_
    refine wpAny_bind (wpAny_runValue ?_)
    have hlS:a<z.heap.objs.size:=Heap.lt_size hol
    have hneI:a≠(z.heap.push (eh led)).objs.size:=by
     rw[Heap.size_push];exact Nat.ne_of_lt (Nat.lt_succ_of_lt hlS)
    have hSf:z.heap.objs.size∉[(z.heap.push (eh led)).objs.size,a]:=by
     rw[Heap.size_push];simp only[List.mem_cons,List.mem_singleton,List.not_mem_nil,or_false,not_or]
     exact⟨Nat.ne_of_lt (Nat.lt_succ_self _),Nat.ne_of_gt hlS⟩
    have hval:∀(i:Nat) (v:Value),its[i]?=some v->∃t,v=.int ((fun i=>zs.getD i 0) i) t:=fun i v hv=>IntsAre.int_at hi i v (by rw[Array.getElem?_toList];exact hv)
    refine codeAny_set_update_loopS ((Walks.tuple (by simp[hh]) _ a hneI its).toS) z.heap.objs.size
     hSf (fun i=>zs.getD i 0) hval hb (its.size - 0) 0 _ (by omega) (Nat.zero_le _)
     ⟨⟨_,Heap.get?_push_size _ rfl,rfl,rfl⟩,?hP⟩ ?hS0 ?hR
    case hP=>exact⟨_,Heap.get?_push_of_some _ hol',rfl,nl,rfl⟩
    case hS0=>
     exact SetOf_congr ((setObjOf_fresh (knd:=intKind prog w) led).setOf (Heap.get?_push_of_some _ hS) (by unfold scanBound;omega)) (fun _=>rfl) rfl
    case hR=>
     intro s' hm hS'
     obtain⟨h',g',d',tk',os'⟩:=s'
     obtain rfl:g'=z.gens:=hm.gens
     obtain rfl:d'=z.drawn:=hm.drawn
     obtain rfl:os'=z.os:=hm.os
     show wpAny _ _ _ _ _ _
     refine wpAny_pure ?_
     show wpAny _ _ (ret Value.none) _ _ _
     refine wpAny_pure ⟨rfl,h',tk',rfl,hS',fun b o hb e=>?_⟩
     refine hm.heap b o ?_ (Heap.get?_push_of_some _ (Heap.get?_push_of_some _ e))
     simp only[List.mem_cons,List.mem_singleton,List.not_mem_nil,or_false,not_or]
     refine⟨Nat.ne_of_lt hb,?_⟩
     show b≠(z.heap.push (eh led)).objs.size
     rw[Heap.size_push];exact Nat.ne_of_lt (Nat.lt_succ_of_lt hb)
   ·cases r₂ with
    | error e=>exact hr₂
    | ok fl₂=>
     cases fl₂ with
     | ret r=>
      obtain⟨rfl,g',tk,rfl,hS',hk'⟩:=hr₂
      repeat (any_goals (first | assumption | wp_step))
      exact fin _ _ hS' hk'
     | _=>exact hr₂.elim
  | _=>exact hr.elim
section
variable {X:Cx}
theorem qb:aP X (.builtin "isinstance") (fun vs H Q=>∃x t n b,vs=[x,.ty n]/\iF X.K H x t/\PySem.W.kitOne X.K t (.type n)=some b/\Q (.bl b) H):=by
 intro pins s σ H xs us Q I r h
 obtain⟨x,t,n,b,rfl,ty,e,q⟩:=h
 obtain⟨u,w',rfl,r1,r2⟩:=vals2 r
 cases r2
 exact uC I r1 ty e fun tk=>⟨.bl b,H,I.tok tk,rfl,q⟩
noncomputable def unl (ns:List Int):List Int:=firstMet (fun i=>ns.getD i 0) ns.length
theorem BS (ns:List Int):(unl ns).length<=ns.length:=firstMet_length_le _ _
theorem n8 (hc:X.calm=true):aP X (.type "set") (fun vs H Q=>∃p ns,vs=[.ref p]/\SqT X.K H p (ns.map V.int)/\ns.length+1<scanBound/\∀l,H l=none->Q (.ref l) (upd H l (.set (fun k=>(unl ns).any (· == k)) (unl ns).length))):=by
 intro pins s σ H xs us Q I r h
 obtain⟨p,ns,rfl,hq,hb,q⟩:=h
 obtain⟨u,rfl,rx⟩:=vals1 r
 cases rx
 obtain⟨its,r',pl,hz⟩:=I.tuple hq
 have hlen:=r'.length
 rw[List.length_map] at hlen
 have e0:its.toArray.size=ns.length:=by rw[List.size_toArray,hlen]
 refine set_tuple (I.ok.hd hc) (show s.heap.IsTuple p its.toArray from pl) (zs:=ns) (by simpa using intsAre_of r') (by rw[e0];exact hb) fun g' tk hS hk=>?_
 rw[e0] at hS
 exact⟨.ref s.heap.objs.size,_,I.laid (t':=tk) (fun b o e=>hk b o (Heap.lt_size e) e) (Nat.le_refl _) (show bO X.prog X.w _ g' _ (.set _ _) from hS),rfl,q _ (I.hok.fresh (Nat.le_refl _))⟩
theorem mL:aP X (.builtin "len") (fun vs H Q=>∃p S n,vs=[.ref p]/\H p=some (.set S n)/\Q (.int n) H):=by
 intro pins s σ H xs us Q I r h
 obtain⟨p,S,n,rfl,hH,q⟩:=h
 obtain⟨u,rfl,rx⟩:=vals1 r
 cases rx
 obtain⟨o,es,ep,tb,ho,hex,hd,hel,hmem,hsz,hfit,rfl⟩:=(show s.heap.SetOf (intKind X.prog X.w) p S n from I.hok p _ hH)
 have hb:(es.size:Int)<2 ^ 63:=by unfold scanBound at hsz;omega
 exact PySem.call_len_set ho hex hd hfit hb ⟨.int es.size,H,I.tok _,⟨_,rfl⟩,q⟩
theorem hU {prog:Program} {w:World} {A:Around} {E:Value->Shared->Prop} {s:Shared} {t sl:Addr} {items:Array Value} {vl vu:Value} {lo hi:Option Int} {Q:Value->Shared->Prop} (ht:IsTup s.heap t items) (hs:s.heap.IsSliceOf sl vl vu .none) (pl:IsPart vl lo) (pu:IsPart vu hi)
  (h1:HT.sIx items.size 0 lo=0) (h2:HT.sIx items.size items.size hi=items.size) (h:Q (.ref t) s):wpAny (model prog w) A (getItem (.ref t) (.ref sl)) Q E s:=by
 obtain⟨os,hos,hcs,hds⟩:=id hs
 have hTs:s.TypeIs (.ref sl) "slice" := ⟨os,hos,hcs⟩
 unfold getItem
 try with_reducible refine wpAny_holding ?_
 first | refine wpAny_bind (wpAny_pure ?_) | skip
 refine wpAny_bind (wpAny_sequenceKey ht.typeIs (by decide) ?_)
 refine wpAny_bind (wpAny_callSpecial?_slot (name:=Str.ofString "__getitem__") ht.typeIs PyProof.Rows.slot_tuple_getitem (wpAny_call_entry PyProof.Rows.slot_tuple_getitem ht.typeIs entry_tuple_getitem ?_ (args_tuple_getitem _ _)))
 show wpAny _ _ (Builtin.Tuple.tupleItemsOf (.ref t) >>= _) _ _ s
 refine wpAny_bind (tupleItemsOf_ ht (wpAny_bind (wpAny_typeOf hTs ?_)))
 rw[if_pos (by decide)]
 refine wpAny_bind (HT.fM hs pl pu ?_)
 rw[h1,h2]
 show wpAny _ _ (if (((0:Nat):Int) == 0&&(1:Int) == 1&&(items.size - 0) == items.size)=true then _ else _) _ _ s
 rw[if_pos (by simp)]
 show wpAny _ _ (Builtin.Tuple.tupleIsExact (.ref t) >>= _) _ _ s
 unfold Builtin.Tuple.tupleIsExact
 refine wpAny_bind (wpAny_bind (wpAny_typeOf ht.typeIs (wpAny_pure ?_)))
 show wpAny _ _ (if (Value.type "tuple" == Value.type "tuple")=true then _ else _) _ _ s
 rw[if_pos (by decide)]
 refine wpAny_bind (wpAny_rule ?_)
 first
  | exact wpAny_pure ⟨_,rfl,wpAny_pure h⟩
  | exact wpAny_bind (wpAny_pure (wpAny_pure ⟨_,rfl,wpAny_pure h⟩))
noncomputable def Em (K:PySem.W.Frag):V->Option Int->Option Int->Hp->VK->Prop:=fun x lo hi H Q=>∃a xs,x=.ref a/\SqT K H a xs/\HT.sIx xs.length 0 lo=0/\HT.sIx xs.length xs.length hi=xs.length/\Q (.ref a) H
theorem zW:SlR X (Em X.K):=by
 intro pins s σ H x v vl vu lo hi sl Q I rx hs pl pu h
 obtain⟨a,xs,rfl,hx,h1,h2,q⟩:=h
 cases rx
 obtain⟨its,r,ht,hz⟩:=I.tuple hx
 have hlen:its.toArray.size=xs.length:=by rw[List.size_toArray];exact r.length.symm
 refine⟨"tuple", _,PyProof.Rows.slot_tuple_getitem.lookup,ht.typeIs,?_⟩
 exact hU ht hs pl pu (by rw[hlen];exact h1) (by rw[hlen];exact h2) ⟨.ref a,H,I,rfl,q⟩
noncomputable def xg (K:PySem.W.Frag):R2:=fun x y H Q=>∃a b ys,x=.ref a/\y=.ref b/\SqT K H a []/\SqT K H b ys/\Q (.ref b) H
theorem xB:OpR X (binaryOp .Add) (xg X.K):=by
 intro pins s σ H x y v u Q I rx ry h
 obtain⟨a,b,ys,rfl,rfl,ha,hb,q⟩:=h
 cases rx
 cases ry
 obtain⟨its,r1,p1,_⟩:=I.tuple ha
 obtain⟨its2,r2,p2,_⟩:=I.tuple hb
 cases r1
 obtain⟨⟨cls,dd,data,sl⟩,ho,hc,n,hd⟩:=id p1
 obtain⟨⟨cls2,dd2,data2,sl2⟩,ho2,hc2,n2,hd2⟩:=id p2
 simp only at hc hd hc2 hd2
 subst hc hd hc2 hd2
 exact concat_meets ⟨_,ho,rfl⟩ ⟨_,ho2,rfl⟩ noFill_tuple_add seq_tuple_add PySem.F.slot_tuple_add PySem.F.entry_tuple_add (PySem.F.args_tuple_add_2 _ _)
  (tuple_addW0 a b _ _ n n2 dd dd2 sl sl2 (by simp)) ⟨ho,ho2,⟨.ref b,H,I,rfl,q⟩⟩
end
open AutoSeq1 (wpAny_loadPart')
noncomputable def kK (a:Addr) (lo hi st:Int):HO:=.ext fun h=>∃t u v,h.get? a=some { cls:=.type "range", data:=.fields #[.int lo t,.int hi u,.int st v] }
noncomputable def oM (lo st:Int) (n:Nat):List Int:=(List.range n).map fun(i:Nat)=>lo+(i:Int)*st
theorem kg (lo st:Int) (n:Nat):(oM lo st n).length=n:=by simp[oM]
theorem lu {lo st:Int} {n:Nat} {acc:Array Value} (h:ItemsOf (fun i v=>∃t,v=.int (lo+i*st) t) acc n):Vals ((oM lo st n).map V.int) acc.toList:=by
 obtain⟨hs,hv⟩:=h
 have key:∀(l:List Value) (k:Nat),(∀j v,l[j]?=some v->∃t,v=Value.int (lo+((k+j:Nat):Int)*st) t)->Vals (((List.range' k l.length).map fun(i:Nat)=>lo+(i:Int)*st).map V.int) l:=by
  intro l
  induction l with
  | nil=>intro k _;exact .nil
  | cons a r ih=>
   intro k hk
   rw[List.length_cons,List.range'_succ,List.map_cons,List.map_cons]
   refine .cons ?_ (ih (k+1) fun j v e=>?_)
   ·obtain⟨t,q⟩:=hk 0 a rfl
    exact⟨t,by rw[q];simp⟩
   ·obtain⟨t,q⟩:=hk (j+1) v (by simpa using e)
    exact⟨t,by rw[q];congr 3;omega⟩
 have:=key acc.toList 0 fun j v e=>by
  obtain⟨t,q⟩:=hv j v (by simpa using e)
  exact⟨t,by rw[q];simp⟩
 unfold oM
 rw[List.range_eq_range',<- hs]
 simpa using this
section
variable {X:Cx}
theorem Inv.rng {pins:List (Addr × Obj)} {σ:St} {H:Hp} {s:Shared} {lo hi st:Int} {t u v:Tok} {tk:Nat} (I:Inv X pins σ H s) :
  Inv X pins σ (upd H s.heap.objs.size (kK s.heap.objs.size lo hi st)) { s with heap:=s.heap.push { cls:=.type "range", data:=.fields #[.int lo t,.int hi u,.int st v] },toks:=tk }:=by
 refine I.laid (fun b o e=>Heap.get?_push_of_some _ e) (Nat.le_refl _) ?_
 refine⟨⟨t,u,v,Heap.get?_push_size _ rfl⟩,⟨_,Heap.get?_push_size _ rfl⟩,fun h1 h2 ⟨a,b,c,e⟩ k=>⟨a,b,c,k _ e⟩⟩
theorem uz:aP X (.type "range") (fun vs H Q=>∃j,vs=[.int j]/\∀p,H p=none->Q (.ref p) (upd H p (kK p 0 j 1))):=by
 intro pins s σ H xs us Q I r h
 obtain⟨j,rfl,q⟩:=h
 obtain⟨u,rfl,t,rfl⟩:=vals1 r
 exact call_range_1 ⟨.ref _,_,I.rng,rfl,q _ (I.hok.fresh (Nat.le_refl _))⟩
theorem ve:aP X (.type "range") (fun vs H Q=>∃i j,vs=[.int i,.int j]/\∀p,H p=none->Q (.ref p) (upd H p (kK p i j 1))):=by
 intro pins s σ H xs us Q I r h
 obtain⟨i,j,rfl,q⟩:=h
 obtain⟨u,w',rfl,⟨t,rfl⟩,⟨t',rfl⟩⟩:=vals2 r
 exact call_range_2 ⟨.ref _,_,I.rng,rfl,q _ (I.hok.fresh (Nat.le_refl _))⟩
structure la (lo hi st:Int) (n:Nat):Prop where
 sm:Builtin.Range.small lo hi st=true
 sz:Builtin.Range.rangeSize lo hi st=n
 le:n<=2 ^ 20
theorem Inv.A3 {pins:List (Addr × Obj)} {σ:St} {H:Hp} {s:Shared} {p:Addr} {lo hi st:Int} (I:Inv X pins σ H s) (h:H p=some (kK p lo hi st)):∃t u v,IsRange s.heap p lo hi st t u v:=by
 obtain⟨⟨t,u,v,e⟩,_⟩:=I.hok p _ h
 exact⟨t,u,v,e⟩
theorem mV (hc:X.calm=true):aP X (.type "list") (fun vs H Q=>∃p lo hi st n,vs=[.ref p]/\H p=some (kK p lo hi st)/\la lo hi st n/\∀l,H l=none->Q (.ref l) (upd H l (.lst ((oM lo st n).map V.int)))):=by
 intro pins s σ H xs us Q I r h
 obtain⟨p,lo,hi,st,n,rfl,hp,ok,q⟩:=h
 obtain⟨u,rfl,rx⟩:=vals1 r
 cases rx
 obtain⟨t,u,v,hr⟩:=I.A3 hp
 have hn:=ok.le
 refine call_list_range (I.ok.hd hc) hr ok.sm ok.sz (by omega) fun h' tk acc c kp e hi=>?_
 have hv:=lu hi
 refine⟨.ref s.heap.objs.size,_,I.laid (t':=tk) kp (Nat.le_refl _) (show bO X.prog X.w _ h' _ (.lst _) from⟨?_,acc.toList,c,hv,by simpa using e⟩),rfl,q _ (I.hok.fresh (Nat.le_refl _))⟩
 rw[List.length_map,kg,sizeLine_eq];omega
end
section
variable {prog:Program} {w:World} {A:Around} {E:Value->Shared->Prop} {s:Shared}
theorem qK {Q:List Value->Shared->Prop} {r:Addr} {a b c:Int} {t u v:Tok} {n:Nat} (hh:A.handled=none) (hr:IsRange s.heap r a b c t u v) (ok:la a b c n)
  (hQ:∀h' tk (acc:Array Value),(∀b o,s.heap.get? b=some o->h'.get? b=some o)->ItemsOf (fun i v=>∃t,v=.int (a+i*c) t) acc n->Q acc.toList { s with heap:=h',toks:=tk }) :
  wpAny (model prog w) A (collect (.ref r)) Q E s:=by
 unfold collect
 refine wpAny_bind (wpAny_runValue (codeAny_builtin F.entry_proto_collect ?_))
 rw[Around.under_plainId F.plain_proto_collect _]
 show wpAny _ A.in1 (newList [] >>= fun l=>again (.builtin "list.__iadd__" ⟨[l,.ref r],[]⟩)) _ _ s
 refine wpAny_bind (wpAny_newObj_type (wpAny_pure ⟨plainId_quiet F.plain_list_iadd _,codeAny_builtin F.entry_list_iadd ?_⟩))
 rw[Around.under_plainId F.plain_list_iadd _]
 show wpAny _ A.in1 (Builtin.List.listExtendWith (.ref s.heap.objs.size) (.ref r) (.ref s.heap.objs.size)) _ _ _
 have hn:=ok.le
 refine wpAny_mono (wpAny_extend_range (A:=A) (R:=fun z y=>z=.ok (.ret (.ref s.heap.objs.size))/\∃h' tk acc c',y={ s with heap:=h',toks:=tk }/\(∀b o,s.heap.get? b=some o->h'.get? b=some o) ∧
   h'.get? s.heap.objs.size=some { cls:=.type "list", dict:=none,data:=.seq acc c',slots:=#[] }/\ItemsOf (fun i v=>∃t,v=.int (a+i*c) t) acc n)
  (s:={ s with heap:=s.heap.push { cls:=.type "list", data:=.seq ([]:List Value).toArray } }) hh (Heap.get?_push_of_some _ hr) ok.sm ok.sz (by omega) _ _ 0 (Heap.get?_push_size _ rfl)
  (fun h' tk acc c' kp e hi=>⟨rfl,h',tk,acc,c',rfl,fun b o q=>kp b o (Nat.ne_of_lt (Heap.lt_size q)) (Heap.get?_push_of_some _ q),e,hi⟩)) (fun fin y h=>?_) (fun e y h=>?_)
 ·have last:∀y,(∃h' tk acc c',y={ s with heap:=h',toks:=tk }/\(∀b o,s.heap.get? b=some o->h'.get? b=some o) ∧
    h'.get? s.heap.objs.size=some { cls:=.type "list", dict:=none,data:=.seq acc c',slots:=#[] }/\ItemsOf (fun i v=>∃t,v=.int (a+i*c) t) acc n)->wpAny (model prog w) A (match Value.ref s.heap.objs.size with
   | Value.ref a=>do
    match (← load a).data with
     | Data.seq xs _=>pure xs.toList
     | _=>unsupported "internal:collect"
   | _=>unsupported "internal:collect") Q E y:=by
   rintro y ⟨h',tk,acc,c',rfl,kp,e,hi⟩
   show wpAny _ A (load s.heap.objs.size >>= _) _ _ _
   refine wpAny_bind (wpAny_load e ?_)
   exact wpAny_pure (hQ h' tk acc kp hi)
  cases fin with
  | done f=>
   obtain⟨e,h⟩:=h
   cases e
   exact last _ h
  | again c'=>exact⟨h.1,codeAny_mono h.2 fun r y hr=>by obtain⟨rfl,h⟩:=hr;exact last _ h⟩
 ·exact absurd h.1 (by simp)
theorem vg {Q:Value->Shared->Prop} {r:Addr} {a b c:Int} {t u v:Tok} {n:Nat} (hh:A.handled=none) (hr:IsRange s.heap r a b c t u v) (ok:la a b c n)
  (hQ:∀(h':Heap) (tk:Nat) (acc:Array Value),(∀b o,s.heap.get? b=some o->h'.get? b=some o)->ItemsOf (fun i v=>∃t,v=.int (a+i*c) t) acc n->Q (.ref h'.objs.size) { s with heap:=h'.push { cls:=.type "tuple", data:=.seq acc },toks:=tk }) :
  wpAny (model prog w) A (call (.type "tuple") [.ref r]) Q E s:=by
 refine callType_codes (Q₁:=fun obj s₁=>s₁.TypeIs obj "tuple" /\ Q obj s₁) F.called_tuple (F.typeCall_tuple_1 _) F.entry_object_init ?_ fun obj s₁ h₁=>
  ⟨h₁.1,F.args_object_init_2 obj _,object_init_meets F.called_tuple.init.lookup F.called_tuple.made (by decide) prog w A.in1 _ s₁ ⟨h₁.1,rfl,h₁.2⟩⟩
 refine codeAny_of_tree ?_
 show wpAny _ A.in1.in1 (do checkBuiltinCall "tuple.__new__" ⟨[.type "tuple", .ref r],[]⟩;again (.builtin "tuple.__new__" ⟨[.type "tuple", .ref r],[]⟩)) _ _ s
 refine wpAny_bind (wpAny_of_eq (F.newCall_tuple_1 _) (wpAny_pure ⟨plainId_quiet F.plain_tuple_new _,codeAny_builtin F.entry_tuple_new ?_⟩))
 rw[Around.under_plainId F.plain_tuple_new _]
 have hsub:=sub_tuple_self
 have hinit:=init_tuple_lookup
 have hmh:=madeHere_tuple
 have hT:s.TypeIs (.ref r) "range" := ⟨_,hr,rfl⟩
 have hh':A.in1.in1.handled=none:=by simp[hh]
 wp_walk using wpAny_typeOf hT,qK hh' hr ok
 intro h' tk acc kp hi
 show wpAny _ _ (Builtin.Tuple.tupleExact acc.toList.toArray >>= fun v=>ret v) _ _ _
 unfold Builtin.Tuple.tupleExact
 have hn:=ok.le
 refine wpAny_bind (wpAny_newObj_type ?_ (by show acc.toList.toArray.size<=sizeLine;simp only[Array.toArray_toList];rw[hi.1,sizeLine_eq];omega))
 rw[show acc.toList.toArray=acc by simp]
 exact wpAny_pure ⟨⟨_,Heap.get?_push_size _ rfl,rfl⟩,hQ h' tk acc kp hi⟩
end
section
variable {X:Cx}
theorem lT (hc:X.calm=true):aP X (.type "tuple") (fun vs H Q=>∃p lo hi st n,vs=[.ref p]/\H p=some (kK p lo hi st)/\la lo hi st n/\∀l,H l=none->Q (.ref l) (upd H l (.tup ((oM lo st n).map V.int)))):=by
 intro pins s σ H xs us Q I r h
 obtain⟨p,lo,hi,st,n,rfl,hp,ok,q⟩:=h
 obtain⟨u,rfl,rx⟩:=vals1 r
 cases rx
 obtain⟨t,u,v,hr⟩:=I.A3 hp
 have hn:=ok.le
 refine vg (I.ok.hd hc) hr ok fun h' tk acc kp hi=>?_
 have hv:=lu hi
 have I1:Inv X pins σ H { s with heap:=h',toks:=tk }:=I.kept kp
 refine⟨.ref h'.objs.size,_,I1.laid (t':=tk) (o:=.tup _) (fun b ob q=>Heap.get?_push_of_some _ q) (Nat.le_refl _) ⟨?_,acc.toList,hv,by simpa using mj.new h' acc⟩,rfl,q _ (I1.hok.fresh (Nat.le_refl _))⟩
 rw[List.length_map,kg,sizeLine_eq];omega
theorem yw {a b:Int} (h1:-1000000<=a) (h2:a<=1000000) (h3:-1000000<=b) (h4:b<=1000000) (h:b - a<=1000000):la a b 1 (b - a).toNat:=
 ⟨small_one (by omega) (by omega) (by omega) (by omega),by rw[rangeSize_one];split<;>omega,by omega⟩
inductive RdD (K:PySem.W.Frag) (H:Hp):V->PyData->Prop
 | non:RdD K H .non .none
 | bl (b:Bool):RdD K H (.bl b) (.bool b)
 | int (i:Int):RdD K H (.int i) (.int i)
 | str (x:Str):RdD K H (.str x) (.str x)
 | tup {a:Addr} {xs:List V} {ds:List PyData} (h:SqT K H a xs) (hl:xs.length=ds.length) (hx:∀(i:Nat) x d,xs[i]?=some x->ds[i]?=some d->RdD K H x d):RdD K H (.ref a) (.tuple ds)
 | lst {a:Addr} {xs:List V} {ds:List PyData} (h:SqL K H a xs) (hl:xs.length=ds.length) (hx:∀(i:Nat) x d,xs[i]?=some x->ds[i]?=some d->RdD K H x d):RdD K H (.ref a) (.list ds)
theorem gu {h:Heap}:∀{us:List Value} {ds:List PyData},us.length=ds.length->(∀(i:Nat) u d,us[i]?=some u->ds[i]?=some d->∃as,Reads h u d as)->∃as,ReadsAll h us ds as
 | [],[],_,_=>⟨_,.nil⟩
 | [],_::_,hl,_=>by simp at hl
 | _::_,[],hl,_=>by simp at hl
 | u::us,d::ds,hl,hx=>by
  obtain⟨as,h1⟩:=hx 0 u d rfl rfl
  obtain⟨bs,h2⟩:=gu (us:=us) (ds:=ds) (by simpa using hl) fun i u d e1 e2=>hx (i+1) u d (by simpa using e1) (by simpa using e2)
  exact⟨_,.cons h1 h2⟩
theorem Vals.get' {xs:List V} {us:List Value} {i:Nat} {u:Value} (r:Vals xs us) (h:us[i]?=some u):∃x,xs[i]?=some x/\RelV x u:=by
 have hl:=r.length
 have hi:i<xs.length:=by rw[hl];exact(List.getElem?_eq_some_iff.mp h).1
 obtain⟨u',e1,e2⟩:=r.get (List.getElem?_eq_getElem hi)
 rw[h] at e1;cases e1
 exact⟨_,List.getElem?_eq_getElem hi,e2⟩
theorem Inv.reads {pins:List (Addr × Obj)} {σ:St} {H:Hp} {s:Shared} (I:Inv X pins σ H s) {x:V} {d:PyData} (r:RdD X.K H x d):∀u,RelV x u->∃as,Reads s.heap u d as:=by
 induction r with
 | non=>intro u ru;cases (show u=Value.none from ru);exact⟨_,.none⟩
 | bl b=>intro u ru;cases (show u=Value.bool b from ru);exact⟨_,.bool b⟩
 | int i=>intro u ru;obtain⟨t,q⟩:=(show ∃t,u=Value.int i t from ru);cases q;exact⟨_,.int i t⟩
 | str y=>intro u ru;obtain⟨t,q⟩:=(show ∃t,u=Value.str y t from ru);cases q;exact⟨_,.str y t⟩
 | @tup a xs ds h hl hx ih=>
  intro u ru
  cases (show u=Value.ref a from ru)
  obtain⟨its,rv,p,hz⟩:=I.tuple h
  obtain⟨o,ho,hc,n,hd⟩:=p
  obtain⟨as,ra⟩:=gu (h:=s.heap) (us:=its) (ds:=ds) (by rw[<- rv.length,hl]) fun i u d e1 e2=>by
   obtain⟨y,e3,ry⟩:=rv.get' e1
   exact ih i y d e3 e2 u ry
  exact⟨_,.tuple ho hc hd (by simpa using ra)⟩
 | @lst a xs ds h hl hx ih=>
  intro u ru
  cases (show u=Value.ref a from ru)
  obtain⟨its,rv,p,hz⟩:=I.list h
  obtain⟨o,ho,hc,n,hd⟩:=p.isList
  obtain⟨as,ra⟩:=gu (h:=s.heap) (us:=its) (ds:=ds) (by rw[<- rv.length,hl]) fun i u d e1 e2=>by
   obtain⟨y,e3,ry⟩:=rv.get' e1
   exact ih i y d e3 e2 u ry
  exact⟨_,.list ho hc hd (by simpa using ra)⟩
theorem uR (hg:X.A.guards=some []) (hu:X.A.units+64<cLine):aP X (.builtin "repr") (fun vs H Q=>∃p d,vs=[.ref p]/\RdD X.K H (.ref p) d/\d.showable=true/\d.hasDict=false/\d.depth<=60/\d.shown.length<=sizeLine/\Q (.str d.shown) H):=by
 intro pins s σ H xs us Q I r h
 obtain⟨p,d,rfl,rd,hs,hd,hdp,hz,q⟩:=h
 obtain⟨u,rfl,rx⟩:=vals1 r
 cases rx
 obtain⟨as,ra⟩:=I.reads rd (.ref p) rfl
 exact repr_of_reads' ra hs (PyData.noDict_hsm hd) hg (by omega) (fun _ _ e=>e) (fun h' u tk kp=>⟨.str d.shown,H,I.kept kp,⟨_,rfl⟩,q⟩) hz
theorem qY:aP X (.builtin "repr") (fun vs H Q=>∃i,vs=[.int i]/\i.natAbs.log2<1920/\Q (.str (toString i)) H):=by
 intro pins s σ H xs us Q I r h
 obtain⟨i,rfl,hi,q⟩:=h
 obtain⟨u,rfl,t,rfl⟩:=vals1 r
 exact PySem.P.repr_of_int hi ⟨.str (toString i),H,I.tok _,⟨_,rfl⟩,q⟩
end
theorem uk {ns:List Int} (h:ns.Nodup):(unl ns).length=ns.length:=by
 have key:∀(l acc:List Int),(acc++l).Nodup->l.foldl step_dedup acc=acc++l:=by
  intro l
  induction l with
  | nil=>intro acc _;simp
  | cons a r ih=>
   intro acc hn
   have h1:a∉acc:=by
    have:=List.nodup_append.mp hn
    exact fun hm=>this.2.2 a hm a (by simp) rfl
   have e:step_dedup acc a=acc++[a]:=by
    unfold step_dedup
    have:acc.any (· == a)=false:=by
     rw[Bool.eq_false_iff]
     intro z
     obtain⟨x,hx,e⟩:=List.any_eq_true.mp z
     have:x=a:=by simpa using e
     exact h1 (this ▸ hx)
    simp[this]
   rw[List.foldl_cons,e,ih (acc++[a]) (by rw[List.append_assoc];exact hn),List.append_assoc]
   rfl
 have e:(List.range ns.length).map (fun i=>ns.getD i 0)=ns:=by
  apply List.ext_getElem
  ·simp
  ·intro i h1 h2
   simp[List.getD_eq_getElem?_getD,List.getElem?_eq_getElem h2]
 unfold unl firstMet
 rw[e,key ns [] (by simpa using h)]
 rfl
theorem Inv.Dr {X:Cx} {pins:List (Addr × Obj)} {σ:St} {H:Hp} {s:Shared} {C:Addr} {o:Obj} {h':Heap} (I:Inv X (pins++[(C,o)]) σ H s) (cC:∀x c,X.env.cells.lookup x=some c->c≠C) (hC:X.aJ.heap.objs.size<=C) (pC:∀p∈X.pn++pins,p.1≠C) (hs:Heap.SameBut C s.heap h'):Inv X pins σ H { s with heap:=h' }:=by
 have kb:∀b u,b≠C->s.heap.get? b=some u->h'.get? b=some u:=fun b u hb z=>hs.extBut b u hb z
 obtain⟨q0,q1,q2,q3,q4⟩:=I.pin (C,o) (List.mem_append_right _ (List.mem_append_right _ (List.mem_singleton.mpr rfl)))
 have J:Inv X pins σ H s:=I.kZ fun p hp=>I.pin p (List.mem_append_right _ (List.mem_append_left _ hp))
 refine J.qP (s':={ s with heap:=h' }) (ch:=[C]) rfl ⟨fun b u z n a c=>kb b u (fun e=>c (by rw[e];exact List.mem_singleton.mpr rfl)) z,fun b u z n a c=>⟨u.slots,kb b _ (fun e=>c (by rw[e];exact List.mem_singleton.mpr rfl)) z⟩,fun b u z n c=>n,fun b u z c=>⟨u,kb b u (fun e=>c (by rw[e];exact List.mem_singleton.mpr rfl)) z⟩,fun b xs z=>z,fun b ob u z=>z,fun b ps z=>⟨#[],by simpa using z⟩⟩ (J.hok.sameBut q1 kb) J.bare fun b hb=>?_
 have e:=List.mem_singleton.mp hb
 subst e
 exact⟨.inr hC,q2,fun x c z=>cC x c z,pC⟩
theorem Inv.yielded {X:Cx} {pins:List (Addr × Obj)} {σ:St} {H:Hp} {s:Shared} {fp:List Addr} {T:Addr} {o:HO} {h':Heap} {t':Nat} (I:Inv X pins σ H s) (hf:∀b∈fp,m4 X pins H b) (k:∀b u,b∉fp->s.heap.get? b=some u->h'.get? b=some u)
  (hT:s.heap.objs.size<=T) (new:bO X.prog X.w (upd H T o) h' T o):Inv X pins σ (upd H T o) { s with heap:=h',toks:=t' }:=by
 have nT:∀b u,s.heap.get? b=some u->b≠T:=fun b u e z=>absurd (Heap.lt_size e) (by rw[z];exact Nat.not_lt.mpr hT)
 have nH:∀b u,H b=some u->b≠T:=fun b u e z=>absurd (I.hok.lt e) (by rw[z];exact Nat.not_lt.mpr hT)
 have nf:∀b u,H b=some u->b∉fp:=fun b u e z=>by rw[(hf b z).1] at e;cases e
 refine I.qP (s':={ s with heap:=h',toks:=t' }) (ch:=fp) rfl ⟨fun b u e n _ c=>k b u c e,fun b u e n _ c=>⟨u.slots,k b u c e⟩,fun b u e n c=>by rw[aB (nT b u e)];exact n,fun b u e c=>⟨u,k b u c e⟩,fun b xs e=>by rw[aB (nH b _ e)];exact e,fun b ob u e=>by rw[aB (nH b _ e)];exact e,fun b ps e=>⟨#[],by rw[aB (nH b _ e),e];simp⟩⟩ (fun b u e=>?_) I.bare (fun b hb=>?_)
 ·by_cases hb:b=T
  ·subst hb
   rw[aL] at e
   cases e
   exact new
  ·rw[aB hb] at e
   refine(I.hok b u e).iR (fun c v hc q=>k c v ?_ q) (fun c q=>by rw[aB (nH c _ q)];exact q) fun c xs q=>by rw[aB (nH c _ q)];exact q
   rcases hc with z | z
   ·rw[z];exact nf b u e
   ·exact nf c _ z
 ·obtain⟨_,g1,_,g3,g4,g5⟩:=hf b hb
  exact⟨g3,g1,g4,g5⟩
theorem Inv.zR {X:Cx} {pins:List (Addr × Obj)} {σ:St} {H:Hp} {s:Shared} {fp:List Addr} {h':Heap} {t':Nat} (I:Inv X pins σ H s) (hf:∀b∈fp,m4 X pins H b) (k:∀b u,b∉fp->s.heap.get? b=some u->h'.get? b=some u):Inv X pins σ H { s with heap:=h',toks:=t' }:=by
 have nf:∀b u,H b=some u->b∉fp:=fun b u e z=>by rw[(hf b z).1] at e;cases e
 refine I.qP (s':={ s with heap:=h',toks:=t' }) (ch:=fp) rfl ⟨fun b u e n _ c=>k b u c e,fun b u e n _ c=>⟨u.slots,k b u c e⟩,fun b u e n c=>n,fun b u e c=>⟨u,k b u c e⟩,fun b xs e=>e,fun b ob u e=>e,fun b ps e=>⟨#[],by rw[e];simp⟩⟩ (fun b u e=>?_) I.bare (fun b hb=>?_)
 ·refine(I.hok b u e).iR (fun c v hc q=>k c v ?_ q) (fun c q=>q) fun c xs q=>q
  rcases hc with z | z
  ·rw[z];exact nf b u e
  ·exact nf c _ z
 ·obtain⟨_,g1,_,g3,g4,g5⟩:=hf b hb
  exact⟨g3,g1,g4,g5⟩
theorem xC {h:Heap} {e it:Addr} {i:Int} {old:Value} (z:IsEnum h e it i old):∃o,h.get? e=some o/\∀v,o.data≠.cell v:=⟨_,z,fun v q=>nomatch q⟩
theorem rV {prog:Program} {w:World} {A:Around} {it:Addr} {fp:List Addr} {n:Nat} {P:Nat->Value->Prop} {St:Nat->Heap->Prop} (D:Draws prog w A.in1 it fp n P St) (e:Addr) (hei:e≠it) (hef:e∉fp) (i:Nat) (s:Shared) (Q:Option Value->Shared->Prop) (E:Value->Shared->Prop) (hi:i<n)
  (hst:(∃old,IsEnum s.heap e it i old)/\St i s.heap)
  (hQ:∀T vals h' tk,(∃t x,P i x/\vals = #[.int i t,x])->s.heap.objs.size<=T->mj h' T vals->((∃x,IsEnumOut h' e it ((i:Int)+1) x T)/\St (i+1) h'/\T≠e/\T≠it)->(∀b o,b∉[e,it]->s.heap.get? b=some o->h'.get? b=some o)->Q (some (.ref T)) { s with heap:=h',toks:=tk }) :
  wpAny (model prog w) A (pyNext (.ref e)) Q E s:=by
 obtain⟨⟨old,he⟩,hs⟩:=hst
 refine wpAny_pyNext_enum_itemD D he hs hi hei hef fun x h1 tk hP ho hs1 hT _ hk=>?_
 refine hQ s.heap.objs.size #[.int i tk,x] h1 (tk+1) ⟨tk,x,hP,rfl⟩ (Nat.le_refl _) ⟨_,hT,⟨rfl,_,rfl⟩,rfl⟩ ⟨⟨_,ho⟩,hs1,Nat.ne_of_gt (Heap.lt_size he),?_⟩ fun b o hb y=>hk b o (fun z=>hb (by simp[z])) (fun z=>hb (by simp[z])) y
 obtain⟨_,y⟩:=D.live _ _ hs
 exact Nat.ne_of_gt (Heap.lt_size y)
noncomputable def xI (nt:Nat) (ix:List Nat) (σ:St):St:=List.replicate nt none++ix.map fun i=>(σ[i]?).join
noncomputable def pQ (nt:Nat) (ix:List Nat) (σ σ':St):Prop:=∃ts:St,ts.length=nt/\σ'=ts++ix.map fun i=>(σ[i]?).join
noncomputable abbrev CU (J:It) (nt:Nat) (ix:List Nat) (σ:St) (tg:TG) (tt:TT) (te:TE) (acc:Addr) (H1:Hp) (Q:VK):Prop:=
 ∃W:Nat->Nat->List V->Hp->Prop,(∃m,W 0 m [] (upd H1 acc (.lst [])))/\∀i m ys H,W i m ys H →
  (J.stop i H/\Q (.ref acc) H)\/(J.go i H/\∀σ0 x H',pQ nt ix σ σ0->J.yld i H x H'->tg x σ0 H' fun σ2 Hn=>pQ nt ix σ σ2/\tt σ2 Hn fun b H2=>if b=true then te σ2 H2 fun y H3=>
    H3 acc=some (.lst ys)/\ys.length<sizeLine/\∃m',m'<m/\W (i+1) m' (ys++[y]) (upd H3 acc (.lst (ys++[y])))
   else ∃m',m'<m/\W (i+1) m' ys H2)
noncomputable def nX (wi:TI) (nt:Nat) (ix:List Nat) (tg:TG) (tt:TT) (te:TE):TE:=fun σ H Q=>wi σ H fun J H1=>∀acc,H1 acc=none->CU J nt ix σ tg tt te acc H1 Q
theorem nK {X:Cx} {use:Option (Value->Sem Unit)} {Q2:Value->Shared->Prop} {pins:List (Addr × Obj)} {s:Shared} {σ:St} {H:Hp} {Q:VK} {elt iter tg:Expr} {tn':List Str} {tgr:TG} {ifs:List Expr} {scope osc:Scope} {pos:Pos} {wi:TI} {tt:TT} {te:TE} (ix:List Nat) (N':List Str)
  (hxe:X.xe=fun _ _=>False) (hc:X.calm=true) (ho:X.env.scope=osc) (hN:N'=tn'++ix.map fun i=>(X.N[i]?).getD ("" : Str)) (hnd:N'.Nodup)
  (hall:(∀y∈scope.names,y.2=.free->osc.names.lookup y.1=some .cell)/\(∀y∈scope.names,y.2≠.cell)/\scope.kind=.function/\(∀y∈scope.names,y.2=.local->scope.names.lookup y.1=some .local)/\(∀y∈N'.drop tn'.length,scope.names.lookup y=some .free))
  (hi:PI X tg iter wi) (hg:∀cl C aJ aT fp,PG (cK X scope cl C aJ aT fp N') tg tgr)
  (ht:∀cl C aJ aT fp,PTs (cK X scope cl C aJ aT fp N') ifs tt)
  (he:∀cl C aJ aT fp,PE (cK X scope cl C aJ aT fp N') elt te)
  (hs:∀x,foldedSetIterable iter X.env x=pure x) (I:Inv X pins σ H s) (h:nX wi tn'.length ix tgr tt te σ H Q)
  (hfin:∀(acc C:Addr) (H5:Hp) (s5:Shared) (o:Obj),Inv X (pins++[(C,o)]) σ H5 s5->(∀x c,X.env.cells.lookup x=some c->c≠C)->X.aJ.heap.objs.size<=C->(∀p∈X.pn++pins,p.1≠C)->(∃m,∀h':Heap,h'.get? C=some o->h'.Ns C m)->Q (.ref acc) H5->compPost (model X.prog X.w) X.A X.xe use Q2 (.ref acc) C (.ok .next) s5) :
  wpAny (model X.prog X.w) X.A (comprehension (.ListComp elt [⟨tg,iter,ifs,0⟩] scope pos) scope X.env (firstIterPos [⟨tg,iter,ifs,0⟩] pos) (newList []) false (eval iter X.env) use) Q2 X.xe s:=by
 obtain⟨hfr,hcell,hkind,hnames,hcap⟩:=hall
 subst ho
 have outc:∀y∈scope.names,y.2=.free->X.env.kindOf y.1=some .cell:=fun y hy q=>hfr y hy q
 obtain⟨cl,hclos,hcl1,hcl2⟩:=mQ (env:=X.env) (scope:=scope) fun y hy q=>I.ok.has y.1 (.inl (outc y hy q))
 refine wpAny_comprehension_free (use:=use) rfl hs hclos hkind hnames (thn (hi pins s σ H _ I h) fun v s1 h1=>thn h1 fun itv s2 h2=>?_)
 obtain⟨it,fp,tn,J,H2,e,I2,T,st2,f2,rest⟩:=h2
 subst e
 have hf2:H2 s2.heap.objs.size=none:=I2.hok.fresh (Nat.le_refl _)
 obtain⟨W,⟨m0,w0⟩,turn⟩:=rest s2.heap.objs.size hf2
 -- the list
 refine wpAny_newObj_type ?_
 have I3:Inv X pins σ (upd H2 s2.heap.objs.size (.lst [])) { s2 with heap:=s2.heap.push { cls:=.type "list", dict:=none,data:=.seq ([]:List Value).toArray } }:=I2.uL (its:=[]) (t':=s2.toks) .nil (Nat.zero_le _)
 have keep3:∀b o,s2.heap.get? b=some o->(s2.heap.push { cls:=.type "list", dict:=none,data:=.seq ([]:List Value).toArray }).get? b=some o:=fun b o q=>Heap.get?_push_of_some _ q
 have fp3:∀b∈fp,∃o,s2.heap.get? b=some o/\∀v,o.data≠.cell v:=T.obj _ _ st2
 have st3:tn 0 (s2.heap.push { cls:=.type "list", dict:=none,data:=.seq ([]:List Value).toArray }):=T.keep _ _ _ st2 fun b _ o q=>keep3 b o q
 have fpn:∀b∈fp,(upd H2 s2.heap.objs.size (HO.lst [])) b=none:=fun b hb=>by
  obtain⟨o,q,_⟩:=fp3 b hb
  rw[aB (Nat.ne_of_lt (Heap.lt_size q))]
  exact(f2 b hb).1
 revert I3 keep3 st3 fpn w0
 generalize hS3:({ s2 with heap:=s2.heap.push { cls:=.type "list", dict:=none,data:=.seq ([]:List Value).toArray } }:Shared)=s3
 generalize hH3:upd H2 s2.heap.objs.size (HO.lst [])=H3
 intro w0 I3 keep3 st3 fpn
 have acc3:H3 s2.heap.objs.size=some (.lst []):=by rw[<- hH3];exact aL
 generalize s2.heap.objs.size=acc at *
 have e3:s2.heap.push { cls:=.type "list", dict:=none,data:=.seq ([]:List Value).toArray }=s3.heap:=by rw[<- hS3]
 have keep3':∀b o,s2.heap.get? b=some o->s3.heap.get? b=some o:=fun b o q=>by rw[<- e3];exact keep3 b o q
 have st3':tn 0 s3.heap:=by rw[<- e3];exact st3
 refine wpAny_newFunctionEnv hcell (by intro y hy;simp at hy) (fun h₁ hns₁ hsb₁=>?_) hkind
 have hC:s3.heap.objs.size=s3.heap.objs.size:=rfl
 have keep4:∀b o,s3.heap.get? b=some o->h₁.get? b=some o:=fun b o q=>hsb₁.extBut b o (Nat.ne_of_lt (Heap.lt_size q)) (Heap.get?_push_of_some _ q)
 have fpC:∀b∈fp,b≠s3.heap.objs.size:=fun b hb=>by
  obtain⟨o,q,_⟩:=fp3 b hb
  exact Nat.ne_of_lt (Heap.lt_size (keep3' b o q))
 -- the block's context
 generalize hX':cK X scope cl s3.heap.objs.size s3 H3 fp N'=X'
 have hXp:X'.prog=X.prog:=by rw[<- hX'];rfl
 have hXw:X'.w=X.w:=by rw[<- hX'];rfl
 have hXK:X'.K=X.K:=by rw[<- hX'];rfl
 have hXA:X'.A=X.A:=by rw[<- hX'];rfl
 have hXe:X'.env=compEnvC scope cl s3.heap.objs.size X.env:=by rw[<- hX'];rfl
 have hXc:X'.calm=true:=by rw[<- hX'];exact hc
 have hXx:X'.xe=fun _ _=>False:=by rw[<- hX'];exact hxe
 have hXf:X'.fs=frs X.stack:=by rw[<- hX'];rfl
 have hXex:X'.ex=fp:=by rw[<- hX'];rfl
 have hXN:X'.N=N':=by rw[<- hX'];rfl
 have hXs:X'.aJ=s3:=by rw[<- hX'];rfl
 have hXH:X'.aT=H3:=by rw[<- hX'];rfl
 have hXpn:X'.pn=[]:=by rw[<- hX'];rfl
 have okX:X'.Ok:=by
  rw[<- hX']
  refine⟨I3.ok.mod,hkind,I3.ok.glob,I3.ok.blt,Nat.le_refl _,fun a b c p q=>I3.ok.inj a b c (hcl1 a c p) (hcl1 b c q),fun y hy=>?_,fun _ _ z=>(by cases z),I3.ok.hd,I3.ok.frames,.inl rfl,fun b hb=>⟨fpC b hb,fun y c p=>(f2 b hb).2.2.2.2.1 y c (hcl1 y c p)⟩,
   I3.bs,Nat.le_trans I3.ok.bsz I3.sz,fun b o p hb=>?_,fun b hb z=>?_,I3.stack,I3.pG⟩
  ·have hy':(relabel scope X.env).names.lookup y=some .cell\/(relabel scope X.env).names.lookup y=some .free:=hy
   have free:scope.names.lookup y=some .free->∃c,cl.lookup y=some c:=fun q=>hcl2 y (lookup_mem q)
   rcases hy' with q | q
   ·rcases f9 q with z | ⟨z,_⟩
    ·exact absurd rfl (hcell _ (lookup_mem z))
    ·exact free z
   ·rcases f9 q with z | ⟨_,z⟩
    ·exact free z
    ·cases z
  ·rcases(f2 b hb).2.2.2.1 with z | z
   ·exact I3.ok.oD b o p z
   ·exact absurd (Nat.lt_of_lt_of_le (Heap.lt_size p) (Nat.le_trans I3.ok.bsz z)) (Nat.lt_irrefl _)
  ·rcases List.mem_cons.mp (I3.gB b z) with q | q
   ·exact(f2 b hb).2.1 q
   ·exact(f2 b hb).2.2.1 q
 have I4:∀tk,Inv X' [] (xI tn'.length ix σ) H3 { s3 with heap:=h₁,toks:=tk }:=fun tk=>by
  have hloc:=I3.loc
  refine⟨okX,by rw[hXs],I3.bare,?_,⟨fun y=>([]:List (Str × Value)).reverse.lookup y,by rw[hXe];exact hns₁,fun i y v e1 e2 e3=>?_⟩,fun y c p=>?_,?_,fun y c p=>?_,fun p hp=>?_,?_,?_⟩
  ·rw[hXf,hXex,hXH,hXs];exact Un.kept keep4
  ·rw[hXN,hN] at e1
   by_cases hit':i<tn'.length
   ·exfalso
    unfold xI at e2
    rw[List.getElem?_append_left (by simpa using hit'),List.getElem?_replicate,if_pos hit'] at e2
    cases e2
   ·have e10:N'[i]?=some y:=by rw[hN];exact e1
    obtain⟨j,rfl⟩:∃j,i=tn'.length+j:=⟨i - tn'.length,by omega⟩
    have e1':(ix.map fun i=>(X.N[i]?).getD ("" : Str))[j]?=some y:=by
     rw[List.getElem?_append_right (by omega)] at e1
     rw[show tn'.length+j - tn'.length=j by omega] at e1
     exact e1
    have e2':(ix.map fun i=>(σ[i]?).join)[j]?=some (some v):=by
     unfold xI at e2
     rw[List.getElem?_append_right (by simp)] at e2
     simpa using e2
    rw[List.getElem?_map] at e1' e2'
    cases hj:ix[j]? with
    | none=>rw[hj] at e1';cases e1'
    | some i0=>
     rw[hj] at e1' e2'
     have e1'':(X.N[i0]?).getD ("" : Str)=y:=by simpa using e1'
     have e2'':(σ[i0]?).join=some v:=by simpa using e2'
     have hsv:σ[i0]?=some (some v):=by
      cases q:σ[i0]? with
      | none=>rw[q] at e2'';cases e2''
      | some z=>rw[q] at e2'';have:z=some v:=by simpa using e2''
                rw[this]
     have hlt:i0<X.N.length:=by
      have:=(List.getElem?_eq_some_iff.mp hsv).1
      rw[I3.len] at this;exact this
     have hNy:X.N[i0]?=some y:=by
      rw[List.getElem?_eq_getElem hlt] at e1'' ⊢
      simpa using e1''
     have hyt:y∈N'.drop tn'.length:=by
      refine List.mem_of_getElem? (i:=j) ?_
      rw[List.getElem?_drop];exact e10
     have hyf:=hcap y hyt
     have hyc:=outc (y,.free) (lookup_mem hyf) rfl
     obtain⟨m,hn,hl⟩:=hloc
     obtain⟨u,r,l⟩:=hl i0 y v hNy hsv (.inr (.inl hyc))
     refine⟨u,r,?_⟩
     rcases l with⟨k1,_⟩ | ⟨_,c,p,z⟩
     ·have hyc':X.env.kindOf y=some .cell:=hyc
      rw[k1] at hyc';cases hyc'
     ·obtain⟨c',p'⟩:=hcl2 y (lookup_mem hyf)
      have pc:c'=c:=by
       have:=hcl1 y c' p'
       rw[p] at this;cases this;rfl
      subst pc
      refine .inr ⟨.inl ?_,c',by rw[hXe];exact p',?_⟩
      ·rw[hXe];exact ef I3.ok.kind hyf hyc
      ·obtain⟨o,q1,q2⟩:=z
       exact⟨o,keep4 c' o q1,q2⟩
  ·rw[hXe] at p
   obtain⟨v,o,q1,q2⟩:=I3.cell y c (hcl1 y c p)
   exact⟨v,o,keep4 c o q1,q2⟩
  ·rw[hXe];exact I3.hok.fresh (Nat.le_refl _)
  ·rw[hXe] at p;exact I3.df y c (hcl1 y c p)
  ·rw[hXpn] at hp;cases hp
  ·rw[hXp,hXw];exact I3.hok.kept keep4
  ·rw[hXN,hN];simp[xI]
 -- the loop
 have stat:∀{H':Hp},(∀b∈fp,H' b=none)->∀b∈fp,m4 X' [] H' b:=fun hn b hb=>by
  refine⟨hn b hb,by rw[hXe];exact fpC b hb,?_,.inl (by rw[hXex];exact hb),fun y c p=>?_,fun p hp=>by rw[hXpn] at hp;cases hp⟩
  ·rw[hXf];intro z
   rcases List.mem_cons.mp (I3.gB b z) with q | q
   ·exact(f2 b hb).2.1 q
   ·exact(f2 b hb).2.2.1 q
  ·rw[hXe] at p;exact(f2 b hb).2.2.2.2.1 y c (hcl1 y c p)
 have fin:∀{H5:Hp} {s5:Shared} {σ5:St},Inv X' [] σ5 H5 s5->Q (.ref acc) H5->compPost (model X.prog X.w) X.A X.xe use Q2 (.ref acc) s3.heap.objs.size (.ok .next) s5:=fun{H5 s5 σ5} I5 q=>by
  obtain⟨m,hn,_⟩:=I5.loc
  rw[hXe] at hn
  have hn':s5.heap.Ns s3.heap.objs.size m:=hn
  obtain⟨oC,esC,epC,hC1,hC2,hC3⟩:=hn'
  have u5:=I5.base
  rw[hXf,hXex,hXH,hXs] at u5
  have fr:H5 s3.heap.objs.size=none:=by have:=I5.free;rw[hXe] at this;exact this
  have hok5:=I5.hok
  rw[hXp,hXw] at hok5
  have hos:s5.os=s3.os:=by have:=I5.os;rw[hXs] at this;exact this
  have IX:Inv X pins σ H5 s5:=I3.qP (s':=s5) (ch:=fp) hos u5 hok5 I5.bare (fun b hb=>by
   obtain⟨g0,g1,g2,g3,g4,g5⟩:=f2 b hb
   exact⟨g3,g1,g4,g5⟩)
  have cC:∀x c,X.env.cells.lookup x=some c->c≠s3.heap.objs.size:=fun x c z e=>by
   obtain⟨v,q⟩:=I3.cell x c z
   exact absurd q.lt (by rw[e];exact Nat.lt_irrefl _)
  have pC:∀p∈X.pn++pins,p.1≠s3.heap.objs.size:=fun p hp e=>by
   have:=Heap.lt_size (I3.pin p hp).1
   rw[e] at this
   exact Nat.lt_irrefl _ this
  refine hfin acc s3.heap.objs.size H5 s5 oC (IX.kZ fun p hp=>?_) cC I3.sz pC ⟨m,fun h' z=>⟨oC,esC,epC,z,hC2,hC3⟩⟩ q
  rcases List.mem_append.mp hp with z | z
  ·exact IX.pin p (List.mem_append_right _ z)
  ·have e:=List.mem_singleton.mp z
   subst e
   refine⟨hC1,fr,Nat.ne_of_gt I3.lt,I3.Du (Nat.le_refl _),fun v e=>?_⟩
   have e':oC.data=.cell v:=e
   rw[hC2] at e';cases e'
 have loop:∀tk,codeAny (model X.prog X.w) X.A (.compLoop (.ListComp elt [⟨tg,iter,ifs,0⟩] scope pos) 0 (.ref it) (.ref acc) (compEnvC scope cl s3.heap.objs.size X.env))
   (compPost (model X.prog X.w) X.A X.xe use Q2 (.ref acc) s3.heap.objs.size) { s3 with heap:=h₁,toks:=tk }:=fun tk=>by
  refine qR (fun n s'=>∃i ys σ' H',Inv X' [] σ' H' s'/\pQ tn'.length ix σ σ'/\tn i s'.heap/\(∀b∈fp,H' b=none)/\W i n ys H') (fun n s5 h5=>?_) m0
   ⟨0,[],xI tn'.length ix σ,H3,I4 tk,⟨_,List.length_replicate,rfl⟩,T.keep _ _ _ st3' fun b _ o q=>keep4 b o q,fpn,w0⟩
  obtain⟨i,ys,σ5,H5,I5,hσ,st5,fr5,w5⟩:=h5
  rcases turn i n ys H5 w5 with⟨stop,q⟩ | ⟨go,step⟩
  ·have d:=T.done X' hXp hXw hXK hXc i [] s5 σ5 H5 (fun _ _=>False) I5 (stat fr5) st5 stop
   rw[hXA] at d
   refine thn d fun r s6 ⟨hr,I6⟩=>?_
   subst hr
   exact fin I6 q
  ·have d:=T.item X' hXp hXw hXK hXc i [] s5 σ5 H5 (fun _ _=>False) I5 (stat fr5) st5 go
   rw[hXA] at d
   refine thn d fun r s6 ⟨u,hr,h6⟩=>?_
   subst hr
   refine thn h6 fun _ s7 ⟨z,H7,I7,r7,y7,st7,fr7⟩=>?_
   have I7':=I7.pinned (stat fr7) (T.obj _ _ st7)
   have again:∀{H9:Hp} {s9:Shared} {ys9:List V} {σ9:St},Inv X' ([]++lD fp s7.heap) σ9 H9 s9->pQ tn'.length ix σ σ9->(∃m',m'<n/\W (i+1) m' ys9 H9)->∃m',m'<n/\∃i ys σ' H',Inv X' [] σ' H' s9/\pQ tn'.length ix σ σ'/\tn i s9.heap/\(∀b∈fp,H' b=none)/\W i m' ys H':=fun{H9 s9 ys9 σ9} I9 c9 ⟨m',hm,w9⟩=>by
    refine⟨m',hm,i+1,ys9,_,H9,I9.iS,c9,T.keep _ _ _ st7 fun b hb o e=>(I9.pin (b,o) (List.mem_append_right _ (List.mem_append_right _ (fW hb e)))).1,fun b hb=>?_,w9⟩
    obtain⟨o,e,_⟩:=T.obj _ _ st7 b hb
    exact(I9.pin (b,o) (List.mem_append_right _ (List.mem_append_right _ (fW hb e)))).2.1
   have ht':=ht cl s3.heap.objs.size s3 H3 fp
   have he':=he cl s3.heap.objs.size s3 H3 fp
   have hg':=hg cl s3.heap.objs.size s3 H3 fp
   rw[hX'] at ht' he' hg'
   rw[<- hXe]
   have a0:=hg' _ s7 σ5 H7 z u _ I7' r7 (step σ5 z H7 hσ y7)
   rw[hXp,hXw,hXA,hXx] at a0
   refine thn a0 fun _ s8 ⟨σ8,H8,I8,c8,q8⟩=>?_
   have a1:=ht' _ s8 _ H8 _ I8 q8
   rw[hXp,hXw,hXA,hXx] at a1
   refine thn a1 fun b s9 ⟨H9,I9,q9⟩=>?_
   cases b with
   | false=>exact again I9 c8 q9
   | true=>
    have a2:=he' _ s9 _ H9 _ I9 q9
    rw[hXp,hXw,hXA,hXx] at a2
    refine thn a2 fun yv s10 ⟨y,H10,I10,r10,q1,q2,q3⟩=>?_
    have a3:=jS (X:=X') _ s10 _ H10 (.ref acc) [y] (.ref acc) [yv] (fun _ Hq=>∃m',m'<n/\W (i+1) m' (ys++[y]) Hq) I10 rfl (.cons r10 .nil) ⟨acc,ys,y,rfl,rfl,q1,q2,q3⟩
    rw[hXp,hXw,hXA,hXx] at a3
    exact thn a3 fun _ s11 ⟨_,H11,I11,_,q11⟩=>again I11 c8 q11
 refine codeAny_compStart_list (loop _) ?_
 exact T.self _ 0 _ _ _ (T.keep _ _ _ st3' fun b _ o q=>keep4 b o q) (loop _)
section
variable {X:Cx} {elt iter tg:Expr} {tn':List Str} {tgr:TG} {ifs:List Expr} {scope osc:Scope} {pos:Pos} {wi:TI} {tt:TT} {te:TE}
theorem wK (ix:List Nat) (tn' N':List Str)
  (hxe:X.xe=fun _ _=>False) (hc:X.calm=true) (ho:X.env.scope=osc) (hN:N'=tn'++ix.map fun i=>(X.N[i]?).getD ("" : Str)) (hnd:N'.Nodup)
  (hall:(∀y∈scope.names,y.2=.free->osc.names.lookup y.1=some .cell)/\(∀y∈scope.names,y.2≠.cell)/\scope.kind=.function/\(∀y∈scope.names,y.2=.local->scope.names.lookup y.1=some .local)/\(∀y∈N'.drop tn'.length,scope.names.lookup y=some .free))
  (hi:PI X tg iter wi) (hg:∀cl C aJ aT fp,PG (cK X scope cl C aJ aT fp N') tg tgr)
  (ht:∀cl C aJ aT fp,PTs (cK X scope cl C aJ aT fp N') ifs tt)
  (he:∀cl C aJ aT fp,PE (cK X scope cl C aJ aT fp N') elt te)
  (hs:∀x,foldedSetIterable iter X.env x=pure x:=by intro _;rfl) :
  PE X (.ListComp elt [⟨tg,iter,ifs,0⟩] scope pos) (nX wi tn'.length ix tgr tt te):=by
 intro pins s σ H Q I h
 have e:eval (.ListComp elt [⟨tg,iter,ifs,0⟩] scope pos) X.env=comprehension (.ListComp elt [⟨tg,iter,ifs,0⟩] scope pos) scope X.env (firstIterPos [⟨tg,iter,ifs,0⟩] pos) (newList []) false (eval iter X.env) none:=by
  rw[eval_ListComp];rfl
 rw[e]
 refine nK (use:=none) (Q2:=EP X pins σ Q) ix N' hxe hc ho hN hnd hall hi hg ht he hs I h fun acc C H5 s5 o I5 cC hC pC hm q=>?_
 obtain⟨m,hm⟩:=hm
 exact⟨m,hm _ (I5.pin (C,o) (List.mem_append_right _ (List.mem_append_right _ (List.mem_singleton.mpr rfl)))).1,fun h' hs'=>⟨.ref acc,H5,I5.Dr cC hC pC hs',rfl,q⟩⟩
theorem pY {y:Str} {py spos:Pos} {i:Nat} (ix:List Nat) (tn' N':List Str)
  (hxe:X.xe=fun _ _=>False) (hc:X.calm=true) (ho:X.env.scope=osc) (hN:N'=tn'++ix.map fun i=>(X.N[i]?).getD ("" : Str)) (hnd:N'.Nodup)
  (hall:(∀y∈scope.names,y.2=.free->osc.names.lookup y.1=some .cell)/\(∀y∈scope.names,y.2≠.cell)/\scope.kind=.function/\(∀y∈scope.names,y.2=.local->scope.names.lookup y.1=some .local)/\(∀y∈N'.drop tn'.length,scope.names.lookup y=some .free))
  (hi:PI X tg iter wi) (hg:∀cl C aJ aT fp,PG (cK X scope cl C aJ aT fp N') tg tgr)
  (ht:∀cl C aJ aT fp,PTs (cK X scope cl C aJ aT fp N') ifs tt)
  (he:∀cl C aJ aT fp,PE (cK X scope cl C aJ aT fp N') elt te)
  (hNN:X.N.Nodup) (hy:X.N[i]?=some y) (hl:X.env.scope.names.lookup y=some .local)
  (hsw:swapsWith (.ListComp elt [⟨tg,iter,ifs,0⟩] scope pos) (some (.Name y py)) spos.line X.env=pure true:=by rfl)
  (hs:∀x,foldedSetIterable iter X.env x=pure x:=by intro _;rfl) :
  PS X (.Assign [.Name y py] (.ListComp elt [⟨tg,iter,ifs,0⟩] scope pos) spos) (BV (nX wi tn'.length ix tgr tt te) (iT i)):=by
 intro pins s σ H D I h
 rw[exec_Assign_Name_used _ _ _ _ hsw]
 refine wpAny_bind (wpAny_standAt ?_)
 show wpAny _ _ (evalThenUse (.ListComp elt [⟨tg,iter,ifs,0⟩] scope pos) X.env (assign (.Name y py) X.env) >>= fun _=>pure Flow.next) _ _ _
 refine wpAny_bind ?_
 show wpAny _ _ (comprehension (.ListComp elt [⟨tg,iter,ifs,0⟩] scope pos) scope X.env (firstIterPos [⟨tg,iter,ifs,0⟩] pos) (newList []) false (eval iter X.env) (some (assign (.Name y py) X.env)) >>= fun _=>pure ()) _ _ _
 refine wpAny_bind (nK (use:=some (assign (.Name y py) X.env)) ix N' hxe hc ho hN hnd hall hi hg ht he hs I h fun acc C H5 s5 o I5 cC hC pC hm q=>?_)
 obtain⟨m,hm⟩:=hm
 refine wpAny_assign_Name (fQ (i:=i) (v:=.ref acc) I5 hNN hy (.inl hl) rfl (fun s6 I6=>?_) (.inr hl))
 refine⟨m,hm _ (I6.pin (C,o) (List.mem_append_right _ (List.mem_append_right _ (List.mem_singleton.mpr rfl)))).1,fun h' hs'=>?_⟩
 exact wpAny_pure (wpAny_pure ⟨_,H5,I6.Dr cC hC pC hs',q⟩)
end
section
variable {X:Cx} {pins:List (Addr × Obj)} {σ:St} {H:Hp} {s:Shared} {a:Addr} {y v:V} {u r:Value} {o:Option V} {A:Around} {E:Value->Shared->Prop}
theorem Inv.big (I:Inv X pins σ H s):sysModules<s.heap.objs.size:=by
 have h:mainGlobals<s.heap.objs.size:=(I.mod.glob.keeps I.bk).lt
 exact Nat.lt_trans (by decide) h
end
theorem xw {P:Program} {w:World} {H:Hp} (h:Heap) (hb:sysModules<h.objs.size):bO P w H (h.push { cls:=.type "dict", data:=.dict #[] }) h.objs.size (.dK []):=
 ⟨Nat.zero_le _,beq_eq_false_iff_ne.mpr (Ne.symm (Nat.ne_of_lt hb)),[],.nil,Heap.DictOf.new h⟩
noncomputable def B4:TE:=fun _ H Q=>∀p,H p=none->Q (.ref p) (upd H p (.dK []))
section
variable {X:Cx} {pos:Pos}
theorem wj:PE X (.Dict [] [] pos) B4:=fun pins s σ H Q I h=>
 wpAny_Dict_empty ⟨.ref s.heap.objs.size,_,I.laid (a:=s.heap.objs.size) (o:=.dK []) (t':=s.toks) (fun _ _ q=>Heap.get?_push_of_some _ q) (Nat.le_refl _) (xw s.heap I.big),rfl,h _ (I.hok.fresh (Nat.le_refl _))⟩
end
end L2
namespace L2.FE
open PySem PySem.Spec PyProof.Rows
inductive D where
 | non | bl (b:Bool) | int (i:Int) | str (x:Str) | tup (ds:List D) | frl (ds:List D) | ref (n:Nat) | fn (x:Str) | edic | scr (ds:List D) | exc (c:Str) (fs:List (Str × Int))
inductive O where
 | lst (ds:List D) | set (ns:List Int) | dic (kvs:List (Key × D)) | dit (kvs:List (List Key × D))
noncomputable abbrev Hh:=List O
noncomputable abbrev En:=List (Option D)
structure Xc where
 cls:Str
 fs:List (Str × Int)
inductive R (β:Type) where
 | ok (b:β) (h:Hh)
 | err (x:Xc) (h:Hh)
 | bad
noncomputable def R.bind {β γ:Type} (r:R β) (f:β->Hh->R γ):R γ:=match r with
 | .ok b h=>f b h
 | .err x h=>.err x h
 | .bad=>.bad
inductive Fl where
 | nx (e:En) | bk (e:En) | ct (e:En) | rt (d:D)
noncomputable abbrev ME:=En->Hh->R D
noncomputable abbrev MT:=En->Hh->R Bool
noncomputable abbrev MA:=En->Hh->R (List D)
noncomputable abbrev MS:=En->Hh->R Fl
noncomputable def Fro (K:PySem.W.Frag) (H:Hp) (p:Addr) (vs:List V):Prop:=
 (∃o,H p=some (.frz o (.lst vs)))\/∃(o:Obj) (its:Array Value) (n:Nat),K.lookup p=some o/\o.cls=.type "list" /\ o.dict=none/\o.data=.seq its n/\its.size<=sizeLine/\Vals vs its.toList
theorem Fro.sq {K:PySem.W.Frag} {H:Hp} {p:Addr} {vs:List V} (h:Fro K H p vs):SqL K H p vs:=by
 rcases h with⟨o,h⟩ | h
 ·exact .inl (.inr ⟨o,h⟩)
 ·exact .inr h
noncomputable def Fr1 (H:Hp) (p:Addr) (vs:List V):Prop:=∃o,H p=some (.frz o (.lst vs))
theorem Fr1.fro {K:PySem.W.Frag} {H:Hp} {p:Addr} {vs:List V} (h:Fr1 H p vs):Fro K H p vs:=.inl h
theorem Fr1.sq {K:PySem.W.Frag} {H:Hp} {p:Addr} {vs:List V} (h:Fr1 H p vs):SqL K H p vs:=let ⟨o,h⟩:=h;.inl (.inr ⟨o,h⟩)
theorem Fr1.rd {H:Hp} {p:Addr} {vs:List V} (h:Fr1 H p vs):Rd H p (.lst vs):=.inr h
noncomputable def AtO (p:Addr) (o:Obj):HO:=.frz o (.ext fun h=>h.get? p=some o)
noncomputable def XFs (H:Hp) (dc:Option Addr) (fs:List (Str × Int)):Prop:=(dc=none/\fs=[])\/∃dx od,dc=some dx/\H dx=some (.frz od (.xd (fs.map fun x=>(x.1,V.int x.2))))
mutual
inductive aE (K:PySem.W.Frag) (g:Str->Option Addr) (α:List Addr) (H:Hp):D->V->Prop where
 | non:aE K g α H .non .non
 | bl (b):aE K g α H (.bl b) (.bl b)
 | int (i):aE K g α H (.int i) (.int i)
 | str (x):aE K g α H (.str x) (.str x)
 | ref {n p}:α[n]?=some p->aE K g α H (.ref n) (.ref p)
 | tup {ds p vs}:H p=some (.tup vs)->au K g α H ds vs->aE K g α H (.tup ds) (.ref p)
 | frl {ds p vs}:Fr1 H p vs->au K g α H ds vs->aE K g α H (.frl ds) (.ref p)
 | scr {ds p vs}:Fro K H p vs->au K g α H ds vs->aE K g α H (.scr ds) (.ref p)
 | fn {x f}:g x=some f->aE K g α H (.fn x) (.ref f)
 | edic {p o}:H p=some (.frz o (.dK []))->aE K g α H .edic (.ref p)
 | exc {c C p o fs}:g c=some C->H p=some (AtO p o)->o.cls=.ref C->(∃vs,o.data=.fields vs)->XFs H o.dict fs->aE K g α H (.exc c fs) (.ref p)
inductive au (K:PySem.W.Frag) (g:Str->Option Addr) (α:List Addr) (H:Hp):List D->List V->Prop where
 | nil:au K g α H [] []
 | cons {d v ds vs}:aE K g α H d v->au K g α H ds vs->au K g α H (d::ds) (v::vs)
end
structure Ex0 (K:PySem.W.Frag) (α:List Addr) (H:Hp) (α':List Addr) (H':Hp):Prop where
 pre:α <+: α'
 tup:∀(p:Addr) (xs:List V),H p=some (.tup xs)->H' p=some (.tup xs)
 frz:∀(p:Addr) (o:Obj) (u:HO),H p=some (.frz o u)->H' p=some (.frz o u)
theorem Ex0.fro {K:PySem.W.Frag} {α α':List Addr} {H H':Hp} (e:Ex0 K α H α' H') (p:Addr) (xs:List V) (h:Fro K H p xs):Fro K H' p xs:=by
 rcases h with⟨o,h⟩ | h
 ·exact .inl ⟨o,e.frz _ _ _ h⟩
 ·exact .inr h
theorem Ex0.fr1 {K:PySem.W.Frag} {α α':List Addr} {H H':Hp} (e:Ex0 K α H α' H') (p:Addr) (xs:List V) (h:Fr1 H p xs):Fr1 H' p xs:=let ⟨o,h⟩:=h;⟨o,e.frz _ _ _ h⟩
structure Ext (K:PySem.W.Frag) (α:List Addr) (H:Hp) (α':List Addr) (H':Hp):Prop extends Ex0 K α H α' H' where
 keep:∀p o,H p=some o->p∉α->H' p=some o
 new:∀p,p∈α'->p∉α->H p=none
section
variable {K:PySem.W.Frag} {g:Str->Option Addr} {α α' α'':List Addr} {H H' H'':Hp}
theorem Ex0.refl:Ex0 K α H α H:=⟨List.prefix_refl _,fun _ _ h=>h,fun _ _ _ h=>h⟩
theorem Ex0.trans (a:Ex0 K α H α' H') (b:Ex0 K α' H' α'' H''):Ex0 K α H α'' H'':=⟨a.pre.trans b.pre,fun p xs h=>b.tup p xs (a.tup p xs h),fun p o u h=>b.frz p o u (a.frz p o u h)⟩
theorem Ext.refl:Ext K α H α H:=⟨.refl,fun _ _ h _=>h,fun _ h n=>absurd h n⟩
theorem Ext.trans (a:Ext K α H α' H') (b:Ext K α' H' α'' H''):Ext K α H α'' H'':=⟨a.toEx0.trans b.toEx0,fun p o h n=>b.keep p o (a.keep p o h n) (fun z=>by rw[a.new p z n] at h;cases h),fun p z n=>by
  by_cases q:p∈α'
  ·exact a.new p q n
  ·have:=b.new p z q
   cases e:H p with
   | none=>rfl
   | some o=>rw[a.keep p o e n] at this;cases this⟩
theorem Ex0.get (e:Ex0 K α H α' H') {n:Nat} {p:Addr} (h:α[n]?=some p):α'[n]?=some p:=by
 obtain⟨t,rfl⟩:=e.pre
 have hl:n<α.length:=by
  by_cases hl:n<α.length
  ·exact hl
  ·rw[List.getElem?_eq_none (by omega)] at h;cases h
 rw[List.getElem?_append_left hl];exact h
mutual
theorem aE.ex0 (e:Ex0 K α H α' H'):∀{d:D} {v:V},aE K g α H d v->aE K g α' H' d v
 | _,_,.non=>.non
 | _,_,.bl b=>.bl b
 | _,_,.int i=>.int i
 | _,_,.str x=>.str x
 | _,_,.ref h=>.ref (e.get h)
 | _,_,.tup h r=>.tup (e.tup _ _ h) (au.ex0 e r)
 | _,_,.frl h r=>.frl (e.fr1 _ _ h) (au.ex0 e r)
 | _,_,.scr h r=>.scr (e.fro _ _ h) (au.ex0 e r)
 | _,_,.fn h=>.fn h
 | _,_,.edic h=>.edic (e.frz _ _ _ h)
 | _,_,.exc hg h hc hd hf=>.exc hg (e.frz _ _ _ h) hc hd (hf.elim .inl fun⟨dx,od,a,b⟩=>.inr ⟨dx,od,a,e.frz _ _ _ b⟩)
theorem au.ex0 (e:Ex0 K α H α' H'):∀{ds:List D} {vs:List V},au K g α H ds vs->au K g α' H' ds vs
 | _,_,.nil=>.nil
 | _,_,.cons r t=>.cons (aE.ex0 e r) (au.ex0 e t)
end
theorem aE.ext (e:Ext K α H α' H') {d:D} {v:V} (r:aE K g α H d v):aE K g α' H' d v:=r.ex0 e.toEx0
theorem au.ext (e:Ext K α H α' H') {d:List D} {v:List V} (r:au K g α H d v):au K g α' H' d v:=r.ex0 e.toEx0
theorem au.length:∀{ds:List D} {vs:List V},au K g α H ds vs->ds.length=vs.length
 | _,_,.nil=>rfl
 | _,_,.cons _ t=>by simp[au.length t]
theorem au.append:∀{ds es:List D} {vs us:List V},au K g α H ds vs->au K g α H es us->au K g α H (ds++es) (vs++us)
 | _,_,_,_,.nil,s=>s
 | _,_,_,_,.cons r t,s=>.cons r (au.append t s)
theorem au.get:∀{ds:List D} {vs:List V} {i:Nat} {d:D},au K g α H ds vs->ds[i]?=some d->∃v,vs[i]?=some v/\aE K g α H d v
 | _,_,_,_,.nil,e=>by simp at e
 | _,_,0,_,.cons r _,e=>by simp at e;subst e;exact⟨_,rfl,r⟩
 | _,_,i+1,d,.cons _ t,e=>by
  obtain⟨u,h1,h2⟩:=au.get (i:=i) (d:=d) t (by simpa using e)
  exact⟨u,by simpa using h1,h2⟩
theorem au.set {d:D} {v:V} (r:aE K g α H d v):∀{ds:List D} {vs:List V} (i:Nat),au K g α H ds vs->au K g α H (ds.set i d) (vs.set i v)
 | _,_,_,.nil=>.nil
 | _,_,0,.cons _ t=>.cons r t
 | _,_,i+1,.cons q t=>.cons q (au.set r i t)
theorem au.take:∀{ds:List D} {vs:List V} (n:Nat),au K g α H ds vs->au K g α H (ds.take n) (vs.take n)
 | _,_,0,_=>.nil
 | _,_,_+1,.nil=>.nil
 | _,_,n+1,.cons r t=>.cons r (au.take n t)
theorem au.drop:∀{ds:List D} {vs:List V} (n:Nat),au K g α H ds vs->au K g α H (ds.drop n) (vs.drop n)
 | _,_,0,r=>r
 | _,_,_+1,.nil=>.nil
 | _,_,n+1,.cons _ t=>au.drop n t
theorem au.erase:∀{ds:List D} {vs:List V} (i:Nat),au K g α H ds vs->au K g α H (ds.eraseIdx i) (vs.eraseIdx i)
 | _,_,_,.nil=>.nil
 | _,_,0,.cons _ t=>t
 | _,_,i+1,.cons q t=>.cons q (au.erase i t)
theorem au.ints (ns:List Int):au K g α H (ns.map D.int) (ns.map V.int):=by
 induction ns with
 | nil=>exact .nil
 | cons n r ih=>exact .cons (.int n) ih
theorem au.AG:∀{ns:List Int} {vs:List V},au K g α H (ns.map D.int) vs->vs=ns.map V.int
 | [],_,.nil=>rfl
 | n::r,_,.cons (.int _) t=>by rw[au.AG t];rfl
theorem au.flat {ds:List D} {vs:List V} (r:au K g α H ds vs):∀k,au K g α H (List.replicate k ds).flatten (List.replicate k vs).flatten
 | 0=>.nil
 | k+1=>by rw[List.replicate_succ,List.replicate_succ,List.flatten_cons,List.flatten_cons];exact r.append (au.flat r k)
end
noncomputable def OAt (K:PySem.W.Frag) (g:Str->Option Addr) (α:List Addr) (H:Hp) (p:Addr):O->Prop
 | .lst ds=>∃vs,H p=some (.lst vs)/\au K g α H ds vs
 | .set ns=>H p=some (.set (fun k=>ns.any (· == k)) ns.length)
 | .dic kvs=>∃kws,H p=some (.dK kws)/\Paired (fun(a:Key × D) (b:Key × V)=>a.1=b.1/\aE K g α H a.2 b.2) kvs kws
 | .dit kvs=>∃kws,H p=some (.dT kws)/\Paired (fun(a:List Key × D) (b:List Key × V)=>a.1=b.1/\aE K g α H a.2 b.2) kvs kws
structure aS (K:PySem.W.Frag) (g:Str->Option Addr) (α:List Addr) (H:Hp) (h:Hh):Prop where
 len:α.length=h.length
 inj:∀(n m:Nat) (p:Addr),α[n]?=some p->α[m]?=some p->n=m
 here:∀(n:Nat) (p:Addr) (o:O),α[n]?=some p->h[n]?=some o->OAt K g α H p o
section
variable {K:PySem.W.Frag} {g:Str->Option Addr} {α α':List Addr} {H H':Hp} {h:Hh}
theorem Paired.DV {kvs:List (Key × D)} {kws:List (Key × V)} (e:Ex0 K α H α' H') (r:Paired (fun(a:Key × D) (b:Key × V)=>a.1=b.1/\aE K g α H a.2 b.2) kvs kws) :
  Paired (fun(a:Key × D) (b:Key × V)=>a.1=b.1/\aE K g α' H' a.2 b.2) kvs kws:=L2.Paired.zU r fun _ _ q=>⟨q.1,q.2.ex0 e⟩
theorem Paired.Dj {kvs:List (List Key × D)} {kws:List (List Key × V)} (e:Ex0 K α H α' H') (r:Paired (fun(a:List Key × D) (b:List Key × V)=>a.1=b.1/\aE K g α H a.2 b.2) kvs kws) :
  Paired (fun(a:List Key × D) (b:List Key × V)=>a.1=b.1/\aE K g α' H' a.2 b.2) kvs kws:=L2.Paired.zU r fun _ _ q=>⟨q.1,q.2.ex0 e⟩
theorem OAt.isS {p:Addr} {o:O} (h:OAt K g α H p o):∃u,H p=some u/\(∀ys,u≠.tup ys)/\∀w ys,u≠.frz w ys:=by
 cases o with
 | lst ds=>obtain⟨vs,e,_⟩:=h;exact⟨_,e,fun _ z=>(nomatch z),fun _ _ z=>nomatch z⟩
 | set n=>exact⟨_,h,fun _ z=>(nomatch z),fun _ _ z=>nomatch z⟩
 | dic kvs=>obtain⟨vs,e,_⟩:=h;exact⟨_,e,fun _ z=>(nomatch z),fun _ _ z=>nomatch z⟩
 | dit kvs=>obtain⟨vs,e,_⟩:=h;exact⟨_,e,fun _ z=>(nomatch z),fun _ _ z=>nomatch z⟩
theorem aS.mem (r:aS K g α H h) {p:Addr} (hp:p∈α):∃u,H p=some u/\(∀ys,u≠.tup ys)/\∀w ys,u≠.frz w ys:=by
 obtain⟨n,hn,e⟩:=List.getElem_of_mem hp
 have hn':n<h.length:=by rw[<- r.len];exact hn
 exact(r.here n p _ (by rw[List.getElem?_eq_getElem hn,e]) (List.getElem?_eq_getElem hn')).isS
theorem OAt.ex0 {p:Addr} {o:O} (e:Ex0 K α H α' H') (h:OAt K g α H p o) (k:∀u,H p=some u->H' p=some u):OAt K g α' H' p o:=by
 cases o with
 | lst ds=>obtain⟨vs,a,r⟩:=h;exact⟨vs,k _ a,r.ex0 e⟩
 | set n=>exact k _ h
 | dic kvs=>obtain⟨kws,a,r⟩:=h;exact⟨kws,k _ a,Paired.DV e r⟩
 | dit kvs=>obtain⟨kws,a,r⟩:=h;exact⟨kws,k _ a,Paired.Dj e r⟩
noncomputable def zY (H:Hp) (p:Addr):Prop:=H p=none\/∃u,H p=some u/\(∀ys,u≠.tup ys)/\∀w ys,u≠.frz w ys
theorem Ex0.upd {p:Addr} {o:HO} (n:zY H p):Ex0 K α H α (upd H p o):=by
 have ne:∀q u,H q=some u->((∃ys,u=.tup ys)\/∃w ys,u=.frz w ys)->q≠p:=by
  rintro q u e z rfl
  rcases n with n | ⟨u',e',n1,n2⟩
  ·rw[e] at n;cases n
  ·rw[e] at e';cases e'
   rcases z with⟨ys,z⟩ | ⟨w,ys,z⟩
   ·exact n1 _ z
   ·exact n2 _ _ z
 refine⟨List.prefix_refl _,fun q xs h=>?_,fun q o u h=>?_⟩
 ·rw[aB (ne q _ h (.inl ⟨_,rfl⟩))];exact h
 ·rw[aB (ne q _ h (.inr ⟨_,_,rfl⟩))];exact h
theorem Ex0.more (e:Ex0 K α H α H') (l:List Addr):Ex0 K α H (α++l) H':=⟨List.prefix_append _ _,e.tup,e.frz⟩
theorem Ext.fresh {p:Addr} {o:HO} (n:H p=none):Ext K α H α (upd H p o):=⟨Ex0.upd (.inl n),fun q u h _=>by rw[aB (aQ h n)];exact h,fun _ z m=>absurd z m⟩
theorem Ext.push {p:Addr} {o:HO} (n:H p=none):Ext K α H (α++[p]) (upd H p o):=⟨(Ex0.upd (.inl n)).more _,fun q u h _=>by rw[aB (aQ h n)];exact h,fun q z m=>by
 rcases List.mem_append.mp z with z | z
 ·exact absurd z m
 ·rw[List.mem_singleton.mp z];exact n⟩
theorem aS.off {p:Addr} {o:HO} (r:aS K g α H h) (n:zY H p) (m:p∉α):aS K g α (upd H p o) h:=by
 refine⟨r.len,r.inj,fun k q u a b=>(r.here k q u a b).ex0 (Ex0.upd n) fun w e=>?_⟩
 rw[aB];exact e
 rintro rfl;exact m (List.mem_of_getElem? a)
theorem aS.free (r:aS K g α H h) {p:Addr} (n:H p=none):p∉α:=fun z=>by
 obtain⟨u,e,_⟩:=r.mem z
 rw[n] at e;cases e
theorem aS.grow {p:Addr} {o:HO} (r:aS K g α H h) (n:H p=none):aS K g α (upd H p o) h:=r.off (.inl n) (r.free n)
theorem aS.adopt {p:Addr} {u:O} (r:aS K g α H h) (n:p∉α) (a:OAt K g (α++[p]) H p u):aS K g (α++[p]) H (h++[u]):=by
 have old:∀{m:Nat} {q:Addr},(α++[p])[m]?=some q->(α[m]?=some q)\/(m=α.length/\q=p):=by
  intro m q h1
  by_cases hm:m<α.length
  ·rw[List.getElem?_append_left hm] at h1
   exact .inl h1
  ·have hl:m<(α++[p]).length:=by
    by_cases hl:m<(α++[p]).length
    ·exact hl
    ·rw[List.getElem?_eq_none (by omega)] at h1;cases h1
   have e:m=α.length:=by simp at hl;omega
   subst e
   rw[List.getElem?_append_right (Nat.le_refl _)] at h1
   simp at h1
   exact .inr ⟨rfl,h1.symm⟩
 refine⟨by simp[r.len],fun m k q h1 h2=>?_,fun m q w h1 h2=>?_⟩
 ·rcases old h1 with a1 | ⟨e1,e2⟩
  ·rcases old h2 with a2 | ⟨e3,e4⟩
   ·exact r.inj m k q a1 a2
   ·rw[e4] at a1;exact absurd (List.mem_of_getElem? a1) n
  ·rcases old h2 with a2 | ⟨e3,e4⟩
   ·rw[e2] at a2;exact absurd (List.mem_of_getElem? a2) n
   ·rw[e1,e3]
 ·rcases old h1 with a1 | ⟨e1,e2⟩
  ·have hm:m<α.length:=by
    by_cases hl:m<α.length
    ·exact hl
    ·rw[List.getElem?_eq_none (by omega)] at a1;cases a1
   rw[List.getElem?_append_left (by rw[<- r.len];exact hm)] at h2
   exact(r.here m q w a1 h2).ex0 (Ex0.refl.more _) fun _ z=>z
  ·subst e1 e2
   rw[r.len,List.getElem?_append_right (Nat.le_refl _)] at h2
   simp at h2
   subst h2
   exact a
theorem aS.push {p:Addr} {o:HO} {u:O} (r:aS K g α H h) (n:H p=none) (a:OAt K g (α++[p]) (upd H p o) p u):aS K g (α++[p]) (upd H p o) (h++[u]):=(r.grow n).adopt (r.free n) a
theorem Ext.write {p:Addr} {o:HO} {k:Nat} (r:aS K g α H h) (hk:α[k]?=some p):Ext K α H α (upd H p o):=
 ⟨Ex0.upd (.inr (r.mem (List.mem_of_getElem? hk))),fun q u h m=>by
  rw[aB];exact h
  rintro rfl;exact m (List.mem_of_getElem? hk),fun _ z m=>absurd z m⟩
theorem aS.write {p:Addr} {o:HO} {u':O} {k:Nat} (r:aS K g α H h) (hk:α[k]?=some p) (a:OAt K g α (upd H p o) p u'):aS K g α (upd H p o) (h.set k u'):=by
 have x:Ext K α H α (upd H p o):=Ext.write r hk
 refine⟨by simp[r.len],r.inj,fun m q w h1 h2=>?_⟩
 rw[List.getElem?_set] at h2
 by_cases hm:k=m
 ·subst hm
  rw[if_pos rfl] at h2
  split at h2
  ·cases h2;rw[h1] at hk;cases hk;exact a
  ·cases h2
 ·rw[if_neg hm] at h2
  refine(r.here m q w h1 h2).ex0 x.toEx0 fun z e=>?_
  rw[aB];exact e
  rintro rfl;exact hm (r.inj _ _ _ hk h1)
end
noncomputable abbrev GG:=Str->Option Addr
noncomputable abbrev EE:=List Addr->Hp->Xc->Prop
structure jd (K:PySem.W.Frag) (g:GG) (α:List Addr) (H:Hp) (env:En) (σ:St):Prop where
 len:env.length=σ.length
 vars:∀(i:Nat) (d:D),env[i]?=some (some d)->∃v,σ[i]?=some (some v)/\aE K g α H d v
structure dk (K:PySem.W.Frag) (g:GG) (α:List Addr) (H:Hp) (env:En) (σ:St) (h:Hh):Prop where
 heap:aS K g α H h
 vs:jd K g α H env σ
noncomputable def WQ (K:PySem.W.Frag) (g:GG) (ε:EE) (α:List Addr) (H:Hp) {β:Type} (r:R β) (k:β->Hh->Prop):Prop:=match r with
 | .ok b h=>k b h
 | .err x h=>∀α' H',Ext K α H α' H'->aS K g α' H' h->ε α' H' x
 | .bad=>False
section
variable {K:PySem.W.Frag} {g:GG} {ε:EE} {α α':List Addr} {H H':Hp} {β γ:Type}
theorem WQ.bind {r:R β} {f:β->Hh->R γ} {k:γ->Hh->Prop} (w:WQ K g ε α H (r.bind f) k):WQ K g ε α H r fun b h=>WQ K g ε α H (f b h) k:=by
 cases r<;>exact w
theorem WQ.ext {r:R β} {k:β->Hh->Prop} (e:Ext K α H α' H') (w:WQ K g ε α H r k):WQ K g ε α' H' r k:=by
 cases r with
 | ok b h=>exact w
 | err x h=>exact fun a b c d=>w a b (e.trans c) d
 | bad=>exact w
theorem WQ.mono {r:R β} {k k':β->Hh->Prop} (w:WQ K g ε α H r k) (m:∀b h,r=.ok b h->k b h->k' b h):WQ K g ε α H r k':=by
 cases r with
 | ok b h=>exact m b h rfl w
 | err x h=>exact w
 | bad=>exact w
theorem jd.ext {env:En} {σ:St} (v:jd K g α H env σ) (e:Ext K α H α' H'):jd K g α' H' env σ:=
 ⟨v.len,fun i d h=>let ⟨x,a,b⟩:=v.vars i d h;⟨x,a,b.ext e⟩⟩
theorem dk.ext {env:En} {σ:St} {h h':Hh} (v:dk K g α H env σ h) (e:Ext K α H α' H') (r:aS K g α' H' h'):dk K g α' H' env σ h':=⟨r,v.vs.ext e⟩
theorem jd.set {env:En} {σ:St} {i:Nat} {d:D} {x:V} (v:jd K g α H env σ) (r:aE K g α H d x):jd K g α H (env.set i (some d)) (σ.set i (some x)):=by
 refine⟨by simp[v.len],fun j e h=>?_⟩
 rw[List.getElem?_set] at h ⊢
 by_cases hj:i=j
 ·subst hj
  rw[if_pos rfl] at h ⊢
  have hl:=v.len
  split at h
  ·rw[if_pos (by omega)]
   cases h
   exact⟨x,rfl,r⟩
  ·cases h
 ·rw[if_neg hj] at h ⊢
  exact v.vars j e h
end
noncomputable def aA (K:PySem.W.Frag) (g:GG) (α:List Addr) (H:Hp) (Q:VK):D->Hh->Prop:=fun d h=>∀v H' α',Ext K α H α' H'->aS K g α' H' h->aE K g α' H' d v->Q v H'
noncomputable def kd (K:PySem.W.Frag) (g:GG) (α:List Addr) (H:Hp) (Q:Bool->Hp->Prop):Bool->Hh->Prop:=fun b h=>∀H' α',Ext K α H α' H'->aS K g α' H' h->Q b H'
noncomputable def Eo (K:PySem.W.Frag) (g:GG) (α:List Addr) (H:Hp) (Q:List V->Hp->Prop):List D->Hh->Prop:=fun ds h=>∀vs H' α',Ext K α H α' H'->aS K g α' H' h->au K g α' H' ds vs->Q vs H'
noncomputable def cQ (K:PySem.W.Frag) (g:GG) (α:List Addr) (H:Hp) (E:Ends):Fl->Hh->Prop:=fun fl h=>∀H' α',Ext K α H α' H'->aS K g α' H' h->match fl with
 | .nx e=>∀σ,jd K g α' H' e σ->E.nx σ H'
 | .bk e=>∀σ,jd K g α' H' e σ->E.bk σ H'
 | .ct e=>∀σ,jd K g α' H' e σ->E.ct σ H'
 | .rt d=>∀v,aE K g α' H' d v->E.rt v H'
noncomputable def tM (K:PySem.W.Frag) (g:GG) (ε:EE) (m:ME):TE:=fun σ H Q=>∃α env h,dk K g α H env σ h/\WQ K g ε α H (m env h) (aA K g α H Q)
noncomputable def tMT (K:PySem.W.Frag) (g:GG) (ε:EE) (m:MT):TT:=fun σ H Q=>∃α env h,dk K g α H env σ h/\WQ K g ε α H (m env h) (kd K g α H Q)
noncomputable def tMA (K:PySem.W.Frag) (g:GG) (ε:EE) (m:MA):TA:=fun σ H Q=>∃α env h,dk K g α H env σ h/\WQ K g ε α H (m env h) (Eo K g α H Q)
noncomputable def tMS (K:PySem.W.Frag) (g:GG) (ε:EE) (m:MS):TS:=fun E σ H=>∃α env h,dk K g α H env σ h/\WQ K g ε α H (m env h) (cQ K g α H E)
section
variable {K:PySem.W.Frag} {g:GG} {ε:EE} {α α':List Addr} {H H':Hp} {env:En} {σ:St} {h:Hh}
theorem aA.ext {Q:VK} {d:D} (e:Ext K α H α' H') (p:aA K g α H Q d h):aA K g α' H' Q d h:=fun v H2 α2 e2 r rd=>p v H2 α2 (e.trans e2) r rd
theorem kd.ext {Q:Bool->Hp->Prop} {d:Bool} (e:Ext K α H α' H') (p:kd K g α H Q d h):kd K g α' H' Q d h:=fun H2 α2 e2 r=>p H2 α2 (e.trans e2) r
theorem cQ.ext {E:Ends} {d:Fl} (e:Ext K α H α' H') (p:cQ K g α H E d h):cQ K g α' H' E d h:=fun H2 α2 e2 r=>p H2 α2 (e.trans e2) r
theorem WQ.post {Q:VK} {r:R D} (e:Ext K α H α' H') (w:WQ K g ε α H r (aA K g α H Q)):WQ K g ε α' H' r (aA K g α' H' Q):=(w.ext e).mono fun _ _ _ p=>p.ext e
theorem WQ.Ej {Q:Bool->Hp->Prop} {r:R Bool} (e:Ext K α H α' H') (w:WQ K g ε α H r (kd K g α H Q)):WQ K g ε α' H' r (kd K g α' H' Q):=(w.ext e).mono fun _ _ _ p=>p.ext e
theorem WQ.tF {E:Ends} {r:R Fl} (e:Ext K α H α' H') (w:WQ K g ε α H r (cQ K g α H E)):WQ K g ε α' H' r (cQ K g α' H' E):=(w.ext e).mono fun _ _ _ p=>p.ext e
theorem tM.use {m:ME} {Q:VK} {k:D->Hh->Prop} (s:dk K g α H env σ h) (w:WQ K g ε α H (m env h) k)
  (q:∀d h' v H' α',Ext K α H α' H'->dk K g α' H' env σ h'->aE K g α' H' d v->k d h'->Q v H'):tM K g ε m σ H Q:=
 ⟨α,env,h,s,w.mono fun d h' _ kk v H' α' e r rd=>q d h' v H' α' e (s.ext e r) rd kk⟩
theorem tMT.use {m:MT} {Q:Bool->Hp->Prop} {k:Bool->Hh->Prop} (s:dk K g α H env σ h) (w:WQ K g ε α H (m env h) k)
  (q:∀d h' H' α',Ext K α H α' H'->dk K g α' H' env σ h'->k d h'->Q d H'):tMT K g ε m σ H Q:=
 ⟨α,env,h,s,w.mono fun d h' _ kk H' α' e r=>q d h' H' α' e (s.ext e r) kk⟩
theorem tMA.use {m:MA} {Q:List V->Hp->Prop} {k:List D->Hh->Prop} (s:dk K g α H env σ h) (w:WQ K g ε α H (m env h) k)
  (q:∀d h' v H' α',Ext K α H α' H'->dk K g α' H' env σ h'->au K g α' H' d v->k d h'->Q v H'):tMA K g ε m σ H Q:=
 ⟨α,env,h,s,w.mono fun d h' _ kk v H' α' e r rd=>q d h' v H' α' e (s.ext e r) rd kk⟩
theorem aA.now {Q:VK} {d:D} {v:V} (p:aA K g α H Q d h) (r:aS K g α H h) (rd:aE K g α H d v):Q v H:=p v H α Ext.refl r rd
end
theorem PE.imp {X:Cx} {e:Expr} {t t':TE} (h:PE X e t) (i:∀σ H Q,t' σ H Q->t σ H Q):PE X e t':=fun pins s σ H Q I w=>h pins s σ H Q I (i σ H Q w)
theorem PT.imp {X:Cx} {e:Expr} {t t':TT} (h:PT X e t) (i:∀σ H Q,t' σ H Q->t σ H Q):PT X e t':=fun pins s σ H Q I w=>h pins s σ H Q I (i σ H Q w)
theorem PW.imp {X:Cx} {e:Expr} {t t':TT} (h:PW X e t) (i:∀σ H Q,t' σ H Q->t σ H Q):PW X e t':=fun wh pins s σ H Q I w=>h wh pins s σ H Q I (i σ H Q w)
theorem PA.imp {X:Cx} {e:List Expr} {t t':TA} (h:PA X e t) (i:∀σ H Q,t' σ H Q->t σ H Q):PA X e t':=fun p pins s σ H Q I w=>h p pins s σ H Q I (i σ H Q w)
theorem PS.imp {X:Cx} {e:Stmt} {t t':TS} (h:PS X e t) (i:∀σ H Q,t' σ H Q->t σ H Q):PS X e t':=fun pins s σ H Q I w=>h pins s σ H Q I (i Q σ H w)
theorem PSs.imp {X:Cx} {e:List Stmt} {t t':TS} (h:PSs X e t) (i:∀σ H Q,t' σ H Q->t σ H Q):PSs X e t':=fun pins s σ H Q I w=>h pins s σ H Q I (i Q σ H w)
noncomputable def ah (i:Nat):ME:=fun env h=>match env[i]? with
 | some (some d)=>.ok d h
 | _=>.bad
noncomputable def cC (d:D):ME:=fun _ h=>.ok d h
noncomputable def ax (f:D->D->Hh->R D) (a b:ME):ME:=fun env h=>(a env h).bind fun x h1=>(b env h1).bind fun y h2=>f x y h2
noncomputable def cUn (f:D->Hh->R D) (a:ME):ME:=fun env h=>(a env h).bind fun x h1=>f x h1
noncomputable def aj:MA:=fun _ h=>.ok [] h
noncomputable def aa (a:ME) (r:MA):MA:=fun env h=>(a env h).bind fun x h1=>(r env h1).bind fun xs h2=>.ok (x::xs) h2
noncomputable def ag (f:List D->Hh->R D) (a:MA):ME:=fun env h=>(a env h).bind fun xs h1=>f xs h1
noncomputable def aI (f:D->Hh->R Bool) (a:ME):MT:=fun env h=>(a env h).bind fun x h1=>f x h1
noncomputable def cI (a:MT):MT:=fun env h=>(a env h).bind fun b h1=>.ok (!b) h1
noncomputable def t6 (a b:MT):MT:=fun env h=>(a env h).bind fun x h1=>if x=true then b env h1 else .ok false h1
noncomputable def gp (a b:MT):MT:=fun env h=>(a env h).bind fun x h1=>if x=true then .ok true h1 else b env h1
noncomputable def cIf (c:MT) (a b:ME):ME:=fun env h=>(c env h).bind fun x h1=>if x=true then a env h1 else b env h1
noncomputable def asB:D->Hh->R Bool
 | .bl b,h=>.ok b h
 | _,_=>.bad
noncomputable def t5 (a b:ME):ME:=fun env h=>(a env h).bind fun x h1=>(asB x h1).bind fun k h2=>if k=true then b env h2 else .ok (.bl false) h2
noncomputable def wA (a:ME):ME:=fun env h=>(a env h).bind fun x h1=>(asB x h1).bind fun k h2=>.ok (.bl (!k)) h2
noncomputable def gy (f f':D->D->Hh->R D) (a b c:ME):ME:=fun env h=>(a env h).bind fun x h1=>(b env h1).bind fun y h2=>(f x y h2).bind fun z h3=>(asB z h3).bind fun k h4=>
 if k=true then (c env h4).bind fun w h5=>f' y w h5 else .ok (.bl false) h4
noncomputable def dH (K:PySem.W.Frag) (g:GG) (ε:EE) (f:D->D->Hh->R D) (r:R2):Prop:=
 ∀(α:List Addr) (H:Hp) (h:Hh) (a b:D) (x y:V) (Q:VK),aS K g α H h->aE K g α H a x->aE K g α H b y->WQ K g ε α H (f a b h) (aA K g α H Q)->r x y H Q
noncomputable def Ei (K:PySem.W.Frag) (g:GG) (ε:EE) (f:D->Hh->R D) (r:V->Hp->VK->Prop):Prop:=
 ∀(α:List Addr) (H:Hp) (h:Hh) (a:D) (x:V) (Q:VK),aS K g α H h->aE K g α H a x->WQ K g ε α H (f a h) (aA K g α H Q)->r x H Q
noncomputable def Ds (K:PySem.W.Frag) (g:GG) (ε:EE) (f:D->Hh->R Bool) (r:V->Hp->(Bool->Hp->Prop)->Prop):Prop:=
 ∀(α:List Addr) (H:Hp) (h:Hh) (a:D) (x:V) (Q:Bool->Hp->Prop),aS K g α H h->aE K g α H a x->WQ K g ε α H (f a h) (kd K g α H Q)->r x H Q
noncomputable def hJ (K:PySem.W.Frag) (g:GG) (ε:EE) (f:List D->Hh->R D) (r:List V->Hp->VK->Prop):Prop:=
 ∀(α:List Addr) (H:Hp) (h:Hh) (a:List D) (x:List V) (Q:VK),aS K g α H h->au K g α H a x->WQ K g ε α H (f a h) (aA K g α H Q)->r x H Q
noncomputable def n_ (K:PySem.W.Frag) (g:GG) (ε:EE) (f:D->List D->Hh->R D) (r:V->List V->Hp->VK->Prop):Prop:=
 ∀(α:List Addr) (H:Hp) (h:Hh) (o:D) (a:List D) (y:V) (x:List V) (Q:VK),aS K g α H h->aE K g α H o y->au K g α H a x->WQ K g ε α H (f o a h) (aA K g α H Q)->r y x H Q
section
variable {X:Cx} {g:GG} {ε:EE} {a b c:Expr} {ma mb mc:ME} {pos:Pos}
theorem af (i:Nat) {x:Str} {pos:Pos} (hN:X.N[i]?=some x:=by rfl) (hv:Vis X.env.scope x:=by first | exact Or.inl rfl | exact Or.inr (Or.inl rfl) | exact Or.inr (Or.inr rfl)) (hd:(x == ("__debug__" : Str))=false:=by decide)
  (hcd:(x == ("__classdict__" : Str))=false:=by decide):PE X (.Name x pos) (tM X.K g ε (ah i)):=by
 refine PE.imp (vV hN hv hd hcd) fun σ H Q ⟨α,env,h,s,w⟩=>?_
 unfold ah at w
 cases e:env[i]? with
 | none=>rw[e] at w;exact w.elim
 | some d=>
  cases d with
  | none=>rw[e] at w;exact w.elim
  | some d=>
   rw[e] at w
   obtain⟨v,hv,rd⟩:=s.vs.vars i d e
   exact⟨v,hv,aA.now w s.heap rd⟩
theorem m8 {v:V} {d:D} {Q:VK} {σ:St} {H:Hp} (rd:∀α,aE X.K g α H d v) (t:tM X.K g ε (cC d) σ H Q):tC v σ H Q:=by
 obtain⟨α,env,h,s,w⟩:=t
 exact aA.now w s.heap (rd α)
theorem av {i j pos}:PE X (.Constant (.int i) j pos) (tM X.K g ε (cC (.int i))):=PE.imp Bu fun _ _ _ t=>m8 (fun _=>.int i) t
theorem gr {i j pos}:PE X (.Constant (.bool i) j pos) (tM X.K g ε (cC (.bl i))):=PE.imp DM fun _ _ _ t=>m8 (fun _=>.bl i) t
theorem bu {i j pos}:PE X (.Constant (.str i) j pos) (tM X.K g ε (cC (.str i))):=PE.imp Bs fun _ _ _ t=>m8 (fun _=>.str i) t
theorem lC {j pos}:PE X (.Constant .none j pos) (tM X.K g ε (cC .non)):=PE.imp BC fun _ _ _ t=>m8 (fun _=>.non) t
theorem A1 {x:Str} {f:Addr} {pos:Pos} (hg:Gl X x) (hm:X.mg x=some (.ref f)) (hf:g x=some f) (hd:(x == ("__debug__" : Str))=false:=by decide):PE X (.Name x pos) (tM X.K g ε (cC (.fn x))):=
 PE.imp (tV (v:=.ref f) hg hm rfl hd) fun _ _ _ t=>m8 (fun _=>.fn hf) t
theorem i8 {x:Str} {i:Int} {t:Tok} {pos:Pos} (hg:Gl X x) (hm:X.mg x=some (.int i t)) (hd:(x == ("__debug__" : Str))=false:=by decide):PE X (.Name x pos) (tM X.K g ε (cC (.int i))):=
 PE.imp (tV (v:=.int i) hg hm ⟨t,rfl⟩ hd) fun _ _ _ t=>m8 (fun _=>.int i) t
theorem pH {f:D->D->Hh->R D} {r:R2} {K:PySem.W.Frag} (im:dH K g ε f r) {σ:St} {H:Hp} {Q:VK} (t:tM K g ε (ax f ma mb) σ H Q):tOp r (tM K g ε ma) (tM K g ε mb) σ H Q:=by
 obtain⟨α,env,h,s,w⟩:=t
 refine tM.use s w.bind fun d1 h1 v1 H1 α1 e1 s1 r1 w1=>?_
 refine tM.use s1 (w1.ext e1).bind fun d2 h2 v2 H2 α2 e2 s2 r2 w2=>?_
 exact im α2 H2 h2 d1 d2 v1 v2 Q s2.heap (r1.ext e2) r2 ((w2.ext e2).mono fun _ _ _ p=>p.ext (e1.trans e2))
theorem a8 {op:Operator} {r:R2} {f:D->D->Hh->R D} (ho:OpR X (binaryOp op) r) (im:dH X.K g ε f r) (ha:PE X a (tM X.K g ε ma)) (hb:PE X b (tM X.K g ε mb)):PE X (.BinOp a op b pos) (tM X.K g ε (ax f ma mb)):=
 PE.imp (D9 ho ha hb) fun _ _ _ t=>pH im t
theorem rA {op:CmpOp} {r:R2} {f:D->D->Hh->R D} (ho:OpR X (compareOp op) r) (im:dH X.K g ε f r) (ha:PE X a (tM X.K g ε ma)) (hb:PE X b (tM X.K g ε mb)) (hm:behindInMarks op b=false):PE X (.Compare a [op] [b] pos) (tM X.K g ε (ax f ma mb)):=
 PE.imp (zI ho ha hb hm) fun _ _ _ t=>pH im t
theorem qj {K:PySem.W.Frag} {m:ME} {t:TE} (ht:∀σ H Q,tM K g ε m σ H Q->t σ H Q) {σ:St} {H:Hp} {Q:Bool->Hp->Prop} (w:tMT K g ε (aI asB m) σ H Q):wH t σ H Q:=by
 obtain⟨α,env,h,s,w⟩:=w
 refine ht _ _ _ (tM.use s w.bind fun d1 h1 v1 H1 α1 e1 s1 r1 w1=>?_)
 unfold asB at w1
 cases r1 with
 | bl k=>exact⟨k,rfl,w1 H1 α1 e1 s1.heap⟩
 | _=>exact w1.elim
theorem b9 {op:CmpOp} {r:R2} {f:D->D->Hh->R D} (ho:OpR X (compareOp op) r) (im:dH X.K g ε f r) (ha:PE X a (tM X.K g ε ma)) (hb:PE X b (tM X.K g ε mb)) (hm:behindInMarks op b=false):PT X (.Compare a [op] [b] pos) (tMT X.K g ε (aI asB (ax f ma mb))):=
 PT.imp (zr ho ha hb hm) fun _ _ _ t=>qj (fun _ _ _ u=>pH im u) t
theorem m_ {f f':D->D->Hh->R D} {r r':R2} {K:PySem.W.Frag} (im:dH K g ε f r) (im':dH K g ε f' r') {σ:St} {H:Hp} {Q:VK} (t:tM K g ε (gy f f' ma mb mc) σ H Q):rQ r r' (tM K g ε ma) (tM K g ε mb) (tM K g ε mc) σ H Q:=by
 obtain⟨α,env,h,s,w⟩:=t
 refine tM.use s w.bind fun d1 h1 v1 H1 α1 e1 s1 r1 w1=>?_
 refine tM.use s1 (w1.ext e1).bind fun d2 h2 v2 H2 α2 e2 s2 r2 w2=>?_
 refine im α2 H2 h2 d1 d2 v1 v2 _ s2.heap (r1.ext e2) r2 ((w2.ext e2).bind.mono fun z h3 _ w3 v3 H3 α3 e3 hr3 r3=>?_)
 have w4:=w3.bind
 unfold asB at w4
 cases r3 with
 | bl k=>
  refine⟨k,rfl,?_⟩
  have s3:=s2.ext e3 hr3
  cases k with
  | true=>
   have w5:WQ K g ε α2 H2 ((mc env h3).bind fun w h5=>f' d2 w h5) _:=w4
   rw[if_pos rfl]
   refine tM.use s3 (w5.ext e3).bind fun d4 h4 v4 H4 α4 e4 s4 r4 w6=>?_
   exact im' α4 H4 h4 d2 d4 v2 v4 Q s4.heap (r2.ext (e3.trans e4)) r4 ((w6.ext e4).mono fun _ _ _ p=>p.ext (e1.trans (e2.trans (e3.trans e4))))
  | false=>
   rw[if_neg Bool.false_ne_true]
   have w5:aA K g α H Q (.bl false) h3:=w4
   exact w5 _ H3 α3 (e1.trans (e2.trans e3)) s3.heap (.bl false)
 | _=>exact w4.elim
theorem wZ {op op':CmpOp} {r r':R2} {f f':D->D->Hh->R D} (ho:OpR X (compareOp op) r) (ho':OpR X (compareOp op') r') (im:dH X.K g ε f r) (im':dH X.K g ε f' r') (ha:PE X a (tM X.K g ε ma)) (hb:PE X b (tM X.K g ε mb)) (hc:PE X c (tM X.K g ε mc))
  (hm:lastMarks [op,op'] [b,c]=false:=by with_unfolding_all rfl):PE X (.Compare a [op,op'] [b,c] pos) (tM X.K g ε (gy f f' ma mb mc)):=PE.imp (xu ho ho' ha hb hc hm) fun _ _ _ t=>m_ im im' t
theorem pX {op op':CmpOp} {r r':R2} {f f':D->D->Hh->R D} (ho:OpR X (compareOp op) r) (ho':OpR X (compareOp op') r') (im:dH X.K g ε f r) (im':dH X.K g ε f' r') (ha:PE X a (tM X.K g ε ma)) (hb:PE X b (tM X.K g ε mb)) (hc:PE X c (tM X.K g ε mc))
  (hm:lastMarks [op,op'] [b,c]=false:=by with_unfolding_all rfl):PT X (.Compare a [op,op'] [b,c] pos) (tMT X.K g ε (aI asB (gy f f' ma mb mc))):=PT.imp (xj ho ho' ha hb hc hm) fun _ _ _ t=>qj (fun _ _ _ u=>m_ im im' u) t
theorem Ey {op:UnaryOp} {r:V->Hp->VK->Prop} {f:D->Hh->R D} (ho:UnR X (unaryOp op) r) (im:Ei X.K g ε f r) (ha:PE X a (tM X.K g ε ma)):PE X (.UnaryOp op a pos) (tM X.K g ε (cUn f ma)):=
 PE.imp (Dd ho ha) fun σ H Q ⟨α,env,h,s,w⟩=>tM.use s w.bind fun d1 h1 v1 H1 α1 e1 s1 r1 w1=>im α1 H1 h1 d1 v1 Q s1.heap r1 (w1.post e1)
theorem eC {r:R2} {f:D->D->Hh->R D} (hr:IxR X r) (im:dH X.K g ε f r) (ha:PE X a (tM X.K g ε ma)) (hb:PE X b (tM X.K g ε mb)) (hs:sU b):PE X (.Subscript a b pos) (tM X.K g ε (ax f ma mb)):=
 PE.imp (DX hr ha hb hs) fun _ _ _ t=>pH im t
theorem cb {f:D->Hh->R Bool} (im:Ds X.K g ε f (fun x H Q=>∃k,zg X.K x H k/\Q k H)) (ha:PE X a (tM X.K g ε ma)) (he:∀whole,isTrue a X.env whole=(do let v ← whole;standAt a.pos;holding [v] (truthy v))):PT X a (tMT X.K g ε (aI f ma)):=
 PT.imp (we ha he) fun σ H Q ⟨α,env,h,s,w⟩=>tM.use s w.bind fun d1 h1 v1 H1 α1 e1 s1 r1 w1=>im α1 H1 h1 d1 v1 Q s1.heap r1 (w1.Ej e1)
theorem di {mt:MT} (ha:PT X a (tMT X.K g ε mt)):PT X (.UnaryOp .Not a pos) (tMT X.K g ε (cI mt)):=
 PT.imp (Ci ha) fun σ H Q ⟨α,env,h,s,w⟩=>tMT.use s w.bind fun d1 h1 H1 α1 e1 s1 w1=>w1 H1 α1 e1 s1.heap
end
section
variable {X:Cx} {g:GG} {ε:EE} {a b c e:Expr} {es:List Expr} {rest:List Expr} {ma mb mc me:ME} {mt mu:MT} {pos:Pos}
theorem t4 (ha:PT X a (tMT X.K g ε mt)):PW X (.BoolOp .And [a] pos) (tMT X.K g ε mt):=pw_and1 ha
theorem gz (ha:PT X a (tMT X.K g ε mt)):PW X (.BoolOp .Or [a] pos) (tMT X.K g ε mt):=pw_or1 ha
theorem wa (ha:PT X a (tMT X.K g ε mt)) (hb:PW X (.BoolOp .And (b::rest) pos) (tMT X.K g ε mu)):PW X (.BoolOp .And (a::b::rest) pos) (tMT X.K g ε (t6 mt mu)):=
 PW.imp (pw_and ha hb) fun σ H Q ⟨α,env,h,s,w⟩=>tMT.use s w.bind fun d1 h1 H1 α1 e1 s1 w1=>by
  cases d1 with
  | true=>rw[if_pos rfl] at w1 ⊢;exact tMT.use s1 (w1.ext e1) fun d2 h2 H2 α2 e2 s2 w2=>w2 H2 α2 (e1.trans e2) s2.heap
  | false=>rw[if_neg Bool.false_ne_true] at w1 ⊢;exact w1 H1 α1 e1 s1.heap
theorem iI (ha:PT X a (tMT X.K g ε mt)) (hb:PW X (.BoolOp .Or (b::rest) pos) (tMT X.K g ε mu)):PW X (.BoolOp .Or (a::b::rest) pos) (tMT X.K g ε (gp mt mu)):=
 PW.imp (pw_or ha hb) fun σ H Q ⟨α,env,h,s,w⟩=>tMT.use s w.bind fun d1 h1 H1 α1 e1 s1 w1=>by
  cases d1 with
  | true=>rw[if_pos rfl] at w1 ⊢;exact w1 H1 α1 e1 s1.heap
  | false=>rw[if_neg Bool.false_ne_true] at w1 ⊢;exact tMT.use s1 (w1.ext e1) fun d2 h2 H2 α2 e2 s2 w2=>w2 H2 α2 (e1.trans e2) s2.heap
theorem qu (hc:PT X c (tMT X.K g ε mt)) (ha:PE X a (tM X.K g ε ma)) (hb:PE X b (tM X.K g ε mb)):PE X (.IfExp c a b pos) (tM X.K g ε (cIf mt ma mb)):=
 PE.imp (xv hc ha hb) fun σ H Q ⟨α,env,h,s,w⟩=>tMT.use s w.bind fun d1 h1 H1 α1 e1 s1 w1=>by
  cases d1 with
  | true=>rw[if_pos rfl] at w1 ⊢;exact tM.use s1 (w1.ext e1) fun d2 h2 v2 H2 α2 e2 s2 r2 w2=>w2 v2 H2 α2 (e1.trans e2) s2.heap r2
  | false=>rw[if_neg Bool.false_ne_true] at w1 ⊢;exact tM.use s1 (w1.ext e1) fun d2 h2 v2 H2 α2 e2 s2 r2 w2=>w2 v2 H2 α2 (e1.trans e2) s2.heap r2
theorem yu {op} (h:PE X a (tM X.K g ε ma)):PE X (.BoolOp op [a] pos) (tM X.K g ε ma):=Ct h
theorem wI {K:PySem.W.Frag} {α:List Addr} {H H1:Hp} {α1:List Addr} {d:D} {v:V} {h:Hh} {β:Type} {f:Bool->Hh->R β} {k:β->Hh->Prop} (r:aE K g α1 H1 d v) (w:WQ K g ε α H ((asB d h).bind f) k):∃b,v=.bl b/\d=.bl b/\WQ K g ε α H (f b h) k:=by
 cases r with
 | bl b=>exact⟨b,rfl,rfl,w⟩
 | _=>exact w.elim
theorem yy (ha:PE X a (tM X.K g ε ma)) (hb:PE X (.BoolOp .And (b::rest) pos) (tM X.K g ε mb)):PE X (.BoolOp .And (a::b::rest) pos) (tM X.K g ε (t5 ma mb)):=
 PE.imp (Bf ha hb) fun σ H Q ⟨α,env,h,s,w⟩=>tM.use s w.bind fun d1 h1 v1 H1 α1 e1 s1 r1 w1=>by
  obtain⟨k,rfl,rfl,w2⟩:=wI r1 w1
  refine⟨k,rfl,?_⟩
  cases k with
  | true=>rw[if_pos rfl] at w2 ⊢;exact tM.use s1 (w2.ext e1) fun d2 h2 v2 H2 α2 e2 s2 r2 w2=>w2 v2 H2 α2 (e1.trans e2) s2.heap r2
  | false=>rw[if_neg Bool.false_ne_true] at w2 ⊢;exact w2 _ H1 α1 e1 s1.heap (.bl false)
theorem CJ (ha:PE X a (tM X.K g ε ma)):PE X (.UnaryOp .Not a pos) (tM X.K g ε (wA ma)):=
 PE.imp (Be ha) fun σ H Q ⟨α,env,h,s,w⟩=>tM.use s w.bind fun d1 h1 v1 H1 α1 e1 s1 r1 w1=>by
  obtain⟨k,rfl,rfl,w2⟩:=wI r1 w1
  exact⟨k,rfl,w2 _ H1 α1 e1 s1.heap (.bl _)⟩
variable {mr:MA}
theorem ai:PA X [] (tMA X.K g ε aj):=PA.imp gS fun σ H Q ⟨α,env,h,s,w⟩=>w [] H α Ext.refl s.heap .nil
theorem ae (ha:PE X e (tM X.K g ε ma)) (hr:PA X es (tMA X.K g ε mr)) (hs:starEach (e::es) X.env=(false,eval e X.env)::starEach es X.env:=by rfl):PA X (e::es) (tMA X.K g ε (aa ma mr)):=
 PA.imp (c_ ha hr hs) fun σ H Q ⟨α,env,h,s,w⟩=>tM.use s w.bind fun d1 h1 v1 H1 α1 e1 s1 r1 w1=>tMA.use s1 (w1.ext e1).bind fun d2 h2 v2 H2 α2 e2 s2 r2 w2=>w2 _ H2 α2 (e1.trans e2) s2.heap (.cons (r1.ext e2) r2)
noncomputable def fh:List D->Hh->R D:=fun ds h=>if ds.length<=1000000 then .ok (.tup ds) h else .bad
theorem aA.tup {K:PySem.W.Frag} {α:List Addr} {H:Hp} {h:Hh} {ds:List D} {vs:List V} {Q:VK} {p:Addr} (w:aA K g α H Q (.tup ds) h) (r:aS K g α H h) (rd:au K g α H ds vs) (n:H p=none):Q (.ref p) (upd H p (.tup vs)):=
 w _ _ α (Ext.fresh n) (r.grow n) (.tup aL (rd.ext (Ext.fresh n)))
theorem WQ.b_ {K:PySem.W.Frag} {α:List Addr} {H:Hp} {β:Type} {c:Prop} [Decidable c] {r:R β} {k:β->Hh->Prop} (w:WQ K g ε α H (if c then r else .bad) k):c/\WQ K g ε α H r k:=by
 by_cases h:c
 ·rw[if_pos h] at w;exact⟨h,w⟩
 ·rw[if_neg h] at w;exact w.elim
theorem e_ {n:Nat} (h:n<=1000000):n<=sizeLine:=by rw[sizeLine_eq];omega
theorem eL {x1} (ha:PA X es (tMA X.K g ε mr)):PE X (.Tuple es x1 pos) (tM X.K g ε (ag fh mr)):=
 PE.imp (C6 ha) fun σ H Q ⟨α,env,h,s,w⟩=>tMA.use s w.bind fun d1 h1 v1 H1 α1 e1 s1 r1 w1=>by
  obtain⟨hl,w2⟩:=WQ.b_ w1
  exact⟨e_ (by rw[<- r1.length];exact hl),fun p hp=>aA.tup (aA.ext e1 w2) s1.heap r1 hp⟩
theorem vF {f:List D->Hh->R D} {r:List V->Hp->VK->Prop} {K:PySem.W.Frag} (im:hJ K g ε f r) {σ:St} {H:Hp} {Q:VK} (t:tM K g ε (ag f mr) σ H Q):tCB r (tMA K g ε mr) σ H Q:=by
 obtain⟨α,env,h,s,w⟩:=t
 exact tMA.use s w.bind fun d1 h1 v1 H1 α1 e1 s1 r1 w1=>im α1 H1 h1 d1 v1 Q s1.heap r1 (w1.post e1)
theorem a_ {id:String} {x:Str} {p:Pos} {f:List D->Hh->R D} {r:List V->Hp->VK->Prop} (hc:aP X (.builtin id) r) (im:hJ X.K g ε f r) (hg:Gl X x) (hm:X.mg x=none) (hv:bootBuiltins x=some (.builtin id)) (ha:PA X (e::es) (tMA X.K g ε mr)) (hn:x≠"__name__" := by decide) (hdb:(x == ("__debug__" : Str))=false:=by decide)
  (he:starEach (e::es) X.env=(false,eval e X.env)::starEach es X.env:=by rfl) (hpl:(backTo pos (starEach es X.env)).any (·.1)=false:=by rfl):PE X (.Call (.Name x p) (e::es) [] pos) (tM X.K g ε (ag f mr)):=
 PE.imp (ja hc hg hm hv ha hn hdb he hpl) fun _ _ _ t=>vF im t
theorem bZ {id:String} {x:Str} {p:Pos} {f:List D->Hh->R D} {r:List V->Hp->VK->Prop} (hc:aP X (.type id) r) (im:hJ X.K g ε f r) (hg:Gl X x) (hm:X.mg x=none) (hv:bootBuiltins x=some (.type id)) (ha:PA X (e::es) (tMA X.K g ε mr)) (hn:x≠"__name__" := by decide) (hdb:(x == ("__debug__" : Str))=false:=by decide)
  (he:starEach (e::es) X.env=(false,eval e X.env)::starEach es X.env:=by rfl) (hpl:(backTo pos (starEach es X.env)).any (·.1)=false:=by rfl):PE X (.Call (.Name x p) (e::es) [] pos) (tM X.K g ε (ag f mr)):=
 PE.imp (fL hc hg hm hv ha hn hdb he hpl) fun _ _ _ t=>vF im t
end
noncomputable def bj:MS:=fun env h=>.ok (.nx env) h
noncomputable def aH (a b:MS):MS:=fun env h=>(a env h).bind fun fl h1=>match fl with
 | .nx e=>b e h1
 | fl=>.ok fl h1
noncomputable def j9 (a:ME):MS:=fun env h=>(a env h).bind fun _ h1=>.ok (.nx env) h1
noncomputable def bq (a:ME):MS:=fun env h=>(a env h).bind fun d h1=>.ok (.rt d) h1
noncomputable def cD (c:MT) (a b:MS):MS:=fun env h=>(c env h).bind fun x h1=>if x=true then a env h1 else b env h1
noncomputable def bA (i:Nat) (a:ME):MS:=fun env h=>(a env h).bind fun d h1=>.ok (.nx (env.set i (some d))) h1
noncomputable def zu (i j:Nat) (a:MA):MS:=fun env h=>(a env h).bind fun ds h1=>match ds with
 | [x,y]=>.ok (.nx ((env.set i (some x)).set j (some y))) h1
 | _=>.bad
noncomputable def pE (f:D->D->D->Hh->R Unit) (o i v:ME):MS:=fun env h=>(v env h).bind fun x h1=>(o env h1).bind fun y h2=>(i env h2).bind fun z h3=>(f y z x h3).bind fun _ h4=>.ok (.nx env) h4
noncomputable def ua:MS:=fun _ _=>.bad
section
variable {X:Cx} {g:GG} {ε:EE} {e:Expr} {me:ME} {ms mu:MS} {mt:MT} {st:Stmt} {rest:List Stmt} {pos:Pos}
theorem dk.nx {K:PySem.W.Frag} {α α':List Addr} {H H':Hp} {env:En} {σ:St} {h':Hh} {E:Ends} (s:dk K g α' H' env σ h') (e:Ext K α H α' H') (w:cQ K g α H E (.nx env) h'):E.nx σ H':=w H' α' e s.heap σ s.vs
theorem bt:PSs X [] (tMS X.K g ε bj):=PSs.imp yR fun E σ H ⟨α,env,h,s,w⟩=>s.nx Ext.refl w
theorem tMS.use {K:PySem.W.Frag} {α:List Addr} {H:Hp} {env:En} {σ:St} {h:Hh} {m:MS} {E:Ends} {k:Fl->Hh->Prop} (s:dk K g α H env σ h) (w:WQ K g ε α H (m env h) k)
  (q:∀fl h' H' α',Ext K α H α' H'->aS K g α' H' h'->k fl h'->match fl with
   | .nx e=>∀σ',dk K g α' H' e σ' h'->E.nx σ' H'
   | .bk e=>∀σ',dk K g α' H' e σ' h'->E.bk σ' H'
   | .ct e=>∀σ',dk K g α' H' e σ' h'->E.ct σ' H'
   | .rt d=>∀v,aE K g α' H' d v->E.rt v H'):tMS K g ε m E σ H:=
 ⟨α,env,h,s,w.mono fun fl h' _ kk H' α' e r=>by
  have:=q fl h' H' α' e r kk
  cases fl with
  | nx e=>exact fun σ' v=>this σ' ⟨r,v⟩
  | bk e=>exact fun σ' v=>this σ' ⟨r,v⟩
  | ct e=>exact fun σ' v=>this σ' ⟨r,v⟩
  | rt d=>exact this⟩
theorem aw (h1:PS X st (tMS X.K g ε ms)) (h2:PSs X rest (tMS X.K g ε mu)):PSs X (st::rest) (tMS X.K g ε (aH ms mu)):=
 PSs.imp (yE h1 h2) fun E σ H ⟨α,env,h,s,w⟩=>tMS.use s w.bind fun fl h' H' α' e r kk=>by
  cases fl with
  | nx env'=>exact fun σ' s'=>⟨α',env',h',s',WQ.tF e kk⟩
  | bk env'=>exact fun σ' s'=>(show cQ X.K g α H E (.bk env') h' from kk) H' α' e r σ' s'.vs
  | ct env'=>exact fun σ' s'=>(show cQ X.K g α H E (.ct env') h' from kk) H' α' e r σ' s'.vs
  | rt d=>exact fun v rv=>(show cQ X.K g α H E (.rt d) h' from kk) H' α' e r v rv
theorem aC (h1:PS X st (tMS X.K g ε ms)):PSs X [st] (tMS X.K g ε ms):=sJ h1
theorem oB (he:PE X e (tM X.K g ε me)) (hs:swapsWith e none pos.line X.env=pure false:=by rfl):PS X (.Expr e pos) (tMS X.K g ε (j9 me)):=
 PS.imp (Ap he hs) fun E σ H ⟨α,env,h,s,w⟩=>tM.use s w.bind fun d1 h1 v1 H1 α1 e1 s1 r1 w1=>s1.nx e1 w1
theorem bo (he:PE X e (tM X.K g ε me)):PS X (.Return (some e) pos) (tMS X.K g ε (bq me)):=
 PS.imp (vI he) fun E σ H ⟨α,env,h,s,w⟩=>tM.use s w.bind fun d1 h1 v1 H1 α1 e1 s1 r1 w1=>(show cQ X.K g α H E (.rt d1) h1 from w1) H1 α1 e1 s1.heap v1 r1
theorem fK {c:Expr} {A B:List Stmt} (hc:PT X c (tMT X.K g ε mt)) (ha:PSs X A (tMS X.K g ε ms)) (hb:PSs X B (tMS X.K g ε mu)):PS X (.If c A B pos) (tMS X.K g ε (cD mt ms mu)):=
 PS.imp (EB hc ha hb) fun E σ H ⟨α,env,h,s,w⟩=>tMT.use s w.bind fun d1 h1 H1 α1 e1 s1 w1=>by
  cases d1 with
  | true=>rw[if_pos rfl] at w1 ⊢;exact⟨α1,env,h1,s1,WQ.tF e1 w1⟩
  | false=>rw[if_neg Bool.false_ne_true] at w1 ⊢;exact⟨α1,env,h1,s1,WQ.tF e1 w1⟩
theorem cG {i:Nat} {x:Str} {pos':Pos} (hN:X.N.Nodup) (hi:X.N[i]?=some x) (hx:Loc X.env.scope x) (he:PE X e (tM X.K g ε me)) (hs:swapsWith e (some (.Name x pos')) pos.line X.env=pure false:=by rfl) (hf:X.fn x=true\/X.env.scope.names.lookup x=some .local:=by first | exact .inl rfl | exact .inr rfl | assumption) :
  PS X (.Assign [.Name x pos'] e pos) (tMS X.K g ε (bA i me)):=
 PS.imp (Ca hN hi hx he hs hf) fun E σ H ⟨α,env,h,s,w⟩=>tM.use s w.bind fun d1 h1 v1 H1 α1 e1 s1 r1 w1=>(show cQ X.K g α H E (.nx (env.set i (some d1))) h1 from w1) H1 α1 e1 s1.heap _ (s1.vs.set r1)
theorem D6 {i j:Nat} {x y:Str} {a b:Expr} {ma:MA} {px py pt:Pos} {kt k2 pt2} (hc:X.calm=true) (hN:X.N.Nodup) (hi:X.N[i]?=some x) (hj:X.N[j]?=some y) (hij:i≠j)
  (hx:X.env.scope.names.lookup x=some .local) (hy:X.env.scope.names.lookup y=some .local) (ha:PA X [a,b] (tMA X.K g ε ma))
  (hw:swappedStores [.Tuple [.Name x px,.Name y py] kt pt] (.Tuple [a,b] k2 pt2) X.env=pure (some [x,y]))
  (hs:swapsWithSole [.Tuple [.Name x px,.Name y py] kt pt] (.Tuple [a,b] k2 pt2) pos.line X.env=pure false:=by rfl) :
  PS X (.Assign [.Tuple [.Name x px,.Name y py] kt pt] (.Tuple [a,b] k2 pt2) pos) (tMS X.K g ε (zu i j ma)):=
 PS.imp (BE hc hN hi hj hij hx hy ha hw hs) fun E σ H ⟨α,env,h,s,w⟩=>tMA.use s w.bind fun d1 h1 v1 H1 α1 e1 s1 r1 w1=>by
  cases r1 with
  | nil=>exact w1.elim
  | cons ra rr=>
   cases rr with
   | nil=>exact w1.elim
   | cons rb rr=>
    cases rr with
    | nil=>exact⟨_,_,rfl,(show cQ X.K g α H E (.nx _) h1 from w1) H1 α1 e1 s1.heap _ ((s1.vs.set ra).set rb)⟩
    | cons _ _=>exact w1.elim
noncomputable def D7 (K:PySem.W.Frag) (g:GG) (ε:EE) (f:D->D->D->Hh->R Unit) (t:xr):Prop:=
 ∀(α:List Addr) (H:Hp) (h:Hh) (o i v:D) (x y z:V) (Q:Hp->Prop),aS K g α H h->aE K g α H o x->aE K g α H i y->aE K g α H v z->WQ K g ε α H (f o i v h) (fun _ h'=>∀H' α',Ext K α H α' H'->aS K g α' H' h'->Q H')->t x y z H Q
theorem tG {o i:Expr} {mo mi:ME} {t:xr} {f:D->D->D->Hh->R Unit} {p:Pos} (he:PE X e (tM X.K g ε me)) (ho:PE X o (tM X.K g ε mo)) (hi:PE X i (tM X.K g ε mi)) (hp:Bp X t) (im:D7 X.K g ε f t)
  (ha:∀v,assign (.Subscript o i p) X.env v=(do
   let ov ← holding [v] (eval o X.env)
   let iv ← holding [v,ov] (eval i X.env)
   standAt p
   holding [v,ov,iv] (setItem ov iv v)
   release [v,ov,iv] []):=by intro _;rfl)
  (hs:swapsWithSole [.Subscript o i p] e pos.line X.env=pure false:=by rfl) (hw:swappedStores [.Subscript o i p] e X.env=pure none:=by rfl)
  (h1:(assignEach [.Subscript o i p] X.env).map (·.2)=[assign (.Subscript o i p) X.env]:=by rfl):PS X (.Assign [.Subscript o i p] e pos) (tMS X.K g ε (pE f mo mi me)):=
 PS.imp (vY he (Cq ho hi hp ha) hs hw h1) fun E σ H ⟨α,env,h,s,w⟩=>tM.use s w.bind fun d1 h1 v1 H1 α1 e1 s1 r1 w1=>tM.use s1 (w1.ext e1).bind fun d2 h2 v2 H2 α2 e2 s2 r2 w2=>tM.use s2 (w2.ext e2).bind fun d3 h3 v3 H3 α3 e3 s3 r3 w3=>by
  refine im α3 H3 h3 d2 d3 d1 v2 v3 v1 _ s3.heap (r2.ext e3) r3 ((r1.ext e2).ext e3) ((w3.ext e3).bind.mono fun _ h4 _ w4 H4 α4 e4 hr4=>?_)
  exact(show cQ X.K g α H E (.nx env) h4 from w4) H4 α4 (e1.trans (e2.trans (e3.trans e4))) hr4 _ (s3.vs.ext e4)
end
theorem tI {X:Cx} {pins:List (Addr × Obj)} {σ:St} {H:Hp} {s:Shared} {p:Addr} {u:HO} (I:Inv X pins σ H s) (h:H p=some u) (mu:Mut (some u)):∃o,Inv X pins σ (upd H p (.frz o u)) s:=by
 obtain⟨o,ho⟩:∃o,s.heap.get? p=some o:=by
  have hl:=(I.hok p _ h).lt
  cases e:s.heap.get? p with
  | some o=>exact⟨o,rfl⟩
  | none=> 
   have q:=I.hok p _ h
   cases u with
   | lst xs=>obtain⟨_,_,_,_,e'⟩:=q;rw[e] at e';cases e'
   | dK kvs=>obtain⟨_,_,_,_,o,_,_,e',_⟩:=q;rw[e] at e';cases e'
   | dT kvs=>obtain⟨_,_,_,_,o,_,_,e',_⟩:=q;rw[e] at e';cases e'
   | set S n=>obtain⟨o,_,_,_,e',_⟩:=q;rw[e] at e';cases e'
   | ins C dx fs=>obtain⟨_,_,_,e',_⟩:=q;rw[e] at e';cases e'
   | ext φ=>obtain⟨_,⟨_,e'⟩,_⟩:=q;rw[e] at e';cases e'
   | _=>exact absurd mu (fun z=>z)
 have nt:∀b xs,H b=some (.tup xs)->b≠p:=fun b xs e z=>by subst z;rw[h] at e;cases e;exact mu
 have nf:∀b o u,H b=some (.frz o u)->b≠p:=fun b o u e z=>by subst z;rw[h] at e;cases e;exact mu
 have nb:∀b ps,H b=some (.tbl ps)->b≠p:=fun b ps e z=>by subst z;rw[h] at e;cases e;exact mu
 have no:∀b y,H b=some (.own y)->b≠p:=fun b ps e z=>by subst z;rw[h] at e;cases e;exact mu
 have hok:HOk X.prog X.w (upd H p (.frz o u)) s.heap:=fun b v q=>by
  by_cases hb:b=p
  ·subst hb
   rw[aL] at q;cases q
   exact⟨ho,(I.hok b _ h).iR (fun _ _ _ z=>z) (fun c z=>by rw[aB (no c _ z)];exact z) fun c xs z=>by rw[aB (nt c xs z)];exact z⟩
  ·rw[aB hb] at q
   exact(I.hok b v q).iR (fun _ _ _ z=>z) (fun c z=>by rw[aB (no c _ z)];exact z) fun c xs z=>by rw[aB (nt c xs z)];exact z
 refine⟨o,?_⟩
 have np:∀b,H b=none->b≠p:=fun b e z=>by subst z;rw[h] at e;cases e
 have:=I.un (H':=upd H p (.frz o u)) (h':=s.heap) (t':=s.toks) ⟨fun b o q _ _ _=>q,fun b o q _ _ _=>⟨o.slots,q⟩,fun b v q n _=>(by rw[aB (np b n)];exact n),fun b o q _=>⟨o,q⟩,fun b xs q=>(by rw[aB (nt b xs q)];exact q),fun b o v q=>(by rw[aB (nf b o v q)];exact q),fun b ps q=>⟨#[],by rw[aB (nb b ps q),q];simp⟩⟩ hok
 exact this
noncomputable def g_ (Q:VK):VK:=fun v H=>Q v H\/∃p u,v=.ref p/\H p=some u/\Mut (some u)/\∀o,Q v (upd H p (.frz o u))
theorem EP.frz {X:Cx} {pins:List (Addr × Obj)} {σ:St} {Q:VK} {u:Value} {s':Shared} (h:EP X pins σ (g_ Q) u s'):EP X pins σ Q u s':=by
 obtain⟨v,H',I,r,q | ⟨p,u,rfl,e,m,q⟩⟩:=h
 ·exact⟨v,H',I,r,q⟩
 ·obtain⟨o,I'⟩:=tI I e m
  exact⟨_,_,I',r,q o⟩
theorem PE.frz {X:Cx} {e:Expr} {t:TE} (h:PE X e t):PE X e fun σ H Q=>t σ H (g_ Q):=fun pins s σ H Q I w=>thn (h pins s σ H _ I w) fun _ _ z=>EP.frz z
theorem OpR.frz {X:Cx} {f:Value->Value->Sem Value} {r:R2} (h:OpR X f r):OpR X f fun x y H Q=>r x y H (g_ Q):=fun pins s σ H x y v u Q I rx ry q=>thn (h pins s σ H x y v u _ I rx ry q) fun _ _ z=>EP.frz z
theorem aP.frz {X:Cx} {f:Value} {r:List V->Hp->VK->Prop} (h:aP X f r):aP X f fun xs H Q=>r xs H (g_ Q):=fun pins s σ H xs us Q I rx q=>thn (h pins s σ H xs us _ I rx q) fun _ _ z=>EP.frz z
noncomputable def DO (D:Ends):Ends:={ D with nx:=fun σ H=>D.nx σ H\/∃p u,H p=some u/\Mut (some u)/\∀o,D.nx σ (upd H p (.frz o u)) }
theorem PS.frz {X:Cx} {st:Stmt} {t:TS} (h:PS X st t):PS X st fun E σ H=>t (DO E) σ H:=fun pins s σ H E I w=>thn (h pins s σ H _ I w) fun fl s' z=>by
 cases fl with
 | next=>
  obtain⟨σ',H',I,q | ⟨p,u,e,m,q⟩⟩:=z
  ·exact⟨σ',H',I,q⟩
  ·obtain⟨o,I'⟩:=tI I e m
   exact⟨σ',_,I',q o⟩
 | brk=>exact z
 | cont=>exact z
 | ret u=>exact z
theorem Ae {E:Ends} {σ:St} {i:Nat} {v:V} {H1:Hp} (z:g_ (fun v H1=>E.nx (σ.set i (some v)) H1) v H1):(DO E).nx (σ.set i (some v)) H1:=by
 rcases z with z | ⟨p,u,_,e,m,q⟩
 ·exact .inl z
 ·exact .inr ⟨p,u,e,m,q⟩
noncomputable abbrev NL:=List D->Hh->R D
noncomputable def uP:NL:=fun ys h2=>.ok (.ref h2.length) (h2++[O.lst ys])
noncomputable def az:NL:=fun ys h2=>.ok (.frl ys) h2
class iz (nl:NL):Prop where
 at':∀{K:PySem.W.Frag} {g:GG} {ε:EE} {α1 α2:List Addr} {H1 H2:Hp} {h:Hh} {as:List D} {ys:List V} {acc:Addr} {Q:D->Hh->Prop} {R:VK},WQ K g ε α1 H1 (nl as h) Q->(∀d h',Q d h'->aA K g α1 H1 R d h')->Ext K α1 H1 α2 H2->aS K g α2 H2 h->au K g α2 H2 as ys->H2 acc=some (.lst ys)->acc∉α2->H1 acc=none->g_ R (.ref acc) H2
instance:iz uP where
 at':=fun{K g ε α1 α2 H1 H2 h as ys acc Q R} w hq x2 hr2 ra ha hna hacc=>by
  have x3:Ext K α1 H1 (α2++[acc]) H2:=⟨x2.toEx0.trans (Ex0.refl.more _),x2.keep,fun p z n=>by
   rcases List.mem_append.mp z with z | z
   ·exact x2.new p z n
   ·rw[List.mem_singleton.mp z];exact hacc⟩
  refine .inl (hq _ _ w _ H2 (α2++[acc]) x3 (hr2.adopt hna ⟨ys,ha,ra.ex0 (Ex0.refl.more _)⟩) (.ref ?_))
  rw[<- hr2.len,List.getElem?_append_right (Nat.le_refl _)];simp
instance:iz az where
 at':=fun{K g ε α1 α2 H1 H2 h as ys acc Q R} w hq x2 hr2 ra ha hna hacc=>by
  refine .inr ⟨acc,_,rfl,ha,trivial,fun o=>?_⟩
  have soft:zY H2 acc:=.inr ⟨_,ha,fun _ z=>(nomatch z),fun _ _ z=>nomatch z⟩
  have x6:Ex0 K α2 H2 α2 (upd H2 acc (.frz o (.lst ys))):=Ex0.upd soft
  refine hq _ _ w _ _ α2 ⟨x2.toEx0.trans x6,fun p u z n=>?_,x2.new⟩ (hr2.off soft hna) (.frl ⟨o,aL⟩ (ra.ex0 x6))
  rw[aB (aQ z hacc)];exact x2.keep p u z n
theorem NL.post {nl:NL} [iz nl] {K:PySem.W.Frag} {g:GG} {ε:EE} {α:List Addr} {H:Hp} {h:Hh} {ds:List D} {vs:List V} {Q:VK} {p:Addr} (w:WQ K g ε α H (nl ds h) (aA K g α H Q)) (r:aS K g α H h) (rd:au K g α H ds vs) (n:H p=none):g_ Q (.ref p) (upd H p (.lst vs)):=
 iz.at' w (fun _ _ z=>z) (Ext.fresh n) (r.grow n) (rd.ext (Ext.fresh n)) aL (r.free n) n
noncomputable def cL (nl:NL):List D->Hh->R D:=fun ds h=>if ds.length<=1000000 then nl ds h else .bad
theorem cM {X:Cx} {g:GG} {ε:EE} {es:List Expr} {mr:MA} {pos:Pos} {nl:NL} [iz nl] (ha:PA X es (tMA X.K g ε mr)):PE X (.List es pos) (tM X.K g ε (ag (cL nl) mr)):=
 PE.imp (PE.frz (A_ ha)) fun σ H Q ⟨α,env,h,s,w⟩=>tMA.use s w.bind fun d1 h1 v1 H1 α1 e1 s1 r1 w1=>by
  obtain⟨hl,w2⟩:=WQ.b_ w1
  exact⟨e_ (by rw[<- r1.length];exact hl),fun p hp=>NL.post (w2.post e1) s1.heap r1 hp⟩
noncomputable def ay (h:Hh) (n:Nat):Option (List D):=match h[n]? with
 | some (.lst ds)=>some ds
 | _=>none
inductive Src where
 | snap (ds:List D)
 | live (n:Nat)
 | liveE (n:Nat)
noncomputable abbrev MI:=En->Hh->R Src
noncomputable abbrev Rdr:=Hh->Nat->Option (Option D)
noncomputable def Src.rdr:Src->Rdr
 | .snap ds=>fun _ i=>some ds[i]?
 | .live n=>fun h i=>(ay h n).map fun ds=>ds[i]?
 | .liveE n=>fun h i=>(ay h n).map fun ds=>(ds[i]?).map fun d=>D.tup [.int i,d]
noncomputable def Src.fuel (s:Src) (h:Hh):Nat:=match s with
 | .snap ds=>ds.length
 | .live n=>((ay h n).getD []).length
 | .liveE n=>((ay h n).getD []).length
noncomputable def Reads (K:PySem.W.Frag) (g:GG) (J:It) (rd:Rdr) (α₀:List Addr) (aT:Hp):Prop:=
 ∀(α:List Addr) (H:Hp) (h:Hh),Ext K α₀ aT α H->aS K g α H h->∀i,match rd h i with
  | none=>True
  | some none=>J.stop i H
  | some (some d)=>J.go i H/\∀x H',J.yld i H x H'->∃α',Ext K α H α' H'/\aS K g α' H' h/\aE K g α' H' d x
noncomputable def tMI (K:PySem.W.Frag) (g:GG) (ε:EE) (m:MI):TI:=fun σ H T=>∃α env h,dk K g α H env σ h/\WQ K g ε α H (m env h) fun sr h'=>∀J H' α',Ext K α H α' H'->aS K g α' H' h'->Reads K g J sr.rdr α' H'->T J H'
theorem PI.imp {X:Cx} {tg e:Expr} {t t':TI} (h:PI X tg e t) (i:∀σ H Q,t' σ H Q->t σ H Q):PI X tg e t':=fun pins s σ H Q I w=>h pins s σ H Q I (i σ H Q w)
noncomputable def jL (rd:Rdr) (tg:D->En->Hh->R En) (body:MS):Nat->Nat->En->Hh->R Fl
 | k,i,env,h=>match rd h i with
  | none=>.bad
  | some none=>.ok (.nx env) h
  | some (some d)=>match k with
   | 0=>.bad
   | k+1=>(tg d env h).bind fun e1 h1=>(body e1 h1).bind fun fl h2=>match fl with
    | .nx e=>jL rd tg body k (i+1) e h2
    | .ct e=>jL rd tg body k (i+1) e h2
    | .bk e=>.ok (.nx e) h2
    | .rt d=>.ok (.rt d) h2
noncomputable def ec (tg:D->En->Hh->R En) (body:MS):List D->En->Hh->R Fl
 | [],env,h=>.ok (.nx env) h
 | d::ds,env,h=>(tg d env h).bind fun e1 h1=>(body e1 h1).bind fun fl h2=>match fl with
  | .nx e=>ec tg body ds e h2
  | .ct e=>ec tg body ds e h2
  | .bk e=>.ok (.nx e) h2
  | .rt d=>.ok (.rt d) h2
theorem Aw (tg:D->En->Hh->R En) (body:MS) (all:List D):∀(ds:List D) (i:Nat) (env:En) (h:Hh),all.drop i=ds->jL (Src.snap all).rdr tg body ds.length i env h=ec tg body ds env h:=by
 intro ds
 induction ds with
 | nil=>
  intro i env h e
  have:all[i]?=none:=by
   have:=congrArg List.length e
   simp at this
   exact List.getElem?_eq_none (by omega)
  unfold jL ec Src.rdr
  simp[this]
 | cons d ds ih=>
  intro i env h e
  have h0:all[i]?=some d:=by
   have:=congrArg (fun l=>l[0]?) e
   simpa using this
  have h1:all.drop (i+1)=ds:=by
   have:=congrArg List.tail e
   simpa using this
  unfold jL ec
  have:(Src.snap all).rdr h i=some (some d):=by unfold Src.rdr;simp[h0]
  rw[this]
  show((tg d env h).bind _)=_
  congr 1
  funext e1 h2
  congr 1
  funext fl h3
  cases fl with
  | nx e=>exact ih (i+1) e h3 h1
  | ct e=>exact ih (i+1) e h3 h1
  | bk e=>rfl
  | rt d=>rfl
noncomputable def gm (mi:MI) (tg:D->En->Hh->R En) (body:MS):MS:=fun env h=>(mi env h).bind fun sr h1=>match sr with
 | .snap ds=>ec tg body ds env h1
 | .live n=>jL (Src.live n).rdr tg body ((ay h1 n).getD []).length 0 env h1
 | .liveE n=>jL (Src.liveE n).rdr tg body ((ay h1 n).getD []).length 0 env h1
theorem zb {mi:MI} {tg:D->En->Hh->R En} {body:MS} {env:En} {h:Hh}:gm mi tg body env h=(mi env h).bind fun sr h1=>jL sr.rdr tg body (sr.fuel h1) 0 env h1:=by
 unfold gm
 congr 1
 funext sr h1
 cases sr with
 | snap ds=>exact(Aw tg body ds ds 0 env h1 rfl).symm
 | live n=>rfl
 | liveE n=>rfl
noncomputable def gN (i:Nat):D->En->Hh->R En:=fun d env h=>.ok (env.set i (some d)) h
noncomputable def gT2 (i j:Nat):D->En->Hh->R En:=fun d env h=>match d with
 | .tup [x,y]=>.ok ((env.set i (some x)).set j (some y)) h
 | _=>.bad
noncomputable def BB (K:PySem.W.Frag) (g:GG) (ε:EE) (tg:D->En->Hh->R En) (t:TG):Prop:=
 ∀(α:List Addr) (H:Hp) (h:Hh) (env:En) (σ:St) (d:D) (x:V) (Q:St->Hp->Prop),dk K g α H env σ h->aE K g α H d x →
  WQ K g ε α H (tg d env h) (fun e1 h1=>∀σ' H' α',Ext K α H α' H'->dk K g α' H' e1 σ' h1->Q σ' H')->t x σ H Q
theorem i3 {K:PySem.W.Frag} {g:GG} {ε:EE} {i:Nat}:BB K g ε (gN i) (iT i):=fun α H h env σ d x Q s r w=>w _ H α Ext.refl ⟨s.heap,s.vs.set r⟩
theorem yB {K:PySem.W.Frag} {g:GG} {ε:EE} {i j:Nat}:BB K g ε (gT2 i j) (DP K 2 (xx (iT i) (xx (iT j) Ew))):=fun α H h env σ d x Q s r w=>by
 unfold gT2 at w
 cases r with
 | tup hq rs=>
  cases rs with
  | nil=>exact w.elim
  | cons ra rr=>
   cases rr with
   | nil=>exact w.elim
   | cons rb rr=>
    cases rr with
    | nil=>exact⟨_,_,rfl,SqT.of hq,rfl,_,_,rfl,_,_,rfl,rfl,w _ H α Ext.refl ⟨s.heap,(s.vs.set ra).set rb⟩⟩
    | cons _ _=>exact w.elim
 | _=>exact w.elim
section
variable {X:Cx} {g:GG} {ε:EE}
theorem m5 {tg iter:Expr} {body:List Stmt} {mi:MI} {t:TG} {fg:D->En->Hh->R En} {mb:MS} {pos:Pos} (hp:PassesOwn (model X.prog X.w) X.A X.env X.xe) (hc:X.calm=true) (hi:PI X tg iter (tMI X.K g ε mi)) (hg:PG X tg t) (ig:BB X.K g ε fg t) (hb:PSs X body (tMS X.K g ε mb))
  (hs:∀x,foldedSetIterable iter X.env x=pure x:=by intro _;rfl):PS X (.For tg iter body [] pos) (tMS X.K g ε (gm mi fg mb)):=by
 refine PS.imp (BM hp hc hi hg hb hs) fun E σ H ⟨α,env,h,s,w⟩=>?_
 rw[zb] at w
 refine⟨α,env,h,s,w.bind.mono fun sr h1 _ w1 J H1 α1 e1 hr1 rd=>?_⟩
 refine⟨fun i m σ H=>∃α env h,Ext X.K α1 H1 α H/\dk X.K g α H env σ h/\WQ X.K g ε α H (jL sr.rdr fg mb m i env h) (cQ X.K g α H E),⟨sr.fuel h1,α1,env,h1,Ext.refl,s.ext e1 hr1,w1.tF e1⟩,?_⟩
 rintro i m σ2 H2 ⟨α2,env2,h2,x2,s2,w2⟩
 have q:=rd α2 H2 h2 x2 s2.heap i
 unfold jL at w2
 cases e:sr.rdr h2 i with
 | none=>rw[e] at w2;exact w2.elim
 | some od=>
  rw[e] at w2 q
  cases od with
  | none=>exact .inl ⟨q,s2.nx Ext.refl w2⟩
  | some d=>
   cases m with
   | zero=>exact w2.elim
   | succ m=>
    have w3:=WQ.bind (show WQ X.K g ε α2 H2 ((fg d env2 h2).bind _) _ from w2)
    refine .inr ⟨q.1,fun σ' H'=>∃α env h,Ext X.K α1 H1 α H'/\dk X.K g α H' env σ' h/\WQ X.K g ε α H' (jL sr.rdr fg mb m (i+1) env h) (cQ X.K g α H' E),fun σ' H' z=>⟨m,Nat.lt_succ_self _,z⟩,fun x H3 y=>?_⟩
    obtain⟨α3,x3,hr3,rx⟩:=q.2 x H3 y
    refine ig α3 H3 h2 env2 σ2 d x _ (s2.ext x3 hr3) rx ((w3.ext x3).mono fun e4 h4 _ w4 σ4 H4 α4 x4 s4=>?_)
    refine tMS.use s4 ((w4.ext x3).ext x4).bind fun fl h5 H5 α5 x5 hr5 w5=>?_
    have tr:Ext X.K α2 H2 α5 H5:=x3.trans (x4.trans x5)
    cases fl with
    | nx e=>exact fun σ' s'=>⟨α5,e,h5,x2.trans tr,s',((w5.ext x5)).mono fun _ _ _ p=>p.ext tr⟩
    | ct e=>exact fun σ' s'=>⟨α5,e,h5,x2.trans tr,s',((w5.ext x5)).mono fun _ _ _ p=>p.ext tr⟩
    | bk e=>exact fun σ' s'=>(show cQ X.K g α2 H2 E (.nx e) h5 from w5) H5 α5 tr hr5 σ' s'.vs
    | rt d=>exact fun v rv=>(show cQ X.K g α2 H2 E (.rt d) h5 from w5) H5 α5 tr hr5 v rv
theorem aS.lst {K:PySem.W.Frag} {α:List Addr} {H:Hp} {h:Hh} {n:Nat} {ds:List D} (r:aS K g α H h) (e:ay h n=some ds) {p:Addr} (hp:α[n]?=some p):∃vs,H p=some (.lst vs)/\au K g α H ds vs:=by
 unfold ay at e
 cases o:h[n]? with
 | none=>rw[o] at e;cases e
 | some o'=>
  rw[o] at e
  have q:=r.here n p o' hp o
  cases o' with
  | lst ds'=>cases e;obtain⟨vs,a,b⟩:=q;exact⟨vs,a,b⟩
  | set n=>cases e
  | dic k=>cases e
  | dit k=>cases e
noncomputable def yo:D->Hh->R Src
 | .tup ds,h=>.ok (.snap ds) h
 | .frl ds,h=>.ok (.snap ds) h
 | .scr ds,h=>.ok (.snap ds) h
 | .ref n,h=>match ay h n with
  | some _=>.ok (.live n) h
  | none=>.bad
 | _,_=>.bad
noncomputable def bV (a:ME):MI:=fun env h=>(a env h).bind yo
noncomputable def F2 (K:PySem.W.Frag) (tl:TE):TI:=fun σ H R=>tl σ H fun x H1=>∃a,x=.ref a/\(((∃xs,SqL K H1 a xs)/\R (Itl K a) H1)\/((∃xs,SqT K H1 a xs)/\R (Itt K a) H1))
theorem CQ {tg l:Expr} {tl:TE} (hl:PE X l tl):PI X tg l (F2 X.K tl):=by
 intro pins s σ H R I h
 refine thn (hl pins s σ H _ I h) fun v s1 ⟨x,H1,I1,r1,q1⟩=>?_
 obtain⟨a,e,q⟩:=q1
 subst e
 cases r1
 rcases q with⟨⟨xs,hq⟩,q⟩ | ⟨⟨xs,hq⟩,q⟩
 ·obtain⟨its,rv,p,hz⟩:=I1.list hq
  refine wpAny_pyIter_list p.isList ?_
  refine⟨s1.heap.objs.size,[s1.heap.objs.size],_,_,H1,rfl,I1.kept (t':=s1.toks) fun b o e=>Heap.get?_push_of_some _ e,uJ a _,⟨_,Heap.get?_push_size _ rfl,rfl,rfl⟩,fun b hb=>?_,q⟩
  have e:b=s1.heap.objs.size:=by simpa using hb
  subst e
  exact I1.yS (Nat.le_refl _) (I1.hok.fresh (Nat.le_refl _))
 ·obtain⟨its,rv,p,hz⟩:=I1.tuple hq
  refine wpAny_pyIter_tuple (show s1.heap.IsTuple a its.toArray from p) ?_
  refine⟨s1.heap.objs.size,[s1.heap.objs.size],_,_,H1,rfl,I1.kept (t':=s1.toks) fun b o e=>Heap.get?_push_of_some _ e,rP a _,⟨_,Heap.get?_push_size _ rfl,rfl,rfl⟩,fun b hb=>?_,q⟩
  have e:b=s1.heap.objs.size:=by simpa using hb
  subst e
  exact I1.yS (Nat.le_refl _) (I1.hok.fresh (Nat.le_refl _))
theorem ui {K:PySem.W.Frag} {α:List Addr} {H:Hp} {a:Addr} {ds:List D} {vs:List V} (hq':H a=some (.tup vs)) (rs:au K g α H ds vs):Reads K g (Itt K a) (Src.snap ds).rdr α H:=by
 intro α2 H2 h2 x2 hr i
 have hq2:SqT K H2 a vs:=SqT.of (x2.tup _ _ hq')
 have rs2:=rs.ext x2
 show match some ds[i]? with | none=>True | some none=>_ | some (some d)=>_
 cases e:ds[i]? with
 | none=>
  have:ds.length<=i:=List.getElem?_eq_none_iff.mp e
  exact⟨vs,hq2,by rw[<- rs.length];exact this⟩
 | some d=>
  obtain⟨v,ev,rv⟩:=rs2.get e
  refine⟨⟨vs,v,hq2,ev⟩,fun x H' y=>?_⟩
  obtain⟨e1,e2⟩:=y
  subst e1
  have:=e2 vs hq2
  rw[ev] at this
  cases this
  exact⟨α2,Ext.refl,hr,rv⟩
theorem nq {K:PySem.W.Frag} {α:List Addr} {H:Hp} {a:Addr} {ds:List D} {vs:List V} (hq:Fro K H a vs) (rs:au K g α H ds vs):Reads K g (Itl K a) (Src.snap ds).rdr α H:=by
 intro α2 H2 h2 x2 hr i
 have hq2:=x2.fro _ _ hq
 have rs2:=rs.ext x2
 show match some ds[i]? with | none=>True | some none=>_ | some (some d)=>_
 cases e:ds[i]? with
 | none=>
  have:ds.length<=i:=List.getElem?_eq_none_iff.mp e
  exact⟨vs,hq2.sq,by rw[<- rs.length];exact this⟩
 | some d=>
  obtain⟨v,ev,rv⟩:=rs2.get e
  refine⟨⟨vs,v,hq2.sq,ev⟩,fun x H' y=>?_⟩
  obtain⟨e1,e2⟩:=y
  subst e1
  have:=e2 vs hq2.sq
  rw[ev] at this
  cases this
  exact⟨α2,Ext.refl,hr,rv⟩
theorem uX {K:PySem.W.Frag} {α:List Addr} {H:Hp} {a:Addr} {n:Nat} (ha:α[n]?=some a):Reads K g (Itl K a) (Src.live n).rdr α H:=by
 intro α2 H2 h2 x2 hr i
 show match (ay h2 n).map fun ds=>ds[i]? with | none=>True | some none=>_ | some (some d)=>_
 cases e:ay h2 n with
 | none=>trivial
 | some ds=>
  obtain⟨vs,hq',rs⟩:=hr.lst e (x2.get ha)
  have hq:SqL K H2 a vs:=SqL.of hq'
  show match some ds[i]? with | none=>True | some none=>_ | some (some d)=>_
  cases ei:ds[i]? with
  | none=>
   have:ds.length<=i:=List.getElem?_eq_none_iff.mp ei
   exact⟨vs,hq,by rw[<- rs.length];exact this⟩
  | some d=>
   obtain⟨v,ev,rv⟩:=rs.get ei
   refine⟨⟨vs,v,hq,ev⟩,fun x H' y=>?_⟩
   obtain⟨e1,e2⟩:=y
   subst e1
   have:=e2 vs hq
   rw[ev] at this
   cases this
   exact⟨α2,Ext.refl,hr,rv⟩
theorem dg {tg e:Expr} {me:ME} (he:PE X e (tM X.K g ε me)):PI X tg e (tMI X.K g ε (bV me)):=
 PI.imp (CQ he) fun σ H T ⟨α,env,h,s,w⟩=>tM.use s w.bind fun d1 h1 v1 H1 α1 e1 s1 r1 w1=>by
  unfold yo at w1
  cases r1 with
  | tup hq rs=>exact⟨_,rfl,.inr ⟨⟨_,SqT.of hq⟩,w1 _ H1 α1 e1 s1.heap (ui hq rs)⟩⟩
  | frl hq rs=>exact⟨_,rfl,.inl ⟨⟨_,hq.sq⟩,w1 _ H1 α1 e1 s1.heap (nq hq.fro rs)⟩⟩
  | scr hq rs=>exact⟨_,rfl,.inl ⟨⟨_,hq.sq⟩,w1 _ H1 α1 e1 s1.heap (nq hq rs)⟩⟩
  | @ref n p hp=>
   cases el:ay h1 n with
   | none=>simp only[el] at w1;exact w1.elim
   | some ds=>
    simp only[el] at w1
    obtain⟨vs,hq,_⟩:=s1.heap.lst el hp
    exact⟨p,rfl,.inl ⟨⟨_,SqL.of hq⟩,w1 _ H1 α1 e1 s1.heap (uX hp)⟩⟩
  | _=>exact w1.elim
noncomputable def cn (lo:Int) (n:Nat):List D:=(List.range n).map fun(i:Nat)=>D.int (lo+i)
noncomputable def kq:List D->Hh->R Src
 | [.int j],h=>if j.natAbs<=1000000 then .ok (.snap (cn 0 j.toNat)) h else .bad
 | _,_=>.bad
noncomputable def pI (f:List D->Hh->R Src) (a:MA):MI:=fun env h=>(a env h).bind f
theorem vn {K:PySem.W.Frag} {α:List Addr} {H:Hp} {lo:Int} {n:Nat}:Reads K g (Itr lo n) (Src.snap (cn lo n)).rdr α H:=by
 intro α2 H2 h2 x2 hr i
 show match some (cn lo n)[i]? with | none=>True | some none=>_ | some (some d)=>_
 unfold cn
 rw[List.getElem?_map]
 by_cases hi:i<n
 ·rw[List.getElem?_range hi]
  refine⟨hi,fun x H' y=>?_⟩
  obtain⟨e1,e2⟩:=y
  subst e1 e2
  exact⟨α2,Ext.refl,hr,.int _⟩
 ·rw[List.getElem?_eq_none (by simpa using hi)]
  exact Nat.le_of_not_lt hi
theorem pK {tg a:Expr} {ma:MA} {p pos:Pos} (hg:Gl X "range") (hm:X.mg "range" = none) (ha:PA X [a] (tMA X.K g ε ma)) (hs:starEach [a] X.env=[(false,eval a X.env)]:=by rfl):PI X tg (.Call (.Name "range" p) [a] [] pos) (tMI X.K g ε (pI kq ma)):=
 PI.imp (vy hg hm ha hs) fun σ H T ⟨α,env,h,s,w⟩=>tMA.use s w.bind fun d1 h1 v1 H1 α1 e1 s1 r1 w1=>by
  unfold kq at w1
  cases r1 with
  | nil=>exact w1.elim
  | cons ra rr=>
   cases rr with
   | cons _ _=>cases ra<;>exact w1.elim
   | nil=>
    cases ra with
    | int j=>
     obtain⟨hj,w2⟩:=WQ.b_ w1
     exact⟨j,rfl,by omega,by omega,w2 _ H1 α1 e1 s1.heap vn⟩
    | _=>exact w1.elim
end
noncomputable abbrev E00:EE:=fun _ _ _=>False
noncomputable abbrev MF:=List D->Hh->R D
noncomputable def cR (n:Nat) (m:MS):MF:=fun ds h=>(m (ds.map some++List.replicate (n - ds.length) none) h).bind fun fl h1=>match fl with
 | .rt d=>.ok d h1
 | .nx _=>.ok .non h1
 | _=>.bad
noncomputable def spG (K:PySem.W.Frag) (g:GG) (ε:XK->EE) (np:Nat) (m:MF):Sp:=fun vs H Q E=>vs.length=np/\∃α ds h,au K g α H ds vs/\aS K g α H h/\WQ K g (ε E) α H (m ds h) (aA K g α H Q)
noncomputable abbrev spM (K:PySem.W.Frag) (g:GG) (np:Nat) (m:MF):Sp:=spG K g (fun _=>E00) np m
theorem jJ {K:PySem.W.Frag} {g:GG} {α:List Addr} {H:Hp} {N:List Str} {ds:List D} {vs:List V} (r:au K g α H ds vs):jd K g α H (ds.map some++List.replicate (N.length - ds.length) none) (start N vs):=by
 have hl:=r.length
 refine⟨by simp[start,hl],fun i d h=>?_⟩
 by_cases hi:i<ds.length
 ·rw[List.getElem?_append_left (by simpa using hi),List.getElem?_map] at h
  cases e:ds[i]? with
  | none=>rw[e] at h;cases h
  | some d'=>
   rw[e] at h
   cases h
   obtain⟨v,ev,rv⟩:=r.get e
   refine⟨v,?_,rv⟩
   unfold start
   rw[List.getElem?_append_left (by simp;omega),List.getElem?_map,ev]
   rfl
 ·rw[List.getElem?_append_right (by simpa using hi),List.getElem?_replicate] at h
  split at h<;>cases h
section
variable {P:Program} {w:World} {K:PySem.W.Frag} {mg:Str->Option Value} {base:Heap} {g:GG}
theorem gn {x qual:Str} {st:Stmt} {f:Addr} {fd:FuncData} {N ps:List Str} {k:Nat} {mb:MS} (F:Fun K x qual st f fd) (S:aN N ps (ak st))
  (hb:∀(cdv:Value) (A:Around) (outer:List Env) (s:Shared) (H:Hp) (E:XK),cO k (A.deeper (envOfC qual (ak st) s.heap.objs.size f cdv)) →
   PSs (iC CX0 P w K mg base N qual (ak st) f cdv A outer s H E).nox (bS st) (tMS K g E00 mb)):dq P w K mg base CX0 (k+1) f fd ps (spM K g ps.length (cR N.length mb)):=by
 refine F.ok S (fun vs H Q E h=>h.1) fun cdv A outer s H vs Q E hr h=>⟨_,hb cdv A outer s H E hr,?_⟩
 obtain⟨hl,α,ds,h,rs,hh,w⟩:=h
 refine tMS.use ⟨hh,jJ rs⟩ w.bind fun fl h' H' α' e r kk=>?_
 cases fl with
 | nx e'=>exact fun σ' s'=>(show aA K g α H Q .non h' from kk) _ H' α' e r .non
 | bk e'=>exact kk.elim
 | ct e'=>exact kk.elim
 | rt d=>exact fun v rv=>(show aA K g α H Q d h' from kk) _ H' α' e r rv
end
section
variable {X:Cx} {g:GG}
theorem aG {k:Nat} {f:Addr} {fd:FuncData} {ps:List Str} {m:MF} {np:Nat} {x:Str} {p pos:Pos} {e:Expr} {es:List Expr} {mr:MA} (F:dq X.prog X.w X.K X.mg X.base CX0 k f fd ps (spM X.K g np m)) (hr:cO k X.A) (hg:Gl X x) (hm:X.mg x=some (.ref f)) (hk:PySem.W.keepIn X.K (.ref f)=true) (hb:Binds X.K fd ps [])
  (ha:PA X (e::es) (tMA X.K g E00 mr)) (hlen:∀env h ds h',mr env h=.ok ds h'->ds.length=np) (hdb:(x == ("__debug__" : Str))=false:=by decide) (he:starEach (e::es) X.env=(false,eval e X.env)::starEach es X.env:=by rfl) (hpl:(backTo pos (starEach es X.env)).any (·.1)=false:=by rfl) :
  PE X (.Call (.Name x p) (e::es) [] pos) (tM X.K g E00 (ag m mr)):=
 PE.imp (t7 F hr hg hm hk hb .nil DN ha hdb he hpl) fun σ H Q ⟨α,env,h,s,w⟩=>⟨α,env,h,s,w.bind.mono fun d1 h1 eq w1 v1 H1 α1 e1 hr1 r1=>by
  show spM X.K g np m (v1++[]) H1 Q E0
  rw[List.append_nil]
  refine⟨?_,α1,d1,h1,r1,hr1,w1.post e1⟩
  rw[<- r1.length]
  exact hlen env h d1 h1 eq⟩
theorem aD:∀env h ds h',aj env h=.ok ds h'->ds.length=0:=fun env h ds h' e=>by cases e;rfl
theorem ao {a:ME} {r:MA} {n:Nat} (q:∀env h ds h',r env h=.ok ds h'->ds.length=n):∀env h ds h',aa a r env h=.ok ds h'->ds.length=n+1:=fun env h ds h' e=>by
 unfold aa at e
 cases e1:a env h with
 | ok d h1=>
  rw[e1] at e
  cases e2:r env h1 with
  | ok ds2 h2=>
   have e3:(R.ok (d::ds2) h2:R (List D))=.ok ds h':=by simpa [R.bind,e2] using e
   cases e3
   simp[q env h1 ds2 h' e2]
  | err x h2=>simp[R.bind,e2] at e
  | bad=>simp[R.bind,e2] at e
 | err x h2=>rw[e1] at e;cases e
 | bad=>rw[e1] at e;cases e
end
noncomputable def iG (ix:List Nat) (env:En) (d:D):En:=some d::ix.map fun i=>(env[i]?).join
noncomputable def tt1:MT:=fun _ h=>.ok true h
noncomputable def gb (rd:Rdr) (tt:MT) (te:ME) (ee:D->En):Nat->Nat->List D->Hh->R (List D)
 | k,i,acc,h=>match rd h i with
  | none=>.bad
  | some none=>.ok acc h
  | some (some d)=>match k with
   | 0=>.bad
   | k+1=>(tt (ee d) h).bind fun b h1=>if b=true then (te (ee d) h1).bind fun y h2=>gb rd tt te ee k (i+1) (acc++[y]) h2 else gb rd tt te ee k (i+1) acc h1
noncomputable def cP (tt:MT) (te:ME) (ee:D->En):List D->Hh->R (List D)
 | [],h=>.ok [] h
 | d::ds,h=>(tt (ee d) h).bind fun b h1=>if b=true then (te (ee d) h1).bind fun y h2=>(cP tt te ee ds h2).bind fun ys h3=>.ok (y::ys) h3 else cP tt te ee ds h1
theorem bM {β γ δ:Type} (r:R β) (f:β->Hh->R γ) (k:γ->Hh->R δ):(r.bind f).bind k=r.bind fun b h=>(f b h).bind k:=by cases r<;>rfl
theorem vS (tt:MT) (te:ME) (ee:D->En) (all:List D):∀(ds:List D) (i:Nat) (acc:List D) (h:Hh),all.drop i=ds->gb (Src.snap all).rdr tt te ee ds.length i acc h=(cP tt te ee ds h).bind fun ys h'=>.ok (acc++ys) h':=by
 intro ds
 induction ds with
 | nil=>
  intro i acc h e
  have:all[i]?=none:=by
   have:=congrArg List.length e
   simp at this
   exact List.getElem?_eq_none (by omega)
  unfold gb cP Src.rdr
  simp[this,R.bind]
 | cons d ds ih=>
  intro i acc h e
  have h0:all[i]?=some d:=by
   have:=congrArg (fun l=>l[0]?) e
   simpa using this
  have h1:all.drop (i+1)=ds:=by
   have:=congrArg List.tail e
   simpa using this
  unfold gb cP
  have:(Src.snap all).rdr h i=some (some d):=by unfold Src.rdr;simp[h0]
  rw[this]
  show((tt (ee d) h).bind _)=_
  rw[bM]
  congr 1
  funext b h2
  cases b with
  | false=>rw[if_neg Bool.false_ne_true,if_neg Bool.false_ne_true];exact ih (i+1) acc h2 h1
  | true=>
   rw[if_pos rfl,if_pos rfl,bM]
   congr 1
   funext y h3
   rw[bM]
   have:=ih (i+1) (acc++[y]) h3 h1
   rw[this]
   congr 1
   funext ys h4
   show R.ok (acc++[y]++ys) h4=R.ok (acc++(y::ys)) h4
   simp
noncomputable def bY (nl:NL) (mi:MI) (ix:List Nat) (tt:MT) (te:ME):ME:=fun env h=>(mi env h).bind fun sr h1=>if sr.fuel h1<=1000000 then
 (match sr with
  | .snap ds=>cP tt te (iG ix env) ds h1
  | .live n=>gb (Src.live n).rdr tt te (iG ix env) ((ay h1 n).getD []).length 0 [] h1
  | .liveE n=>gb (Src.liveE n).rdr tt te (iG ix env) ((ay h1 n).getD []).length 0 [] h1).bind nl else .bad
theorem xk {nl:NL} {mi:MI} {ix:List Nat} {tt:MT} {te:ME} {env:En} {h:Hh}:bY nl mi ix tt te env h=(mi env h).bind fun sr h1=>if sr.fuel h1<=1000000 then (gb sr.rdr tt te (iG ix env) (sr.fuel h1) 0 [] h1).bind nl else .bad:=by
 unfold bY
 congr 1
 funext sr h1
 cases sr with
 | snap ds=>
  have:=vS tt te (iG ix env) ds ds 0 [] h1 rfl
  simp only[List.nil_append] at this
  have e:(Src.snap ds).fuel h1=ds.length:=rfl
  rw[e,this,bM]
  rfl
 | live n=>rfl
 | liveE n=>rfl
theorem zw {K:PySem.W.Frag} {g:GG} {α:List Addr} {H:Hp} {env:En} {σ:St} {ix:List Nat} {d:D} {v:V} (s:jd K g α H env σ) (r:aE K g α H d v):jd K g α H (iG ix env d) ((nJ ix σ).set 0 (some v)):=by
 refine⟨by simp[iG,nJ],fun i e h=>?_⟩
 cases i with
 | zero=>
  have:d=e:=by simpa [iG] using h
  subst this
  exact⟨v,by simp[nJ],r⟩
 | succ i=>
  have h':(ix.map fun i=>(env[i]?).join)[i]?=some (some e):=by simpa [iG] using h
  rw[List.getElem?_map] at h'
  cases ei:ix[i]? with
  | none=>rw[ei] at h';cases h'
  | some j=>
   rw[ei] at h'
   have h2:(env[j]?).join=some e:=by simpa using h'
   cases ej:env[j]? with
   | none=>rw[ej] at h2;cases h2
   | some oe=>
    rw[ej] at h2
    have h3:oe=some e:=by simpa using h2
    subst h3
    obtain⟨u,eu,ru⟩:=s.vars j e ej
    refine⟨u,?_,ru⟩
    simp only[nJ,List.set_cons_zero,List.getElem?_cons_succ,List.getElem?_map,ei,Option.map_some,eu]
    rfl
section
variable {X:Cx} {g:GG}
theorem dY:PTs X [] (tMT X.K g E00 tt1):=fun pins s σ H Q I ⟨α,env,h,s',w⟩=>zX pins s σ H Q I (w H α Ext.refl s'.heap)
theorem qt {K:PySem.W.Frag} {nl:NL} [iz nl] {mi:MI} {tt:MT} {te:ME} {ix:List Nat} {σ:St} {H:Hp} {Q R:VK} (hR:∀v H,g_ Q v H->R v H) (t:tM K g E00 (bY nl mi ix tt te) σ H Q):A6 (tMI K g E00 mi) ix (tMT K g E00 tt) (tM K g E00 te) σ H R:=by
 obtain⟨α,env,h,s,w⟩:=t
 rw[xk] at w
 refine⟨α,env,h,s,w.bind.mono fun sr h1 _ w1 J H1 α1 e1 hr1 rd=>fun acc hacc=>?_⟩
 obtain⟨hf,w1⟩:=WQ.b_ w1
 have s1:=s.ext e1 hr1
 refine⟨fun i m ys H=>∃α h as,Ext K α1 H1 α H/\aS K g α H h/\au K g α H as ys/\H acc=some (.lst ys)/\acc∉α/\as.length+m<=1000000 ∧
  WQ K g E00 α1 H1 ((gb sr.rdr tt te (iG ix env) m i as h).bind nl) (aA K g α1 H1 Q),
  ⟨sr.fuel h1,α1,h1,[],Ext.fresh hacc,hr1.grow hacc,.nil,aL,hr1.free hacc,by simpa using hf,w1.post e1⟩,?_⟩
 rintro i m ys H2 ⟨α2,h2,as,x2,hr2,ra,ha,hna,hm,w2⟩
 have q:=rd α2 H2 h2 x2 hr2 i
 unfold gb at w2
 cases e:sr.rdr h2 i with
 | none=>rw[e] at w2;exact w2.elim
 | some od=>
  rw[e] at w2 q
  cases od with
  | none=>
   refine .inl ⟨q,?_⟩
   exact hR _ _ <| iz.at' (show WQ K g E00 α1 H1 (nl as h2) _ from w2) (fun _ _ z=>z) x2 hr2 ra ha hna hacc
  | some d=>
   cases m with
   | zero=>exact w2.elim
   | succ m=>
    rw[bM] at w2
    have w3:=WQ.bind (show WQ K g E00 α1 H1 ((tt (iG ix env d) h2).bind _) _ from w2)
    refine .inr ⟨q.1,fun x H3 y=>?_⟩
    obtain⟨α3,x3,hr3,rx⟩:=q.2 x H3 y
    have ha3:=x3.keep _ _ ha hna
    have hna3:acc∉α3:=fun z=>by have:=x3.new _ z hna;rw[ha] at this;cases this
    have s3:dk K g α3 H3 (iG ix env d) ((nJ ix σ).set 0 (some x)) h2:=⟨hr3,zw (s1.vs.ext (x2.trans x3)) rx⟩
    refine tMT.use s3 ((w3.ext x2).ext x3) fun b h4 H4 α4 x4 s4 w4=>?_
    have ha4:=x4.keep _ _ ha3 hna3
    have hna4:acc∉α4:=fun z=>by have:=x4.new _ z hna3;rw[ha3] at this;cases this
    cases b with
    | false=>
     rw[if_neg Bool.false_ne_true] at w4 ⊢
     exact⟨m,Nat.lt_succ_self _,α4,h4,as,x2.trans (x3.trans x4),s4.heap,ra.ext (x3.trans x4),ha4,hna4,by omega,w4⟩
    | true=>
     rw[if_pos rfl] at w4 ⊢
     rw[bM] at w4
     refine tM.use s4 (((WQ.bind w4).ext x2).ext (x3.trans x4)) fun y h5 v5 H5 α5 x5 s5 r5 w5=>?_
     have ha5:=x5.keep _ _ ha4 hna4
     have hna5:acc∉α5:=fun z=>by have:=x5.new _ z hna4;rw[ha4] at this;cases this
     have soft:zY H5 acc:=.inr ⟨_,ha5,fun _ z=>(nomatch z),fun _ _ z=>nomatch z⟩
     have x6:Ex0 K α5 H5 α5 (upd H5 acc (.lst (ys++[v5]))):=Ex0.upd soft
     have tr:=x2.trans (x3.trans (x4.trans x5))
     refine⟨ha5,?_,m,Nat.lt_succ_self _,α5,h5,as++[y],⟨tr.toEx0.trans x6,fun p o z n=>?_,tr.new⟩,s5.heap.off soft hna5,((ra.ext (x3.trans (x4.trans x5))).append (.cons r5 .nil)).ex0 x6,aL,hna5,by rw[List.length_append];simp;omega,w5⟩
     ·rw[<- ra.length,sizeLine_eq];omega
     ·rw[aB (aQ z hacc)];exact tr.keep p o z n
end
noncomputable def sml (i:Int):Bool:=decide (i.natAbs<2 ^ 1900)
theorem lF {i:Int} (h:sml i=true):Builtin.Int.intBits i<=1900:=by
 have h':i.natAbs<2 ^ 1900:=of_decide_eq_true h
 unfold Builtin.Int.intBits
 split
 ·omega
 ·rename_i z
  have z':i.natAbs≠0:=by
   intro q
   apply z
   have:i=0:=Int.natAbs_eq_zero.mp q
   rw[this];rfl
  have:=(Nat.log2_lt z').mpr h'
  omega
theorem gX {i:Int} (h:sml i=true):i.natAbs.log2<1900:=by
 have h':i.natAbs<2 ^ 1900:=of_decide_eq_true h
 by_cases z:i.natAbs=0
 ·rw[z];decide
 ·exact(Nat.log2_lt z).mpr h'
theorem C3 {i:Int} (h:i.natAbs<=10 ^ 560):sml i=true:=by
 refine decide_eq_true (Nat.lt_of_le_of_lt h (by decide +kernel))
section
variable {X:Cx} {K:PySem.W.Frag} {g:GG} {ε:EE}
theorem OpR.or {f:Value->Value->Sem Value} {r r':R2} (h:OpR X f r) (h':OpR X f r'):OpR X f (fun x y H Q=>r x y H Q\/r' x y H Q):=fun pins s σ H x y v u Q I rx ry q=>q.elim (h pins s σ H x y v u Q I rx ry) (h' pins s σ H x y v u Q I rx ry)
noncomputable def lA (d:D) (h:Hh):Option (List D):=match d with
 | .frl ds=>some ds
 | .ref n=>ay h n
 | _=>none
theorem qV {α:List Addr} {H:Hp} {h:Hh} {d:D} {x:V} {ds:List D} (r:aS K g α H h) (rd:aE K g α H d x) (e:lA d h=some ds):∃p vs,x=.ref p/\Rd H p (.lst vs)/\au K g α H ds vs:=by
 unfold lA at e
 cases rd with
 | frl hq rs=>cases e;exact⟨_,_,rfl,hq.rd,rs⟩
 | ref hp=>obtain⟨vs,hv,rs⟩:=r.lst e hp;exact⟨_,vs,rfl,.inl hv,rs⟩
 | _=>cases e
noncomputable def A5:R2:=fun x y H Q=>∃l b xs zs,x=.ref l/\y=.ref b/\Rd H l (.lst xs)/\Rd H b (.lst zs)/\xs.length+zs.length<=sizeLine/\∀p,H p=none->Q (.ref p) (upd H p (.lst (xs++zs)))
theorem BW {X:Cx} {pins:List (Addr × Obj)} {σ:St} {H:Hp} {s:Shared} {l:Addr} {xs:List V} (I:Inv X pins σ H s) (h:Rd H l (.lst xs)):∃(its:List Value) (n:Nat),xs.length<=sizeLine/\Vals xs its/\xs.length=its.length/\s.heap.get? l=some { cls:=.type "list", data:=.seq its.toArray n }:=by
 obtain⟨z,its,n,r,e⟩:=h.ok I.hok
 exact⟨its,n,z,r,r.length,e⟩
theorem zq:OpR X (binaryOp .Add) A5:=by
 intro pins s σ H x y v u Q I rx ry h
 obtain⟨l,b,xs,zs,rfl,rfl,hH,hB,hz,q⟩:=h
 cases rx
 cases ry
 obtain⟨its,n,z,r,hl,e⟩:=BW I hH
 obtain⟨its2,n2,z2,r2,hl2,e2⟩:=BW I hB
 refine PySem.P.add_list e e2 ?_ (by rw[List.size_toArray,List.size_toArray];omega)
 have ea:its.toArray++its2.toArray=(its++its2).toArray:=by simp
 rw[ea]
 exact⟨.ref _,_,I.uL (t':=s.toks) (r.append r2) (by rw[List.length_append];omega),rfl,q _ I.fresh⟩
noncomputable def bK (nl:NL):D->D->Hh->R D:=fun x y h=>match x,y with
 | .int i,.int j=>.ok (.int (i+j)) h
 | .tup a,.tup b=>if a.length+b.length<=1000000 then .ok (.tup (a++b)) h else .bad
 | .str a,.str b=>if a.length+b.length<=1000000 then .ok (.str (a++b)) h else .bad
 | x,y=>match lA x h,lA y h with
  | some a,some b=>if a.length+b.length<=1000000 then nl (a++b) h else .bad
  | _,_=>.bad
noncomputable abbrev xh (K:PySem.W.Frag):R2:=fun x y H Q=>(rI0 fun i j=>.int (i+j)) x y H Q\/(A9 K x y H Q\/xg K x y H Q)\/A5 x y H Q\/∃i j,x=.str i/\y=.str j/\i.length+j.length<=sizeLine/\Q (.str (i++j)) H
theorem bU:OpR X (binaryOp .Add) (fun x y H Q=>xh X.K x y H (g_ Q)):=OpR.frz (OpR.or Cr (OpR.or (OpR.or zo xB) (OpR.or zq rf)))
theorem aA.uq {α:List Addr} {H:Hp} {h:Hh} {Q:VK} {d:D} {v:V} (p:aA K g α H Q d h) (r:aS K g α H h) (rd:aE K g α H d v):g_ Q v H:=.inl (p.now r rd)
theorem bX {nl:NL} [iz nl]:dH K g ε (bK nl) (fun x y H Q=>xh K x y H (g_ Q)):=by
 intro α H h a b x y Q r ra rb w
 have gen:∀{a b:D} {x y:V},aE K g α H a x->aE K g α H b y->WQ K g ε α H (match lA a h,lA b h with
  | some a,some b=>if a.length+b.length<=1000000 then nl (a++b) h else .bad
  | _,_=>.bad) (aA K g α H Q)->xh K x y H (g_ Q):=by
  intro a b x y ra rb w
  cases e1:lA a h with
  | none=>simp only[e1] at w;exact w.elim
  | some da=>
   cases e2:lA b h with
   | none=>simp only[e1,e2] at w;exact w.elim
   | some db=>
    simp only[e1,e2] at w
    obtain⟨p,va,rfl,hva,rsa⟩:=qV r ra e1
    obtain⟨q,vb,rfl,hvb,rsb⟩:=qV r rb e2
    obtain⟨hl,w⟩:=WQ.b_ w
    refine .inr (.inr (.inl ⟨p,q,va,vb,rfl,rfl,hva,hvb,e_ (by rw[<- rsa.length,<- rsb.length];exact hl),fun l hl'=>?_⟩))
    exact NL.post w r (rsa.append rsb) hl'
 unfold bK at w
 split at w
 ·cases ra
  cases rb
  exact .inl ⟨_,_,rfl,rfl,aA.uq w r (.int _)⟩
 ·cases ra with
  | @tup da pa va ha rsa=>
   cases rb with
   | @tup db pb vb hb rsb=>
    obtain⟨hl,w⟩:=WQ.b_ w
    refine .inr (.inl ?_)
    cases va with
    | nil=>
     cases rsa
     exact .inr ⟨_,_,_,rfl,rfl,SqT.of ha,SqT.of hb,aA.uq w r (.tup hb rsb)⟩
    | cons z zs=>
     refine .inl ⟨_,_,_,_,rfl,rfl,SqT.of ha,SqT.of hb,by simp,e_ (by rw[<- rsa.length,<- rsb.length];exact hl),fun e=>?_,fun _ p hp=>.inl (aA.tup w r (rsa.append rsb) hp)⟩
     subst e
     cases rsb
     refine aA.uq w r (.tup ha ?_)
     rw[List.append_nil];exact rsa
 ·cases ra
  cases rb
  obtain⟨hl,w⟩:=WQ.b_ w
  exact .inr (.inr (.inr ⟨_,_,rfl,rfl,e_ hl,aA.uq w r (.str _)⟩))
 ·exact gen ra rb w
noncomputable def q_:D->D->Hh->R D
 | .int i,.int j,h=>.ok (.int (i - j)) h
 | _,_,_=>.bad
theorem yi:dH K g ε q_ (rI0 fun i j=>.int (i - j)):=by
 intro α H h a b x y Q r ra rb w
 unfold q_ at w
 cases ra with
 | int i=>
  cases rb with
  | int j=>exact⟨i,j,rfl,rfl,aA.now w r (.int _)⟩
  | _=>exact w.elim
 | _=>exact w.elim
noncomputable def AW:R2:=fun x y H Q=>∃l k xs,x=.ref l/\y=.int k/\Rd H l (.lst xs)/\-(2 ^ 63)<=k/\k<2 ^ 63/\xs.length*k.toNat<=sizeLine ∧
 ∀p,H p=none->Q (.ref p) (upd H p (.lst (List.replicate k.toNat xs).flatten))
theorem zN:OpR X (binaryOp .Mult) AW:=by
 intro pins s σ H x y v u Q I rx ry h
 obtain⟨l,k,xs,rfl,rfl,hH,h1,h2,hz,q⟩:=h
 cases rx
 obtain⟨t,rfl⟩:=ry
 obtain⟨its,n,z,r,hl,e⟩:=BW I hH
 have hlen:its.toArray.size*k.toNat<=sizeLine:=by rw[List.size_toArray,<- hl];exact hz
 have hcap:¬ its.toArray.size*k.toNat > (2 ^ 63 - 1) / 8:=by
  have:(sizeLine:Nat)<=(2 ^ 63 - 1) / 8:=by decide
  omega
 have hfit:¬ (!Builtin.List.listFitsIndex k)=true:=by
  rw[fitsIndex_both h1 h2]
  exact Bool.false_ne_true
 have hlong:¬ Builtin.List.listTooLong (its.toArray.size*k.toNat)=true:=by
  rw[vR hlen]
  exact Bool.false_ne_true
 have hnew:List.foldl (fun x1 x2=>x1++x2) #[] (List.replicate (if its.toArray.isEmpty=true then 0 else k.toNat) its.toArray)=(List.replicate k.toNat its).flatten.toArray:=by
  have f0:∀m:Nat,List.foldl (fun x1 x2=>x1++x2) #[] (List.replicate m its.toArray)=(List.replicate m its).flatten.toArray:=fun m=>by
   have:=foldl_rep its m []
   rw[List.nil_append] at this
   exact this
  rw[f0]
  cases its with
  | nil=>simp
  | cons a r'=>rw[if_neg (by simp)]
 refine wpAny_binaryOp_repeat_ref (T:="list") (U:="int") (by decide) ⟨_,e,rfl⟩ (fun s'=>typeIs_int s' k t) noFill_list_mul F.fills_int_mul F.slot_int_rmul repeat_list F.slot_int_index.lookup
  (call_meets F.slot_int_rmul (typeIs_int s k t) F.entry_int_rmul (F.args_int_rmul_2 _ _) (int___rmul___int_list k t l its.toArray n)
   ⟨e,rfl,⟨_,e,rfl⟩,call_meets F.slot_list_mul ⟨_,e,rfl⟩ F.entry_list_mul (F.args_list_mul_2 _ _) (AutoListH.list___mul___list_int_3 l its.toArray n k t hfit hcap hlong) ⟨e,?_⟩⟩)
 rw[hnew]
 exact⟨.ref _,_,I.uL (t':=s.toks) (r.rep k.toNat) (by rw[len_rep,Nat.mul_comm];exact hz),rfl,q _ I.fresh⟩
noncomputable def oN (nl:NL):D->D->Hh->R D:=fun x y h=>match x,y with
 | .int i,.int j=>if sml i=true/\sml j=true then .ok (.int (i*j)) h else .bad
 | x,.int k=>match lA x h with
  | some ds=>if k.natAbs<=1000000/\ds.length*k.toNat<=1000000 then nl (List.replicate k.toNat ds).flatten h else .bad
  | none=>.bad
 | _,_=>.bad
theorem zE:OpR X (binaryOp .Mult) (rI (fun i j=>sml i=true/\sml j=true) fun i j=>.int (i*j)):=opI fun _ _ _ _ _ _ _ hc q=>mul_int q (IntMulOk.of_bits (Nat.le_trans (lF hc.1) (by decide)) (Nat.le_trans (lF hc.2) (by decide)))
noncomputable abbrev wq:R2:=fun x y H Q=>(rI (fun i j=>sml i=true/\sml j=true) fun i j=>.int (i*j)) x y H Q\/AW x y H Q
theorem sf:OpR X (binaryOp .Mult) (fun x y H Q=>wq x y H (g_ Q)):=OpR.frz (OpR.or zE zN)
theorem rZ {nl:NL} [iz nl]:dH K g ε (oN nl) (fun x y H Q=>wq x y H (g_ Q)):=by
 intro α H h a b x y Q r ra rb w
 have gen:∀{a:D} {k:Int} {x:V},aE K g α H a x->WQ K g ε α H (match lA a h with
  | some ds=>if k.natAbs<=1000000/\ds.length*k.toNat<=1000000 then nl (List.replicate k.toNat ds).flatten h else .bad
  | none=>.bad) (aA K g α H Q)->wq x (.int k) H (g_ Q):=by
  intro a k x ra w
  cases e1:lA a h with
  | none=>simp only[e1] at w;exact w.elim
  | some ds=>
   simp only[e1] at w
   obtain⟨hl,w⟩:=WQ.b_ w
   obtain⟨p,vs,rfl,hv,rs⟩:=qV r ra e1
   refine .inr ⟨p,k,vs,rfl,rfl,hv,by omega,by omega,e_ (by rw[<- rs.length];exact hl.2),fun l hl'=>?_⟩
   exact NL.post w r (rs.flat k.toNat) hl'
 unfold oN at w
 split at w
 ·cases ra
  cases rb
  obtain⟨hc,w⟩:=WQ.b_ w
  exact .inl ⟨_,_,rfl,rfl,hc,aA.uq w r (.int _)⟩
 ·cases rb
  exact gen ra w
 ·exact w.elim
noncomputable def vU:D->D->Hh->R D
 | .int i,.int j,h=>if 0<j/\sml j=true then .ok (.int (i / j)) h else .bad
 | _,_,_=>.bad
theorem p6:OpR X (binaryOp .FloorDiv) (rI (fun i j=>0<j/\sml j=true) fun i j=>.int (i / j)):=opI fun i j _ _ _ _ _ hc q=>by
 have e:i.fdiv j=i / j:=Int.fdiv_eq_ediv_of_nonneg _ (by omega)
 refine floordiv_int (by omega) ?_ (.inl (PyProof.noPylong_of_log2 (Nat.lt_trans (gX hc.2) (by decide))))
 rw[e];exact q
theorem xJ:dH K g ε vU (rI (fun i j=>0<j/\sml j=true) fun i j=>.int (i / j)):=by
 intro α H h a b x y Q r ra rb w
 unfold vU at w
 cases ra with
 | int i=>
  cases rb with
  | int j=>
   obtain⟨hc,w⟩:=WQ.b_ w
   exact⟨i,j,rfl,rfl,hc,aA.now w r (.int _)⟩
  | _=>exact w.elim
 | _=>exact w.elim
noncomputable def qI:D->D->Hh->R D
 | .int i,.int j,h=>if 0<j then .ok (.int (i % j)) h else .bad
 | _,_,_=>.bad
theorem lN:dH K g ε qI (rI (fun _ j=>0<j) fun i j=>.int (i % j)):=by
 intro α H h a b x y Q r ra rb w
 unfold qI at w
 cases ra with
 | int i=>
  cases rb with
  | int j=>
   obtain⟨hc,w⟩:=WQ.b_ w
   exact⟨i,j,rfl,rfl,hc,aA.now w r (.int _)⟩
  | _=>exact w.elim
 | _=>exact w.elim
noncomputable def wm:D->D->Hh->R D
 | .int i,.int j,h=>if 0<=j/\j.natAbs<=1000/\sml i=true then .ok (.int (i ^ j.toNat)) h else .bad
 | _,_,_=>.bad
theorem tw:OpR X (binaryOp .Pow) (rI (fun i j=>0<=j/\j.natAbs<=1000/\sml i=true) fun i j=>.int (i ^ j.toNat)):=opI fun i j _ _ _ _ _ hc q=>pow_int hc.1 (by
 have:=lF hc.2.2
 have h1:((Builtin.Int.intBits i:Nat):Int)<=1900:=by exact_mod_cast this
 calc ((Builtin.Int.intBits i:Nat):Int)*j<=1900*j:=Int.mul_le_mul_of_nonneg_right h1 hc.1
  _<=1900*1000:=Int.mul_le_mul_of_nonneg_left (show j<=1000 by have:=hc.2.1;omega) (by decide)
  _<=2 ^ 27:=by decide) q
theorem yt:dH K g ε wm (rI (fun i j=>0<=j/\j.natAbs<=1000/\sml i=true) fun i j=>.int (i ^ j.toNat)):=by
 intro α H h a b x y Q r ra rb w
 unfold wm at w
 cases ra with
 | int i=>
  cases rb with
  | int j=>
   obtain⟨hc,w⟩:=WQ.b_ w
   exact⟨i,j,rfl,rfl,hc,aA.now w r (.int _)⟩
  | _=>exact w.elim
 | _=>exact w.elim
noncomputable def zc:D->Hh->R D
 | .int i,h=>.ok (.int (-i)) h
 | _,_=>.bad
theorem CI:Ei K g ε zc (rU fun i=>.int (-i)):=by
 intro α H h a x Q r ra w
 unfold zc at w
 cases ra with
 | int i=>exact⟨i,rfl,aA.now w r (.int _)⟩
 | _=>exact w.elim
noncomputable def u_ (p:Int->Int->Bool):D->D->Hh->R D
 | .int i,.int j,h=>.ok (.bl (p i j)) h
 | _,_,_=>.bad
noncomputable def ltI:Int->Int->Bool
 | .ofNat a,.ofNat b=>Nat.blt a b
 | .ofNat _,.negSucc _=>false
 | .negSucc _,.ofNat _=>true
 | .negSucc a,.negSucc b=>Nat.blt b a
theorem mq:ltI=fun i j=>decide (i<j):=by
 funext i j
 cases i with
 | ofNat a=>
  cases j with
  | ofNat b=>
   show Nat.blt a b=_
   rw[Bool.eq_iff_iff,Nat.blt_eq,decide_eq_true_iff]
   exact Int.ofNat_lt.symm
  | negSucc b=>exact(decide_eq_false (by have:Int.ofNat a=(a:Int):=rfl;omega)).symm
 | negSucc a=>
  cases j with
  | ofNat b=>exact(decide_eq_true (by have:Int.ofNat b=(b:Int):=rfl;omega)).symm
  | negSucc b=>
   show Nat.blt b a=_
   rw[Bool.eq_iff_iff,Nat.blt_eq,decide_eq_true_iff]
   omega
noncomputable def leI (i j:Int):Bool:=!ltI j i
theorem ou:leI=fun i j=>decide (i<=j):=by
 funext i j
 unfold leI
 rw[mq,Bool.eq_iff_iff]
 simp
noncomputable def dLt:D->D->Hh->R D:=u_ ltI
noncomputable def dLe:D->D->Hh->R D:=u_ leI
noncomputable def dGt:D->D->Hh->R D:=u_ fun i j=>ltI j i
noncomputable def dGe:D->D->Hh->R D:=u_ fun i j=>leI j i
theorem pv {p:Int->Int->Bool}:dH K g ε (u_ p) (rI0 fun i j=>.bl (p i j)):=by
 intro α H h a b x y Q r ra rb w
 unfold u_ at w
 cases ra with
 | int i=>
  cases rb with
  | int j=>exact⟨i,j,rfl,rfl,aA.now w r (.bl _)⟩
  | _=>exact w.elim
 | _=>exact w.elim
theorem AR:dH K g ε dLt (rI0 fun i j=>.bl (decide (i<j))):=by
 unfold dLt;rw[mq];exact pv
theorem m9:dH K g ε dLe (rI0 fun i j=>.bl (decide (i<=j))):=by
 unfold dLe;rw[ou];exact pv
theorem tT:dH K g ε dGt (rI0 fun i j=>.bl (decide (j<i))):=by
 unfold dGt;rw[mq];exact pv
theorem Dv:dH K g ε dGe (rI0 fun i j=>.bl (decide (j<=i))):=by
 unfold dGe;rw[ou];exact pv
noncomputable def mB (d:D) (h:Hh):Option (List D):=match d with
 | .tup ds=>some ds
 | .frl ds=>some ds
 | .scr ds=>some ds
 | .ref n=>ay h n
 | _=>none
theorem tS {α:List Addr} {H:Hp} {h:Hh} {d:D} {x:V} {ds:List D} (r:aS K g α H h) (rd:aE K g α H d x) (e:mB d h=some ds):∃p vs,x=.ref p/\(SqL K H p vs\/SqT K H p vs)/\au K g α H ds vs:=by
 unfold mB at e
 cases rd with
 | tup hq rs=>cases e;exact⟨_,_,rfl,.inr (SqT.of hq),rs⟩
 | frl hq rs=>cases e;exact⟨_,_,rfl,.inl hq.sq,rs⟩
 | scr hq rs=>cases e;exact⟨_,_,rfl,.inl hq.sq,rs⟩
 | ref hp=>obtain⟨vs,hv,rs⟩:=r.lst e hp;exact⟨_,vs,rfl,.inl (SqL.of hv),rs⟩
 | _=>cases e
noncomputable def dIx:D->D->Hh->R D:=fun a b h=>match mB a h,b with
 | some ds,.int i=>match atI ds i with
  | some d=>.ok d h
  | none=>.bad
 | _,_=>.bad
theorem zP {α:List Addr} {H:Hp} {ds:List D} {vs:List V} {i:Int} {d:D} (rs:au K g α H ds vs) (e:atI ds i=some d):∃v,atI vs i=some v/\aE K g α H d v:=by
 unfold atI at e ⊢
 rw[<- rs.length]
 cases e1:ixN ds.length i with
 | none=>rw[e1] at e;cases e
 | some j=>
  rw[e1] at e
  exact rs.get e
theorem eY:dH K g ε dIx (rIx K):=by
 intro α H h a b x y Q r ra rb w
 unfold dIx at w
 cases e1:mB a h with
 | none=>simp only[e1] at w;exact w.elim
 | some ds=>
  simp only[e1] at w
  obtain⟨p,vs,rfl,hq,rs⟩:=tS r ra e1
  cases rb with
  | int i=>
   cases e2:atI ds i with
   | none=>simp only[e2] at w;exact w.elim
   | some d=>
    simp only[e2] at w
    obtain⟨v,ev,rv⟩:=zP rs e2
    rcases hq with hq | hq
    ·exact .inl ⟨p,vs,i,v,rfl,rfl,hq,ev,aA.now w r rv⟩
    ·exact .inr (.inl ⟨p,vs,i,v,rfl,rfl,hq,ev,aA.now w r rv⟩)
  | _=>exact w.elim
noncomputable def jh:D->D->D->Hh->R Unit:=fun o i v h=>match o,i with
 | .ref n,.int k=>match ay h n with
  | some ds=>match ixN ds.length k with
   | some j=>.ok () (h.set n (.lst (ds.set j v)))
   | none=>.bad
  | none=>.bad
 | _,_=>.bad
theorem qz:D7 K g ε jh AJ:=by
 intro α H h o i v x y z Q r ro ri rv w
 unfold jh at w
 cases ro with
 | @ref n p hp=>
  cases ri with
  | int k=>
   cases e1:ay h n with
   | none=>simp only[e1] at w;exact w.elim
   | some ds=>
    simp only[e1] at w
    cases e2:ixN ds.length k with
    | none=>simp only[e2] at w;exact w.elim
    | some j=>
     simp only[e2] at w
     obtain⟨vs,hv,rs⟩:=r.lst e1 hp
     refine⟨p,vs,k,j,rfl,rfl,hv,by rw[<- rs.length];exact e2,?_⟩
     have x:=Ext.write (o:=.lst (vs.set j z)) r hp
     exact w _ α x (r.write hp ⟨_,aL,(rs.set rv j).ext x⟩)
  | _=>exact w.elim
 | _=>exact w.elim
noncomputable def cutD (xs:List D) (lo hi:Option Int):List D:=(xs.drop (HT.sIx xs.length 0 lo)).take (HT.sIx xs.length xs.length hi - HT.sIx xs.length 0 lo)
theorem i4 {α:List Addr} {H:Hp} {ds:List D} {vs:List V} (rs:au K g α H ds vs) (lo hi:Option Int):au K g α H (cutD ds lo hi) (mG vs lo hi):=by
 unfold cutD mG
 rw[<- rs.length]
 exact(rs.drop _).take _
noncomputable abbrev MO:=En->Hh->R (Option Int)
noncomputable def b8:MO:=fun _ h=>.ok none h
noncomputable def dm (a:ME):MO:=fun env h=>(a env h).bind fun d h1=>match d with
 | .int i=>.ok (some i) h1
 | _=>.bad
noncomputable def tMO (K:PySem.W.Frag) (g:GG) (ε:EE) (m:MO):TO:=fun σ H Q=>∃α env h,dk K g α H env σ h/\WQ K g ε α H (m env h) fun o h'=>∀H' α',Ext K α H α' H'->aS K g α' H' h'->Q o H'
theorem PO.imp {e:Option Expr} {t t':TO} (h:PO X e t) (i:∀σ H Q,t' σ H Q->t σ H Q):PO X e t':=fun pins s σ H Q I w=>h pins s σ H Q I (i σ H Q w)
theorem fU:PO X none (tMO X.K g ε b8):=PO.imp yW fun σ H Q ⟨α,env,h,s,w⟩=>w H α Ext.refl s.heap
theorem eA {e:Expr} {me:ME} (he:PE X e (tM X.K g ε me)):PO X (some e) (tMO X.K g ε (dm me)):=PO.imp (zL he) fun σ H Q ⟨α,env,h,s,w⟩=>tM.use s w.bind fun d1 h1 v1 H1 α1 e1 s1 r1 w1=>by
 cases r1 with
 | int i=>exact⟨i,rfl,w1 H1 α1 e1 s1.heap⟩
 | _=>exact w1.elim
noncomputable def uv (nl:NL):D->Option Int->Option Int->Hh->R D:=fun d lo hi h=>match d with
 | .tup ds=>.ok (.tup (cutD ds lo hi)) h
 | .frl ds=>nl (cutD ds lo hi) h
 | .scr ds=>nl (cutD ds lo hi) h
 | .ref n=>match ay h n with
  | some ds=>nl (cutD ds lo hi) h
  | none=>.bad
 | _=>.bad
noncomputable def cN (nl:NL) (a:ME) (l u:MO):ME:=fun env h=>(a env h).bind fun x h1=>(l env h1).bind fun lo h2=>(u env h2).bind fun hi h3=>uv nl x lo hi h3
theorem tMO.use {α:List Addr} {H:Hp} {env:En} {σ:St} {h:Hh} {m:MO} {Q:Option Int->Hp->Prop} {k:Option Int->Hh->Prop} (s:dk K g α H env σ h) (w:WQ K g ε α H (m env h) k)
  (q:∀d h' H' α',Ext K α H α' H'->dk K g α' H' env σ h'->k d h'->Q d H'):tMO K g ε m σ H Q:=
 ⟨α,env,h,s,w.mono fun d h' _ kk H' α' e r=>q d h' H' α' e (s.ext e r) kk⟩
theorem eP {nl:NL} [iz nl] {e:Expr} {me:ME} {lo hi:Option Expr} {ml mh:MO} {p2 pos:Pos} (he:PE X e (tM X.K g ε me)) (hl:PO X lo (tMO X.K g ε ml)) (hu:PO X hi (tMO X.K g ε mh)):PE X (.Subscript e (.Slice lo hi none p2) pos) (tM X.K g ε (cN nl me ml mh)):=
 PE.imp (PE.frz (qq (SlR.or AB (SlR.or Bq zW)) he hl hu)) fun σ H Q ⟨α,env,h,s,w⟩=>tM.use s w.bind fun d1 h1 v1 H1 α1 e1 s1 r1 w1=>tMO.use s1 (w1.ext e1).bind fun o2 h2 H2 α2 e2 s2 w2=>tMO.use s2 (w2.ext e2).bind fun o3 h3 H3 α3 e3 s3 w3=>by
  have tr:=e1.trans (e2.trans e3)
  have r3:=r1.ext (e2.trans e3)
  have w4:=(w3.ext e3).mono fun _ _ _ p=>aA.ext tr p
  unfold uv at w4
  cases r3 with
  | @frl ds p vs hq rs=>exact .inl ⟨_,_,rfl,hq.sq,fun l hl=>NL.post w4 s3.heap (i4 rs _ _) hl⟩
  | @scr ds p vs hq rs=>exact .inl ⟨_,_,rfl,hq.sq,fun l hl=>NL.post w4 s3.heap (i4 rs _ _) hl⟩
  | @ref n p hp=>
   cases e1:ay h3 n with
   | none=>simp only[e1] at w4;exact w4.elim
   | some ds=>
    simp only[e1] at w4
    obtain⟨vs,hv,rs⟩:=s3.heap.lst e1 hp
    exact .inl ⟨_,_,rfl,SqL.of hv,fun l hl=>NL.post w4 s3.heap (i4 rs _ _) hl⟩
  | @tup ds p vs hq rs=>
   refine .inr ?_
   by_cases hw:HT.sIx vs.length 0 o2=0/\HT.sIx vs.length vs.length o3=vs.length
   ·refine .inr ⟨_,_,rfl,SqT.of hq,hw.1,hw.2,?_⟩
    refine aA.uq w4 s3.heap (.tup hq ?_)
    have:mG vs o2 o3=vs:=by unfold mG;rw[hw.1,hw.2];simp
    have q:=i4 rs o2 o3
    rw[this] at q
    exact q
   ·exact .inl ⟨_,_,rfl,SqT.of hq,hw,fun l hl=>.inl (aA.tup w4 s3.heap (i4 rs _ _) hl)⟩
  | _=>exact w4.elim
end
noncomputable def qf:D->Bool
 | .non=>true | .bl _=>true | .int _=>true | .str _=>true
 | _=>false
noncomputable def eqF:D->D->Bool
 | .non,.non=>true
 | .bl a,.bl b=>a == b
 | .bl a,.int b=>(if a then 1 else 0) == b
 | .int a,.bl b=>a == (if b then 1 else 0)
 | .int a,.int b=>a == b
 | .str a,.str b=>a == b
 | _,_=>false
noncomputable def eqL (f:D->D->Option Bool):List D->List D->Option Bool
 | x::xs,y::ys=>match f x y,eqL f xs ys with
  | some b,some c=>some (b&&c)
  | _,_=>none
 | [],[]=>some true
 | _,_=>some false
inductive Vw where
 | fl | tp (ds:List D) | ls (ds:List D) | no
noncomputable def vw (d:D) (h:Hh):Vw:=match d with
 | .non=>.fl | .bl _=>.fl | .int _=>.fl | .str _=>.fl
 | .tup ds=>.tp ds
 | .frl ds=>.ls ds
 | .scr ds=>.ls ds
 | .ref n=>match ay h n with
  | some ds=>.ls ds
  | none=>.no
 | _=>.no
noncomputable def eqD:Nat->Hh->D->D->Option Bool
 | 0,_,_,_=>none
 | k+1,h,a,b=>match vw a h,vw b h with
  | .fl,.fl=>some (eqF a b)
  | .tp xs,.tp ys=>eqL (eqD k h) xs ys
  | .ls xs,.ls ys=>if xs.length=ys.length then eqL (eqD k h) xs ys else some false
  | .fl,.tp _=>some false
  | .fl,.ls _=>some false
  | .tp _,.fl=>some false
  | .tp _,.ls _=>some false
  | .ls _,.fl=>some false
  | .ls _,.tp _=>some false
  | _,_=>none
section
variable {K:PySem.W.Frag} {g:GG} {α:List Addr} {H:Hp} {h:Hh}
theorem lY {f:D->D->Option Bool} (hf:∀a b x c,aE K g α H a x->aE K g α H b x->f a b=some c->c=true):∀{xs ys:List D} {vs:List V} {c:Bool},au K g α H xs vs->au K g α H ys vs->eqL f xs ys=some c->c=true
 | _,_,_,_,.nil,.nil,e=>by simp[eqL] at e;exact e
 | _,_,_,c,.cons r t,.cons r' t',e=>by
  unfold eqL at e
  split at e
  ·rename_i b c' h1 h2
   have e1:=hf _ _ _ _ r r' h1
   have e2:=lY hf t t' h2
   subst e1 e2
   exact(Option.some.inj e).symm
  ·cases e
theorem j_ {d:D} {x:V} (rd:aE K g α H d x) (e:vw d h=.fl):qf d=true:=by
 cases rd with
 | ref hp=>unfold vw at e;simp only at e;split at e<;>cases e
 | _=>first | rfl | cases e
theorem kh {d:D} {x:V} {ds:List D} (rd:aE K g α H d x) (e:vw d h=.tp ds):∃p vs,x=.ref p/\SqT K H p vs/\au K g α H ds vs:=by
 cases rd with
 | tup hp rs=>cases e;exact⟨_,_,rfl,SqT.of hp,rs⟩
 | ref hp=>unfold vw at e;simp only at e;split at e<;>cases e
 | _=>cases e
theorem j6 {d:D} {x:V} {ds:List D} (r:aS K g α H h) (rd:aE K g α H d x) (e:vw d h=.ls ds):∃p vs,x=.ref p/\SqL K H p vs/\au K g α H ds vs:=by
 cases rd with
 | frl hp rs=>cases e;exact⟨_,_,rfl,hp.sq,rs⟩
 | scr hp rs=>cases e;exact⟨_,_,rfl,hp.sq,rs⟩
 | @ref n p hp=>
  unfold vw at e
  simp only at e
  cases el:ay h n with
  | none=>rw[el] at e;cases e
  | some ds'=>
   rw[el] at e;cases e
   obtain⟨vs,hv,rs⟩:=r.lst el hp
   exact⟨_,_,rfl,SqL.of hv,rs⟩
 | _=>cases e
theorem sZ {f:D->D->Option Bool}:∀{xs ys:List D} {c:Bool},eqL f xs ys=some c →
  (∀(j:Nat) (x y:D),xs[j]?=some x->ys[j]?=some y->∃b,f x y=some b)/\c=((List.range (min xs.length ys.length)).all (fun j=>((f (xs.getD j .non) (ys.getD j .non)).getD false))&&xs.length == ys.length)
 | [],[],c,e=>by
  simp[eqL] at e
  refine⟨fun j x y h=>by simp at h,?_⟩
  simp[<- e]
 | [],_::_,c,e=>by
  simp[eqL] at e
  exact⟨fun j x y h=>by simp at h,by simp[<- e]⟩
 | _::_,[],c,e=>by
  simp[eqL] at e
  exact⟨fun j x y _ h=>by simp at h,by simp[<- e]⟩
 | x::xs,y::ys,c,e=>by
  unfold eqL at e
  split at e
  ·rename_i b c' h1 h2
   obtain⟨q1,q2⟩:=sZ h2
   refine⟨fun j x' y' hx hy=>?_,?_⟩
   ·cases j with
    | zero=>simp at hx hy;subst hx hy;exact⟨b,h1⟩
    | succ j=>exact q1 j x' y' (by simpa using hx) (by simpa using hy)
   ·have e':=(Option.some.inj e).symm
    rw[e',q2]
    have hm:min (x::xs).length (y::ys).length=min xs.length ys.length+1:=by simp[Nat.succ_min_succ]
    rw[hm,List.range_succ_eq_map,List.all_cons,List.all_map]
    have h0:(f ((x::xs).getD 0 .non) ((y::ys).getD 0 .non)).getD false=b:=by
     show(f x y).getD false=b
     rw[h1];rfl
    rw[h0]
    have hlen:((x::xs).length == (y::ys).length)=(xs.length == ys.length):=by simp
    rw[hlen,Bool.and_assoc]
    rfl
  ·cases e
end
section
variable {X:Cx} {g:GG} {pins:List (Addr × Obj)} {σ:St} {H:Hp} {s:Shared} {α:List Addr} {h:Hh}
open PySem.SeqAt
theorem zZ {A:Around} {a b:D} {x y:V} {u v:Value} {K:PySem.W.Frag} (ra:aE K g α H a x) (rb:aE K g α H b y) (ru:RelV x u) (rv:RelV y v) (fa:qf a=true) (fb:qf b=true) :
  EqAt A s u v (eqF a b)/\RcAt A s u v (eqF a b)/\RcNeAt A s u v (!eqF a b):=by
 cases ra with
 | non=>
  cases ru
  cases rb with
  | non=>cases rv;exact⟨.same _,.none_none,.none_none⟩
  | bl z=>cases rv;exact⟨.none_bool z,.none_bool z,.none_bool z⟩
  | int z=>obtain⟨t,rfl⟩:=rv;exact⟨.none_int z t,.none_int z t,.none_int z t⟩
  | str z=>obtain⟨t,rfl⟩:=rv;exact⟨.none_str z t,.none_str z t,.none_str z t⟩
  | _=>cases fb
 | bl q=>
  cases ru
  cases rb with
  | non=>cases rv;exact⟨.bool_none q,.bool_none q,.bool_none q⟩
  | bl z=>cases rv;exact⟨.bool_bool q z,.bool_bool q z,.bool_bool q z⟩
  | int z=>obtain⟨t,rfl⟩:=rv;exact⟨.bool_int q z t,.bool_int q z t,.bool_int q z t⟩
  | str z=>obtain⟨t,rfl⟩:=rv;exact⟨.bool_str q z t,.bool_str q z t,.bool_str q z t⟩
  | _=>cases fb
 | int q=>
  obtain⟨t',rfl⟩:=ru
  cases rb with
  | non=>cases rv;exact⟨.int_none q t',.int_none q t',.int_none q t'⟩
  | bl z=>cases rv;exact⟨.int_bool q t' z,.int_bool q t' z,.int_bool q t' z⟩
  | int z=>obtain⟨t,rfl⟩:=rv;exact⟨.int_int q t' z t,.int_int q t' z t,.int_int q t' z t⟩
  | str z=>obtain⟨t,rfl⟩:=rv;exact⟨.int_str q t' z t,.int_str q t' z t,.int_str q t' z t⟩
  | _=>cases fb
 | str q=>
  obtain⟨t',rfl⟩:=ru
  cases rb with
  | non=>cases rv;exact⟨.str_none q t',.str_none q t',.str_none q t'⟩
  | bl z=>cases rv;exact⟨.str_bool q t' z,.str_bool q t' z,.str_bool q t' z⟩
  | int z=>obtain⟨t,rfl⟩:=rv;exact⟨.str_int q t' z t,.str_int q t' z t,.str_int q t' z t⟩
  | str z=>obtain⟨t,rfl⟩:=rv;exact⟨.str_str q t' z t,.str_str q t' z t,.str_str q t' z t⟩
  | _=>cases fb
 | _=>cases fa
theorem qD {A:Around} {b:D} {y:V} {v:Value} {p:Addr} {its:Array Value} {K:PySem.W.Frag} (ht:s.heap.IsTuple p its) (hu:A.units<cLine) (rb:aE K g α H b y) (rv:RelV y v) (fb:qf b=true) :
  (EqAt A s (.ref p) v false/\RcAt A s (.ref p) v false/\RcNeAt A s (.ref p) v true)/\(EqAt A s v (.ref p) false/\RcAt A s v (.ref p) false/\RcNeAt A s v (.ref p) true):=by
 cases rb with
 | non=>cases rv;exact⟨⟨.tuple_none ht hu,.tuple_none ht hu,.tuple_none ht hu⟩,.none_tuple ht hu,.none_tuple ht hu,.none_tuple ht hu⟩
 | bl z=>cases rv;exact⟨⟨.tuple_bool z ht hu,.tuple_bool z ht hu,.tuple_bool z ht hu⟩,.bool_tuple z ht hu,.bool_tuple z ht hu,.bool_tuple z ht hu⟩
 | int z=>obtain⟨t,rfl⟩:=rv;exact⟨⟨.tuple_int z t ht hu,.tuple_int z t ht hu,.tuple_int z t ht hu⟩,.int_tuple z t ht hu,.int_tuple z t ht hu,.int_tuple z t ht hu⟩
 | str z=>obtain⟨t,rfl⟩:=rv;exact⟨⟨.tuple_str z t ht hu,.tuple_str z t ht hu,.tuple_str z t ht hu⟩,.str_tuple z t ht hu,.str_tuple z t ht hu,.str_tuple z t ht hu⟩
 | _=>cases fb
theorem qr {A:Around} {b:D} {y:V} {v:Value} {p:Addr} {its:Array Value} {K:PySem.W.Frag} (ht:s.heap.IsList p its) (hu:A.units<cLine) (rb:aE K g α H b y) (rv:RelV y v) (fb:qf b=true) :
  (EqAt A s (.ref p) v false/\RcAt A s (.ref p) v false/\RcNeAt A s (.ref p) v true)/\(EqAt A s v (.ref p) false/\RcAt A s v (.ref p) false/\RcNeAt A s v (.ref p) true):=by
 cases rb with
 | non=>cases rv;exact⟨⟨.list_none ht hu,.list_none ht hu,.list_none ht hu⟩,.none_list ht hu,.none_list ht hu,.none_list ht hu⟩
 | bl z=>cases rv;exact⟨⟨.list_bool z ht hu,.list_bool z ht hu,.list_bool z ht hu⟩,.bool_list z ht hu,.bool_list z ht hu,.bool_list z ht hu⟩
 | int z=>obtain⟨t,rfl⟩:=rv;exact⟨⟨.list_int z t ht hu,.list_int z t ht hu,.list_int z t ht hu⟩,.int_list z t ht hu,.int_list z t ht hu,.int_list z t ht hu⟩
 | str z=>obtain⟨t,rfl⟩:=rv;exact⟨⟨.list_str z t ht hu,.list_str z t ht hu,.list_str z t ht hu⟩,.str_list z t ht hu,.str_list z t ht hu,.str_list z t ht hu⟩
 | _=>cases fb
theorem pS {A:Around} {k:Nat} {ds es:List D} {vs us:List V} {its jts:List Value} {c:Bool} (r:aS X.K g α H h)
  (ih:∀(a b:D) (x y:V) (u v:Value) (c:Bool),aE X.K g α H a x->aE X.K g α H b y->RelV x u->RelV y v->eqD k h a b=some c->EqAt A.in1 s u v c)
  (rs:au X.K g α H ds vs) (rt:au X.K g α H es us) (rv:Vals vs its) (ru:Vals us jts) (e:eqL (eqD k h) ds es=some c) :
  (∀j (h1:j<its.toArray.size) (h2:j<jts.toArray.size),EqAt A.in1 s its.toArray[j] jts.toArray[j] ((fun(j:Nat)=>(eqD k h (ds.getD j .non) (es.getD j .non)).getD false) j)) ∧
  c=((List.range (min its.toArray.size jts.toArray.size)).all (fun(j:Nat)=>(eqD k h (ds.getD j .non) (es.getD j .non)).getD false)&&its.toArray.size == jts.toArray.size):=by
 obtain⟨q1,q2⟩:=sZ e
 have l1:its.toArray.size=ds.length:=by rw[List.size_toArray,<- rv.length,rs.length]
 have l2:jts.toArray.size=es.length:=by rw[List.size_toArray,<- ru.length,rt.length]
 refine⟨fun j h1 h2=>?_,by rw[l1,l2];exact q2⟩
 have hd:ds[j]?=some (ds.getD j .non):=by rw[List.getD_eq_getElem?_getD,List.getElem?_eq_getElem (by omega)];rfl
 have he:es[j]?=some (es.getD j .non):=by rw[List.getD_eq_getElem?_getD,List.getElem?_eq_getElem (by omega)];rfl
 obtain⟨b,hb⟩:=q1 j _ _ hd he
 obtain⟨x,hx,rx⟩:=rs.get hd
 obtain⟨y,hy,ry⟩:=rt.get he
 obtain⟨u,hu,rxu⟩:=rv.get hx
 obtain⟨v,hv,ryv⟩:=ru.get hy
 have eu:its.toArray[j]=u:=by
  have:=List.getElem?_eq_getElem (l:=its) (i:=j) (by simpa using h1)
  rw[hu] at this
  simpa using(Option.some.inj this).symm
 have ev:jts.toArray[j]=v:=by
  have:=List.getElem?_eq_getElem (l:=jts) (i:=j) (by simpa using h2)
  rw[hv] at this
  simpa using(Option.some.inj this).symm
 rw[eu,ev]
 show EqAt A.in1 s u v ((eqD k h (ds.getD j .non) (es.getD j .non)).getD false)
 rw[hb]
 exact ih _ _ _ _ _ _ _ rx ry rxu ryv hb
theorem sY (I:Inv X pins σ H s) {p:Addr} {vs us:List V} (a:SqT X.K H p vs) (b:SqL X.K H p us):False:=by
 obtain⟨its,r1,⟨o,e,c,_⟩,_⟩:=I.tuple a
 obtain⟨jts,r2,⟨o',n',e',c',_⟩,_⟩:=I.list b
 rw[e] at e';cases e';rw[c] at c';injection c' with z;exact absurd z (by decide)
theorem k7 (I:Inv X pins σ H s) (r:aS X.K g α H h):∀(k:Nat) (a b:D) (x:V) (c:Bool),aE X.K g α H a x->aE X.K g α H b x->eqD k h a b=some c->c=true
 | 0,_,_,_,_,_,_,e=>by cases e
 | k+1,a,b,x,c,ra,rb,e=>by
  unfold eqD at e
  cases ea:vw a h with
  | no=>simp[ea] at e
  | fl=>
   have fa:=j_ ra ea
   cases eb:vw b h with
   | no=>simp[ea,eb] at e
   | fl=>
    simp only[ea,eb] at e
    cases e
    have fb:=j_ rb eb
    cases ra with
    | non=>cases rb with
     | non=>rfl
    | bl z=>cases rb with
     | bl _=>simp[eqF]
    | int z=>cases rb with
     | int _=>simp[eqF]
    | str z=>cases rb with
     | str _=>simp[eqF]
    | _=>cases fa
   | tp ds=>obtain⟨p,vs,rfl,_⟩:=kh rb eb;cases ra<;>cases fa
   | ls ds=>obtain⟨p,vs,rfl,_⟩:=j6 r rb eb;cases ra<;>cases fa
  | tp da=>
   obtain⟨p,va,rfl,hp,rs⟩:=kh ra ea
   cases eb:vw b h with
   | no=>simp[ea,eb] at e
   | fl=>have fb:=j_ rb eb;cases rb<;>cases fb
   | tp db=>
    simp only[ea,eb] at e
    obtain⟨q,vb,hpq,hq,rt⟩:=kh rb eb
    cases hpq
    have:=I.nW hp hq
    subst this
    exact lY (fun a b x c=>k7 I r k a b x c) rs rt e
   | ls db=>
    obtain⟨q,vb,hpq,hq,rt⟩:=j6 r rb eb
    cases hpq
    exact(sY I hp hq).elim
  | ls da=>
   obtain⟨p,va,rfl,hp,rs⟩:=j6 r ra ea
   cases eb:vw b h with
   | no=>simp[ea,eb] at e
   | fl=>have fb:=j_ rb eb;cases rb<;>cases fb
   | tp db=>
    obtain⟨q,vb,hpq,hq,rt⟩:=kh rb eb
    cases hpq
    exact(sY I hq hp).elim
   | ls db=>
    simp only[ea,eb] at e
    obtain⟨q,vb,hpq,hq,rt⟩:=j6 r rb eb
    cases hpq
    have:=I.lO hp hq
    subst this
    rw[if_pos (by rw[rs.length,rt.length])] at e
    exact lY (fun a b x c=>k7 I r k a b x c) rs rt e
theorem rK (I:Inv X pins σ H s) (r:aS X.K g α H h):∀(k:Nat) (A:Around) (a b:D) (x y:V) (u v:Value) (c:Bool),A.units+k<cLine->aE X.K g α H a x->aE X.K g α H b y->RelV x u->RelV y v->eqD k h a b=some c →
  EqAt A s u v c/\RcAt A s u v c/\RcNeAt A s u v (!c)
 | 0,_,_,_,_,_,_,_,_,_,_,_,_,_,e=>by cases e
 | k+1,A,a,b,x,y,u,v,c,hu,ra,rb,ru,rv,e=>by
  have hu0:A.units<cLine:=by omega
  have ih:∀(a b:D) (x y:V) (u v:Value) (c:Bool),aE X.K g α H a x->aE X.K g α H b y->RelV x u->RelV y v->eqD k h a b=some c->EqAt A.in1 s u v c:=
   fun a b x y u v c h1 h2 h3 h4 h5=>(rK I r k A.in1 a b x y u v c (by show A.units+1+k<_;omega) h1 h2 h3 h4 h5).1
  have whole:=fun x ra rb=>k7 I r (k+1) a b x c ra rb e
  unfold eqD at e
  cases ea:vw a h with
  | no=>simp[ea] at e
  | fl=>
   have fa:=j_ ra ea
   cases eb:vw b h with
   | no=>simp[ea,eb] at e
   | fl=>simp only[ea,eb] at e;cases e;exact zZ ra rb ru rv fa (j_ rb eb)
   | tp db=>
    simp only[ea,eb] at e;cases e
    obtain⟨q,vb,rfl,hq,rt⟩:=kh rb eb
    cases rv
    obtain⟨its,r1,ht,_⟩:=I.tuple hq
    exact(qD ht hu0 ra ru fa).2
   | ls db=>
    simp only[ea,eb] at e;cases e
    obtain⟨q,vb,rfl,hq,rt⟩:=j6 r rb eb
    cases rv
    obtain⟨its,r1,ht,_⟩:=I.list hq
    exact(qr ht.isList hu0 ra ru fa).2
  | tp da=>
   obtain⟨p,va,rfl,hp,rs⟩:=kh ra ea
   cases ru
   obtain⟨its,r1,ht,_⟩:=I.tuple hp
   cases eb:vw b h with
   | no=>simp[ea,eb] at e
   | fl=>simp only[ea,eb] at e;cases e;exact(qD ht hu0 rb rv (j_ rb eb)).1
   | tp db=>
    simp only[ea,eb] at e
    obtain⟨q,vb,rfl,hq,rt⟩:=kh rb eb
    cases rv
    obtain⟨jts,r2,ht2,_⟩:=I.tuple hq
    obtain⟨h1,h2⟩:=pS r ih rs rt r1 r2 e
    have rc:RcAt A s (.ref p) (.ref q) c:=by rw[h2];exact RcAt.tuples ht ht2 hu0 h1
    refine⟨?_,rc,by rw[h2];exact RcNeAt.tuples ht ht2 hu0 h1⟩
    by_cases hpq:p=q
    ·subst hpq
     rw[whole _ ra rb]
     exact .same _
    ·exact .of_refs hpq rc
   | ls db=>
    simp only[ea,eb] at e;cases e
    obtain⟨q,vb,rfl,hq,rt⟩:=j6 r rb eb
    cases rv
    obtain⟨jts,r2,ht2,_⟩:=I.list hq
    exact⟨.tuple_list ht ht2.isList hu0,.tuple_list ht ht2.isList hu0,.tuple_list ht ht2.isList hu0⟩
  | ls da=>
   obtain⟨p,va,rfl,hp,rs⟩:=j6 r ra ea
   cases ru
   obtain⟨its,r1,ht',_⟩:=I.list hp
   have ht:=ht'.isList
   cases eb:vw b h with
   | no=>simp[ea,eb] at e
   | fl=>simp only[ea,eb] at e;cases e;exact(qr ht hu0 rb rv (j_ rb eb)).1
   | tp db=>
    simp only[ea,eb] at e;cases e
    obtain⟨q,vb,rfl,hq,rt⟩:=kh rb eb
    cases rv
    obtain⟨jts,r2,ht2,_⟩:=I.tuple hq
    exact⟨.list_tuple ht ht2 hu0,.list_tuple ht ht2 hu0,.list_tuple ht ht2 hu0⟩
   | ls db=>
    simp only[ea,eb] at e
    obtain⟨q,vb,rfl,hq,rt⟩:=j6 r rb eb
    cases rv
    obtain⟨jts,r2,ht2',_⟩:=I.list hq
    have ht2:=ht2'.isList
    have l1:its.toArray.size=da.length:=by rw[List.size_toArray,<- r1.length,rs.length]
    have l2:jts.toArray.size=db.length:=by rw[List.size_toArray,<- r2.length,rt.length]
    have fin:RcAt A s (.ref p) (.ref q) c/\RcNeAt A s (.ref p) (.ref q) (!c):=by
     by_cases hl:da.length=db.length
     ·rw[if_pos hl] at e
      obtain⟨h1,h2⟩:=pS r ih rs rt r1 r2 e
      have hsz:its.toArray.size=jts.toArray.size:=by omega
      have h2':c=(List.range its.toArray.size).all (fun(j:Nat)=>(eqD k h (da.getD j .non) (db.getD j .non)).getD false):=by
       rw[h2,<- hsz,Nat.min_self];simp
      exact⟨by rw[h2'];exact RcAt.lists ht ht2 hsz hu0 h1,by rw[h2'];exact RcNeAt.lists ht ht2 hsz hu0 h1⟩
     ·rw[if_neg hl] at e
      have e2:c=false:=(Option.some.inj e).symm
      have hsz:(its.toArray.size != jts.toArray.size)=true:=by
       rw[l1,l2];simpa using hl
      rw[e2]
      exact⟨RcAt.lists_lengths ht ht2 hsz hu0,RcNeAt.lists_lengths ht ht2 hsz hu0⟩
    refine⟨?_,fin⟩
    by_cases hpq:p=q
    ·subst hpq
     rw[whole _ ra rb]
     exact .same _
    ·exact .of_refs hpq fin.1
noncomputable abbrev eqN:Nat:=12
noncomputable def dEq:D->D->Hh->R D:=fun a b h=>match eqD eqN h a b with
 | some c=>.ok (.bl c) h
 | none=>.bad
noncomputable def dNe:D->D->Hh->R D:=fun a b h=>match eqD eqN h a b with
 | some c=>.ok (.bl (!c)) h
 | none=>.bad
noncomputable def zp (K:PySem.W.Frag) (g:GG) (neg:Bool):R2:=fun x y H Q=>∃α h a b c,aS K g α H h/\aE K g α H a x/\aE K g α H b y/\eqD eqN h a b=some c/\Q (.bl (if neg then !c else c)) H
theorem ji (hu:X.A.units+64<cLine):OpR X (compareOp .Eq) (zp X.K g false):=by
 intro pins s σ H x y v u Q I rx ry ⟨α,h,a,b,c,r,ra,rb,e,q⟩
 exact(rK I r eqN X.A a b x y v u c (by show X.A.units+12<_;omega) ra rb rx ry e).2.1 _ _ _ _ ⟨.bl c,H,I,rfl,q⟩
theorem fY (hu:X.A.units+64<cLine):OpR X (compareOp .NotEq) (zp X.K g true):=by
 intro pins s σ H x y v u Q I rx ry ⟨α,h,a,b,c,r,ra,rb,e,q⟩
 exact(rK I r eqN X.A a b x y v u c (by show X.A.units+12<_;omega) ra rb rx ry e).2.2 _ _ _ _ ⟨.bl (!c),H,I,rfl,q⟩
theorem nG {ε:EE} {K:PySem.W.Frag}:dH K g ε dEq (zp K g false):=by
 intro α H h a b x y Q r ra rb w
 unfold dEq at w
 cases e:eqD eqN h a b with
 | none=>simp only[e] at w;exact w.elim
 | some c=>simp only[e] at w;exact⟨α,h,a,b,c,r,ra,rb,e,aA.now w r (.bl _)⟩
theorem iQ {ε:EE} {K:PySem.W.Frag}:dH K g ε dNe (zp K g true):=by
 intro α H h a b x y Q r ra rb w
 unfold dNe at w
 cases e:eqD eqN h a b with
 | none=>simp only[e] at w;exact w.elim
 | some c=>simp only[e] at w;exact⟨α,h,a,b,c,r,ra,rb,e,aA.now w r (.bl _)⟩
end
noncomputable def aZ (f:D->Option PyData):List D->Option (List PyData)
 | []=>some []
 | d::ds=>match f d,aZ f ds with
  | some p,some ps=>some (p::ps)
  | _,_=>none
noncomputable def toPy:Nat->Hh->D->Option PyData
 | 0,_,_=>none
 | k+1,h,d=>match d with
  | .non=>some .none
  | .bl b=>some (.bool b)
  | .int i=>if sml i=true then some (.int i) else none
  | .str x=>if x.cps.toList.all (fun c=>decide (c<16 ^ 8))=true then some (.str x) else none
  | .tup ds=>(aZ (toPy k h) ds).map .tuple
  | .frl ds=>(aZ (toPy k h) ds).map .list
  | .ref n=>match ay h n with
   | some ds=>(aZ (toPy k h) ds).map .list
   | none=>none
  | _=>none
structure DY (k:Nat) (d:PyData):Prop where
 sh:d.showable=true
 nd:d.hasDict=false
 dp:d.depth<=k
 lv:d.leavesShort 1921=true
structure D2 (k:Nat) (ds:List PyData):Prop where
 sh:PyData.showableAll ds=true
 nd:PyData.hasDictAll ds=false
 dp:PyData.depthAll ds<=k
 lv:PyData.leavesShortAll 1921 ds=true
section
variable {K:PySem.W.Frag} {g:GG} {α:List Addr} {H:Hp} {h:Hh}
theorem iH {f:D->Option PyData} {k:Nat} (hf:∀d x p,aE K g α H d x->f d=some p->RdD K H x p/\DY k p):∀{ds:List D} {vs:List V} {ps:List PyData},au K g α H ds vs->aZ f ds=some ps →
  D2 k ps/\vs.length=ps.length/\∀(i:Nat) x d,vs[i]?=some x->ps[i]?=some d->RdD K H x d
 | _,_,_,.nil,e=>by
  cases e
  exact⟨⟨by simp[PyData.showableAll],by simp[PyData.hasDictAll],by simp[PyData.depthAll],by simp[PyData.leavesShortAll]⟩,rfl,fun i x d h=>by simp at h⟩
 | _,_,_,.cons r t,e=>by
  unfold aZ at e
  split at e
  ·rename_i p ps h1 h2
   cases e
   obtain⟨a1,a2⟩:=hf _ _ _ r h1
   obtain⟨b1,b2,b3⟩:=iH hf t h2
   refine⟨⟨by rw[PyData.showableAll,a2.sh,b1.sh];rfl,by rw[PyData.hasDictAll,a2.nd,b1.nd];rfl,by rw[PyData.depthAll];exact Nat.max_le.mpr ⟨a2.dp,b1.dp⟩,by rw[PyData.leavesShortAll,a2.lv,b1.lv];rfl⟩,by simp[b2],fun i x d hx hd=>?_⟩
   cases i with
   | zero=>simp at hx hd;subst hx hd;exact a1
   | succ i=>exact b3 i x d (by simpa using hx) (by simpa using hd)
  ·cases e
theorem kQ (r:aS K g α H h):∀(k:Nat) (d:D) (x:V) (p:PyData),aE K g α H d x->toPy k h d=some p->RdD K H x p/\DY k p
 | 0,_,_,_,_,e=>by cases e
 | k+1,d,x,p,rd,e=>by
  unfold toPy at e
  cases rd with
  | non=>cases e;exact⟨.non,by simp[PyData.showable],by simp[PyData.hasDict],by simp[PyData.depth],by simp[PyData.leavesShort]⟩
  | bl b=>cases e;exact⟨.bl b,by simp[PyData.showable],by simp[PyData.hasDict],by simp[PyData.depth],by simp[PyData.leavesShort]⟩
  | int i=>
   simp only at e
   split at e
   ·rename_i hs
    cases e
    have hl:i.natAbs.log2<1920:=Nat.lt_trans (gX hs) (by decide)
    exact⟨.int i,by simp[PyData.showable,hl],by simp[PyData.hasDict],by simp[PyData.depth],by simp only[PyData.leavesShort,decide_eq_true_eq];exact int_text_len_1921 hl⟩
   ·cases e
  | str z=>
   simp only at e
   split at e
   ·rename_i hs
    cases e
    exact⟨.str z,by simp[PyData.showable],by simp[PyData.hasDict],by simp[PyData.depth],by simpa only[PyData.leavesShort] using hs⟩
   ·cases e
  | tup hp rs=>
   simp only at e
   cases e1:aZ (toPy k h) _ with
   | none=>rw[e1] at e;cases e
   | some ps=>
    rw[e1] at e
    cases e
    obtain⟨b1,b2,b3⟩:=iH (fun d x p=>kQ r k d x p) rs e1
    exact⟨.tup (SqT.of hp) b2 b3,by rw[PyData.showable];exact b1.sh,by rw[PyData.hasDict];exact b1.nd,by rw[PyData.depth];exact Nat.succ_le_succ b1.dp,by rw[PyData.leavesShort];exact b1.lv⟩
  | @ref n p hp=>
   simp only at e
   cases el:ay h n with
   | none=>rw[el] at e;cases e
   | some ds=>
    rw[el] at e
    simp only at e
    obtain⟨vs,hv,rs⟩:=r.lst el hp
    cases e1:aZ (toPy k h) ds with
    | none=>rw[e1] at e;cases e
    | some ps=>
     rw[e1] at e
     cases e
     obtain⟨b1,b2,b3⟩:=iH (fun d x p=>kQ r k d x p) rs e1
     exact⟨.lst (SqL.of hv) b2 b3,by rw[PyData.showable];exact b1.sh,by rw[PyData.hasDict];exact b1.nd,by rw[PyData.depth];exact Nat.succ_le_succ b1.dp,by rw[PyData.leavesShort];exact b1.lv⟩
  | frl hp rs=>
   simp only at e
   cases e1:aZ (toPy k h) _ with
   | none=>rw[e1] at e;cases e
   | some ps=>
    rw[e1] at e
    cases e
    obtain⟨b1,b2,b3⟩:=iH (fun d x p=>kQ r k d x p) rs e1
    exact⟨.lst hp.sq b2 b3,by rw[PyData.showable];exact b1.sh,by rw[PyData.hasDict];exact b1.nd,by rw[PyData.depth];exact Nat.succ_le_succ b1.dp,by rw[PyData.leavesShort];exact b1.lv⟩
  | fn _=>cases e
  | edic _=>cases e
  | exc _ _ _ _ _=>cases e
  | scr _ _=>cases e
end
noncomputable def eH (d:D) (h:Hh):R D:=match toPy 12 h d with
 | some p=>if p.bulk<=8000 then .ok (.str p.shown) h else .bad
 | none=>.bad
noncomputable def ka:List D->Hh->R D:=fun ds h=>match ds with
 | [.int i]=>if sml i=true then .ok (.str (toString i)) h else .bad
 | [.tup ds]=>eH (.tup ds) h
 | [.ref n]=>eH (.ref n) h
 | [.frl ds]=>eH (.frl ds) h
 | _=>.bad
section
variable {X:Cx} {K:PySem.W.Frag} {g:GG} {ε:EE}
noncomputable abbrev n9 (K:PySem.W.Frag):List V->Hp->VK->Prop:=fun vs H Q=>(∃p d,vs=[.ref p]/\RdD K H (.ref p) d/\d.showable=true/\d.hasDict=false/\d.depth<=60/\d.shown.length<=sizeLine/\Q (.str d.shown) H)\/∃i,vs=[.int i]/\i.natAbs.log2<1920/\Q (.str (toString i)) H
theorem zG (hg:X.A.guards=some []) (hu:X.A.units+64<cLine):aP X (.builtin "repr") (n9 X.K):=aP.or (uR hg hu) qY
theorem Aq:hJ K g ε ka (n9 K):=by
 intro α H h a x Q r ra w
 unfold ka at w
 cases ra with
 | nil=>exact w.elim
 | cons rd rr=>
  cases rr with
  | cons _ _=>cases rd<;>exact w.elim
  | nil=>
   have gen:∀{d:D} {v:V},aE K g α H d v->(∃p,v=.ref p)->WQ K g ε α H (eH d h) (aA K g α H Q)->n9 K [v] H Q:=by
    intro d v rd ⟨p,hp⟩ w
    subst hp
    unfold eH at w
    cases e:toPy 12 h d with
    | none=>simp only[e] at w;exact w.elim
    | some pd=>
     simp only[e] at w
     obtain⟨hb,w⟩:=WQ.b_ w
     obtain⟨q1,q2⟩:=kQ r 12 d _ pd rd e
     have:=PyData.shown_le_bulk 1921 (by decide) pd q2.lv
     exact .inl ⟨p,pd,rfl,q1,q2.sh,q2.nd,Nat.le_trans q2.dp (by decide),by rw[sizeLine_eq];omega,aA.now w r (.str _)⟩
   cases rd with
   | int i=>
    obtain⟨hs,w⟩:=WQ.b_ w
    exact .inr ⟨i,rfl,Nat.lt_trans (gX hs) (by decide),aA.now w r (.str _)⟩
   | tup hp rs=>exact gen (.tup hp rs) ⟨_,rfl⟩ w
   | ref hp=>exact gen (.ref hp) ⟨_,rfl⟩ w
   | frl hp rs=>exact gen (.frl hp rs) ⟨_,rfl⟩ w
   | _=>exact w.elim
noncomputable def c0:List D->Hh->R D:=fun ds h=>match ds with
 | [.tup ds]=>.ok (.int ds.length) h
 | [.frl ds]=>.ok (.int ds.length) h
 | [.scr ds]=>.ok (.int ds.length) h
 | [.str x]=>if x.length<=1000000 then .ok (.int x.length) h else .bad
 | [.ref n]=>match h[n]? with
  | some (.lst ds)=>.ok (.int ds.length) h
  | some (.set k)=>.ok (.int k.length) h
  | _=>.bad
 | _=>.bad
noncomputable abbrev A2 (K:PySem.W.Frag):List V->Hp->VK->Prop:=fun xs H Q=>(∃p ys,xs=[.ref p]/\(SqL K H p ys\/SqT K H p ys)/\Q (.int ys.length) H)\/(∃p S n,xs=[.ref p]/\H p=some (.set S n)/\Q (.int n) H)\/∃z,xs=[.str z]/\z.length<=sizeLine/\Q (.int z.length) H
theorem eJ:aP X (.builtin "len") (A2 X.K):=aP.or pq (aP.or mL oX)
theorem mE {α:List Addr} {H:Hp} {h:Hh} {ds:List D} {vs:List V} {f:List D->Hh->R D} {Q:VK} (hf:∀d e r h,f (d::e::r) h=.bad) (hf0:∀h,f [] h=.bad) (rs:au K g α H ds vs) (w:WQ K g ε α H (f ds h) (aA K g α H Q)):∃d v,ds=[d]/\vs=[v]/\aE K g α H d v:=by
 cases rs with
 | nil=>rw[hf0] at w;exact w.elim
 | cons r t=>
  cases t with
  | nil=>exact⟨_,_,rfl,rfl,r⟩
  | cons _ _=>rw[hf] at w;exact w.elim
theorem eI:hJ K g ε c0 (A2 K):=by
 intro α H h a x Q r ra w
 obtain⟨d,v,rfl,rfl,rd⟩:=mE (f:=c0) (fun d _ _ _=>by cases d<;>rfl) (fun _=>rfl) ra w
 unfold c0 at w
 cases rd with
 | tup hp rs=>exact .inl ⟨_,_,rfl,.inr (SqT.of hp),aA.now w r (by rw[<- rs.length];exact .int _)⟩
 | frl hp rs=>exact .inl ⟨_,_,rfl,.inl hp.sq,aA.now w r (by rw[<- rs.length];exact .int _)⟩
 | scr hp rs=>exact .inl ⟨_,_,rfl,.inl hp.sq,aA.now w r (by rw[<- rs.length];exact .int _)⟩
 | str z=>
  obtain⟨hl,w⟩:=WQ.b_ w
  exact .inr (.inr ⟨z,rfl,e_ hl,aA.now w r (.int _)⟩)
 | @ref n p hp=>
  simp only at w
  cases e:h[n]? with
  | none=>rw[e] at w;exact w.elim
  | some o=>
   rw[e] at w
   have q:=r.here n p o hp e
   cases o with
   | lst ds=>obtain⟨vs,hv,rs⟩:=q;exact .inl ⟨p,vs,rfl,.inl (SqL.of hv),aA.now w r (by rw[<- rs.length];exact .int _)⟩
   | set k=>exact .inr (.inl ⟨p,_,_,rfl,q,aA.now w r (.int _)⟩)
   | dic k=>exact w.elim
   | dit k=>exact w.elim
 | _=>exact w.elim
noncomputable def dList (nl:NL):List D->Hh->R D:=fun ds h=>match ds with
 | [d]=>match mB d h with
  | some xs=>nl xs h
  | none=>.bad
 | _=>.bad
theorem yV {nl:NL} [iz nl]:hJ K g ε (dList nl) (fun xs H Q=>∃p ys,xs=[.ref p]/\(SqL K H p ys\/SqT K H p ys)/\∀l,H l=none->g_ Q (.ref l) (upd H l (.lst ys))):=by
 intro α H h a x Q r ra w
 obtain⟨d,v,rfl,rfl,rd⟩:=mE (f:=dList nl) (fun _ _ _ _=>rfl) (fun _=>rfl) ra w
 unfold dList at w
 simp only at w
 cases e:mB d h with
 | none=>rw[e] at w;exact w.elim
 | some ds=>
  rw[e] at w
  obtain⟨p,vs,rfl,hq,rs⟩:=tS r rd e
  exact⟨p,vs,rfl,hq,fun l hl=>NL.post w r rs hl⟩
noncomputable def eF:List D->Hh->R D:=fun ds h=>match ds with
 | [.tup ds]=>.ok (.tup ds) h
 | [.frl ds]=>.ok (.tup ds) h
 | [.ref n]=>match ay h n with
  | some ds=>.ok (.tup ds) h
  | none=>.bad
 | _=>.bad
theorem iO:hJ K g ε eF (fun xs H Q=>∃p ys,xs=[.ref p]/\((SqL K H p ys/\∀l,H l=none->Q (.ref l) (upd H l (.tup ys)))\/(SqT K H p ys/\Q (.ref p) H))):=by
 intro α H h a x Q r ra w
 obtain⟨d,v,rfl,rfl,rd⟩:=mE (f:=eF) (fun d _ _ _=>by cases d<;>rfl) (fun _=>rfl) ra w
 unfold eF at w
 cases rd with
 | tup hp rs=>exact⟨_,_,rfl,.inr ⟨SqT.of hp,aA.now w r (.tup hp rs)⟩⟩
 | frl hp rs=>exact⟨_,_,rfl,.inl ⟨hp.sq,fun l hl=>aA.tup w r rs hl⟩⟩
 | @ref n p hp=>
  simp only at w
  cases e:ay h n with
  | none=>rw[e] at w;exact w.elim
  | some ds=>
   rw[e] at w
   obtain⟨vs,hv,rs⟩:=r.lst e hp
   exact⟨p,vs,rfl,.inl ⟨SqL.of hv,fun l hl=>aA.tup w r rs hl⟩⟩
 | _=>exact w.elim
noncomputable def intsOf:List D->Option (List Int)
 | []=>some []
 | .int i::ds=>(intsOf ds).map (i::·)
 | _::_=>none
theorem j8:∀{ds:List D} {ns:List Int},intsOf ds=some ns->ds=ns.map D.int
 | [],ns,e=>by cases e;rfl
 | .int i::ds,ns,e=>by
  unfold intsOf at e
  cases e1:intsOf ds with
  | none=>rw[e1] at e;cases e
  | some ms=>rw[e1] at e;cases e;rw[j8 e1];rfl
 | .non::_,_,e=>by cases e
 | .bl _::_,_,e=>by cases e
 | .str _::_,_,e=>by cases e
 | .tup _::_,_,e=>by cases e
 | .frl _::_,_,e=>by cases e
 | .ref _::_,_,e=>by cases e
 | .fn _::_,_,e=>by cases e
 | .edic::_,_,e=>by cases e
 | .exc _ _::_,_,e=>by cases e
 | .scr _::_,_,e=>by cases e
theorem lM:∀(ns:List Int),intsOf (ns.map D.int)=some ns
 | []=>rfl
 | n::r=>by rw[List.map_cons,intsOf,lM r];rfl
noncomputable def qs:List D->Hh->R D:=fun ds h=>match ds with
 | [.tup ds]=>match intsOf ds with
  | some ns=>if ns.length<=4000 then .ok (.ref h.length) (h++[.set (unl ns)]) else .bad
  | none=>.bad
 | _=>.bad
theorem CC:hJ K g ε qs (fun vs H Q=>∃p ns,vs=[.ref p]/\SqT K H p (ns.map V.int)/\ns.length+1<scanBound/\∀l,H l=none->Q (.ref l) (upd H l (.set (fun k=>(unl ns).any (· == k)) (unl ns).length))):=by
 intro α H h a x Q r ra w
 obtain⟨d,v,rfl,rfl,rd⟩:=mE (f:=qs) (fun d _ _ _=>by cases d<;>rfl) (fun _=>rfl) ra w
 unfold qs at w
 cases rd with
 | tup hp rs=>
  simp only at w
  cases e:intsOf _ with
  | none=>rw[e] at w;exact w.elim
  | some ns=>
   rw[e] at w
   obtain⟨hl,w⟩:=WQ.b_ w
   have e2:=j8 e
   subst e2
   have e3:=rs.AG
   subst e3
   refine⟨_,ns,rfl,SqT.of hp,by show ns.length+1<4096;omega,fun l hn=>?_⟩
   refine(show aA K g α H Q _ _ from w) _ _ (α++[l]) (Ext.push hn) (r.push hn aL) (.ref ?_)
   rw[<- r.len,List.getElem?_append_right (Nat.le_refl _)];simp
 | _=>exact w.elim
noncomputable def vZ:List D->Hh->R D:=fun ds h=>match ds with
 | [.int i,.int j]=>.ok (.int (if j > i then j else i)) h
 | _=>.bad
theorem wV {α:List Addr} {H:Hp} {h:Hh} {ds:List D} {vs:List V} {t:Int->Int->Int} {Q:VK} (r:aS K g α H h) (rs:au K g α H ds vs) (w:WQ K g ε α H (match ds with | [.int i,.int j]=>.ok (.int (t i j)) h | _=>.bad) (aA K g α H Q)):∃i j,vs=[.int i,.int j]/\Q (.int (t i j)) H:=by
 split at w
 ·cases rs with
  | cons r1 t1=>
   cases r1
   cases t1 with
   | cons r2 t2=>
    cases r2
    cases t2
    exact⟨_,_,rfl,aA.now w r (.int _)⟩
 ·exact w.elim
theorem zH:hJ K g ε vZ (fun xs H Q=>∃i j,xs=[.int i,.int j]/\Q (.int (if j > i then j else i)) H):=fun α H h a x Q r ra w=>wV (t:=fun i j=>if j > i then j else i) r ra w
noncomputable def yA:List D->Hh->R D:=fun ds h=>match ds with
 | [.int i]=>.ok (.int i) h
 | [.bl b]=>.ok (.int (if b then 1 else 0)) h
 | _=>.bad
theorem BH:hJ K g ε yA (fun xs H Q=>(∃i,xs=[.int i]/\Q (.int i) H)\/∃k,xs=[.bl k]/\Q (.int (if k then 1 else 0)) H):=by
 intro α H h a x Q r ra w
 obtain⟨d,v,rfl,rfl,rd⟩:=mE (f:=yA) (fun d _ _ _=>by cases d<;>rfl) (fun _=>rfl) ra w
 unfold yA at w
 cases rd with
 | int i=>exact .inl ⟨i,rfl,aA.now w r (.int _)⟩
 | bl b=>exact .inr ⟨b,rfl,aA.now w r (.int _)⟩
 | _=>exact w.elim
noncomputable def tyD (d:D) (h:Hh):Option String:=match d with
 | .non=>some "NoneType"
 | .bl _=>some "bool"
 | .int _=>some "int"
 | .str _=>some "str"
 | .tup _=>some "tuple"
 | .frl _=>some "list"
 | .edic=>some "dict"
 | .ref n=>match h[n]? with
  | some (.lst _)=>some "list"
  | some (.dic _)=>some "dict"
  | some (.dit _)=>some "dict"
  | _=>none
 | _=>none
noncomputable def sX (t n:String):Option Bool:=
 if n="int" then (if t="int" then some true else if t="bool" then some true else if t="NoneType" \/ t="str" \/ t="tuple" \/ t="list" \/ t="dict" then some false else none)
 else if n="bool" \/ n="tuple" \/ n="list" \/ n="str" then (if t=n then some true else if t="int" \/ t="bool" \/ t="NoneType" \/ t="str" \/ t="tuple" \/ t="list" \/ t="dict" then some false else none)
 else none
noncomputable def ir (n:String):D->Hh->R D:=fun d h=>match tyD d h with
 | some t=>match sX t n with
  | some b=>.ok (.bl b) h
  | none=>.bad
 | none=>.bad
theorem D5 {α:List Addr} {H:Hp} {h:Hh} {d:D} {v:V} {t:String} (r:aS K g α H h) (rd:aE K g α H d v) (e:tyD d h=some t):iF K H v (.type t):=by
 unfold tyD at e
 cases rd with
 | non=>cases e;exact .non
 | bl b=>cases e;exact .bl b
 | int i=>cases e;exact .int i
 | str i=>cases e;exact .str i
 | tup hp rs=>cases e;exact .tup hp
 | frl hp rs=>cases e;obtain⟨o,hp⟩:=hp;exact .frz hp
 | edic hp=>cases e;exact .fk hp
 | @ref n p hp=>
  simp only at e
  cases eo:h[n]? with
  | none=>rw[eo] at e;cases e
  | some o=>
   rw[eo] at e
   have q:=r.here n p o hp eo
   cases o with
   | lst ds=>cases e;obtain⟨vs,hv,_⟩:=q;exact .lst hv
   | set k=>cases e
   | dic k=>cases e;obtain⟨vs,hv,_⟩:=q;exact .dK hv
   | dit k=>cases e;obtain⟨vs,hv,_⟩:=q;exact .dT hv
 | _=>cases e
theorem zM (K:PySem.W.Frag):PySem.W.kitOne K (.type "int") (.type "int")=some true/\PySem.W.kitOne K (.type "bool") (.type "int")=some true/\PySem.W.kitOne K (.type "NoneType") (.type "int")=some false/\PySem.W.kitOne K (.type "str") (.type "int")=some false
  /\ PySem.W.kitOne K (.type "tuple") (.type "int")=some false/\PySem.W.kitOne K (.type "list") (.type "int")=some false/\PySem.W.kitOne K (.type "dict") (.type "int")=some false:=⟨rfl,rfl,rfl,rfl,rfl,rfl,rfl⟩
theorem yF (K:PySem.W.Frag):PySem.W.kitOne K (.type "int") (.type "bool")=some false/\PySem.W.kitOne K (.type "bool") (.type "bool")=some true/\PySem.W.kitOne K (.type "NoneType") (.type "bool")=some false/\PySem.W.kitOne K (.type "str") (.type "bool")=some false
  /\ PySem.W.kitOne K (.type "tuple") (.type "bool")=some false/\PySem.W.kitOne K (.type "list") (.type "bool")=some false/\PySem.W.kitOne K (.type "dict") (.type "bool")=some false:=⟨rfl,rfl,rfl,rfl,rfl,rfl,rfl⟩
theorem kit_tuple (K:PySem.W.Frag):PySem.W.kitOne K (.type "int") (.type "tuple")=some false/\PySem.W.kitOne K (.type "bool") (.type "tuple")=some false/\PySem.W.kitOne K (.type "NoneType") (.type "tuple")=some false/\PySem.W.kitOne K (.type "str") (.type "tuple")=some false
  /\ PySem.W.kitOne K (.type "tuple") (.type "tuple")=some true/\PySem.W.kitOne K (.type "list") (.type "tuple")=some false/\PySem.W.kitOne K (.type "dict") (.type "tuple")=some false:=⟨rfl,rfl,rfl,rfl,rfl,rfl,rfl⟩
theorem wG (K:PySem.W.Frag):PySem.W.kitOne K (.type "int") (.type "list")=some false/\PySem.W.kitOne K (.type "bool") (.type "list")=some false/\PySem.W.kitOne K (.type "NoneType") (.type "list")=some false/\PySem.W.kitOne K (.type "str") (.type "list")=some false
  /\ PySem.W.kitOne K (.type "tuple") (.type "list")=some false/\PySem.W.kitOne K (.type "list") (.type "list")=some true/\PySem.W.kitOne K (.type "dict") (.type "list")=some false:=⟨rfl,rfl,rfl,rfl,rfl,rfl,rfl⟩
theorem Ak (K:PySem.W.Frag):PySem.W.kitOne K (.type "int") (.type "str")=some false/\PySem.W.kitOne K (.type "bool") (.type "str")=some false/\PySem.W.kitOne K (.type "NoneType") (.type "str")=some false/\PySem.W.kitOne K (.type "str") (.type "str")=some true
  /\ PySem.W.kitOne K (.type "tuple") (.type "str")=some false/\PySem.W.kitOne K (.type "list") (.type "str")=some false/\PySem.W.kitOne K (.type "dict") (.type "str")=some false:=⟨rfl,rfl,rfl,rfl,rfl,rfl,rfl⟩
theorem BF {t n:String} {b:Bool} (e:sX t n=some b):PySem.W.kitOne K (.type t) (.type n)=some b:=by
 unfold sX at e
 obtain⟨a1,a2,a3,a4,a5,a6,a7⟩:=zM K
 obtain⟨b1,b2,b3,b4,b5,b6,b7⟩:=yF K
 obtain⟨c1,c2,c3,c4,c5,c6,c7⟩:=kit_tuple K
 obtain⟨d1,d2,d3,d4,d5,d6,d7⟩:=wG K
 obtain⟨e1,e2,e3,e4,e5,e6,e7⟩:=Ak K
 split at e
 ·rename_i hn;subst hn
  split at e
  ·rename_i h;subst h;cases e;exact a1
  ·split at e
   ·rename_i h;subst h;cases e;exact a2
   ·split at e
    ·rename_i h;cases e;rcases h with rfl | rfl | rfl | rfl | rfl<;>assumption
    ·cases e
 ·split at e
  ·rename_i hn
   split at e
   ·rename_i h;subst h;cases e;rcases hn with rfl | rfl | rfl | rfl<;>assumption
   ·rename_i hne
    split at e
    ·rename_i h;cases e;rcases hn with rfl | rfl | rfl | rfl<;>rcases h with rfl | rfl | rfl | rfl | rfl | rfl | rfl<;>first | assumption | exact absurd rfl hne
    ·cases e
  ·cases e
theorem lQ {e:Expr} {me:ME} {n:String} {x:Str} {p1 p2 pos:Pos} (he:PE X e (tM X.K g ε me)) (hg:Gl X "isinstance") (hm:X.mg "isinstance" = none) (hg2:Gl X x) (hm2:X.mg x=none) (hb:bootBuiltins x=some (.type n)) (hn:x≠"__name__" := by decide) (hd:(x == ("__debug__" : Str))=false:=by decide)
  (hs1:starEach [e,.Name x p2] X.env=(false,eval e X.env)::starEach [.Name x p2] X.env:=by rfl) (hs2:starEach [.Name x p2] X.env=[(false,eval (.Name x p2) X.env)]:=by rfl) (hpl:(backTo pos (starEach [.Name x p2] X.env)).any (·.1)=false:=by rfl) :
  PE X (.Call (.Name "isinstance" p1) [e,.Name x p2] [] pos) (tM X.K g ε (cUn (ir n) me)):=
 PE.imp (ja qb hg hm PyProof.Rows.boot_isinstance (c_ he (c_ (tO (v:=.ty n) hg2 hm2 hb rfl hn hd) gS hs2) hs1) (by decide) (by decide) hs1 hpl) fun σ H Q ⟨α,env,h,s,w⟩=>tM.use s w.bind fun d1 h1 v1 H1 α1 e1 s1 r1 w1=>by
  unfold ir at w1
  cases et:tyD d1 h1 with
  | none=>simp only[et] at w1;exact w1.elim
  | some t=>
   simp only[et] at w1
   cases es:sX t n with
   | none=>simp only[es] at w1;exact w1.elim
   | some b=>
    simp only[es] at w1
    exact⟨v1,.type t,n,b,rfl,D5 s1.heap r1 et,BF es,aA.now (aA.ext e1 w1) s1.heap (.bl b)⟩
end
section
variable {X:Cx} {K:PySem.W.Frag} {g:GG} {ε:EE}
noncomputable def fN:D->Hh->R Bool:=fun d h=>match d with
 | .non=>.ok false h
 | .bl b=>.ok b h
 | .int i=>.ok (i != 0) h
 | .tup ds=>.ok (!ds.isEmpty) h
 | .frl ds=>.ok (!ds.isEmpty) h
 | .ref n=>match ay h n with
  | some ds=>.ok (!ds.isEmpty) h
  | none=>.bad
 | _=>.bad
theorem au.isEmpty {α:List Addr} {H:Hp} {ds:List D} {vs:List V} (r:au K g α H ds vs):ds.isEmpty=vs.isEmpty:=by cases r<;>rfl
theorem dM:Ds K g ε fN (fun x H Q=>∃k,zg K x H k/\Q k H):=by
 intro α H h a x Q r ra w
 unfold fN at w
 have now:∀{b:Bool},kd K g α H Q b h->Q b H:=fun p=>p H α Ext.refl r
 cases ra with
 | non=>exact⟨false,rfl,now w⟩
 | bl b=>exact⟨b,rfl,now w⟩
 | int i=>exact⟨_,rfl,now w⟩
 | tup hp rs=>exact⟨_,.inr (.inl ⟨_,SqT.of hp,rfl⟩),now (by rw[<- rs.isEmpty];exact w)⟩
 | frl hp rs=>exact⟨_,.inl ⟨_,hp.sq,rfl⟩,now (by rw[<- rs.isEmpty];exact w)⟩
 | @ref n p hp=>
  simp only at w
  cases e:ay h n with
  | none=>rw[e] at w;exact w.elim
  | some ds=>
   rw[e] at w
   obtain⟨vs,hv,rs⟩:=r.lst e hp
   exact⟨_,.inl ⟨vs,SqL.of hv,rfl⟩,now (by rw[<- rs.isEmpty];exact w)⟩
 | _=>exact w.elim
noncomputable def mF:List D->Option (List D)
 | [.int j]=>if j.natAbs<=1000000 then some (cn 0 j.toNat) else none
 | [.int i,.int j]=>if (i.natAbs<=1000000/\j.natAbs<=1000000)/\(j - i).toNat<=1000000 then some (cn i (j - i).toNat) else none
 | _=>none
noncomputable def jQ (nl:NL):List D->Hh->R D:=fun ds h=>match mF ds with
 | some xs=>nl xs h
 | none=>.bad
noncomputable def nz:List D->Hh->R D:=fun ds h=>match mF ds with
 | some xs=>.ok (.tup xs) h
 | none=>.bad
theorem pD (lo:Int) (n:Nat) {α:List Addr} {H:Hp}:au K g α H (cn lo n) ((oM lo 1 n).map V.int):=by
 have e:cn lo n=(oM lo 1 n).map D.int:=by
  unfold cn oM
  rw[List.map_map]
  apply List.map_congr_left
  intro i _
  simp
 rw[e]
 exact au.ints _
theorem tH {α:List Addr} {H:Hp} {ds:List D} {vs:List V} {xs:List D} (r:au K g α H ds vs) (e:mF ds=some xs) :
  (∃j,vs=[.int j]/\la 0 j 1 j.toNat/\xs=cn 0 j.toNat)\/∃i j,vs=[.int i,.int j]/\la i j 1 (j - i).toNat/\xs=cn i (j - i).toNat:=by
 unfold mF at e
 split at e
 ·rename_i j
  split at e
  ·rename_i hj
   cases e
   cases r with
   | cons r1 t=>
    cases r1
    cases t
    refine .inl ⟨j,rfl,?_,rfl⟩
    have:=yw (a:=0) (b:=j) (by omega) (by omega) (by omega) (by omega) (by omega)
    rw[Int.sub_zero] at this
    exact this
  ·cases e
 ·rename_i i j
  split at e
  ·rename_i hj
   cases e
   cases r with
   | cons r1 t=>
    cases r1
    cases t with
    | cons r2 t=>
     cases r2
     cases t
     exact .inr ⟨i,j,rfl,yw (by omega) (by omega) (by omega) (by omega) (by omega),rfl⟩
  ·cases e
 ·cases e
theorem w_:aP X (.type "range") (fun vs H Q=>(∃j,vs=[.int j]/\∀p,H p=none->Q (.ref p) (upd H p (kK p 0 j 1)))\/∃i j,vs=[.int i,.int j]/\∀p,H p=none->Q (.ref p) (upd H p (kK p i j 1))):=aP.or uz ve
section
variable {e:Expr} {es:List Expr} {mr:MA} {p1 p2 q1 q2:Pos}
theorem vQ {nl:NL} [iz nl] (hc:X.calm=true) (hg:Gl X "list") (hm:X.mg "list" = none) (hg2:Gl X "range") (hm2:X.mg "range" = none) (ha:PA X (e::es) (tMA X.K g ε mr))
  (he:starEach (e::es) X.env=(false,eval e X.env)::starEach es X.env:=by rfl) (hpl:(backTo q2 (starEach es X.env)).any (·.1)=false:=by rfl)
  (he1:starEach [.Call (.Name "range" p2) (e::es) [] q2] X.env=[(false,eval (.Call (.Name "range" p2) (e::es) [] q2) X.env)]:=by rfl) (hpl1:(backTo q1 (starEach [] X.env)).any (·.1)=false:=by rfl) :
  PE X (.Call (.Name "list" p1) [.Call (.Name "range" p2) (e::es) [] q2] [] q1) (tM X.K g ε (ag (jQ nl) mr)):=
 PE.imp (PE.frz (fL (mV hc) hg hm PyProof.Rows.boot_list (c_ (fL w_ hg2 hm2 PyProof.Rows.boot_range ha (by decide) (by decide) he hpl) gS he1) (by decide) (by decide) he1 hpl1)) fun σ H Q ⟨α,env,h,s,w⟩=>tMA.use s w.bind fun d1 h1 v1 H1 α1 e1 s1 r1 w1=>by
  unfold jQ at w1
  cases er:mF d1 with
  | none=>rw[er] at w1;exact w1.elim
  | some xs=>
   rw[er] at w1
   rcases tH r1 er with⟨j,rfl,ok,rfl⟩ | ⟨i,j,rfl,ok,rfl⟩
   ·refine .inl ⟨j,rfl,fun p hp=>⟨p,0,j,1,j.toNat,rfl,aL,ok,fun l hl=>?_⟩⟩
    have x:=Ext.fresh (K:=X.K) (α:=α1) (o:=kK p 0 j 1) hp
    exact NL.post ((w1.post e1).post x) (s1.heap.grow hp) (pD 0 j.toNat) hl
   ·refine .inr ⟨i,j,rfl,fun p hp=>⟨p,i,j,1,(j - i).toNat,rfl,aL,ok,fun l hl=>?_⟩⟩
    have x:=Ext.fresh (K:=X.K) (α:=α1) (o:=kK p i j 1) hp
    exact NL.post ((w1.post e1).post x) (s1.heap.grow hp) (pD i (j - i).toNat) hl
theorem zD (hc:X.calm=true) (hg:Gl X "tuple") (hm:X.mg "tuple" = none) (hg2:Gl X "range") (hm2:X.mg "range" = none) (ha:PA X (e::es) (tMA X.K g ε mr))
  (he:starEach (e::es) X.env=(false,eval e X.env)::starEach es X.env:=by rfl) (hpl:(backTo q2 (starEach es X.env)).any (·.1)=false:=by rfl)
  (he1:starEach [.Call (.Name "range" p2) (e::es) [] q2] X.env=[(false,eval (.Call (.Name "range" p2) (e::es) [] q2) X.env)]:=by rfl) (hpl1:(backTo q1 (starEach [] X.env)).any (·.1)=false:=by rfl) :
  PE X (.Call (.Name "tuple" p1) [.Call (.Name "range" p2) (e::es) [] q2] [] q1) (tM X.K g ε (ag nz mr)):=
 PE.imp (fL (lT hc) hg hm PyProof.Rows.boot_tuple (c_ (fL w_ hg2 hm2 PyProof.Rows.boot_range ha (by decide) (by decide) he hpl) gS he1) (by decide) (by decide) he1 hpl1) fun σ H Q ⟨α,env,h,s,w⟩=>tMA.use s w.bind fun d1 h1 v1 H1 α1 e1 s1 r1 w1=>by
  unfold nz at w1
  cases er:mF d1 with
  | none=>rw[er] at w1;exact w1.elim
  | some xs=>
   rw[er] at w1
   rcases tH r1 er with⟨j,rfl,ok,rfl⟩ | ⟨i,j,rfl,ok,rfl⟩
   ·refine .inl ⟨j,rfl,fun p hp=>⟨p,0,j,1,j.toNat,rfl,aL,ok,fun l hl=>?_⟩⟩
    have x:=Ext.fresh (K:=X.K) (α:=α1) (o:=kK p 0 j 1) hp
    exact aA.tup (aA.ext (e1.trans x) w1) (s1.heap.grow hp) (pD 0 j.toNat) hl
   ·refine .inr ⟨i,j,rfl,fun p hp=>⟨p,i,j,1,(j - i).toNat,rfl,aL,ok,fun l hl=>?_⟩⟩
    have x:=Ext.fresh (K:=X.K) (α:=α1) (o:=kK p i j 1) hp
    exact aA.tup (aA.ext (e1.trans x) w1) (s1.heap.grow hp) (pD i (j - i).toNat) hl
end
noncomputable def isL (d:D) (h:Hh):Bool:=match d with
 | .ref n=>(ay h n).isSome
 | .frl _=>true
 | _=>false
noncomputable def dU (f:D->List D->Hh->R D) (o:ME) (a:MA):ME:=fun env h=>(o env h).bind fun x h1=>if isL x h1=true then (a env h1).bind fun xs h2=>f x xs h2 else .bad
theorem yT {α:List Addr} {H:Hp} {h:Hh} {d:D} {x:V} (r:aS K g α H h) (rd:aE K g α H d x) (e:isL d h=true):tyV K "list" x H:=by
 unfold isL at e
 cases rd with
 | @ref n p hp=>
  simp only at e
  obtain⟨ds,e⟩:=Option.isSome_iff_exists.mp e
  obtain⟨vs,hv,_⟩:=r.lst e hp
  exact .inl ⟨rfl,vs,SqL.of hv⟩
 | frl hq rs=>exact .inl ⟨rfl,_,hq.sq⟩
 | _=>cases e
theorem lG {o e:Expr} {es:List Expr} {mo:ME} {mr:MA} {name:Str} {apos cpos:Pos} {id:String} {r:V->List V->Hp->VK->Prop} {f:D->List D->Hh->R D} (slot:Slot "list" name id) (hty:typeOf (.builtin id)=pure (.type "method_descriptor")) (hm:MtM X id r) (im:n_ X.K g ε f r) (ho:PE X o (tM X.K g ε mo)) (ha:PA X (e::es) (tMA X.K g ε mr))
  (hbase:attributeBase o name X.env (eval o X.env)=eval o X.env:=by rfl)
  (hfew:((backTo cpos (starEach (e::es) X.env)).all (fun x=>!x.1)&&(backToKw cpos (keywordEach [] X.env)).all (fun x=>x.1.isSome)
   && decide ((e::es).length+([]:List Keyword).length+(if ([]:List Keyword).isEmpty then 0 else 1)<30))=true:=by rfl)
  (hline:(apos.endLine == cpos.line)=true:=by rfl) (hs:starEach (e::es) X.env=(false,eval e X.env)::starEach es X.env:=by rfl) (hplain:(backTo cpos (starEach es X.env)).any (·.1)=false:=by rfl) :
  PE X (.Call (.Attribute o name apos) (e::es) [] cpos) (tM X.K g ε (dU f mo mr)):=
 PE.imp (vM PySem.F.plainAttrs_list slot hty hm ho ha hbase hfew hline hs hplain) fun σ H Q ⟨α,env,h,s,w⟩=>tM.use s w.bind fun d1 h1 v1 H1 α1 e1 s1 r1 w1=>by
  obtain⟨hl,w1⟩:=WQ.b_ w1
  refine⟨yT s1.heap r1 hl,tMA.use s1 (w1.ext e1).bind fun d2 h2 v2 H2 α2 e2 s2 r2 w2=>?_⟩
  exact im α2 H2 h2 d1 d2 v1 v2 Q s2.heap (r1.ext e2) r2 ((w2.ext e2).mono fun _ _ _ p=>aA.ext (e1.trans e2) p)
noncomputable def eg:D->List D->Hh->R D:=fun o ds h=>match o,ds with
 | .ref n,[d]=>match ay h n with
  | some xs=>if xs.length<1000000 then .ok .non (h.set n (.lst (xs++[d]))) else .bad
  | none=>.bad
 | _,_=>.bad
theorem nh:n_ K g ε eg sS:=by
 intro α H h o a y x Q r ro ra w
 unfold eg at w
 cases ro with
 | @ref n p hp=>
  cases ra with
  | nil=>exact w.elim
  | @cons d v _ _ rd rr=>
   cases rr with
   | cons _ _=>exact w.elim
   | nil=>
    simp only at w
    cases e:ay h n with
    | none=>rw[e] at w;exact w.elim
    | some xs=>
     rw[e] at w
     obtain⟨hl,w⟩:=WQ.b_ w
     obtain⟨vs,hv,rs⟩:=r.lst e hp
     refine⟨p,vs,_,rfl,rfl,hv,by rw[<- rs.length,sizeLine_eq];omega,?_⟩
     have x:=Ext.write (o:=.lst (vs++[v])) r hp
     exact(show aA K g α H Q _ _ from w) _ _ α x (r.write hp ⟨_,aL,(rs.append (.cons rd .nil)).ext x⟩) .non
 | _=>exact w.elim
noncomputable def qN:D->List D->Hh->R D:=fun o ds h=>match o,ds with
 | .ref n,[.int i]=>match ay h n with
  | some xs=>match ixN xs.length i with
   | some k=>match xs[k]? with
    | some d=>if xs.length<=1000000 then .ok d (h.set n (.lst (xs.eraseIdx k))) else .bad
    | none=>.bad
   | none=>.bad
  | none=>.bad
 | _,_=>.bad
theorem C5:n_ K g ε qN yn:=by
 intro α H h o a y x Q r ro ra w
 unfold qN at w
 cases ro with
 | @ref n p hp=>
  cases ra with
  | nil=>exact w.elim
  | cons rd rr=>
   cases rr with
   | cons _ _=>cases rd<;>exact w.elim
   | nil=>
    cases rd with
    | int i=>
     simp only at w
     cases e:ay h n with
     | none=>rw[e] at w;exact w.elim
     | some xs=>
      rw[e] at w
      simp only at w
      cases e2:ixN xs.length i with
      | none=>rw[e2] at w;exact w.elim
      | some k=>
       rw[e2] at w
       simp only at w
       cases e3:xs[k]? with
       | none=>rw[e3] at w;exact w.elim
       | some d=>
        rw[e3] at w
        obtain⟨hl,w⟩:=WQ.b_ w
        obtain⟨vs,hv,rs⟩:=r.lst e hp
        obtain⟨v,ev,rv⟩:=rs.get e3
        obtain⟨h1,h2,h3,h4⟩:=oh e2
        refine⟨p,vs,i,k,v,rfl,rfl,hv,?_,?_,by rw[<- rs.length];exact h1,ev,?_⟩
        ·omega
        ·omega
        ·have x:=Ext.write (o:=.lst (vs.eraseIdx k)) r hp
         exact(show aA K g α H Q _ _ from w) _ _ α x (r.write hp ⟨_,aL,(rs.erase k).ext x⟩) (rv.ext x)
    | _=>exact w.elim
 | _=>exact w.elim
end
section
variable {P:Program} {w:World} {K:PySem.W.Frag} {mg:Str->Option Value} {base:Heap} {g:GG}
noncomputable def a9 (K:PySem.W.Frag) (mg:Str->Option Value) (x:Str) (st:Stmt):Prop:=∃f fd,mg x=some (.ref f)/\Fun K x x st f fd
noncomputable def cJ (K:PySem.W.Frag) (x:Str) (st:Stmt):Prop:=∃f fd,PySem.W.nsIn K mainGlobals x=some (some (.ref f))/\Fun K x x st f fd
theorem bT {x:Str} {st:Stmt} {f:Addr} {oc:Value} {od an:Option Addr} {osl:Array (Option Value)} {kV doc pm cdv ct:Value} (a:PySem.W.nsIn K mainGlobals x=some (some (.ref f)))
  (l:K.lookup f=some ⟨oc,od,.func (PySem.W.fnOf x x (eZ st) (bS st) (ak st) .none kV doc pm an cdv ct),osl⟩) (c:PySem.W.codeIn K cdv x=true) (k:PySem.W.keepIn K (.ref f)=true):cJ K x st:=⟨f,_,a,xi l c k⟩
theorem a9.of {h:Heap} {x:Str} {st:Stmt} (X:K.In h) (G:h.Ns mainGlobals mg) (d:cJ K x st):a9 K mg x st:=
 let ⟨f,fd,a,F⟩:=d;⟨f,fd,PySem.W.mg_of X G a,F⟩
noncomputable def Has (P:Program) (w:World) (K:PySem.W.Frag) (mg:Str->Option Value) (base:Heap) (g:GG) (x:Str) (k:Nat) (ps:List Str) (m:MF):Prop:=
 ∃f fd,dq P w K mg base CX0 k f fd ps (spM K g ps.length m)/\PySem.W.keepIn K (.ref f)=true/\Binds K fd ps []/\mg x=some (.ref f)/\∃(oc:Value) (od:Option Addr) (osl:Array (Option Value)),K.lookup f=some ⟨oc,od,.func fd,osl⟩
noncomputable def gOf (mg:Str->Option Value):GG:=fun x=>match mg x with
 | some (.ref f)=>some f
 | _=>none
theorem bz {x:Str} {st:Stmt} {f:Addr} {fd:FuncData} (F:Fun K x x st f fd):∃(oc:Value) (od:Option Addr) (osl:Array (Option Value)),K.lookup f=some ⟨oc,od,.func fd,osl⟩:=by
 obtain⟨oc,od,kV,doc,pm,an,cdv,ct,osl,rfl,lk,hcd⟩:=F.ex
 exact⟨oc,od,osl,lk⟩
theorem B5 {x:Str} {st:Stmt} {f:Addr} {fd:FuncData} {k:Nat} {ps:List Str} {m:MF} (F:Fun K x x st f fd) (hm:mg x=some (.ref f)) (h:Has P w K mg base g x k ps m):dq P w K mg base CX0 k f fd ps (spM K g ps.length m):=by
 obtain⟨f2,fd2,G,_,_,hm2,oc,od,osl,l2⟩:=h
 obtain⟨oc',od',osl',l1⟩:=bz F
 rw[hm] at hm2
 cases hm2
 rw[l1] at l2
 cases l2
 exact G
end
section
variable {X:Cx} {g:GG} {ε:EE}
noncomputable def xQ (i j:Nat) (m:ME):MS:=fun env h=>(m env h).bind fun d h1=>(gT2 i j d env h1).bind fun e h2=>.ok (.nx e) h2
theorem Ed {i j:Nat} {x y:Str} {e:Expr} {me:ME} {px py pt pos:Pos} {kt} (hc:X.calm=true) (hN:X.N.Nodup) (hi:X.N[i]?=some x) (hj:X.N[j]?=some y) (he:PE X e (tM X.K g ε me))
  (hx:Loc X.env.scope x:=by first | exact Or.inl rfl | exact Or.inr rfl) (hy:Loc X.env.scope y:=by first | exact Or.inl rfl | exact Or.inr rfl)
  (fx:X.fn x=true\/X.env.scope.names.lookup x=some .local:=by first | exact .inl rfl | exact .inr rfl) (fy:X.fn y=true\/X.env.scope.names.lookup y=some .local:=by first | exact .inl rfl | exact .inr rfl)
  (hs:swapsWithSole [.Tuple [.Name x px,.Name y py] kt pt] e pos.line X.env=pure false:=by rfl) (hw:swappedStores [.Tuple [.Name x px,.Name y py] kt pt] e X.env=pure none:=by rfl) :
  PS X (.Assign [.Tuple [.Name x px,.Name y py] kt pt] e pos) (tMS X.K g ε (xQ i j me)):=
 PS.imp (vY he (yd hc (i5 (cZ hN hi hx fx) (i5 (cZ hN hj hy fy) tD))) hs hw rfl) fun E σ H ⟨α,env,h,s,w⟩=>tM.use s w.bind fun d1 h1 v1 H1 α1 e1 s1 r1 w1=>by
  refine yB (ε:=ε) α1 H1 h1 env σ d1 v1 _ s1 r1 ((w1.ext e1).bind.mono fun e' h2 _ w2 σ2 H2 α2 e2 s2=>?_)
  exact(show cQ X.K g α H E (.nx e') h2 from w2) H2 α2 (e1.trans e2) s2.heap σ2 s2.vs
theorem Bd {i j:Nat} {x y:Str} {a b:Expr} {ma:MA} {px py pt pos:Pos} {kt k2 pt2} (hc:X.calm=true) (hN:X.N.Nodup) (hi:X.N[i]?=some x) (hj:X.N[j]?=some y) (hij:i≠j) (ha:PA X [a,b] (tMA X.K g ε ma))
  (hx:X.env.scope.names.lookup x=some .local:=by rfl) (hy:X.env.scope.names.lookup y=some .local:=by rfl)
  (hw:swappedStores [.Tuple [.Name x px,.Name y py] kt pt] (.Tuple [a,b] k2 pt2) X.env=pure (some [x,y]):=by rfl)
  (hs:swapsWithSole [.Tuple [.Name x px,.Name y py] kt pt] (.Tuple [a,b] k2 pt2) pos.line X.env=pure false:=by rfl) :
  PS X (.Assign [.Tuple [.Name x px,.Name y py] kt pt] (.Tuple [a,b] k2 pt2) pos) (tMS X.K g ε (zu i j ma)):=D6 hc hN hi hj hij hx hy ha hw hs
end
theorem CY {k:Nat} {m:MF} {l:PySem.W.OpenLaw} {q:Program} {loose:List Str} {XP:(Str->Option Value)->Heap->Prop} {YP:World->Heap->Prop} {d:DefRec} {K:Params->PySem.W.Frag} (hn:l.most=some 63) (hdf:d.params.defaults=[]) (hr:cO k callerA)
  (hY:∀(w:World) (h:Heap),YP w h->(K w.params).In h)
  (ok:∀ns:List Int,ns.length<=63->∃h,m [.scr (ns.map D.int)] []=.ok (.bl true) h)
  (F:∀(w:World) (mg:Str->Option Value) (fa:Addr) (h:Heap),(K w.params).In h->h.Ns mainGlobals mg->mg d.name=some (.ref fa) →
   ∃fd:FuncData,(∀(s:Shared) (u:Value),BindsTo s fd ⟨[u],[]⟩ [("_law_script", u)])/\∀base:Heap,(K w.params).In base->base.Ns mainGlobals mg->dq l.prog w (K w.params) mg base CX0 k fa fd ["_law_script"] (spM (K w.params) (gOf mg) 1 m)) :
  PySem.W.WalkO q loose XP YP l.row.toRowW d [] (fun f vs=>PySem.call f vs):=by
 refine L2.zK (n:=63) (k:=k) (x:="_law_script") (CX:=fun _=>CX0) (sp:=fun w=>fun vs H Q _=>∃a ns,vs=[V.ref a]/\ns.length<=63/\Ar H/\SqL (K w.params) H a (ns.map V.int)/\∀v H',v=V.bl true->Q v H') hn (by decide) hdf hr hY (fun w mg fa h KX G hmg=>?_) (fun w H a ns hl hO hS=>⟨a,ns,rfl,hl,hO,hS,fun _ _ z=>z⟩) fun _ _ _ _ _ z=>z
 obtain⟨fd,hb,hF⟩:=F w mg fa h KX G hmg
 refine⟨fd,hb,fun base kb nb=>(hF base kb nb).imp fun vs H Q E z=>?_⟩
 obtain⟨a,ns,rfl,hl,hO,hS,hQ⟩:=z
 obtain⟨hh,e⟩:=ok ns hl
 refine⟨rfl,[],[.scr (ns.map D.int)],[],.cons (.scr ?_ (au.ints ns)) .nil,⟨rfl,fun n m p z=>by simp at z,fun n p o z=>by simp at z⟩,?_⟩
 ·rcases hS with(hS | ⟨o,hS⟩) | hS
  ·rcases hO a with z | ⟨o,xs,z⟩
   ·rw[hS] at z;cases z
   ·rw[hS] at z;cases z
  ·exact .inl ⟨o,hS⟩
  ·exact .inr hS
 ·rw[e]
  intro v H' α' _ _ rd
  cases rd
  exact hQ _ _ rfl
section
variable {X:Cx} {K:PySem.W.Frag} {g:GG} {ε:EE}
noncomputable def l9 (tab:Str->Option MF) (f:ME) (a:MA):ME:=fun env h=>(f env h).bind fun d h1=>match d with
 | .fn x=>match tab x with
  | some m=>(a env h1).bind m
  | none=>.bad
 | _=>.bad
end
mutual
noncomputable def iV (k:Nat):D->Bool
 | .ref n=>decide (n<k)
 | .tup ds=>cB k ds
 | .frl ds=>cB k ds
 | .scr ds=>cB k ds
 | _=>true
noncomputable def cB (k:Nat):List D->Bool
 | []=>true
 | d::ds=>iV k d&&cB k ds
end
noncomputable def jv (k:Nat):O->Bool
 | .lst ds=>cB k ds
 | .set _=>true
 | .dic kvs=>cB k (kvs.map (·.2))
 | .dit kvs=>cB k (kvs.map (·.2))
noncomputable def iE (f:D->Option D):List D->Option (List D)
 | []=>some []
 | d::ds=>match f d,iE f ds with
  | some e,some es=>some (e::es)
  | _,_=>none
noncomputable def fk (k:Nat) (h:Hh):Nat->D->Option D
 | 0,_=>none
 | f+1,d=>match d with
  | .ref n=>if n<k then some (.ref n) else match ay h n with
   | some ds=>(iE (fk k h f) ds).map .frl
   | none=>none
  | .tup ds=>(iE (fk k h f) ds).map .tup
  | .frl ds=>(iE (fk k h f) ds).map .frl
  | .scr _=>none
  | d=>some d
noncomputable def ed (h:Hh):D->Hh->R D:=fun d h'=>if (h'.take h.length).all (jv h.length)=true then match fk h.length h' 8 d with
 | some e=>.ok e (h'.take h.length)
 | none=>.bad else .bad
noncomputable def mx (h:Hh):D->Hh->R D:=fun d h'=>if (h'.take h.length).all (jv h.length)=true then match d with
 | .ref n=>if h.length<=n then match ay h' n with
  | some ds=>match iE (fk h.length (h'.set n (.set [])) 8) ds with
   | some es=>.ok (.ref h.length) (h'.take h.length++[.lst es])
   | none=>.bad
  | none=>.bad else .bad
 | _=>.bad else .bad
open Classical in
noncomputable def fJ (S:Addr->Prop) (o:Addr->Obj) (H:Hp):Hp:=fun p=>if S p then (H p).map (.frz (o p)) else H p
theorem Co {P:Program} {w:World} {H:Hp} {h:Heap} {p:Addr} {u:HO} (q:bO P w H h p u) (mu:Mut (some u)):∃o,h.get? p=some o:=by
 cases u with
 | lst xs=>obtain⟨_,_,_,_,e'⟩:=q;exact⟨_,e'⟩
 | dK kvs=>obtain⟨_,_,_,_,o,_,_,e',_⟩:=q;exact⟨_,e'⟩
 | dT kvs=>obtain⟨_,_,_,_,o,_,_,e',_⟩:=q;exact⟨_,e'⟩
 | set S n=>obtain⟨o,_,_,_,e',_⟩:=q;exact⟨_,e'⟩
 | ins C dx fs=>obtain⟨_,_,_,e',_⟩:=q;exact⟨_,e'⟩
 | ext φ=>obtain⟨_,⟨_,e'⟩,_⟩:=q;exact⟨_,e'⟩
 | _=>exact absurd mu (fun z=>z)
theorem ye {outer:List Env} {P:Program} {w:World} {H:Hp} {s:Shared} {Q Q':VK} {u:Value} {s':Shared} (h:CE outer P w H s Q' u s')
  (hQ:∀v H',Q' v H'->∃S:Addr->Prop,(∀p,S p->∃u,H' p=some u/\Mut (some u))/\∀o:Addr->Obj,Q v (fJ S o H')):CE outer P w H s Q u s':=by
 obtain⟨v,H',os,bare,un,hok,r,q⟩:=h
 obtain⟨S,hS,q⟩:=hQ v H' q
 have hS1:∀p,S p->∀u,H' p=some u->Mut (some u):=fun p z u e=>by obtain⟨u',e',m⟩:=hS p z;rw[e] at e';cases e';exact m
 have off:∀(o:Addr->Obj) b u,H' b=some u->¬ Mut (some u)->fJ S o H' b=some u:=fun o b u e m=>by
  unfold fJ
  rw[if_neg fun z=>m (hS1 b z u e)];exact e
 have offn:∀(o:Addr->Obj) b,H' b=none->fJ S o H' b=none:=fun o b e=>by
  unfold fJ
  split
  ·rw[e];rfl
  ·exact e
 let o:Addr->Obj:=fun b=>(s'.heap.get? b).getD { cls:=.none,data:=.fields #[] }
 refine⟨v,fJ S o H',os,bare,⟨un.keep,un.slot,fun b ob e n hx=>offn o b (un.free b ob e n hx),un.there,fun b xs e=>off o b _ (un.mS b xs e) fun z=>z,fun b ob xs e=>off o b _ (un.lr b ob xs e) fun z=>z,fun b ps e=>?_⟩,?_,r,q o⟩
 ·obtain⟨more,e1⟩:=un.mP b ps e
  exact⟨more,off o b _ e1 fun z=>z⟩
 ·intro b u e
  have st:∀u,bO P w H' s'.heap b u->bO P w (fJ S o H') s'.heap b u:=fun u x=>x.iR (fun _ _ _ z=>z) (fun c z=>off o c _ z fun z=>z) fun c xs z=>off o c _ z fun z=>z
  unfold fJ at e
  split at e
  ·rename_i hb
   obtain⟨u',e',m⟩:=hS b hb
   rw[e'] at e
   cases e
   have x:=hok b u' e'
   obtain⟨ob,eo⟩:=Co x m
   refine⟨?_,st _ x⟩
   show s'.heap.get? b=some ((s'.heap.get? b).getD _)
   rw[eo];rfl
  ·exact st u (hok b u e)
section
variable {K:PySem.W.Frag} {g:GG} {α α':List Addr} {H H' H2:Hp} {k:Nat}
structure lE (K:PySem.W.Frag) (α α':List Addr) (H' H2:Hp) (k:Nat):Prop where
 pre:∀n,n<k->α[n]?=α'[n]?
 tup:∀p xs,H' p=some (.tup xs)->H2 p=some (.tup xs)
 frz:∀p (o:Obj) (u:HO),H' p=some (.frz o u)->H2 p=some (.frz o u)
mutual
theorem pF (L:lE K α α' H' H2 k):∀{d:D} {v:V},iV k d=true->aE K g α' H' d v->aE K g α H2 d v
 | _,_,_,.non=>.non
 | _,_,_,.bl b=>.bl b
 | _,_,_,.int i=>.int i
 | _,_,_,.str x=>.str x
 | _,_,hl,.ref h=>.ref (by rw[L.pre _ (by simpa [iV] using hl)];exact h)
 | _,_,hl,.tup h r=>.tup (L.tup _ _ h) (gQ L (by simpa [iV] using hl) r)
 | _,_,hl,.frl h r=>.frl (let ⟨o,h⟩:=h;⟨o,L.frz _ _ _ h⟩) (gQ L (by simpa [iV] using hl) r)
 | _,_,hl,.scr h r=>.scr (h.elim (fun⟨o,h⟩=>.inl ⟨o,L.frz _ _ _ h⟩) .inr) (gQ L (by simpa [iV] using hl) r)
 | _,_,_,.fn h=>.fn h
 | _,_,_,.edic h=>.edic (L.frz _ _ _ h)
 | _,_,_,.exc hg h hc hd hf=>.exc hg (L.frz _ _ _ h) hc hd (hf.elim .inl fun⟨dx,od,a,b⟩=>.inr ⟨dx,od,a,L.frz _ _ _ b⟩)
theorem gQ (L:lE K α α' H' H2 k):∀{ds:List D} {vs:List V},cB k ds=true->au K g α' H' ds vs->au K g α H2 ds vs
 | _,_,_,.nil=>.nil
 | _,_,hl,.cons r t=>by
  simp only[cB,Bool.and_eq_true] at hl
  exact .cons (pF L hl.1 r) (gQ L hl.2 t)
end
theorem gP {f:D->Option D} (hf:∀d e v,f d=some e->aE K g α' H' d v->aE K g α H2 e v):∀{ds es:List D} {vs:List V},iE f ds=some es->au K g α' H' ds vs->au K g α H2 es vs
 | [],es,_,e,.nil=>by cases e;exact .nil
 | d::ds,es,_,e,.cons r t=>by
  unfold iE at e
  split at e
  ·rename_i e1 es1 h1 h2
   cases e
   exact .cons (hf _ _ _ h1 r) (gP hf h2 t)
  ·cases e
theorem iP {h' hx:Hh} (L:lE K α α' H' H2 k) (r:aS K g α' H' h') (hx':∀n ds,ay hx n=some ds->ay h' n=some ds) (fz:∀n p ds vs,k<=n->ay hx n=some ds->α'[n]?=some p->H' p=some (.lst vs)->Fr1 H2 p vs) :
  ∀(f:Nat) (d e:D) (v:V),fk k hx f d=some e->aE K g α' H' d v->aE K g α H2 e v
 | 0,_,_,_,e,_=>by cases e
 | f+1,d,e,v,he,rd=>by
  unfold fk at he
  cases rd with
  | non=>cases he;exact .non
  | bl b=>cases he;exact .bl b
  | int i=>cases he;exact .int i
  | str x=>cases he;exact .str x
  | fn h=>cases he;exact .fn h
  | edic h=>cases he;exact .edic (L.frz _ _ _ h)
  | exc hg h hc hd hf=>cases he;exact .exc hg (L.frz _ _ _ h) hc hd (hf.elim .inl fun⟨dx,od,a,b⟩=>.inr ⟨dx,od,a,L.frz _ _ _ b⟩)
  | scr _ _=>cases he
  | tup h rs=>
   simp only at he
   cases e1:iE (fk k hx f) _ with
   | none=>rw[e1] at he;cases he
   | some es=>rw[e1] at he;cases he;exact .tup (L.tup _ _ h) (gP (fun d e v=>iP L r hx' fz f d e v) e1 rs)
  | frl h rs=>
   simp only at he
   cases e1:iE (fk k hx f) _ with
   | none=>rw[e1] at he;cases he
   | some es=>rw[e1] at he;cases he;exact .frl (let ⟨o,h⟩:=h;⟨o,L.frz _ _ _ h⟩) (gP (fun d e v=>iP L r hx' fz f d e v) e1 rs)
  | @ref n p hp=>
   simp only at he
   split at he
   ·rename_i hn
    cases he
    exact .ref (by rw[L.pre n hn];exact hp)
   ·rename_i hn
    cases el:ay hx n with
    | none=>rw[el] at he;cases he
    | some ds=>
     rw[el] at he
     simp only at he
     cases e1:iE (fk k hx f) ds with
     | none=>rw[e1] at he;cases he
     | some es=>
      rw[e1] at he;cases he
      obtain⟨vs,hv,rs⟩:=r.lst (hx' n ds el) hp
      exact .frl (fz n p ds vs (by omega) el hp hv) (gP (fun d e v=>iP L r hx' fz f d e v) e1 rs)
end
theorem lz {β:Type} {l:List β} {k n:Nat} {x:β} (e:(l.take k)[n]?=some x):n<k/\l[n]?=some x:=by
 rw[List.getElem?_take] at e
 split at e
 ·exact⟨by assumption,e⟩
 ·cases e
theorem fZ {α α':List Addr} (h:α <+: α') {n:Nat} (hn:n<α.length):α[n]?=α'[n]?:=by
 obtain⟨t,rfl⟩:=h
 rw[List.getElem?_append_left hn]
theorem As {β:Type} {l:List β} {f:β->Bool} (h:l.all f=true) {n:Nat} {x:β} (e:l[n]?=some x):f x=true:=List.all_eq_true.mp h x (List.mem_of_getElem? e)
theorem k_ {K:PySem.W.Frag} {g:GG} {α α' α2:List Addr} {H H' H2:Hp} {h h':Hh} (r0:α.length=h.length) (e:Ext K α H α' H') (r:aS K g α' H' h') (hl:(h'.take h.length).all (jv h.length)=true)
  (L:lE K α2 α' H' H2 h.length) (kp:∀n p u,n<h.length->α'[n]?=some p->H' p=some u->H2 p=some u):∀(n:Nat) (p:Addr) (o:O),n<h.length->α'[n]?=some p->(h'.take h.length)[n]?=some o->OAt K g α2 H2 p o:=by
 intro n p o hn hp ho
 have lo:=As hl ho
 obtain⟨_,ho'⟩:=lz ho
 have q:=r.here n p o hp ho'
 cases o with
 | lst ds=>obtain⟨vs,a,b⟩:=q;exact⟨vs,kp n p _ hn hp a,gQ L lo b⟩
 | set m=>exact kp n p _ hn hp q
 | dic kvs=>
  obtain⟨kws,a,b⟩:=q
  refine⟨kws,kp n p _ hn hp a,?_⟩
  replace lo:cB h.length (kvs.map (·.2))=true:=lo
  clear a ho ho'
  induction b with
  | nil=>exact .nil
  | cons x t ih=>
   simp only[List.map_cons,cB,Bool.and_eq_true] at lo
   exact .cons ⟨x.1,pF L lo.1 x.2⟩ (ih lo.2)
 | dit kvs=>
  obtain⟨kws,a,b⟩:=q
  refine⟨kws,kp n p _ hn hp a,?_⟩
  replace lo:cB h.length (kvs.map (·.2))=true:=lo
  clear a ho ho'
  induction b with
  | nil=>exact .nil
  | cons x t ih=>
   simp only[List.map_cons,cB,Bool.and_eq_true] at lo
   exact .cons ⟨x.1,pF L lo.1 x.2⟩ (ih lo.2)
section
variable {P:Program} {w:World} {K:PySem.W.Frag} {mg:Str->Option Value} {base:Heap} {g:GG} {k np:Nat} {f:Addr} {fd:FuncData} {ps:List Str} {m:MF}
theorem oJ {CX:CXT} {ε:XK->EE} (F:dq P w K mg base CX k f fd ps (spG K g ε np m)):dq P w K mg base CX k f fd ps (spG K g ε np fun ds h=>(m ds h).bind (ed h)):=by
 refine⟨fun vs H Q E h=>?_,fun A outer s H args us vs Q E hr e0 hb hv hsp=>?_⟩
 ·obtain⟨hl,α,ds,h,rs,hh,w⟩:=h
  exact F.len vs H (fun _ _=>True) E ⟨hl,α,ds,h,rs,hh,w.bind.mono fun _ _ _ _ _ _ _ _ _ _=>trivial⟩
 ·obtain⟨hl,α,ds,h,rs,hh,w⟩:=hsp
  refine codeAny_mono (F.run A outer s H args us vs (fun v H'=>∃α' d h',Ext K α H α' H'/\aS K g α' H' h'/\aE K g α' H' d v/\WQ K g (ε E) α H (ed h d h') (aA K g α H Q)) E hr e0 hb hv ⟨hl,α,ds,h,rs,hh,w.bind.mono fun d h' _ w1 v H' α' e r rd=>⟨α',d,h',e,r,rd,w1⟩⟩) fun res s' q=>?_
  cases res with
  | error e=>exact q
  | ok fl=>
   cases fl with
   | ret u=>
    refine ye (show CE outer P _ H s _ u s' from q) fun v H' ⟨α',d,h',e,r,rd,w⟩=>?_
    refine⟨fun p=>∃n ds,h.length<=n/\α'[n]?=some p/\ay h' n=some ds,fun p ⟨n,ds,_,hp,hn⟩=>?_,fun o=>?_⟩
    ·obtain⟨vs,hv,_⟩:=r.lst hn hp
     exact⟨_,hv,trivial⟩
    ·unfold ed at w
     obtain⟨hl,w⟩:=WQ.b_ w
     cases ez:fk h.length h' 8 d with
     | none=>rw[ez] at w;exact w.elim
     | some e'=>
      rw[ez] at w
      generalize hS:(fun p=>∃n ds,h.length<=n/\α'[n]?=some p/\ay h' n=some ds)=S
      have inS:∀p,S p↔∃n ds,h.length<=n/\α'[n]?=some p/\ay h' n=some ds:=fun p=>by rw[<- hS]
      have k0:α.length=h.length:=hh.len
      have notS:∀p u,H' p=some u->(∀vs,u≠.lst vs)->¬ S p:=fun p u e1 e2 z=>by
       obtain⟨n,ds,_,hp,hn⟩:=(inS p).mp z
       obtain⟨vs,hv,_⟩:=r.lst hn hp
       rw[e1] at hv;cases hv;exact e2 vs rfl
      have off:∀p,¬ S p->fJ S o H' p=H' p:=fun p z=>by unfold fJ;rw[if_neg z]
      have L:lE K α α' H' (fJ S o H') h.length:=⟨fun n hn=>fZ e.pre (by omega),fun p xs z=>by rw[off p (notS p _ z fun vs z=>nomatch z)];exact z,fun p o u z=>by rw[off p (notS p _ z fun vs z=>nomatch z)];exact z⟩
      have kp:∀n p u,n<h.length->α'[n]?=some p->H' p=some u->fJ S o H' p=some u:=fun n p u hn hp e1=>by
       rw[off p fun z=>?_];exact e1
       obtain⟨m,ds,hm,hp',_⟩:=(inS p).mp z
       have:=r.inj n m p hp hp'
       omega
      have rd2:aE K g α (fJ S o H') e' v:=iP L r (fun _ _ z=>z) (fun n p ds vs hn hl hp hv=>⟨o p,by unfold fJ;rw[if_pos ((inS p).mpr ⟨n,ds,hn,hp,hl⟩),hv];rfl⟩) 8 d e' v ez rd
      refine(show aA K g α H Q e' (h'.take h.length) from w) v _ α ⟨⟨List.prefix_refl _,fun p xs z=>L.tup p xs (e.tup p xs z),fun p o u z=>L.frz p o u (e.frz p o u z)⟩,fun p u z n=>?_,fun _ z n=>absurd z n⟩ ⟨?_,fun n m p h1 h2=>hh.inj n m p h1 h2,fun n p ob h1 h2=>?_⟩ rd2
      ·rw[off p fun z'=>?_];exact e.keep p u z n
       obtain⟨m,ds,_,hp',_⟩:=(inS p).mp z'
       have:=e.new p (List.mem_of_getElem? hp') n
       rw[z] at this;cases this
      ·rw[List.length_take,<- r.len,k0]
       have:=e.pre.length_le
       omega
      ·have hn:n<h.length:=(lz h2).1
       rw[fZ e.pre (by omega)] at h1
       exact k_ k0 e r hl L kp n p ob hn h1 h2
   | next=>exact q
   | brk=>exact q
   | cont=>exact q
theorem yD {CX:CXT} {ε:XK->EE} (F:dq P w K mg base CX k f fd ps (spG K g ε np m)):dq P w K mg base CX k f fd ps (spG K g ε np fun ds h=>(m ds h).bind (mx h)):=by
 refine⟨fun vs H Q E h=>?_,fun A outer s H args us vs Q E hr e0 hb hv hsp=>?_⟩
 ·obtain⟨hl,α,ds,h,rs,hh,w⟩:=h
  exact F.len vs H (fun _ _=>True) E ⟨hl,α,ds,h,rs,hh,w.bind.mono fun _ _ _ _ _ _ _ _ _ _=>trivial⟩
 ·obtain⟨hl,α,ds,h,rs,hh,w⟩:=hsp
  refine codeAny_mono (F.run A outer s H args us vs (fun v H'=>∃α' d h',Ext K α H α' H'/\aS K g α' H' h'/\aE K g α' H' d v/\WQ K g (ε E) α H (mx h d h') (aA K g α H Q)) E hr e0 hb hv ⟨hl,α,ds,h,rs,hh,w.bind.mono fun d h' _ w1 v H' α' e r rd=>⟨α',d,h',e,r,rd,w1⟩⟩) fun res s' q=>?_
  cases res with
  | error e=>exact q
  | ok fl=>
   cases fl with
   | ret u=>
    refine ye (show CE outer P _ H s _ u s' from q) fun v H' ⟨α',d,h',e,r,rd,w⟩=>?_
    unfold mx at w
    obtain⟨hl,w⟩:=WQ.b_ w
    cases rd with
    | @ref n0 p0 hp0=>
     obtain⟨hk,w⟩:=WQ.b_ w
     cases el:ay h' n0 with
     | none=>rw[el] at w;exact w.elim
     | some ds=>
      rw[el] at w
      simp only at w
      cases ez:iE (fk h.length (h'.set n0 (.set [])) 8) ds with
      | none=>rw[ez] at w;exact w.elim
      | some es=>
       rw[ez] at w
       have hx:∀n ds,ay (h'.set n0 (.set [])) n=some ds->n≠n0/\ay h' n=some ds:=fun n ds z=>by
        by_cases hn:n=n0
        ·subst hn
         unfold ay at z
         rw[List.getElem?_set] at z
         rw[if_pos rfl] at z
         split at z
         ·rename_i q;split at q<;>cases q
         ·cases z
        ·unfold ay at z ⊢
         rw[List.getElem?_set_ne (Ne.symm hn)] at z
         exact⟨hn,z⟩
       refine⟨fun p=>∃n ds,h.length<=n/\n≠n0/\α'[n]?=some p/\ay h' n=some ds,fun p ⟨n,ds,_,_,hp,hn⟩=>?_,fun o=>?_⟩
       ·obtain⟨vs,hv,_⟩:=r.lst hn hp
        exact⟨_,hv,trivial⟩
       ·generalize hS:(fun p=>∃n ds,h.length<=n/\n≠n0/\α'[n]?=some p/\ay h' n=some ds)=S
        have inS:∀p,S p↔∃n ds,h.length<=n/\n≠n0/\α'[n]?=some p/\ay h' n=some ds:=fun p=>by rw[<- hS]
        have k0:α.length=h.length:=hh.len
        have notS:∀p u,H' p=some u->(∀vs,u≠.lst vs)->¬ S p:=fun p u e1 e2 z=>by
         obtain⟨n,ds,_,_,hp,hn⟩:=(inS p).mp z
         obtain⟨vs,hv,_⟩:=r.lst hn hp
         rw[e1] at hv;cases hv;exact e2 vs rfl
        have off:∀p,¬ S p->fJ S o H' p=H' p:=fun p z=>by unfold fJ;rw[if_neg z]
        have L:lE K (α++[p0]) α' H' (fJ S o H') h.length:=⟨fun n hn=>by rw[List.getElem?_append_left (by omega)];exact fZ e.pre (by omega),fun p xs z=>by rw[off p (notS p _ z fun vs z=>nomatch z)];exact z,fun p o u z=>by rw[off p (notS p _ z fun vs z=>nomatch z)];exact z⟩
        have kp:∀n p u,n<h.length->α'[n]?=some p->H' p=some u->fJ S o H' p=some u:=fun n p u hn hp e1=>by
         rw[off p fun z=>?_];exact e1
         obtain⟨m,ds,hm,_,hp',_⟩:=(inS p).mp z
         have:=r.inj n m p hp hp'
         omega
        obtain⟨vs0,hv0,rs0⟩:=r.lst el hp0
        have p0S:¬ S p0:=fun z=>by
         obtain⟨m,ds,hm,hne,hp',_⟩:=(inS p0).mp z
         exact hne (r.inj m n0 p0 hp' hp0)
        have p0α:p0∉α:=fun z=>by
         obtain⟨m,hm,em⟩:=List.getElem_of_mem z
         have h1:α'[m]?=some p0:=by rw[<- fZ e.pre hm,List.getElem?_eq_getElem hm,em]
         have:=r.inj m n0 p0 h1 hp0
         omega
        have rs2:au K g (α++[p0]) (fJ S o H') es vs0:=gP (fun d e v=>iP L r (fun n ds z=>(hx n ds z).2) (fun n p ds vs hn hl hp hv=>⟨o p,by unfold fJ;rw[if_pos ((inS p).mpr ⟨n,ds,hn,(hx n ds hl).1,hp,(hx n ds hl).2⟩),hv];rfl⟩) 8 d e v) ez rs0
        have tl:(h'.take h.length).length=h.length:=by
         rw[List.length_take,<- r.len]
         have:=e.pre.length_le
         omega
        refine(show aA K g α H Q (.ref h.length) (h'.take h.length++[.lst es]) from w) _ _ (α++[p0]) ⟨⟨List.prefix_append _ _,fun p xs z=>L.tup p xs (e.tup p xs z),fun p o u z=>L.frz p o u (e.frz p o u z)⟩,fun p u z n=>?_,fun p z n=>?_⟩ ⟨?_,fun n m p h1 h2=>?_,fun n p ob h1 h2=>?_⟩ (.ref ?_)
        ·rw[off p fun z'=>?_];exact e.keep p u z n
         obtain⟨m,ds,_,_,hp',_⟩:=(inS p).mp z'
         have:=e.new p (List.mem_of_getElem? hp') n
         rw[z] at this;cases this
        ·rcases List.mem_append.mp z with z | z
         ·exact absurd z n
         ·rw[List.mem_singleton.mp z]
          exact e.new p0 (List.mem_of_getElem? hp0) p0α
        ·rw[List.length_append,List.length_append,tl,k0];rfl
        ·have key:∀i,(α++[p0])[i]?=some p->(i<α.length/\α[i]?=some p)\/(i=α.length/\p=p0):=fun i hi=>by
          by_cases hl:i<α.length
          ·rw[List.getElem?_append_left hl] at hi;exact .inl ⟨hl,hi⟩
          ·rw[List.getElem?_append_right (by omega)] at hi
           by_cases h0:i - α.length=0
           ·rw[h0] at hi;simp at hi;exact .inr ⟨by omega,hi.symm⟩
           ·rw[List.getElem?_eq_none (by simp;omega)] at hi;cases hi
         rcases key n h1 with⟨a1,a2⟩ | ⟨a1,a2⟩<;>rcases key m h2 with⟨b1,b2⟩ | ⟨b1,b2⟩
         ·exact hh.inj n m p a2 b2
         ·rw[b2] at a2;exact absurd (List.mem_of_getElem? a2) p0α
         ·rw[a2] at b2;exact absurd (List.mem_of_getElem? b2) p0α
         ·omega
        ·by_cases hn:n<h.length
         ·rw[List.getElem?_append_left (by omega),fZ e.pre (by omega)] at h1
          rw[List.getElem?_append_left (by omega)] at h2
          exact k_ k0 e r hl L kp n p ob hn h1 h2
         ·rw[List.getElem?_append_right (by omega)] at h2
          rw[List.getElem?_append_right (by omega)] at h1
          by_cases h0:n - h.length=0
          ·rw[tl,h0] at h2
           rw[k0,h0] at h1
           simp at h1 h2
           subst h1 h2
           exact⟨vs0,by rw[off _ p0S];exact hv0,rs2⟩
          ·rw[k0,List.getElem?_eq_none (by simp;omega)] at h1;cases h1
        ·rw[<- k0,List.getElem?_append_right (Nat.le_refl _)];simp
    | _=>exact w.elim
   | next=>exact q
   | brk=>exact q
   | cont=>exact q
end
section
variable {X:Cx} {g:GG} {ε:EE} {K:PySem.W.Frag}
theorem uc (hc:X.calm=true):aP X (.builtin "all") (fun vs H Q=>∃(p:Addr) (bs:List Bool),vs=[.ref p]/\SqL X.K H p (bs.map V.bl)/\Q (.bl (bs.all id)) H):=by
 intro pins s σ H xs us Q I r h
 obtain⟨p,bs,rfl,hq,q⟩:=h
 obtain⟨u,rfl,rx⟩:=vals1 r
 cases rx
 have hh:X.A.in1.handled=none:=I.ok.hd hc
 obtain⟨its,rv,pl,hz⟩:=I.list hq
 have plt:p<s.heap.objs.size:=by obtain⟨o,e,_⟩:=pl.isList;exact Heap.lt_size e
 have hne:p≠s.heap.objs.size:=Nat.ne_of_lt plt
 have hl:its.toArray.size=bs.length:=by rw[List.size_toArray,<- rv.length,List.length_map]
 refine call_all_walk (wpAny_pyIter_list pl.isList ?_)
 refine⟨s.heap.objs.size,_,_,its.toArray.size,_,_,fun i=>bs.getD i true,rfl,Walks.list (prog:=X.prog) (w:=X.w) hh s.heap.objs.size p hne its.toArray,⟨⟨_,Heap.get?_push_size _ rfl,rfl,rfl⟩,pl.isList.at fun o e=>Heap.get?_push_of_some _ e⟩,?_,fun h' tk kp=>?_⟩
 ·intro i v s2 Q2 E2 e hQ
  obtain⟨x,hx,rxv⟩:=rv.get' (show its[i]?=some v by simpa using e)
  rw[List.getElem?_map] at hx
  cases en:bs[i]? with
  | none=>rw[en] at hx;cases hx
  | some z=>
   rw[en] at hx
   cases hx
   have e1:v=Value.bool z:=rxv
   rw[e1]
   have e2:bs.getD i true=z:=by rw[List.getD_eq_getElem?_getD,en];rfl
   have hQ':Q2 (bs.getD i true) s2:=hQ
   rw[e2] at hQ'
   exact wpAny_truthy_bool hQ'
 ·have keep:∀b u,s.heap.get? b=some u->h'.get? b=some u:=fun b u e=>kp b u (by simp;exact Nat.ne_of_lt (Heap.lt_size e)) (Heap.get?_push_of_some _ e)
  refine⟨.bl (bs.all id),H,I.kept (h':=h') (t':=tk) keep,?_,q⟩
  show Value.bool _=Value.bool _
  rw[hl]
  congr 1
  rw[Bool.eq_iff_iff]
  simp only[List.all_eq_true,List.mem_range,id]
  constructor
  ·intro hx b hb
   obtain⟨i,hi,e⟩:=List.getElem_of_mem hb
   have:=hx i hi
   rw[List.getD_eq_getElem?_getD,List.getElem?_eq_getElem hi] at this
   rw[<- e];exact this
  ·intro hx i hi
   rw[List.getD_eq_getElem?_getD,List.getElem?_eq_getElem hi]
   exact hx _ (List.getElem_mem hi)
noncomputable def gc:List D->Option (List Bool)
 | []=>some []
 | .bl b::r=>(gc r).map (b::·)
 | _=>none
theorem fX:∀{ds:List D} {bs:List Bool},gc ds=some bs->ds=bs.map D.bl
 | [],_,e=>by cases e;rfl
 | d::ds,bs,e=>by
  cases d with
  | bl b=>
   simp only[gc] at e
   cases e2:gc ds with
   | none=>rw[e2] at e;cases e
   | some cs=>
    rw[e2] at e
    cases e
    rw[fX e2];rfl
  | _=>cases e
theorem au.zf {α:List Addr} {H:Hp}:∀{bs:List Bool} {vs:List V},au K g α H (bs.map D.bl) vs->vs=bs.map V.bl
 | [],_,.nil=>rfl
 | b::bs,_,.cons r t=>by
  cases r
  rw[au.zf t];rfl
noncomputable def wx:List D->Hh->R D:=fun ds h=>match ds with
 | [.frl xs]=>match gc xs with
  | some bs=>.ok (.bl (bs.all id)) h
  | none=>.bad
 | _=>.bad
theorem CO:hJ K g ε wx (fun vs H Q=>∃(p:Addr) (bs:List Bool),vs=[.ref p]/\SqL K H p (bs.map V.bl)/\Q (.bl (bs.all id)) H):=by
 intro α H h a x Q r ra w
 cases ra with
 | nil=>exact w.elim
 | cons rd rr=>
  cases rr with
  | cons _ _=>cases rd<;>exact w.elim
  | nil=>
   cases rd with
   | @frl ds p vs hq rs=>
    unfold wx at w
    simp only at w
    cases e2:gc ds with
    | none=>rw[e2] at w;exact w.elim
    | some bs=>
     rw[e2] at w
     have e3:=fX e2
     subst e3
     have e4:=rs.zf
     subst e4
     exact⟨p,bs,rfl,hq.sq,aA.now w r (.bl _)⟩
   | _=>exact w.elim
end
section
variable {X:Cx} {g:GG} {ε:EE} {K:PySem.W.Frag}
theorem ju {mg:Str->Option Value} {x:Str} {f:Addr} (e:g=gOf mg) (h:mg x=some (.ref f)):g x=some f:=by rw[e];simp[gOf,h]
end
end L2.FE
namespace L2.FE
open PySem
section
variable {β γ:Type} {h h1:Hh} {env:En}
@[simp] theorem br {b:β} {f:β->Hh->R γ}:(R.ok b h).bind f=f b h:=Eq.trans rfl rfl
@[simp] theorem yl {x:Xc} {f:β->Hh->R γ}:(R.err x h).bind f=.err x h:=Eq.trans rfl rfl
@[simp] theorem e_C {d:D}:cC d env h=.ok d h:=Eq.trans rfl rfl
@[simp] theorem rj {d:D} {r:En}:ah 0 (some d::r) h=.ok d h:=Eq.trans rfl rfl
@[simp] theorem x8 {i:Nat} {x:Option D} {r:En}:ah (i+1) (x::r) h=ah i r h:=Eq.trans rfl rfl
@[simp] theorem Ee {f:D->D->Hh->R D} {a b:ME}:ax f a b env h=(a env h).bind fun x h1=>(b env h1).bind fun y h2=>f x y h2:=Eq.trans rfl rfl
@[simp] theorem Fx {f:D->Hh->R D} {a:ME}:cUn f a env h=(a env h).bind fun x h1=>f x h1:=Eq.trans rfl rfl
@[simp] theorem A7:aj env h=.ok [] h:=Eq.trans rfl rfl
@[simp] theorem xU {a:ME} {r:MA}:aa a r env h=(a env h).bind fun x h1=>(r env h1).bind fun xs h2=>.ok (x::xs) h2:=Eq.trans rfl rfl
@[simp] theorem yH {f:List D->Hh->R D} {a:MA}:ag f a env h=(a env h).bind f:=Eq.trans rfl rfl
@[simp] theorem zJ {f:D->List D->Hh->R D} {o:ME} {a:MA}:dU f o a env h=(o env h).bind fun x h1=>if isL x h1=true then (a env h1).bind fun xs h2=>f x xs h2 else .bad:=Eq.trans rfl rfl
@[simp] theorem C1 {f:D->Hh->R Bool} {a:ME}:aI f a env h=(a env h).bind f:=Eq.trans rfl rfl
@[simp] theorem Cm {a:MT}:cI a env h=(a env h).bind fun b h1=>.ok (!b) h1:=Eq.trans rfl rfl
@[simp] theorem F0 {a b:MT}:t6 a b env h=(a env h).bind fun x h1=>if x=true then b env h1 else .ok false h1:=Eq.trans rfl rfl
@[simp] theorem Es {a b:MT}:gp a b env h=(a env h).bind fun x h1=>if x=true then .ok true h1 else b env h1:=Eq.trans rfl rfl
@[simp] theorem GL {c:MT} {a b:ME}:cIf c a b env h=(c env h).bind fun x h1=>if x=true then a env h1 else b env h1:=Eq.trans rfl rfl
@[simp] theorem F_ {b:Bool}:asB (.bl b) h=.ok b h:=Eq.trans rfl rfl
@[simp] theorem EV {a b:ME}:t5 a b env h=(a env h).bind fun x h1=>(asB x h1).bind fun k h2=>if k=true then b env h2 else .ok (.bl false) h2:=Eq.trans rfl rfl
@[simp] theorem Fn {a:ME}:wA a env h=(a env h).bind fun x h1=>(asB x h1).bind fun k h2=>.ok (.bl (!k)) h2:=Eq.trans rfl rfl
@[simp] theorem yU {f f':D->D->Hh->R D} {a b c:ME}:gy f f' a b c env h=(a env h).bind fun x h1=>(b env h1).bind fun y h2=>(f x y h2).bind fun z h3=>(asB z h3).bind fun k h4=>if k=true then (c env h4).bind fun w h5=>f' y w h5 else .ok (.bl false) h4:=Eq.trans rfl rfl
@[simp] theorem DJ:b8 env h=.ok none h:=Eq.trans rfl rfl
noncomputable def AN:D->Hh->R (Option Int):=fun d h1=>match d with
 | .int i=>.ok (some i) h1
 | _=>.bad
@[simp] theorem EI {i:Int}:AN (.int i) h=.ok (some i) h:=Eq.trans rfl rfl
@[simp] theorem Fg {a:ME}:dm a env h=(a env h).bind AN:=Eq.trans rfl rfl
@[simp] theorem EK {nl:NL} {a:ME} {l u:MO}:cN nl a l u env h=(a env h).bind fun x h1=>(l env h1).bind fun lo h2=>(u env h2).bind fun hi h3=>uv nl x lo hi h3:=Eq.trans rfl rfl
@[simp] theorem FL:bj env h=.ok (.nx env) h:=Eq.trans rfl rfl
noncomputable def Br (b:MS):Fl->Hh->R Fl:=fun fl h1=>match fl with
 | .nx e=>b e h1
 | fl=>.ok fl h1
@[simp] theorem F7 {b:MS} {e:En}:Br b (.nx e) h=b e h:=Eq.trans rfl rfl
@[simp] theorem GN {b:MS} {d:D}:Br b (.rt d) h=.ok (.rt d) h:=Eq.trans rfl rfl
@[simp] theorem AQ {a b:MS}:aH a b env h=(a env h).bind (Br b):=by
 unfold aH
 first | rfl | (congr 1;funext fl h1;cases fl<;>rfl)
@[simp] theorem FV {a:ME}:j9 a env h=(a env h).bind fun _ h1=>.ok (.nx env) h1:=Eq.trans rfl rfl
@[simp] theorem GH {a:ME}:bq a env h=(a env h).bind fun d h1=>.ok (.rt d) h1:=Eq.trans rfl rfl
@[simp] theorem Ea {c:MT} {a b:MS}:cD c a b env h=(c env h).bind fun x h1=>if x=true then a env h1 else b env h1:=Eq.trans rfl rfl
@[simp] theorem Ga {i:Nat} {a:ME}:bA i a env h=(a env h).bind fun d h1=>.ok (.nx (env.set i (some d))) h1:=Eq.trans rfl rfl
noncomputable def Dm (i j:Nat) (env:En):List D->Hh->R Fl:=fun ds h1=>match ds with
 | [x,y]=>.ok (.nx ((env.set i (some x)).set j (some y))) h1
 | _=>.bad
@[simp] theorem EY {i j:Nat} {x y:D}:Dm i j env [x,y] h=.ok (.nx ((env.set i (some x)).set j (some y))) h:=Eq.trans rfl rfl
@[simp] theorem Gq {i j:Nat} {a:MA}:zu i j a env h=(a env h).bind (Dm i j env):=by
 rfl
@[simp] theorem CW {i:Nat} {d:D}:gN i d env h=.ok (env.set i (some d)) h:=Eq.trans rfl rfl
@[simp] theorem GA {i j:Nat} {x y:D}:gT2 i j (.tup [x,y]) env h=.ok ((env.set i (some x)).set j (some y)) h:=Eq.trans rfl rfl
@[simp] theorem Gp {i j:Nat} {a:ME}:xQ i j a env h=(a env h).bind fun d h1=>(gT2 i j d env h1).bind fun e h2=>.ok (.nx e) h2:=Eq.trans rfl rfl
@[simp] theorem EH {f:D->D->D->Hh->R Unit} {o i v:ME}:pE f o i v env h=(v env h).bind fun x h1=>(o env h1).bind fun y h2=>(i env h2).bind fun z h3=>(f y z x h3).bind fun _ h4=>.ok (.nx env) h4:=Eq.trans rfl rfl
noncomputable def CT:Fl->Hh->R D:=fun fl h1=>match fl with
 | .rt d=>.ok d h1
 | .nx _=>.ok .non h1
 | _=>.bad
@[simp] theorem GK {d:D}:CT (.rt d) h=.ok d h:=Eq.trans rfl rfl
@[simp] theorem GI {e:En}:CT (.nx e) h=.ok .non h:=Eq.trans rfl rfl
theorem bI {n:Nat} {m:MS} {ds:List D}:cR n m ds h=(m (ds.map some++List.replicate (n - ds.length) none) h).bind CT:=by
 unfold cR
 first | rfl | (congr 1;funext fl h1;cases fl<;>rfl)
section
variable {nl:NL}
@[simp] theorem B9 {i j:Int}:bK nl (.int i) (.int j) h=.ok (.int (i+j)) h:=Eq.trans rfl rfl
@[simp] theorem FJ {i j:Int}:q_ (.int i) (.int j) h=.ok (.int (i - j)) h:=Eq.trans rfl rfl
@[simp] theorem FA {i:Int}:zc (.int i) h=.ok (.int (-i)) h:=Eq.trans rfl rfl
@[simp] theorem Gh {i j:Int}:dLt (.int i) (.int j) h=.ok (.bl (decide (i<j))) h:=by unfold dLt;rw[mq];rfl
@[simp] theorem Gd {i j:Int}:dLe (.int i) (.int j) h=.ok (.bl (decide (i<=j))) h:=by unfold dLe;rw[ou];rfl
@[simp] theorem Ge {i j:Int}:dGt (.int i) (.int j) h=.ok (.bl (decide (j<i))) h:=by unfold dGt;rw[mq];rfl
@[simp] theorem Gu {i j:Int}:dGe (.int i) (.int j) h=.ok (.bl (decide (j<=i))) h:=by unfold dGe;rw[ou];rfl
@[simp] theorem Fu {i j:Int}:oN nl (.int i) (.int j) h=if sml i=true/\sml j=true then .ok (.int (i*j)) h else .bad:=Eq.trans rfl rfl
@[simp] theorem Fs {i j:Int}:vU (.int i) (.int j) h=if 0<j/\sml j=true then .ok (.int (i / j)) h else .bad:=Eq.trans rfl rfl
@[simp] theorem Fp {i j:Int}:qI (.int i) (.int j) h=if 0<j then .ok (.int (i % j)) h else .bad:=Eq.trans rfl rfl
@[simp] theorem E7 {i j:Int}:wm (.int i) (.int j) h=if 0<=j/\j.natAbs<=1000/\sml i=true then .ok (.int (i ^ j.toNat)) h else .bad:=Eq.trans rfl rfl
@[simp] theorem F4 {i j:Int}:vZ [.int i,.int j] h=.ok (.int (max i j)) h:=by
 have:(if j > i then j else i)=max i j:=by split<;>omega
 rw[<- this];rfl
@[simp] theorem FF {b:Bool}:yA [.bl b] h=.ok (.int (if b then 1 else 0)) h:=Eq.trans rfl rfl
@[simp] theorem GF {ds:List D}:fh ds h=if ds.length<=1000000 then .ok (.tup ds) h else .bad:=Eq.trans rfl rfl
@[simp] theorem Gz {ds:List D}:cL nl ds h=if ds.length<=1000000 then nl ds h else .bad:=Eq.trans rfl rfl
@[simp] theorem EU {ds:List D}:uP ds h=.ok (.ref h.length) (h++[.lst ds]):=Eq.trans rfl rfl
@[simp] theorem E6 {ds:List D}:az ds h=.ok (.frl ds) h:=Eq.trans rfl rfl
@[simp] theorem FO {ds:List D}:c0 [.tup ds] h=.ok (.int ds.length) h:=Eq.trans rfl rfl
@[simp] theorem Fm {ds:List D}:c0 [.frl ds] h=.ok (.int ds.length) h:=Eq.trans rfl rfl
@[simp] theorem Fh {ds:List D}:c0 [.scr ds] h=.ok (.int ds.length) h:=Eq.trans rfl rfl
noncomputable def ixK (ds:List D) (i:Int) (h:Hh):R D:=match atI ds i with
 | some d=>.ok d h
 | none=>.bad
@[simp] theorem Gw {ds:List D} {i:Int}:dIx (.frl ds) (.int i) h=ixK ds i h:=Eq.trans rfl rfl
@[simp] theorem GB {ds:List D} {i:Int}:dIx (.scr ds) (.int i) h=ixK ds i h:=Eq.trans rfl rfl
theorem p_ {n:Nat} {ds:List D} {i:Int} (e:ay h n=some ds):dIx (.ref n) (.int i) h=ixK ds i h:=by
 have z:mB (.ref n) h=some ds:=e
 delta dIx;rw[z];rfl
theorem Ce {ds:List D} {i:Int} {d:D} (e:atI ds i=some d):ixK ds i h=.ok d h:=by simp only[ixK,e]
theorem wY {β:Type} {xs:List β} {j:Nat} {v:β} {i:Int} (h:xs[j]?=some v) (e:i=(j:Int)):atI xs i=some v:=by rw[e];exact zy h
theorem kU {ds:List D} {i:Int} {j:Nat} {d:D} (e:i=(j:Int)) (e2:ds[j]?=some d):ixK ds i h=.ok d h:=Ce (wY e2 e)
noncomputable def gI (ns:List Int) (i:Nat):Int:=ns.getD i 0
theorem AM {ns:List Int} {j:Nat} (hj:j<ns.length):gI ns j=ns[j]:=by
 unfold gI;rw[List.getD_eq_getElem?_getD,List.getElem?_eq_getElem hj];rfl
@[simp] theorem Gb {d:D} {ds:List D}:ixK (d::ds) 0 h=.ok d h:=kU (j:=0) rfl rfl
@[simp] theorem Gi {d d1:D} {ds:List D}:ixK (d::d1::ds) 1 h=.ok d1 h:=kU (j:=1) rfl rfl
@[simp] theorem EX {ds:List D} {lo hi:Option Int}:uv nl (.tup ds) lo hi h=.ok (.tup (cutD ds lo hi)) h:=Eq.trans rfl rfl
@[simp] theorem F3 {ds:List D} {lo hi:Option Int}:uv nl (.frl ds) lo hi h=nl (cutD ds lo hi) h:=Eq.trans rfl rfl
@[simp] theorem EZ {ds:List D} {lo hi:Option Int}:uv nl (.scr ds) lo hi h=nl (cutD ds lo hi) h:=Eq.trans rfl rfl
@[simp] theorem FU {a b:List D}:bK nl (.tup a) (.tup b) h=if a.length+b.length<=1000000 then .ok (.tup (a++b)) h else .bad:=Eq.trans rfl rfl
@[simp] theorem FW {a b:List D}:bK nl (.frl a) (.frl b) h=if a.length+b.length<=1000000 then nl (a++b) h else .bad:=Eq.trans rfl rfl
@[simp] theorem FX {a b:Str}:bK nl (.str a) (.str b) h=if a.length+b.length<=1000000 then .ok (.str (a++b)) h else .bad:=Eq.trans rfl rfl
@[simp] theorem Fj {a:List D} {k:Int}:oN nl (.frl a) (.int k) h=if k.natAbs<=1000000/\a.length*k.toNat<=1000000 then nl (List.replicate k.toNat a).flatten h else .bad:=Eq.trans rfl rfl
@[simp] theorem EG {ds:List D}:dList nl [.tup ds] h=nl ds h:=Eq.trans rfl rfl
@[simp] theorem FY {ds:List D}:eF [.frl ds] h=.ok (.tup ds) h:=Eq.trans rfl rfl
@[simp] theorem BK {b:Bool}:fN (.bl b) h=.ok b h:=Eq.trans rfl rfl
@[simp] theorem Gm {i j:Int}:dEq (.int i) (.int j) h=.ok (.bl (i == j)) h:=Eq.trans rfl rfl
@[simp] theorem Gy {i j:Str}:dNe (.str i) (.str j) h=.ok (.bl (!(i == j))) h:=Eq.trans rfl rfl
@[simp] theorem ET {i:Int}:ir "int" (.int i) h=.ok (.bl true) h:=Eq.trans rfl rfl
@[simp] theorem FP {i:Int}:ir "bool" (.int i) h=.ok (.bl false) h:=Eq.trans rfl rfl
@[simp] theorem B7 {ds:List D}:ir "tuple" (.tup ds) h=.ok (.bl true) h:=Eq.trans rfl rfl
@[simp] theorem Ff {ds:List D}:ir "list" (.frl ds) h=.ok (.bl true) h:=Eq.trans rfl rfl
@[simp] theorem DF {j:Int}:jQ nl [.int j] h=if j.natAbs<=1000000 then nl (cn 0 j.toNat) h else .bad:=by
 by_cases z:j.natAbs<=1000000
 ·rw[if_pos z];simp only[jQ,mF,if_pos z]
 ·rw[if_neg z];simp only[jQ,mF,if_neg z]
@[simp] theorem EL {j:Int}:nz [.int j] h=if j.natAbs<=1000000 then .ok (.tup (cn 0 j.toNat)) h else .bad:=by
 by_cases z:j.natAbs<=1000000
 ·rw[if_pos z];simp only[nz,mF,if_pos z]
 ·rw[if_neg z];simp only[nz,mF,if_neg z]
@[simp] theorem fc {ds:List D} {t:Hh}:ay (h++.lst ds::t) h.length=some ds:=by
 unfold ay;rw[List.getElem?_append_right (Nat.le_refl _)];simp
@[simp] theorem kX {o o':O} {t:Hh}:(h++o::t).set h.length o'=h++o'::t:=by
 rw[List.set_append_right _ _ (Nat.le_refl _)];simp
theorem yj {n:Nat} {ds:List D} (e:ay h n=some ds):isL (.ref n) h=true:=by simp[isL,e]
theorem yx {n:Nat} {ds:List D} {d:D} (e:ay h n=some ds):eg (.ref n) [d] h=if ds.length<1000000 then .ok .non (h.set n (.lst (ds++[d]))) else .bad:=by delta eg;dsimp only;rw[e]
theorem CM {n:Nat} {ds:List D} (e:ay h n=some ds):c0 [.ref n] h=.ok (.int ds.length) h:=by
 unfold ay at e
 split at e
 ·rename_i ds' q;cases e;delta c0;dsimp only;rw[q]
 ·cases e
theorem oE {n:Nat} {ds:List D} {i:Int} {j:Nat} {v:D} (e:ay h n=some ds) (e2:ixN ds.length i=some j):jh (.ref n) (.int i) v h=.ok () (h.set n (.lst (ds.set j v))):=by delta jh;dsimp only;rw[e];dsimp only;rw[e2]
@[simp] theorem ED {k:List Int} {t:Hh}:c0 [.ref h.length] (h++.set k::t)=.ok (.int k.length) (h++.set k::t):=by
 have:(h++O.set k::t)[h.length]?=some (.set k):=by rw[List.getElem?_append_right (Nat.le_refl _)];simp
 delta c0;dsimp only;rw[this]
@[simp] theorem Cu {ns:List Int}:qs [.tup (ns.map D.int)] h=if ns.length<=4000 then .ok (.ref h.length) (h++[.set (unl ns)]) else .bad:=by delta qs;dsimp only;rw[lM]
@[simp] theorem FQ {ds:List D} {t:Hh}:isL (.ref h.length) (h++.lst ds::t)=true:=yj fc
@[simp] theorem C8 {ds:List D} {d:D} {t:Hh}:eg (.ref h.length) [d] (h++.lst ds::t)=if ds.length<1000000 then .ok .non (h++.lst (ds++[d])::t) else .bad:=by rw[yx fc,kX]
theorem yY {n j:Nat} {i:Int} (e:i=(j:Int)) (hj:j<n):ixN n i=some j:=by
 subst e
 unfold ixN
 rw[if_pos (by omega),if_pos (by omega)];simp
end
@[simp] theorem FD {a:MA}:pI kq a env h=(a env h).bind kq:=Eq.trans rfl rfl
@[simp] theorem FZ {j:Int}:kq [.int j] h=if j.natAbs<=1000000 then .ok (.snap (cn 0 j.toNat)) h else .bad:=Eq.trans rfl rfl
@[simp] theorem Gg {a:ME}:bV a env h=(a env h).bind yo:=Eq.trans rfl rfl
@[simp] theorem Gs {ds:List D}:yo (.tup ds) h=.ok (.snap ds) h:=Eq.trans rfl rfl
@[simp] theorem Gk {ds:List D}:yo (.frl ds) h=.ok (.snap ds) h:=Eq.trans rfl rfl
theorem sP {tab:Str->Option MF} {f:ME} {a:MA} {x:Str} {m:MF} {h1:Hh} (e:f env h=.ok (.fn x) h1) (t:tab x=some m):l9 tab f a env h=(a env h1).bind m:=by simp only[l9,e,R.bind,t]
theorem uY {bs:List Bool}:gc (bs.map D.bl)=some bs:=by
 induction bs with
 | nil=>rfl
 | cons b bs ih=>simp only[List.map_cons,gc,ih,Option.map_some]
@[simp] theorem GC {bs:List Bool}:wx [.frl (bs.map D.bl)] h=.ok (.bl (bs.all id)) h:=by simp only[wx,uY]
noncomputable def D8 (tg:D->En->Hh->R En) (body:MS) (env:En):Src->Hh->R Fl:=fun sr h1=>match sr with
 | .snap ds=>ec tg body ds env h1
 | .live n=>jL (Src.live n).rdr tg body ((ay h1 n).getD []).length 0 env h1
 | .liveE n=>jL (Src.liveE n).rdr tg body ((ay h1 n).getD []).length 0 env h1
@[simp] theorem Fv {tg:D->En->Hh->R En} {body:MS} {ds:List D}:D8 tg body env (.snap ds) h=ec tg body ds env h:=Eq.trans rfl rfl
@[simp] theorem Gx {mi:MI} {tg:D->En->Hh->R En} {body:MS}:gm mi tg body env h=(mi env h).bind (D8 tg body env):=by
 unfold gm
 congr 1
noncomputable def D1 (nl:NL) (tt:MT) (te:ME) (ee:D->En):Src->Hh->R D:=fun sr h1=>if sr.fuel h1<=1000000 then
 (match sr with
  | .snap ds=>cP tt te ee ds h1
  | .live n=>gb (Src.live n).rdr tt te ee ((ay h1 n).getD []).length 0 [] h1
  | .liveE n=>gb (Src.liveE n).rdr tt te ee ((ay h1 n).getD []).length 0 [] h1).bind nl else .bad
@[simp] theorem F1 {nl:NL} {mi:MI} {ix:List Nat} {tt:MT} {te:ME}:bY nl mi ix tt te env h=(mi env h).bind (D1 nl tt te (iG ix env)):=Eq.trans rfl rfl
@[simp] theorem ER {nl:NL} {tt:MT} {te:ME} {ee:D->En} {ds:List D}:D1 nl tt te ee (.snap ds) h=if ds.length<=1000000 then (cP tt te ee ds h).bind nl else .bad:=Eq.trans rfl rfl
@[simp] theorem uW {lo:Int} {n:Nat}:(cn lo n).length=n:=by simp[cn]
@[simp] theorem Gv {ix:List Nat}:iG ix env=fun d=>some d::ix.map fun i=>(env[i]?).join:=Eq.trans rfl rfl
@[simp] theorem AZ:tt1 env h=.ok true h:=Eq.trans rfl rfl
noncomputable def Cj (tg:D->En->Hh->R En) (body:MS) (ds:List D):Fl->Hh->R Fl:=fun fl h2=>match fl with
 | .nx e=>ec tg body ds e h2
 | .ct e=>ec tg body ds e h2
 | .bk e=>.ok (.nx e) h2
 | .rt d=>.ok (.rt d) h2
theorem zO {tg:D->En->Hh->R En} {body:MS}:ec tg body [] env h=.ok (.nx env) h:=rfl
theorem fP {tg:D->En->Hh->R En} {body:MS} {d:D} {ds:List D}:ec tg body (d::ds) env h=(tg d env h).bind fun e1 h1=>(body e1 h1).bind (Cj tg body ds):=rfl
@[simp] theorem ng {tg:D->En->Hh->R En} {body:MS} {ds:List D} {e:En}:Cj tg body ds (.nx e) h=ec tg body ds e h:=Eq.trans rfl rfl
@[simp] theorem Gr {tg:D->En->Hh->R En} {body:MS} {ds:List D} {d:D}:Cj tg body ds (.rt d) h=.ok (.rt d) h:=Eq.trans rfl rfl
theorem Cw:cn 0 2=[.int 0,.int 1]:=rfl
theorem lq {σ X:Type} {tg:D->En->Hh->R En} {body:MS} (E:σ->En) (G:σ->Hh) (enc:X->D) (f:σ->X->σ) (I:List X->σ->Prop) (st:∀s x r,I (x::r) s->I r (f s x)/\((tg (enc x) (E s) (G s)).bind body=.ok (.nx (E (f s x))) (G (f s x))\/(tg (enc x) (E s) (G s)).bind body=.ok (.ct (E (f s x))) (G (f s x)))) :
  ∀(xs:List X) (s:σ),I xs s->ec tg body (xs.map enc) (E s) (G s)=.ok (.nx (E (xs.foldl f s))) (G (xs.foldl f s))/\I [] (xs.foldl f s)
 | [],s,i=>⟨rfl,i⟩
 | x::xs,s,i=>by
  obtain⟨i1,e⟩:=st s x xs i
  obtain⟨e2,i2⟩:=lq E G enc f I st xs (f s x) i1
  refine⟨?_,i2⟩
  rw[List.map_cons,ec]
  rw[<- bM]
  rcases e with e | e<;>rw[e]<;>exact e2
theorem comp_map {X:Type} {tt:MT} {te:ME} {ee:D->En} (enc:X->D) (p:X->Bool) (g:X->D):∀(xs:List X),(∀x∈xs,tt (ee (enc x)) h=.ok (p x) h/\(p x=true->te (ee (enc x)) h=.ok (g x) h)) →
  cP tt te ee (xs.map enc) h=.ok ((xs.filter p).map g) h
 | [],_=>rfl
 | x::xs,st=>by
  obtain⟨e1,e2⟩:=st x List.mem_cons_self
  have ih:=comp_map enc p g xs fun y hy=>st y (List.mem_cons_of_mem _ hy)
  rw[List.map_cons,cP,e1,br]
  cases hp:p x with
  | false=>rw[if_neg Bool.false_ne_true,ih,List.filter_cons_of_neg (by simp[hp])]
  | true=>rw[if_pos rfl,e2 hp,br,ih,br,List.filter_cons_of_pos hp,List.map_cons]
theorem fH {X:Type} {te:ME} {ee:D->En} (enc:X->D) (g:X->D) (xs:List X) (st:∀x∈xs,te (ee (enc x)) h=.ok (g x) h):cP tt1 te ee (xs.map enc) h=.ok (xs.map g) h:=by
 have:=comp_map (tt:=tt1) (ee:=ee) (h:=h) enc (fun _=>true) g xs fun x hx=>⟨rfl,fun _=>st x hx⟩
 rw[List.filter_eq_self.mpr fun _ _=>rfl] at this
 exact this
theorem m7 {σ X:Type} {te:ME} {ee:D->En} (G:σ->Hh) (enc:X->D) (f:σ->X->σ) (g:σ->X->D) (I:List X->σ->Prop) (st:∀s x r,I (x::r) s->I r (f s x)/\te (ee (enc x)) (G s)=.ok (g s x) (G (f s x))) :
  ∀(xs:List X) (s:σ),I xs s->∃ys,cP tt1 te ee (xs.map enc) (G s)=.ok ys (G (xs.foldl f s))/\I [] (xs.foldl f s)/\ys=(xs.foldl (fun(a:σ × List D) x=>(f a.1 x,a.2++[g a.1 x])) (s,[])).2
 | [],s,i=>⟨[],rfl,i,rfl⟩
 | x::xs,s,i=>by
  obtain⟨i1,e⟩:=st s x xs i
  obtain⟨ys,e2,i2,e3⟩:=m7 G enc f g I st xs (f s x) i1
  refine⟨g s x::ys,?_,i2,?_⟩
  ·rw[List.map_cons,cP,AZ,br,if_pos rfl,e,br,e2];rfl
  ·rw[List.foldl_cons,e3]
   have key:∀(xs:List X) (s:σ) (a b:List D),(xs.foldl (fun(a:σ × List D) x=>(f a.1 x,a.2++[g a.1 x])) (s,a++b)).2=a++(xs.foldl (fun(a:σ × List D) x=>(f a.1 x,a.2++[g a.1 x])) (s,b)).2:=by
    intro xs
    induction xs with
    | nil=>intro s a b;rfl
    | cons x xs ih=>intro s a b;rw[List.foldl_cons,List.foldl_cons,List.append_assoc];exact ih _ _ _
   have:=key xs (f s x) [g s x] []
   simpa using this.symm
noncomputable def Wf (h:Hh):Prop:=h.all (jv h.length)=true
mutual
theorem t9 {j k:Nat} (h:j<=k):∀(d:D),iV j d=true->iV k d=true
 | .non,_=>rfl | .bl _,_=>rfl | .int _,_=>rfl | .str _,_=>rfl | .fn _,_=>rfl | .edic,_=>rfl | .exc _ _,_=>rfl
 | .ref n,e=>by simp only[iV,decide_eq_true_eq] at e ⊢;omega
 | .tup ds,e=>by simp only[iV] at e ⊢;exact cU h ds e
 | .frl ds,e=>by simp only[iV] at e ⊢;exact cU h ds e
 | .scr ds,e=>by simp only[iV] at e ⊢;exact cU h ds e
theorem cU {j k:Nat} (h:j<=k):∀(ds:List D),cB j ds=true->cB k ds=true
 | [],_=>rfl
 | d::ds,e=>by
  simp only[cB,Bool.and_eq_true] at e ⊢
  exact⟨t9 h d e.1,cU h ds e.2⟩
end
theorem ur {j k:Nat} (h:j<=k) (o:O) (e:jv j o=true):jv k o=true:=by
 cases o with
 | lst ds=>exact cU h ds e
 | set n=>rfl
 | dic kvs=>exact cU h _ e
 | dit kvs=>exact cU h _ e
theorem ny {k:Nat}:∀{ds:List D},(∀d∈ds,iV k d=true)->cB k ds=true
 | [],_=>rfl
 | d::ds,h=>by simp only[cB,Bool.and_eq_true];exact⟨h d List.mem_cons_self,ny fun e he=>h e (List.mem_cons_of_mem _ he)⟩
@[simp] theorem nF {X:Type} {k:Nat} {f:X->D} {xs:List X} (h:∀x,iV k (f x)=true):cB k (xs.map f)=true:=ny fun d hd=>by
 obtain⟨x,_,rfl⟩:=List.mem_map.mp hd;exact h x
@[simp] theorem r8 {k:Nat} {ns:List Int}:cB k (ns.map D.int)=true:=nF fun _=>rfl
theorem Wf.nil:Wf []:=rfl
theorem Wf.app {h:Hh} {o:O} (w:Wf h) (l:jv (h.length+1) o=true):Wf (h++[o]):=by
 unfold Wf at w ⊢
 rw[List.all_append,List.length_append,List.length_singleton]
 simp only[List.all_cons,List.all_nil,Bool.and_true,Bool.and_eq_true]
 refine⟨?_,l⟩
 rw[List.all_eq_true] at w ⊢
 exact fun x hx=>ur (Nat.le_succ _) x (w x hx)
noncomputable def deep:Nat->D->Bool
 | 0,_=>false
 | f+1,d=>match d with
  | .ref _=>false
  | .scr _=>false
  | .tup ds=>ds.all (deep f)
  | .frl ds=>ds.all (deep f)
  | _=>true
theorem kT {f:D->Option D}:∀{ds:List D},(∀d∈ds,f d=some d)->iE f ds=some ds
 | [],_=>rfl
 | d::ds,h=>by simp only[iE,h d List.mem_cons_self,kT fun e he=>h e (List.mem_cons_of_mem _ he)]
theorem g9 {k:Nat} {h:Hh}:∀(f:Nat) (d:D),deep f d=true->fk k h f d=some d
 | 0,_,e=>by cases e
 | f+1,d,e=>by
  unfold deep at e
  unfold fk
  cases d with
  | ref n=>cases e
  | scr n=>cases e
  | tup ds=>simp only[List.all_eq_true] at e;show Option.map D.tup (iE (fk k h f) ds)=_;rw[kT (f:=fk k h f) fun d hd=>g9 f d (e d hd)];rfl
  | frl ds=>simp only[List.all_eq_true] at e;show Option.map D.frl (iE (fk k h f) ds)=_;rw[kT (f:=fk k h f) fun d hd=>g9 f d (e d hd)];rfl
  | _=>rfl
theorem eM {d:D} {t:Hh} (w:Wf h) (e:deep 8 d=true):ed h d (h++t)=.ok d h:=by
 unfold ed
 rw[List.take_left' rfl,if_pos (show h.all (jv h.length)=true from w),g9 8 d e]
theorem qy {d:D} (w:Wf h) (e:deep 8 d=true):ed h d h=.ok d h:=by
 have:=eM (t:=[]) w e
 simpa using this
theorem vc {ds:List D} {t:Hh} (w:Wf h) (e:ds.all (deep 8)=true):mx h (.ref h.length) (h++.lst ds::t)=.ok (.ref h.length) (h++[.lst ds]):=by
 unfold mx
 rw[List.take_left' rfl,if_pos (show h.all (jv h.length)=true from w)]
 simp only[Nat.le_refl,if_true,fc]
 rw[List.all_eq_true] at e
 rw[kT fun d hd=>g9 8 d (e d hd)]
@[simp] theorem DK {f:Nat} {i:Int}:deep (f+1) (.int i)=true:=rfl
@[simp] theorem EJ {f:Nat} {i:Bool}:deep (f+1) (.bl i)=true:=rfl
@[simp] theorem Ek {f:Nat} {i:Str}:deep (f+1) (.str i)=true:=rfl
@[simp] theorem DH {f:Nat}:deep (f+1) .non=true:=rfl
@[simp] theorem C_ {f:Nat}:deep (f+1) .edic=true:=rfl
@[simp] theorem DU {f:Nat} {ds:List D}:deep (f+1) (.tup ds)=ds.all (deep f):=rfl
@[simp] theorem DS {f:Nat} {ds:List D}:deep (f+1) (.frl ds)=ds.all (deep f):=rfl
end
noncomputable def Ok {β:Type} (r:R β) (Q:β->Hh->Prop):Prop:=∃b h,r=.ok b h/\Q b h
section
variable {β γ:Type} {Q:β->Hh->Prop} {h h1 h2:Hh}
theorem Ok.mono {r:R β} {Q':β->Hh->Prop} (o:Ok r Q) (q:∀b h,Q b h->Q' b h):Ok r Q':=let ⟨b,h,e,z⟩:=o;⟨b,h,e,q b h z⟩
end
theorem n6 {X:Type} {tg:D->En->Hh->R En} {body:MS} {QS:Fl->Hh->Prop} (enc:X->D) (I:En->Hh->Prop) :
  ∀(xs:List X) (env:En) (h:Hh),I env h->(∀x e h,x∈xs->I e h->Ok ((tg (enc x) e h).bind body) fun fl h2=>match fl with
   | .nx e=>I e h2
   | .ct e=>I e h2
   | .bk e=>QS (.nx e) h2
   | .rt d=>QS (.rt d) h2)->(∀e h,I e h->QS (.nx e) h)->Ok (ec tg body (xs.map enc) env h) QS
 | [],env,h,i,_,q=>⟨_,_,rfl,q _ _ i⟩
 | x::xs,env,h,i,st,q=>by
  obtain⟨fl,h2,e,z⟩:=st x env h List.mem_cons_self i
  rw[List.map_cons,ec,<- bM,e,br]
  cases fl with
  | nx e'=>exact n6 enc I xs e' h2 z (fun y e h hy=>st y e h (List.mem_cons_of_mem _ hy)) q
  | ct e'=>exact n6 enc I xs e' h2 z (fun y e h hy=>st y e h (List.mem_cons_of_mem _ hy)) q
  | bk e=>exact⟨_,_,rfl,z⟩
  | rt d=>exact⟨_,_,rfl,z⟩
end L2.FE
namespace L2.FE
open PySem PySem.Spec PyProof.Rows
noncomputable def AX (h:Hh) (n:Nat):Option (List (Key × D)):=match h[n]? with
 | some (.dic kvs)=>some kvs
 | _=>none
noncomputable abbrev PD (K:PySem.W.Frag) (g:GG) (α:List Addr) (H:Hp):List (Key × D)->List (Key × V)->Prop:=Paired (fun(a:Key × D) (b:Key × V)=>a.1=b.1/\aE K g α H a.2 b.2)
section
variable {K:PySem.W.Frag} {g:GG} {α:List Addr} {H:Hp} {h:Hh}
theorem aS.dic {n:Nat} {p:Addr} {kvs:List (Key × D)} (r:aS K g α H h) (e:AX h n=some kvs) (hp:α[n]?=some p):∃kws,H p=some (.dK kws)/\PD K g α H kvs kws:=by
 unfold AX at e
 cases eo:h[n]? with
 | none=>rw[eo] at e;cases e
 | some o=>
  rw[eo] at e
  cases o with
  | dic k=>cases e;exact r.here n p _ hp eo
  | _=>cases e
theorem PD.ext {α':List Addr} {H':Hp} {kvs:List (Key × D)} {kws:List (Key × V)} (e:Ext K α H α' H') (r:PD K g α H kvs kws):PD K g α' H' kvs kws:=Paired.DV e.toEx0 r
theorem aA.dic {Q:VK} {kvs:List (Key × D)} {kws:List (Key × V)} {p:Addr} (w:aA K g α H Q (.ref h.length) (h++[.dic kvs])) (r:aS K g α H h) (rs:PD K g α H kvs kws) (hp:H p=none):Q (.ref p) (upd H p (.dK kws)):=by
 have x:=Ext.push (K:=K) (α:=α) (o:=.dK kws) hp
 exact w _ _ _ x (r.push hp ⟨_,aL,rs.ext x⟩) (.ref (by rw[<- r.len];simp))
end
section
variable {X:Cx} {g:GG} {ε:EE} {o i e f:Expr} {mo mi me mf:ME} {pos:Pos}
theorem tq:PE X (.Dict [] [] pos) (tM X.K g ε (cC .edic)):=
 PE.imp (PE.frz wj) fun σ H Q ⟨α,env,h,s,w⟩ p hp=>by
  refine .inr ⟨p,_,rfl,aL,trivial,fun o=>?_⟩
  rw[Az]
  exact(show aA X.K g α H Q .edic h from w) _ _ α (Ext.fresh hp) (s.heap.grow hp) (.edic aL)
end
end L2.FE
namespace L2
open PySem PySem.Spec PyProof.Rows
theorem xK (o:Obj) (f:Array Value->Array Value):(Obj.mapFields f o).cls=o.cls:=Obj.cls_mapFields _ _
theorem vd (o:Obj) (f:Array Value->Array Value):(Obj.mapFields f o).dict=o.dict:=by
 unfold Obj.mapFields
 split<;>rfl
structure Gn (h h':Heap):Prop where
 up:h.UpToSlots h'
 there:∀b o,h.get? b=some o->∃o',h'.get? b=some o'
theorem Gn.trans {h h1 h2:Heap} (a:Gn h h1) (b:Gn h1 h2):Gn h h2:=⟨a.up.trans b.up,fun c o q=>let ⟨_,q'⟩:=a.there c o q;b.there c _ q'⟩
structure Fly (B:Heap) (l:List Env) (e:Addr) (C:Value) (dc:Option Addr) (fl:Value) (h:Heap):Prop where
 stays:B.StaysIn h
 new:B.get? e=none
 fr:h.FunFrames B l
 obj:∃oe ws T oT ts,h.get? e=some oe/\oe.cls=C/\oe.dict=dc/\oe.data=.fields ws/\ws[1]?=some (.ref T)/\B.get? T=none/\T≠e/\h.get? T=some oT/\oT.data=.fields ts/\ts[3]?=some fl
theorem Fly.pop {B:Heap} {env:Env} {l:List Env} {e:Addr} {C:Value} {dc:Option Addr} {fl:Value} {h:Heap} (x:Fly B (env::l) e C dc fl h):Fly B l e C dc fl h:=
 ⟨x.stays,x.new,x.fr.2.2,x.obj⟩
theorem Fly.there {B:Heap} {l:List Env} {e:Addr} {C:Value} {dc:Option Addr} {fl:Value} {h:Heap} (x:Fly B l e C dc fl h):∃oe ws,h.get? e=some oe/\oe.cls=C/\oe.dict=dc/\oe.data=.fields ws:=by
 obtain⟨oe,ws,T,oT,ts,a,b,c,d,_⟩:=x.obj
 exact⟨oe,ws,a,b,c,d⟩
section
variable {M:Model} {A:Around} {E:Value->Shared->Prop} {s:Shared} {B:Heap} {env:Env} {l outer:List Env} {e L:Addr} {C:Value} {dc:Option Addr} {fl:Value} {Q:Unit->Shared->Prop}
theorem pe (x:Fly B l e C dc fl s.heap) (k:∀h',Fly B l e C dc .none h'->Gn s.heap h'->Q () { s with heap:=h' }):wpAny M A (setFlight (.ref e) none) Q E s:=by
 obtain⟨st,nw,fr,oe,ws,T,oT,ts,q1,q2,q3,q4,q5,q6,q7,q8,q9,q10⟩:=x
 have hlt:3<ts.size:=(Array.getElem?_eq_some_iff.mp q10).1
 have off:∀b,b≠T->(s.heap.update T (Obj.mapFields (·.setIfInBounds 3 ((none:Option Addr).elim Value.none fun f=>rawInt f)))).get? b=s.heap.get? b:=fun b z=>Heap.get?_update_other _ _ (Ne.symm z)
 have noF:∀b o,s.heap.get? b=some o->(∀vs,o.data≠.fields vs)->b≠T:=by
  rintro b o q n rfl
  rw[q8] at q;cases q;exact n ts q9
 unfold setFlight
 refine wpAny_bind (wpAny_field q1 q4 q5 ?_)
 rw[if_pos (by simp:(Value.ref T != Value.none)=true)]
 refine wpAny_setField q8 q9 hlt (k _ ⟨fun b o q=>(off b ?_).trans (st b o q),nw,fr.of_keeps fun b o q n=>⟨o,(off b (noF b o q n)).trans q,rfl⟩,oe,ws,T,_,_,(off e (Ne.symm q7)).trans q1,q2,q3,q4,q5,q6,q7,Heap.get?_update_self _ q8 (Obj.isFreed_of_fields (Obj.data_mapFields q9 _)),Obj.data_mapFields q9 _,by simp[hlt]⟩
  ⟨fun b o q n=>⟨o.slots,(off b (noF b o q n)).trans q⟩,fun b o q=>?_⟩)
 ·rintro rfl;rw[q6] at q;cases q
 ·by_cases z:b=T
  ·subst z;exact⟨_,Heap.get?_update_self _ q8 (Obj.isFreed_of_fields (Obj.data_mapFields q9 _))⟩
  ·exact⟨o,(off b z).trans q⟩
theorem nA {head:Value} {had:Bool} {oe:Obj} {ws:Array Value} (hA:A.frames=some (env::outer)) (fr:s.heap.FunFrames B (env::outer)) (hL:env.frame=some L) (q1:s.heap.get? e=some oe) (st:B.StaysIn s.heap) (nw:B.get? e=none) (q4:oe.data=.fields ws) (hlt:1<ws.size)
  (k:∀h',Fly B (env::outer) e oe.cls oe.dict (rawInt L) h'->Gn s.heap h'->Q () { s with heap:=h' }) :
  wpAny M A (do let fo ← frameOf env;let pl ← entryPlaceOf L had;let t ← EntryCells.newEntry head fo .none (rawInt L) .none pl;setField (.ref e) 1 t) Q E s:=by
 have hnf:e∉(env::outer).filterMap (·.frame):=fun z=>by
  obtain⟨_,o,ho,n⟩:=fr.mem z
  rw[q1] at ho;cases ho;exact n ws q4
 refine wpAny_bind (wpAny_frameOf_fun hA fr hL fun h1 so=>wpAny_bind (wpAny_entryPlaceOf fun pl hpl=>?_))
 obtain⟨z1,z2,z3⟩:=so
 unfold EntryCells.newEntry newFields
 refine wpAny_bind (wpAny_newObj_type ?_ (hpl.sizeOk5 _ _ _ _ _))
 have e1:h1.get? e=some oe:=by rw[z2 e hnf];exact q1
 have st1:B.StaysIn h1:=fun b o q=>by
  rw[z2 b fun z=>by rw[(fr.mem z).1] at q;cases q]
  exact st b o q
 generalize hT:({ cls:=.type "traceback", dict:=none,data:=.fields ([head,.ref L,.none,rawInt L,.none]++(if pl.isEmpty then List.replicate 6 Value.none else pl)).toArray }:Obj)=oT
 have e2:(h1.push oT).get? e=some oe:=Heap.get?_push_of_some _ e1
 have dT:oT.data=.fields ([head,.ref L,.none,rawInt L,.none]++(if pl.isEmpty then List.replicate 6 Value.none else pl)).toArray:=by rw[<- hT]
 have ne:h1.objs.size≠e:=Nat.ne_of_gt (Heap.lt_size e1)
 refine wpAny_setField e2 q4 hlt (k _ ?_ ?_)
 ·have off:∀b o,b≠e->h1.get? b=some o->((h1.push oT).update e (Obj.mapFields (·.setIfInBounds 1 (Value.ref h1.objs.size)))).get? b=some o:=fun b o n q=>by
   rw[Heap.get?_update_other _ _ (Ne.symm n)]
   exact Heap.get?_push_of_some _ q
  have noF:∀b o,h1.get? b=some o->(∀vs,o.data≠.fields vs)->b≠e:=by
   rintro b o q n rfl
   rw[e1] at q;cases q;exact n ws q4
  refine⟨fun b o q=>off b o ?_ (st1 b o q),nw,?_,_,_,h1.objs.size,oT,_,Heap.get?_update_self _ e2 (Obj.isFreed_of_fields (Obj.data_mapFields q4 _)),xK _ _,vd _ _,Obj.data_mapFields q4 _,by simp[hlt],?_,ne,?_,dT,?_⟩
  ·rintro rfl;rw[nw] at q;cases q
  ·exact fr.of_keeps fun b o q n=>by
    obtain⟨sl,q'⟩:=z3 b o q
    exact⟨_,off b _ (noF b _ q' n) q',rfl⟩
  ·cases q:B.get? h1.objs.size with
   | none=>rfl
   | some o=>exact absurd (Heap.lt_size (st1 _ _ q)) (Nat.lt_irrefl _)
  ·rw[Heap.get?_update_other _ _ (Ne.symm ne)]
   rw[<- hT]
   exact Heap.get?_push_size h1 rfl
  ·first | (simp;done) | (rcases hpl with rfl | ⟨_,_,_,_,_,_,_,rfl⟩<;>simp)
 ·refine⟨fun b o q n=>?_,fun b o q=>?_⟩
  ·obtain⟨sl,q'⟩:=z3 b o q
   refine⟨sl,?_⟩
   rw[Heap.get?_update_other _ _ ?_]
   ·exact Heap.get?_push_of_some _ q'
   ·rintro rfl
    rw[q1] at q;cases q;exact n ws q4
  ·obtain⟨sl,q'⟩:=z3 b o q
   by_cases z:b=e
   ·subst z;exact⟨_,Heap.get?_update_self _ e2 (Obj.isFreed_of_fields (Obj.data_mapFields q4 _))⟩
   ·exact⟨_,by rw[Heap.get?_update_other _ _ (Ne.symm z)];exact Heap.get?_push_of_some _ q'⟩
theorem uE {oe:Obj} {ws:Array Value} (hA:A.frames=some (env::outer)) (fr:s.heap.FunFrames B (env::outer)) (hL:env.frame=some L) (q1:s.heap.get? e=some oe) (st:B.StaysIn s.heap) (nw:B.get? e=none) (q4:oe.data=.fields ws) (q5:ws[1]?=some .none)
  (k:∀h',Fly B (env::outer) e oe.cls oe.dict (rawInt L) h'->Gn s.heap h'->Q () { s with heap:=h' }):wpAny M A (noteFrame (.ref e) env) Q E s:=by
 unfold noteFrame
 simp only[hL]
 refine wpAny_bind (wpAny_field q1 q4 q5 ?_)
 rw[if_neg (by decide)]
 exact nA hA fr hL q1 st nw q4 (Array.getElem?_eq_some_iff.mp q5).1 k
theorem vL (hA:A.frames=some (env::outer)) (hL:env.frame=some L) (x:Fly B (env::outer) e C dc .none s.heap)
  (k:∀h',Fly B (env::outer) e C dc (rawInt L) h'->Gn s.heap h'->Q () { s with heap:=h' }):wpAny M A (noteFrame (.ref e) env) Q E s:=by
 obtain⟨st,nw,fr,oe,ws,T,oT,ts,q1,q2,q3,q4,q5,q6,q7,q8,q9,q10⟩:=x
 have off:∀b,b≠T->(s.heap.update T (Obj.mapFields (·.setIfInBounds 3 Value.none))).get? b=s.heap.get? b:=fun b z=>Heap.get?_update_other _ _ (Ne.symm z)
 have noF:∀b o,s.heap.get? b=some o->(∀vs,o.data≠.fields vs)->b≠T:=by
  rintro b o q n rfl
  rw[q8] at q;cases q;exact n ts q9
 unfold noteFrame
 simp only[hL]
 refine wpAny_bind (wpAny_field q1 q4 q5 ?_)
 rw[if_pos (by simp:(Value.ref T != Value.none)=true)]
 refine wpAny_bind (wpAny_field q8 q9 q10 ?_)
 rw[if_neg (by simp[rawInt]:¬ ((Value.none == rawInt L)=true))]
 refine wpAny_bind (wpAny_setField q8 q9 (Array.getElem?_eq_some_iff.mp q10).1 ?_)
 refine nA (B:=B) (oe:=oe) hA (fr.of_keeps fun b o q n=>⟨o,(off b (noF b o q n)).trans q,rfl⟩) hL ((off e (Ne.symm q7)).trans q1) (fun b o q=>(off b ?_).trans (st b o q)) nw q4 (Array.getElem?_eq_some_iff.mp q5).1 fun h' y u=>?_
 ·rintro rfl;rw[q6] at q;cases q
 ·subst q2 q3
  refine k h' y ⟨fun b o q n=>u.up b o ((off b (noF b o q n)).trans q) n,fun b o q=>?_⟩
  by_cases z:b=T
  ·subst z;exact u.there _ _ (Heap.get?_update_self _ q8 (Obj.isFreed_of_fields (Obj.data_mapFields q9 _)))
  ·exact u.there b o ((off b z).trans q)
end
theorem Cs {P:Program} {w:World} {H:Hp} {h:Heap} {a:Addr} {o:HO} (x:bO P w H h a o):∃u,h.get? a=some u:=by
 cases o with
 | lst xs=>obtain⟨_,_,_,_,e⟩:=x;exact⟨_,e⟩
 | tup xs=>obtain⟨_,_,_,ob,e,_⟩:=x;exact⟨_,e⟩
 | dK kvs=>obtain⟨_,_,_,_,o,_,_,e,_⟩:=x;exact⟨_,e⟩
 | dT kvs=>obtain⟨_,_,_,_,o,_,_,e,_⟩:=x;exact⟨_,e⟩
 | set S n=>obtain⟨o,_,_,_,e,_⟩:=x;exact⟨_,e⟩
 | ins C dx fs=>obtain⟨_,_,_,e,_⟩:=x;exact⟨_,e⟩
 | own y=>exact x
 | xd fs=>obtain⟨_,⟨_,_,_,e,_⟩,_⟩:=x;exact⟨_,e⟩
 | rng lo hi=>obtain⟨_,_,_,e⟩:=x;exact⟨_,e⟩
 | frz ob u=>obtain⟨e,_⟩:=x;exact⟨_,e⟩
 | tbl ps=>exact⟨_,(show h.get? a=some _ from x)⟩
 | met f y=>exact⟨_,(show h.get? a=some _ from x)⟩
 | ext φ=>obtain⟨_,e,_⟩:=x;exact e
noncomputable def Arr (B:Heap) (l:List Env) (e:Addr) (C:Value) (dc:Option Addr) (h:Heap):Prop:=
 (B.StaysIn h/\B.get? e=none/\h.FunFrames B l/\∃oe ws,h.get? e=some oe/\oe.cls=C/\oe.dict=dc/\oe.data=.fields ws/\ws[1]?=some .none)\/Fly B l e C dc .none h
theorem Arr.stays {B:Heap} {l:List Env} {e:Addr} {C:Value} {dc:Option Addr} {h:Heap} (x:Arr B l e C dc h):B.StaysIn h:=x.elim (·.1) (·.stays)
theorem Arr.new {B:Heap} {l:List Env} {e:Addr} {C:Value} {dc:Option Addr} {h:Heap} (x:Arr B l e C dc h):B.get? e=none:=x.elim (·.2.1) (·.new)
theorem Arr.fr {B:Heap} {l:List Env} {e:Addr} {C:Value} {dc:Option Addr} {h:Heap} (x:Arr B l e C dc h):h.FunFrames B l:=x.elim (·.2.2.1) (·.fr)
section
variable {M:Model} {A:Around} {E:Value->Shared->Prop} {s:Shared} {B:Heap} {env:Env} {outer:List Env} {e L:Addr} {C:Value} {dc:Option Addr} {Q:Unit->Shared->Prop}
theorem qp (hA:A.frames=some (env::outer)) (hL:env.frame=some L) (x:Arr B (env::outer) e C dc s.heap)
  (k:∀h',Fly B (env::outer) e C dc (rawInt L) h'->Gn s.heap h'->Q () { s with heap:=h' }):wpAny M A (noteFrame (.ref e) env) Q E s:=by
 rcases x with⟨st,nw,fr,oe,ws,q1,rfl,rfl,q4,q5⟩ | x
 ·exact uE hA fr hL q1 st nw q4 q5 k
 ·exact vL hA hL x k
theorem uS (hA:A.frames=some (env::outer)) (hL:env.frame=some L) (x:Arr B (env::outer) e C dc s.heap)
  (k:∀h',Fly B outer e C dc .none h'->Gn s.heap h'->Q () { s with heap:=h' }):wpAny M A (leaving env (.ref e)) Q E s:=by
 unfold leaving
 exact wpAny_bind (qp hA hL x fun h1 x1 u1=>pe x1 fun h2 x2 u2=>k h2 x2.pop (u1.trans u2))
end
structure Cov (B:Heap) (fs:List Addr) (aT:Hp) (h₀:Heap) (H':Hp):Prop where
 trk:∀b o,H' b=some o->∃u,B.get? b=some u
 old:∀b o,h₀.get? b=some o->aT b=none->b∉fs->B.get? b=some o
noncomputable def CXE (P:Program) (w:World):CXT:=fun outer H s E e s'=>∃(H':Hp) (B:Heap) (a:Addr) (C:Value) (dc:Option Addr),e=.ref a/\s'.os=s.os/\AllBare s'.gens/\Un (frs outer) [] H H' s.heap s'.heap/\HOk P w H' s'.heap/\Fly B outer a C dc .none s'.heap/\Cov B (frs outer) H s.heap H'/\E C dc H'
noncomputable def XeB (X:Cx) (E:XK) (e:Value) (s':Shared):Prop:=∃(σ:St) (H':Hp) (B:Heap) (a:Addr) (C:Value) (dc:Option Addr),e=.ref a/\Inv X [] σ H' s'/\Arr B X.stack a C dc s'.heap/\Cov B X.fs X.aT X.aJ.heap H'/\(∀p∈X.pn,B.get? p.1=some p.2)/\E C dc H'
noncomputable def ik (X:Cx) (E:XK):Prop:=∀e s',XeB X E e s'->X.xe e s'
structure Plain (X:Cx):Prop where
 ex:X.ex=[]
 stk:X.stack=X.env::X.outer/\X.env.frame=some X.env.locals
theorem HOk.flew {P:Program} {w:World} {H':Hp} {B h h':Heap} (x:HOk P w H' h) (tr:∀b o,H' b=some o->∃u,B.get? b=some u) (st:B.StaysIn h) (st':B.StaysIn h'):HOk P w H' h':=fun a o e=>
 (x a o e).iR (fun b u hb q=>by
  obtain⟨u',q'⟩:∃u,B.get? b=some u:=by
   rcases hb with rfl | hb
   ·exact tr _ _ e
   ·exact tr _ _ hb
  have:=st _ _ q'
  rw[q] at this;cases this
  exact st' _ _ q') (fun _ q=>q) fun _ _ q=>q
theorem Inv.drop {X:Cx} {pins:List (Addr × Obj)} {σ:St} {H:Hp} {s:Shared} (I:Inv X pins σ H s):Inv X [] σ H s:=
 ⟨I.ok,I.os,I.bare,I.base,I.loc,I.cell,I.free,I.df,fun p hp=>I.pin p (by simp only[List.append_nil] at hp;exact List.mem_append_left _ hp),I.hok,I.len⟩
theorem sI {fs:List Addr} {aT H':Hp} {B h₀ h h':Heap} (u:Un fs [] aT H' h₀ h) (c:Cov B fs aT h₀ H') (st':B.StaysIn h') (g:Gn h h') (nf:∀b∈fs,∀o,h.get? b=some o->∀vs,o.data≠.fields vs):Un fs [] aT H' h₀ h':=
 ⟨fun b o e n hb _=>st' b o (c.old b o e n hb),fun b o e n hb hx=>by
  obtain⟨sl,q⟩:=u.slot b o e n hb hx
  obtain⟨sl',q'⟩:=g.up b _ q (nf b hb _ q)
  exact⟨sl',q'⟩,u.free,fun b o e hx=>by
  obtain⟨o',q⟩:=u.there b o e hx
  exact g.there b o' q,u.mS,u.lr,u.mP⟩
theorem Inv.flew {X:Cx} {σ:St} {H':Hp} {s':Shared} {B h':Heap} {t':Nat} (I:Inv X [] σ H' s') (p:Plain X) (c:Cov B X.fs X.aT X.aJ.heap H') (pn:∀p∈X.pn,B.get? p.1=some p.2) (st:B.StaysIn s'.heap) (fr:s'.heap.FunFrames B X.stack) (st':B.StaysIn h') (g:Gn s'.heap h'):Inv X [] σ H' { s' with heap:=h',toks:=t' }:=by
 have cellK:∀{c':Addr} {v:Option Value},s'.heap.IsCell c' v->h'.IsCell c' v:=fun{c' v} ⟨o,ho,hd⟩=>by
  obtain⟨sl,q⟩:=g.up c' o ho fun vs z=>by rw[hd] at z;cases z
  exact⟨_,q,hd⟩
 refine⟨I.ok,I.os,I.bare,?_,?_,fun x c' e=>let ⟨v,q⟩:=I.cell x c' e;⟨v,cellK q⟩,I.free,I.df,fun q hq=>?_,I.hok.flew c.trk st st',I.len⟩
 ·have u:=I.base
  rw[p.ex] at u ⊢
  refine sI u c st' g fun b hb o q vs z=>?_
  have:b∈X.stack.filterMap (·.frame):=by
   rw[p.stk.1,List.filterMap_cons,p.stk.2]
   exact List.mem_cons_of_mem _ hb
  obtain⟨_,o',q',n⟩:=fr.mem this
  rw[q] at q';cases q';exact n vs z
 ·obtain⟨m,hn,k⟩:=I.loc
  refine⟨m,g.up.ns hn,fun i x v a b c=>?_⟩
  obtain⟨u,r,l⟩:=k i x v a b c
  refine⟨u,r,l.imp (fun z=>z) fun⟨z,c',e,q⟩=>⟨z,c',e,cellK q⟩⟩
 ·have:=I.pin q hq
  rw[List.append_nil] at hq
  exact⟨st' _ _ (pn q hq),this.2⟩
section
variable {P:Program} {w:World} {K:PySem.W.Frag} {mg:Str->Option Value} {base:Heap}
theorem uh {N:List Str} {qual:Str} {scope:Scope} {f:Addr} {cd:Value} {A:Around} {outer:List Env} {s:Shared} {H:Hp} {E:XK}:ik (iC (CXE P w) P w K mg base N qual scope f cd A outer s H E) E:=by
 rintro e s' ⟨σ,H',B,a,C,dc,rfl,I,ar,c,_,q⟩
 have fr:=ar.fr
 have hA:(iC (CXE P w) P w K mg base N qual scope f cd A outer s H E).A.frames=some (envOfC qual scope s.heap.objs.size f cd::outer):=I.ok.frames
 refine uS hA rfl ar fun h' x g=>?_
 refine⟨H',B,a,C,dc,rfl,I.os,I.bare,sI (show Un (frs outer) [] H H' s.heap s'.heap from I.base) c x.stays g fun b hb o q vs z=>?_,I.hok.flew c.trk ar.stays x.stays,x,c,q⟩
 have:b∈(envOfC qual scope s.heap.objs.size f cd::outer).filterMap (·.frame):=List.mem_cons_of_mem _ hb
 obtain⟨_,o',q',n⟩:=(show s'.heap.FunFrames B (envOfC qual scope s.heap.objs.size f cd::outer) from fr).mem this
 rw[q] at q';cases q';exact n vs z
end
theorem lK {X:Cx} {E:XK} (p:Plain X) (fl:ik X E):Passes (CXE X.prog X.w) X E:=by
 rintro pins σ H s e s' I ⟨H',B,a,C,dc,rfl,os,bare,un,hok,x,c,q⟩
 refine fl _ _ ⟨σ,H',B,a,C,dc,rfl,(I.qP os un hok bare fun b z=>absurd z (by simp)).drop,.inr x,⟨c.trk,fun b o e n hb=>?_⟩,fun p' hp=>?_,q⟩
 rotate_left
 ·obtain⟨q1,q2,q3,q4,q5⟩:=I.pin p' (List.mem_append_left _ hp)
  refine c.old _ _ q1 q2 fun z=>?_
  rcases List.mem_cons.mp (I.gB _ z) with z | z
  ·exact q3 z
  ·exact q4 z
 have hx:b∉X.ex:=by rw[p.ex];simp
 refine c.old b o (I.base.keep b o e n hb hx) (I.base.free b o e n hx) fun z=>?_
 rcases List.mem_cons.mp (I.gB b z) with rfl | z
 ·exact absurd (Heap.lt_size e) (Nat.not_lt_of_le I.ok.above)
 ·exact hb z
theorem ue {X:Cx} {E:XK} {pins:List (Addr × Obj)} {σ:St} {H:Hp} {s:Shared} {a:Addr} {h':Heap} {C:Value} {dc:Option Addr} {oe:Obj} {ws:Array Value} {t':Nat} (p:Plain X) (fl:ik X E) (I:Inv X pins σ H s) (k:∀b o,s.heap.get? b=some o->h'.get? b=some o)
  (nw:s.heap.get? a=none) (q1:h'.get? a=some oe) (q2:oe.cls=C) (q3:oe.dict=dc) (q4:oe.data=.fields ws) (q5:ws[1]?=some .none) (q:E C dc H):X.xe (.ref a) { s with heap:=h',toks:=t' }:=by
 have fr:=I.stack
 have nfr:∀b,b∈frs X.stack->H b=none:=I.pG
 refine fl _ _ ⟨σ,H,PySem.W.hideAll s.heap (frs X.stack),a,C,dc,rfl,(I.kept k).drop,.inl ⟨fun b o z=>k b o (PySem.W.of_hideAll _ z),?_,?_,oe,ws,q1,q2,q3,q4,q5⟩,⟨fun b o z=>?_,fun b o e n hb=>?_⟩,fun p' hp=>?_,q⟩
 rotate_right
 ·obtain⟨q1,q2,q3,q4,q5⟩:=I.pin p' (List.mem_append_left _ hp)
  refine PySem.W.hideAll_get _ q1 fun z=>?_
  rcases List.mem_cons.mp (I.gB _ z) with z | z
  ·exact q3 z
  ·exact q4 z
 ·cases z:(PySem.W.hideAll s.heap (frs X.stack)).get? a with
  | none=>rfl
  | some o=>have:=PySem.W.of_hideAll _ z;rw[nw] at this;cases this
 ·exact(PySem.W.funFrames_hide fr fun env he b hb=>List.mem_filterMap.mpr ⟨env,he,hb⟩).of_keeps fun b o z _=>⟨o,k b o z,rfl⟩
 ·obtain⟨u,hu⟩:=Cs (I.hok b o z)
  exact⟨u,PySem.W.hideAll_get _ hu fun hm=>by rw[nfr b hm] at z;cases z⟩
 ·have hx:b∉X.ex:=by rw[p.ex];simp
  refine PySem.W.hideAll_get _ (I.base.keep b o e n hb hx) fun z=>?_
  rcases List.mem_cons.mp (I.gB b z) with rfl | z
  ·exact absurd (Heap.lt_size e) (Nat.not_lt_of_le I.ok.above)
  ·exact hb z
noncomputable abbrev bmV:List Value:=[.type "ValueError", .type "Exception", .type "BaseException", .type "object"]
theorem zd {K:PySem.W.Frag} {h:Heap} {C:Addr} {bmB:List Value} {newId:String} (X:K.In h) (q:PySem.W.excIn K C bmB newId=true) :
  ∃bm N nm q' bs hdct sn sub ab col dd k0 k1 k2 k3 k5 mN,h.get? C=some (excClassObj nm q' C N bs bm hdct sn sub ab col dd k0 k1 k2 k3 k5 newId)/\h.Ns N mN/\mN "__init__" = none/\OwnTail h bmB bm:=by
 unfold PySem.W.excIn at q
 split at q
 ·rename_i dd cd sl ho
  split at q
  ·rename_i C' bm k0 k1 k2 k3 n k5 hm hs
   simp only[Bool.and_eq_true,beq_iff_eq,Bool.not_eq_true'] at q
   obtain⟨⟨⟨⟨⟨rfl,rfl⟩,hdel⟩,ht⟩,hok⟩,hni⟩:=q
   obtain⟨nm,bs,mro,ns,qn,hd,sn,sub,ab,col,del⟩:=cd
   dsimp only at hm hdel hok hni
   subst hm hdel
   obtain rfl:sl = #[k0,k1,k2,k3,some (.builtin n),k5]:=by
    obtain⟨l⟩:=sl
    simp only at hs
    rw[hs]
   exact⟨bm,ns,nm,qn,bs,hd,sn,sub,ab,col,dd,k0,k1,k2,k3,k5,_,X _ _ ho,.of_isNs (PySem.W.isNs_of_in X hok),PySem.W.nsMap_none_of_in X hok hni,PySem.W.tail_of_in X ht⟩
  ·cases q
 ·cases q
theorem C7 {X:Cx} {E:XK} {pins:List (Addr × Obj)} {σ:St} {H:Hp} {s:Shared} {x:Str} {C:Addr} {np cpos pos:Pos} {Q:Flow->Shared->Prop} (p:Plain X) (fl:ik X E) (hc:X.calm=true) (I:Inv X pins σ H s) (hg:Gl X x) (hm:X.mg x=some (.ref C)) (hC:PySem.W.excIn X.K C bmV "ValueError.__new__" = true)
  (q:E (.ref C) none H) (hdb:(x == ("__debug__" : Str))=false:=by decide):wpAny (model X.prog X.w) X.A (exec (.Raise (some (.Call (.Name x np) [] [] cpos)) none pos) X.env) Q X.xe s:=by
 obtain⟨tl,N,nm,q',bs,hdct,sn,sub,ab,col,dd,k0,k1,k2,k3,k5,mN,hC',hN,hni,T⟩:=zd I.kIn hC
 refine wpAny_Raise_call_subT (C:=C) (nm:=nm) (q:=q') (N:=N) (bs:=bs) (bm:=tl) (hdct:=hdct) (sn:=sn) (sub:=sub) (ab:=ab) (col:=col) (dd:=dd) (k0:=k0) (k1:=k1) (k2:=k2) (k3:=k3) (k5:=k5) PySem.F.excBase_ValueError (mN:=mN) (T.hasType PySem.F.excBase_ValueError.hasBase) (I.ok.hd hc) rfl hni (g8 I hg hm ⟨rfl,?_⟩ hdb)
 refine evalArgs_empty ⟨rfl,Nat.zero_le _,hC',hN,T,fun h' e me=>?_⟩
 obtain⟨t,he,_,_⟩:=me.there
 exact ue p fl I me.keeps me.new he rfl rfl rfl rfl q
end L2
namespace L2.FE
open PySem PySem.Spec PyProof.Rows
noncomputable def εX (g:GG) (E:XK):EE:=fun _ H' x=>∀(C:Addr) (dc:Option Addr),g x.cls=some C->XFs H' dc x.fs->E (.ref C) dc H'
noncomputable abbrev spE (K:PySem.W.Frag) (g:GG) (np:Nat) (m:MF):Sp:=spG K g (εX g) np m
noncomputable def uo (P:Program) (w:World) (K:PySem.W.Frag) (mg:Str->Option Value) (base:Heap) (g:GG) (x:Str) (k:Nat) (ps:List Str) (m:MF):Prop:=
 ∃f fd,dq P w K mg base (CXE P w) k f fd ps (spE K g ps.length m)/\PySem.W.keepIn K (.ref f)=true/\Binds K fd ps []/\mg x=some (.ref f)
noncomputable def ow (x:Str):MS:=fun _ h=>.err ⟨x,[]⟩ h
noncomputable def noR {β:Type}:R β->R β
 | .ok b h=>.ok b h
 | _=>.bad
@[simp] theorem Fd {β:Type} (b:β) (h:Hh):noR (.ok b h)=.ok b h:=rfl
noncomputable def up {β:Type} (m:En->Hh->R β):En->Hh->R β:=fun env h=>noR (m env h)
theorem n3 {K:PySem.W.Frag} {g:GG} {ε:EE} {α:List Addr} {H:Hp} {β:Type} {r:R β} {k:β->Hh->Prop} (w:WQ K g ε α H (noR r) k):WQ K g E00 α H r k:=by
 cases r with
 | ok b h=>exact w
 | err x h=>exact w.elim
 | bad=>exact w.elim
section
variable {P:Program} {w:World} {K:PySem.W.Frag} {mg:Str->Option Value} {base:Heap} {g:GG}
theorem xc {x qual:Str} {st:Stmt} {f:Addr} {fd:FuncData} {N ps:List Str} {k:Nat} {mb:MS} (F:Fun K x qual st f fd) (S:aN N ps (ak st))
  (hb:∀(cdv:Value) (A:Around) (outer:List Env) (s:Shared) (H:Hp) (E:XK),cO k (A.deeper (envOfC qual (ak st) s.heap.objs.size f cdv)) →
   ik (iC (CXE P w) P w K mg base N qual (ak st) f cdv A outer s H E) E->Plain (iC (CXE P w) P w K mg base N qual (ak st) f cdv A outer s H E) →
   PassesOwn (model P w) (A.deeper (envOfC qual (ak st) s.heap.objs.size f cdv)) (envOfC qual (ak st) s.heap.objs.size f cdv) (iC (CXE P w) P w K mg base N qual (ak st) f cdv A outer s H E).xe →
   PSs (iC (CXE P w) P w K mg base N qual (ak st) f cdv A outer s H E) (bS st) (tMS K g (εX g E) mb)):dq P w K mg base (CXE P w) (k+1) f fd ps (spE K g ps.length (cR N.length mb)):=by
 obtain⟨oc,od,kV,doc,pm,an,cdv,ct,osl,rfl,lk,hcd⟩:=F.ex
 refine AI lk hcd S (fun vs H Q E h=>h.1) fun A outer s H vs Q E hr hsp=>⟨_,hb cdv A outer s H E hr uh ⟨rfl,rfl,rfl⟩ PassesOwn.leaving,?_⟩
 obtain⟨hl,α,ds,h,rs,hh,w⟩:=hsp
 refine tMS.use ⟨hh,jJ rs⟩ w.bind fun fl h' H' α' e r kk=>?_
 cases fl with
 | nx e'=>exact fun σ' s'=>(show aA K g α H Q .non h' from kk) _ H' α' e r .non
 | bk e'=>exact kk.elim
 | ct e'=>exact kk.elim
 | rt d=>exact fun v rv=>(show aA K g α H Q d h' from kk) _ H' α' e r rv
end
section
variable {X:Cx} {g:GG} {E:XK} {ε:EE}
theorem sV {x:Str} {C:Addr} {np cpos pos:Pos} (fl:ik X E) (pl:Plain X) (hc:X.calm=true) (hg:Gl X x) (hm:X.mg x=some (.ref C)) (hgx:g x=some C) (hC:PySem.W.excIn X.K C bmV "ValueError.__new__" = true) (hdb:(x == ("__debug__" : Str))=false:=by decide) :
  PS X (.Raise (some (.Call (.Name x np) [] [] cpos)) none pos) (tMS X.K g (εX g E) (ow x)):=fun pins s σ H D I ⟨α,env,h,sr,w⟩=>
 C7 pl fl hc I hg hm hC (w α H Ext.refl sr.heap C none hgx (.inl ⟨rfl,rfl⟩)) hdb
theorem vJ {k:Nat} {f:Addr} {fd:FuncData} {ps:List Str} {m:MF} {np:Nat} {x:Str} {p pos:Pos} {e:Expr} {es:List Expr} {mr:MA} (fl:ik X E) (pl:Plain X) (F:dq X.prog X.w X.K X.mg X.base (CXE X.prog X.w) k f fd ps (spE X.K g np m)) (hr:cO k X.A) (hg:Gl X x) (hm:X.mg x=some (.ref f)) (hk:PySem.W.keepIn X.K (.ref f)=true) (hb:Binds X.K fd ps [])
  (ha:PA X (e::es) (tMA X.K g (εX g E) mr)) (hlen:∀env h ds h',mr env h=.ok ds h'->ds.length=np) (hdb:(x == ("__debug__" : Str))=false:=by decide) (he:starEach (e::es) X.env=(false,eval e X.env)::starEach es X.env:=by rfl) (hpl:(backTo pos (starEach es X.env)).any (·.1)=false:=by rfl) :
  PE X (.Call (.Name x p) (e::es) [] pos) (tM X.K g (εX g E) (ag m mr)):=
 PE.imp (t7 F hr hg hm hk hb .nil (lK pl fl) ha hdb he hpl) fun σ H Q ⟨α,env,h,s,w⟩=>⟨α,env,h,s,w.bind.mono fun d1 h1 eq w1 v1 H1 α1 e1 hr1 r1=>by
  show spE X.K g np m (v1++[]) H1 Q E
  rw[List.append_nil]
  refine⟨?_,α1,d1,h1,r1,hr1,w1.post e1⟩
  rw[<- r1.length]
  exact hlen env h d1 h1 eq⟩
theorem _root_.L2.PS.nox {e:Stmt} {t:TS} (h:PS X.nox e t):PS X e t:=fun pins s σ H D I hw=>
 wpAny_mono (h pins s σ H D (I.jy _) hw) (fun _ _ q=>q.eR) fun _ _ z=>False.elim z
theorem qg {e:Expr} {m:ME} (h:PE X.nox e (tM X.K g E00 m)):PE X e (tM X.K g ε (up m)):=PE.imp h.nox fun σ H Q ⟨α,env,h,s,w⟩=>⟨α,env,h,s,n3 w⟩
theorem AL {e:Expr} {m:MT} (h:PT X.nox e (tMT X.K g E00 m)):PT X e (tMT X.K g ε (up m)):=PT.imp h.nox fun σ H Q ⟨α,env,h,s,w⟩=>⟨α,env,h,s,n3 w⟩
theorem E5 {e:Stmt} {m:MS} (h:PS X.nox e (tMS X.K g E00 m)):PS X e (tMS X.K g ε (up m)):=PS.imp h.nox fun σ H Q ⟨α,env,h,s,w⟩=>⟨α,env,h,s,n3 w⟩
theorem qe {e:Expr}:PE X e (tM X.K g ε fun _ _=>.bad):=fun pins s σ H Q I ⟨α,env,h,sr,w⟩=>w.elim
end
end L2.FE
namespace L2
open PySem PySem.Spec PyProof.Rows
noncomputable abbrev unm (A:Around):Around:={ A with handled:=none }
section
variable {X:Cx} {pins:List (Addr × Obj)} {σ:St} {H:Hp} {s:Shared}
noncomputable abbrev Cx.hand (X:Cx) (A:Around) (pn:List (Addr × Obj)) (E:Value->Shared->Prop):Cx:={ X with A:=A,calm:=false,pn:=pn,xe:=E }
theorem Inv.hand (I:Inv X pins σ H s) {A:Around} (hA:A.frames=X.A.frames) {pn pins':List (Addr × Obj)} (hp:∀p∈pn++pins',p∈X.pn++pins) (E:Value->Shared->Prop):Inv (X.hand A pn E) pins' σ H s:=
 ⟨⟨I.ok.mod,I.ok.kind,I.ok.glob,I.ok.blt,I.ok.above,I.ok.inj,I.ok.has,I.ok.cab,fun z=>(nomatch z),hA.trans I.ok.frames,I.ok.stk,I.ok.exf,I.ok.bs,I.ok.bsz,I.ok.oD,I.ok.qA,I.ok.hG,I.ok.frf⟩,I.os,I.bare,I.base,I.loc,I.cell,I.free,I.df,fun p h=>I.pin p (hp p h),I.hok,I.len⟩
noncomputable abbrev Cx.wpn (X:Cx) (pn:List (Addr × Obj)) (E:Value->Shared->Prop):Cx:={ X with pn:=pn,xe:=E }
theorem Inv.wpn (I:Inv X pins σ H s) {pn pins':List (Addr × Obj)} (hp:∀p∈pn++pins',p∈X.pn++pins) (E:Value->Shared->Prop):Inv (X.wpn pn E) pins' σ H s:=
 ⟨⟨I.ok.mod,I.ok.kind,I.ok.glob,I.ok.blt,I.ok.above,I.ok.inj,I.ok.has,I.ok.cab,I.ok.hd,I.ok.frames,I.ok.stk,I.ok.exf,I.ok.bs,I.ok.bsz,I.ok.oD,I.ok.qA,I.ok.hG,I.ok.frf⟩,I.os,I.bare,I.base,I.loc,I.cell,I.free,I.df,fun p h=>I.pin p (hp p h),I.hok,I.len⟩
theorem Inv.back {A:Around} {pn pins':List (Addr × Obj)} {E:Value->Shared->Prop} (J:Inv (X.hand A pn E) pins' σ H s) (ok:X.Ok) (hp:∀p∈X.pn++pins,p∈pn++pins'):Inv X pins σ H s:=
 ⟨ok,J.os,J.bare,J.base,J.loc,J.cell,J.free,J.df,fun p h=>J.pin p (hp p h),J.hok,J.len⟩
theorem Inv.adopt {B:Heap} {a:Addr} {oe:Obj} {ws:Array Value} (I:Inv X [] σ H s) (p:Plain X) (c:Cov B X.fs X.aT X.aJ.heap H) (pn:∀p∈X.pn,B.get? p.1=some p.2) (fr:s.heap.FunFrames B X.stack) (nw:B.get? a=none) (q1:s.heap.get? a=some oe) (q4:oe.data=.fields ws) :
  H a=none/\Inv X [] σ (upd H a (FE.AtO a oe)) s:=by
 have hn:H a=none:=by
  cases z:H a with
  | none=>rfl
  | some o=>obtain⟨u,hu⟩:=c.trk a o z;rw[nw] at hu;cases hu
 have nfr:∀b∈X.env.locals::X.fs,b≠a:=by
  rintro b hb rfl
  have:b∈X.stack.filterMap (·.frame):=by
   rw[p.stk.1,List.filterMap_cons,p.stk.2]
   exact hb
  obtain⟨_,o',q',n⟩:=fr.mem this
  rw[q1] at q';cases q';exact n ws q4
 refine⟨hn,I.ok,I.os,I.bare,?_,I.loc,I.cell,?_,fun x c' e=>?_,fun q hq=>?_,fun b o e=>?_,I.len⟩
 ·obtain⟨u1,u2,u3,u4,u5,u6,u7⟩:=I.base
  refine⟨u1,u2,fun b o e n hx=>?_,u4,fun b xs q=>?_,fun b o u q=>?_,fun b ps q=>?_⟩
  ·rw[aB ?_];exact u3 b o e n hx
   rintro rfl
   by_cases hb:b∈X.fs
   ·exact nfr b (List.mem_cons_of_mem _ hb) rfl
   ·have:=c.old b o e n hb
    rw[nw] at this;cases this
  ·have:=u5 b xs q
   rw[aB (aQ this hn)];exact this
  ·have:=u6 b o u q
   rw[aB (aQ this hn)];exact this
  ·obtain⟨more,this⟩:=u7 b ps q
   exact⟨more,by rw[aB (aQ this hn)];exact this⟩
 ·rw[aB (nfr _ List.mem_cons_self)];exact I.free
 ·rw[aB ?_];exact I.df x c' e
  rintro rfl
  obtain⟨v,o,ho,hd⟩:=I.cell x c' e
  rw[q1] at ho;cases ho;rw[q4] at hd;cases hd
 ·have z:=I.pin q hq
  refine⟨z.1,?_,z.2.2⟩
  rw[aB ?_];exact z.2.1
  rintro e
  rw[List.append_nil] at hq
  have:=pn q hq
  rw[e,nw] at this;cases this
 ·by_cases hb:b=a
  ·subst hb
   rw[aL] at e;cases e
   exact⟨q1,q1,⟨_,q1⟩,fun h1 h2 z k=>k _ z⟩
  ·rw[aB hb] at e
   exact(I.hok b o e).iR (fun _ _ _ z=>z) (fun c' z=>by rw[aB (aQ z hn)];exact z) fun c' xs z=>by rw[aB (aQ z hn)];exact z
theorem Inv.forget {i:Nat} {x:Str} {m m':Str->Option Value} {h':Heap} {t':Nat} (I:Inv X pins σ H s) (hN:X.N.Nodup) (hi:X.N[i]?=some x) (hn:s.heap.Ns X.env.locals m) (hn':h'.Ns X.env.locals m') (hm:∀y,y≠x->m' y=m y) (sb:Heap.SameBut X.env.locals s.heap h'):Inv X pins (σ.set i none) H { s with heap:=h',toks:=t' }:=by
 have kp:∀b,b≠X.env.locals->h'.get? b=s.heap.get? b:=fun b n=>sb.2 b n
 have cellK:∀y c v,X.env.cells.lookup y=some c->s.heap.IsCell c v->h'.IsCell c v:=fun y c v e ⟨o,ho,hd⟩=>⟨o,by rw[kp c (I.cne y c e)];exact ho,hd⟩
 refine⟨I.ok,I.os,I.bare,?_,⟨m',hn',fun j y v a b c=>?_⟩,fun y c e=>let ⟨v,q⟩:=I.cell y c e;⟨v,cellK y c v e q⟩,I.free,I.df,fun q hq=>?_,fun b o e=>?_,by rw[List.length_set];exact I.len⟩
 ·obtain⟨u1,u2,u3,u4,u5,u6,u7⟩:=I.base
  have ne:∀b o,X.aJ.heap.get? b=some o->b≠X.env.locals:=fun b o e=>Nat.ne_of_lt (Nat.lt_of_lt_of_le (Heap.lt_size e) I.ok.above)
  exact⟨fun b o e n h1 h2=>by rw[kp b (ne b o e)];exact u1 b o e n h1 h2,fun b o e n h1 h2=>by rw[kp b (ne b o e)];exact u2 b o e n h1 h2,u3,fun b o e h2=>by rw[kp b (ne b o e)];exact u4 b o e h2,u5,u6,u7⟩
 ·rw[List.getElem?_set] at b
  by_cases hj:i=j
  ·rw[if_pos hj] at b
   split at b<;>cases b
  ·rw[if_neg hj] at b
   obtain⟨m0,hn0,k⟩:=I.loc
   obtain⟨u,r,l⟩:=k j y v a b c
   have hy:y≠x:=by
    rintro rfl
    exact hj ((List.getElem?_inj (List.getElem?_eq_some_iff.mp hi).1 hN).mp (hi.trans a.symm))
   have e0:m0=m:=by
    obtain⟨o1,es1,ep1,a1,a2,a3,a4⟩:=hn0
    obtain⟨o2,es2,ep2,b1,b2,b3,b4⟩:=hn
    rw[a1] at b1;cases b1
    rw[a2] at b2;cases b2
    funext y;rw[<- a4,<- b4]
   subst e0
   refine⟨u,r,l.imp (fun z=>⟨z.1,by rw[hm y hy];exact z.2⟩) fun⟨z,c',e,q⟩=>⟨z,c',e,cellK y c' _ e q⟩⟩
 ·have z:=I.pin q hq
  exact⟨by rw[kp _ z.2.2.1];exact z.1,z.2⟩
 ·exact(I.hok b o e).iR (fun c' u hc q=>by
   rw[kp c' ?_];exact q
   rintro rfl
   rcases hc with rfl | hc
   ·rw[I.free] at e;cases e
   ·rw[I.free] at hc;cases hc) (fun _ q=>q) fun _ _ q=>q
end
structure FnH (P:Program) (w:World) (K:PySem.W.Frag) (mg:Str->Option Value) (base:Heap) (k:Nat) (f:Addr) (fd:FuncData) (ps:List Str) (sp:Sp):Prop where
 len:∀vs H Q E,sp vs H Q E->vs.length=ps.length
 run:∀(A:Around) (outer:List Env) (s:Shared) (H:Hp) (args:Args) (us:List Value) (vs:List V) (Q:VK) (E:XK),cO k (unm A)->xq P w K mg base A outer s H->BindsTo s fd args (ps.zip us)->Vals vs us->sp vs H Q E →
  codeAny (model P w) A (.call (.ref f) args) (CR CX0 outer P w H s Q E) s
theorem FnH.mono {P:Program} {w:World} {K:PySem.W.Frag} {mg:Str->Option Value} {base:Heap} {j k:Nat} {f:Addr} {fd:FuncData} {ps:List Str} {sp:Sp} (F:FnH P w K mg base j f fd ps sp) (h:j<=k):FnH P w K mg base k f fd ps sp:=
 ⟨F.len,fun A outer s H args us vs Q E hr=>F.run A outer s H args us vs Q E (hr.mono h)⟩
section
variable {P:Program} {w:World} {K:PySem.W.Frag} {mg:Str->Option Value} {base:Heap}
noncomputable abbrev cxH (P:Program) (w:World) (K:PySem.W.Frag) (mg:Str->Option Value) (base:Heap) (N:List Str) (qual:Str) (scope:Scope) (f:Addr) (cd:Value) (A:Around) (outer:List Env) (s:Shared) (H:Hp) (E:XK):Cx:=
 (iC CX0 P w K mg base N qual scope f cd A outer s H E).hand (A.deeper (envOfC qual scope s.heap.objs.size f cd)) [] fun _ _=>False
theorem BA {x qual:Str} {st:Stmt} {f:Addr} {fd:FuncData} {N ps:List Str} {k:Nat} {sp:Sp} (F:Fun K x qual st f fd) (S:aN N ps (ak st)) (len:∀vs H Q E,sp vs H Q E->vs.length=ps.length)
  (hbody:∀(cdv:Value) (A:Around) (outer:List Env) (s:Shared) (H:Hp) (vs:List V) (Q:VK) (E:XK),cO k (unm (A.deeper (envOfC qual (ak st) s.heap.objs.size f cdv)))->sp vs H Q E →
   ∃t,PSs (cxH P w K mg base N qual (ak st) f cdv A outer s H E) (bS st) t/\t { nx:=fun _ H'=>Q .non H',rt:=Q } (start N vs) H):FnH P w K mg base (k+1) f fd ps sp:=by
 obtain⟨oc,od,kV,doc,pm,an,cdv,ct,osl,rfl,lk,hcd⟩:=F.ex
 refine⟨len,fun A outer s H args us vs Q E hr e0 hb r hsp=>?_⟩
 have hl:=len _ _ _ _ hsp
 have KX:K.In s.heap:=e0.mod.kin.keeps fun b o e=>(e0.bs b o e).1
 have lim:s.heap.NoLimit:=e0.mod.nolimit.keeps fun b o e=>(e0.bs b o e).1
 have hkind:∀y∈ps.zip us,(ak st).names.lookup y.1=some .local\/((ak st).names.lookup y.1=some .cell/\((cellsFrom (s.heap.objs.size+1) (ak st).names []).lookup y.1).isSome=true):=fun⟨n,v⟩ hy=>by
  rcases S.par n (List.of_mem_zip hy).1 with q | q
  ·exact .inl q
  ·exact .inr ⟨q,PySem.W.cellsFrom_some _ _ _ (.inl q)⟩
 have hdp:A.depth<recursionLimit:=cO.depth (A:=unm A) hr
 refine codeAny_call_function hdp (KX _ _ lk) rfl S.co S.gen rfl (PySem.W.codeRec_of KX hcd) (hb _ _ _ _ ?_)
 refine wpAny_newFunctionEnv_cells S.kind hkind fun env he s1 x=>?_
 subst he
 refine⟨lim.keeps x.toInCall.keep,codeAny_func ?_⟩
 obtain⟨t,ht,hq⟩:=hbody cdv A outer s H vs Q E (hr.deeper _) hsp
 have I0:Inv (iC CX0 P w K mg base N qual (ak st) f cdv (unm A) outer s H E) [] (start N vs) H s1:=nL S rfl ⟨e0.frames,e0.mod,e0.bs,e0.bsz,e0.hG,e0.frf,e0.hok,e0.bare⟩ hl r x
 have I:Inv (cxH P w K mg base N qual (ak st) f cdv A outer s H E) [] (start N vs) H s1:=
  ⟨⟨I0.ok.mod,I0.ok.kind,I0.ok.glob,I0.ok.blt,I0.ok.above,I0.ok.inj,I0.ok.has,I0.ok.cab,fun z=>(nomatch z),Around.frames_deeper e0.frames,I0.ok.stk,I0.ok.exf,I0.ok.bs,I0.ok.bsz,I0.ok.oD,I0.ok.qA,I0.ok.hG,I0.ok.frf⟩,I0.os,I0.bare,I0.base,I0.loc,I0.cell,I0.free,I0.df,I0.pin,I0.hok,I0.len⟩
 refine wpAny_mono (ht [] s1 (start N vs) H _ I hq) (fun fl s' hs=>?_) fun e s' hs=>hs.elim
 have fin:∀{σ':St} {H':Hp} {v:V} {u:Value},Inv (cxH P w K mg base N qual (ak st) f cdv A outer s H E) [] σ' H' s'->RelV v u->Q v H'->CE outer P w H s Q u s':=
  fun{σ' H' v u} J rv q=>⟨v,H',J.os,J.bare,J.base,J.hok,rv,q⟩
 cases fl with
 | ret u=>
  obtain⟨v,σ',H',J,rv,q⟩:=hs
  exact fin J rv q
 | next=>
  obtain⟨σ',H',J,q⟩:=hs
  exact fin (v:=V.non) (u:=Value.none) J rfl q
 | brk=>
  obtain⟨_,_,_,q⟩:=hs
  exact q.elim
 | cont=>
  obtain⟨_,_,_,q⟩:=hs
  exact q.elim
end
section
variable {X:Cx} {k:Nat} {f:Addr} {fd:FuncData} {ps:List Str} {sp:Sp} {x:Str} {p pos:Pos} {e:Expr} {es:List Expr} {t:TA}
theorem qG (F:FnH X.prog X.w X.K X.mg X.base k f fd ps sp) (hr:cO k (unm X.A)) (hg:Gl X x) (hm:X.mg x=some (.ref f)) (hk:PySem.W.keepIn X.K (.ref f)=true) (hb:Binds X.K fd ps [])
  (ha:PA X (e::es) t) (hdb:(x == ("__debug__" : Str))=false:=by decide) (he:starEach (e::es) X.env=(false,eval e X.env)::starEach es X.env:=by rfl) (hpl:(backTo pos (starEach es X.env)).any (·.1)=false:=by rfl) :
  PE X (.Call (.Name x p) (e::es) [] pos) (AF sp [] E0 t):=by
 intro pins s σ H Q I h
 refine wpAny_Call_Name_kw (g8 I hg hm ?_ hdb)
 refine PySem.W.callWith_K (h₀:=X.base) I.ok.mod.kin hk (thn (ha pos pins s σ H _ I h) fun us s1 ⟨vs,H1,I1,r,q⟩=>⟨I1.kIn,?_⟩) he hpl
 replace q:sp vs H1 Q E0:=by simpa using q
 have hl:us.length=ps.length:=by rw[<- r.length];exact F.len _ _ _ _ q
 have hbb:=hb s1 us I1.kIn (by rw[List.append_nil];exact hl)
 rw[List.append_nil] at hbb
 refine wpAny_call (codeAny_mono (F.run X.A X.stack s1 H1 ⟨us,[]⟩ us vs Q E0 hr I1.Dy hbb r q) fun r s' hq=>?_)
 cases r with
 | error e=>exact hq.elim
 | ok fl=>
  cases fl with
  | ret u=>exact I1.after hq
  | next=>exact hq.elim
  | brk=>exact hq.elim
  | cont=>exact hq.elim
end
end L2
namespace L2
open PySem PySem.Spec PyProof.Rows PySem.W
theorem u9:plainId "BaseException.__getattribute__" = true:=by decide +kernel
theorem xR:builtinKind "BaseException.__getattribute__" = some .slot:=by decide +kernel
theorem ux:splitId "BaseException.__getattribute__" = some ("BaseException", "__getattribute__"):=by decide +kernel
theorem x_ (v:Value):bindSpecial (.builtin "BaseException.__getattribute__") v=pure (.builtin "BaseException.__getattribute__", [v]):=F.excAttr_ValueError.ga.bind v
section
variable {prog:Program} {w:World} {A:Around} {E:Value->Shared->Prop} {s:Shared} {K:Frag} {x D:Addr} {ox:Obj} {odo:Option Obj} {name:Str}
theorem Ao {g0 a0:Value} {tk:Tok} {Q:Fin->Shared->Prop} (X:K.In s.heap) (I:InstAt s.heap x ox D odo) (hf:findObj K D odo name=some (.bind g0 a0)) (h:wpAny (model prog w) A (call g0 [a0,.ref x,.ref D]) (fun v s'=>Q (.done (.ret v)) s') E s) :
  wpAny (model prog w) A (Builtin.«object.__getattribute__» ⟨[.ref x,.str name tk],[]⟩) Q E s:=by
 obtain⟨hh,gg,d,t,os⟩:=s
 have L0:=I.type (M:=model prog w)
 have L1:=looks_find (M:=model prog w) X I hf
 unfold Builtin.«object.__getattribute__»
 refine wpAny_bind (wpAny_pure (wpAny_bind (wpAny_pure (wpAny_bind (L0.at (wpAny_bind (L1.at ?_)))))))
 exact wpAny_bind (wpAny_holding (wpAny_mono h (fun v s' z=>wpAny_pure z) fun _ _ z=>z))
theorem vK {g0 a0:Value} {tk:Tok} {R:Result->Shared->Prop} (X:K.In s.heap) (I:InstAt s.heap x ox D odo) (hsub:mroIn K D (.type "BaseException")=some true) (hf:findObj K D odo name=some (.bind g0 a0))
  (h:wpAny (model prog w) A.in1 (call g0 [a0,.ref x,.ref D]) (fun v s'=>R (.ok (.ret v)) s') (fun e s'=>R (.error e) s') s) :
  codeAny (model prog w) A (.call (.builtin "BaseException.__getattribute__") ⟨[.ref x,.str name tk],[]⟩) R s:=by
 have L0:=I.type (M:=model prog w)
 have L3:Looks (model prog w) s.heap (isInstance (.ref x) (.type "BaseException")) true:=L0.andThen (looks_mroIn X hsub)
 refine codeAny_call_builtin u9 F.entry_bexc_ga ?_
 refine check_slot (i:="BaseException.__getattribute__") xR ux L3 (F.args_bexc_ga (.ref x) (.str name tk)) ?_
 exact Ao X I hf h
theorem yg {g0 a0 v0:Value} {Q:Option Value->Shared->Prop} (X:K.In s.heap) (I:InstAt s.heap x ox D odo) (hga:findIn K (.ref D) "__getattribute__" = some (some (.builtin "BaseException.__getattribute__"))) (hhk:findIn K (.ref D) "__getattr__" = some none) (hsub:mroIn K D (.type "BaseException")=some true)
  (hf:findObj K D odo name=some (.bind g0 a0)) (hv:handedIn v0=true)
  (h:∀(A:Around) (E:Value->Shared->Prop) (Q':Value->Shared->Prop),Q' v0 { s with toks:=s.toks+1 }->wpAny (model prog w) A (call g0 [a0,.ref x,.ref D]) Q' E { s with toks:=s.toks+1 })
  (q:Q (some v0) { s with toks:=s.toks+1 }):wpAny (model prog w) A (getAttr? (.ref x) name) Q E s:=by
 obtain⟨hh,gg,d,t,os⟩:=s
 have L0:=I.type (M:=model prog w)
 have L1:=looks_findIn (M:=model prog w) X hga
 have L2:=looks_findIn (M:=model prog w) X hhk
 have L3:Looks (model prog w) hh (isInstance (.ref x) (.type "BaseException")) true:=L0.andThen (looks_mroIn X hsub)
 unfold getAttr? getAttrBy? getAttrBy
 refine wpAny_bind (wpAny_mkText (wpAny_bind (wpAny_attempt (wpAny_holding (wpAny_bind (L0.at (wpAny_bind (L1.at ?_))))))))
 dsimp only
 rw[if_neg (show ¬ ((onTheHeap (Value.ref D)&&(Value.builtin "BaseException.__getattribute__" == Value.builtin "object.__getattribute__"))=true) from by rw[show(Value.builtin "BaseException.__getattribute__" == Value.builtin "object.__getattribute__")=false from by decide +kernel,Bool.and_false];decide)]
 unfold getAttrByItsOwn hookBefore
 rw[if_pos (show onTheHeap (.ref D)=true from rfl)]
 refine wpAny_bind (L2.at (wpAny_bind (wpAny_attempt (wpAny_holding ?_))))
 unfold callGetattribute
 rw[if_neg (show ¬ ((false&&_)=true) from by simp)]
 unfold boundAndCalled
 rw[x_]
 refine wpAny_bind (wpAny_pure ?_)
 show wpAny (model prog w) A (call (.builtin "BaseException.__getattribute__") [.ref x,.str name t]) _ _ _
 refine wpAny_call (vK (s:=⟨hh,gg,d,t+1,os⟩) X I hsub hf (h _ _ _ ?_))
 exact handed_on hv (wpAny_pure q)
end
theorem xF {K:Frag} {x D:Addr} {ox:Obj} {odo:Option Obj} (hga:findIn K (.ref D) "__getattribute__" = some (some (.builtin "BaseException.__getattribute__"))) (hhk:findIn K (.ref D) "__getattr__" = some none) (hsub:mroIn K D (.type "BaseException")=some true) (hdct:hasDictIn K D=true) (ha:findIn K (.ref D) "__class__" = some (some (.builtin "object.__class__")))
  (hn:specialIn K (.builtin "object.__class__") "__get__" = some (some (.builtin "getset_descriptor.__get__"))) (htk:takesIn K (.builtin "object.__class__")=some true) (hm:mroIn K D (.type "object")=some true) :
  KitX K (.ref x) (.ref D) (fun h=>InstAt h x ox D odo):=by
 obtain⟨cdD,hcD,_⟩:=any_some hdct
 have hlk:∃c' d' cd' sl',K.lookup D=some ⟨c',d',.cls cd',sl'⟩:=by
  unfold clsIn at hcD
  split at hcD
  ·exact⟨_,_,_,_,by assumption⟩
  ·cases hcD
 obtain⟨c',d',cd',sl',ho⟩:=hlk
 refine⟨fun _ _ _ I=>I.type,fun _ _ X _=>?_,fun h tp dd its n sl X htp=>?_,fun{prog w A E Q s} X I k=>?_⟩
 ·intro A' Q' E' s' k q
  unfold isType loadHead
  exact wpAny_bind (wpAny_loadPart (k _ _ (X _ _ ho)) (wpAny_pure q))
 ·refine Bool.eq_false_iff.mpr fun q=>?_
  have e:D=tp:=Value.ref.inj (beq_iff_eq.mp q)
  subst e
  have z:=(X _ _ ho).symm.trans htp
  cases z
 ·have hf:findObj K D odo "__class__" = some (.bind (.builtin "getset_descriptor.__get__") (.builtin "object.__class__")):=by
   unfold findObj
   rw[hcD,Option.bind_some,ha,Option.bind_some]
   simp[hn,htk]
  exact yg X I hga hhk hsub hf rfl (fun A E Q' q'=>wpAny_call (class_get (s:={ s with toks:=s.toks+1 }) (ox:=ox) (od:=odo) X I hm q')) k
noncomputable abbrev bE:List Str:=["FallError", "NoOrder", "NoNumber", "NoSet", "NoRow", "NoLine", "NoText", "TooGreat"]
noncomputable def rG (c x:Str):Bool:=c == x || x == "FallError"
noncomputable def v7 (c:Str):Bool:=!(c == "NoText" || c == "TooGreat")
noncomputable def rq (K:Frag) (D:Addr):Bool:=findIn K (.ref D) "__getattribute__" == some (some (.builtin "BaseException.__getattribute__"))&&findIn K (.ref D) "__getattr__" == some none&&mroIn K D (.type "BaseException") == some true&&hasDictIn K D&&findIn K (.ref D) "__class__" == some (some (.builtin "object.__class__"))&&specialIn K (.builtin "object.__class__") "__get__" == some (some (.builtin "getset_descriptor.__get__"))&&takesIn K (.builtin "object.__class__") == some true&&mroIn K D (.type "object") == some true
noncomputable def A8 (K:Frag) (l:List (Str × Addr)):Bool:=l.all fun p=>rq K p.2&&kitOne K (.ref p.2) (.type "ValueError") == some true&&(!v7 p.1 || excIn K p.2 bmV "ValueError.__new__")&&l.all fun q=>kitOne K (.ref p.2) (.ref q.2) == some (rG p.1 q.1)&&(!(q.1 == "FallError") || exmOne K (.ref p.2) (.ref q.2) == some true)
noncomputable def w8 (K:Frag):Prop:=∃l:List (Str × Addr),l.map (·.1)=bE/\(∀p∈l,nsIn K mainGlobals p.1=some (some (.ref p.2)))/\A8 K l=true
theorem Bc {K:Frag} {a0 a1 a2 a3 a4 a5 a6 a7:Addr} (e0:nsIn K mainGlobals "FallError" = some (some (.ref a0))) (e1:nsIn K mainGlobals "NoOrder" = some (some (.ref a1))) (e2:nsIn K mainGlobals "NoNumber" = some (some (.ref a2))) (e3:nsIn K mainGlobals "NoSet" = some (some (.ref a3)))
  (e4:nsIn K mainGlobals "NoRow" = some (some (.ref a4))) (e5:nsIn K mainGlobals "NoLine" = some (some (.ref a5))) (e6:nsIn K mainGlobals "NoText" = some (some (.ref a6))) (e7:nsIn K mainGlobals "TooGreat" = some (some (.ref a7)))
  (c:A8 K [("FallError", a0),("NoOrder", a1),("NoNumber", a2),("NoSet", a3),("NoRow", a4),("NoLine", a5),("NoText", a6),("TooGreat", a7)]=true):w8 K:=
 ⟨_,rfl,by
  intro p hp
  simp only[List.mem_cons,List.not_mem_nil,or_false] at hp
  rcases hp with rfl | rfl | rfl | rfl | rfl | rfl | rfl | rfl<;>assumption,c⟩
structure my (K:Frag) (mg:Str->Option Value):Prop where
 at_:∀c∈bE,∃C,mg c=some (.ref C)
 one:∀c∈bE,∀C,mg c=some (.ref C)->rq K C=true/\kitOne K (.ref C) (.type "ValueError")=some true/\(v7 c=true->excIn K C bmV "ValueError.__new__" = true)
 two:∀c∈bE,∀C,mg c=some (.ref C)->∀x∈bE,∀X,mg x=some (.ref X)->kitOne K (.ref C) (.ref X)=some (rG c x)
 exm:∀c∈bE,∀C,mg c=some (.ref C)->∀X,mg "FallError" = some (.ref X)->exmOne K (.ref C) (.ref X)=some true
theorem my.of {K:Frag} {h:Heap} {mg:Str->Option Value} (X:K.In h) (G:h.Ns mainGlobals mg) (k:w8 K):my K mg:=by
 obtain⟨l,h1,h2,h3⟩:=k
 have mem:∀c∈bE,∀C,mg c=some (.ref C)->(c,C)∈l:=fun c hc C e=>by
  rw[<- h1] at hc
  obtain⟨p,hp,rfl⟩:=List.mem_map.mp hc
  have:=mg_of X G (h2 p hp)
  rw[e] at this;cases this
  exact hp
 have al:=List.all_eq_true.mp h3
 refine⟨fun c hc=>?_,fun c hc C e=>?_,fun c hc C e x hx D e'=>?_,fun c hc C e D e'=>?_⟩
 ·rw[<- h1] at hc
  obtain⟨p,hp,rfl⟩:=List.mem_map.mp hc
  exact⟨_,mg_of X G (h2 p hp)⟩
 ·have:=al _ (mem c hc C e)
  simp only[Bool.and_eq_true,beq_iff_eq,Bool.or_eq_true,Bool.not_eq_true'] at this
  refine⟨this.1.1.1,this.1.1.2,fun z=>this.1.2.elim (fun y=>?_) fun y=>y⟩
  rw[z] at y;cases y
 ·have:=al _ (mem c hc C e)
  simp only[Bool.and_eq_true] at this
  have:=List.all_eq_true.mp this.2 _ (mem x hx D e')
  simp only[Bool.and_eq_true,beq_iff_eq] at this
  exact this.1
 ·have:=al _ (mem c hc C e)
  simp only[Bool.and_eq_true] at this
  have:=List.all_eq_true.mp this.2 _ (mem "FallError" (by decide) D e')
  simp only[Bool.and_eq_true,beq_iff_eq,Bool.or_eq_true,Bool.not_eq_true'] at this
  rcases this.2 with z | z
  ·exact absurd z (by decide)
  ·exact z
theorem uu {P:Program} {w:World} {H:Hp} {h:Heap} {p C:Addr} {o:Obj} {fs:List (Str × Int)} (ok:HOk P w H h) (q:H p=some (FE.AtO p o)) (hc:o.cls=.ref C) (hd:∃vs,o.data=.fields vs) (xf:FE.XFs H o.dict fs):∃odo,InstAt h p o C odo:=by
 obtain⟨q1,_⟩:=ok p _ q
 obtain⟨vs,hd⟩:=hd
 have nc:notCls o=true:=by unfold notCls;rw[hd]
 rcases xf with⟨z,_⟩ | ⟨dx,od,z,q2⟩
 ·exact⟨none,q1,hc,nc,by rw[z];trivial⟩
 ·obtain⟨q3,_⟩:=ok dx _ q2
  exact⟨some od,q1,hc,nc,by rw[z];exact q3⟩
end L2
namespace L2.FE
open PySem PySem.Spec PyProof.Rows
section
variable {X:Cx} {g:GG} {ε:EE} {K:PySem.W.Frag}
noncomputable def ph (x:Str):D->Hh->R D:=fun d h=>match d with
 | .exc c _=>if (bE.contains c&&bE.contains x)=true then .ok (.bl (rG c x)) h else .bad
 | _=>.bad
noncomputable def Cz:D->Hh->R D:=fun d h=>match d with
 | .exc c _=>if bE.contains c=true then .ok (.bl true) h else .bad
 | _=>.bad
theorem iZ {mg:Str->Option Value} {x:Str} {f:Addr} (h:gOf mg x=some f):mg x=some (.ref f):=by
 unfold gOf at h
 split at h
 ·cases h;assumption
 ·cases h
theorem qL (hc:my X.K X.mg) (hgo:g=gOf X.mg):aP X (.builtin "isinstance") (fun vs H Q=>∃p D o c fs C b,vs=[.ref p,D]/\g c=some C/\H p=some (AtO p o)/\o.cls=.ref C/\(∃us,o.data=.fields us)/\XFs H o.dict fs/\bE.contains c=true/\(∀u,RelV D u->PySem.W.kitOne X.K (.ref C) u=some b)/\Q (.bl b) H):=by
 intro pins s σ H xs us Q I r h
 obtain⟨p,D,o,c,fs,C,b,rfl,hg,hp,hcl,hd,xf,hcn,hk,q⟩:=h
 cases r with
 | @cons _ _ _ _ r1 r2=>
  cases r2 with
  | @cons _ u _ _ r3 r4=>
   cases r4
   cases r1
   obtain⟨odo,ia⟩:=uu I.hok hp hcl hd xf
   subst hgo
   have hC:=iZ hg
   have k1:=(hc.one c (by simpa using hcn) C hC).1
   unfold rq at k1
   simp only[Bool.and_eq_true,beq_iff_eq] at k1
   obtain⟨⟨⟨⟨⟨⟨⟨a1,a1b⟩,a1c⟩,a2⟩,a3⟩,a4⟩,a5⟩,a6⟩:=k1
   refine PySem.W.kia_one (xF a1 a1b a1c a2 a3 a4 a5 a6) I.kIn ia (hk u r3) (by intro z;cases z) fun tk=>?_
   exact⟨.bl b,H,I.kept (h':=s.heap) (t':=tk) fun _ _ z=>z,rfl,q⟩
theorem B8 {x:Str} {p:Pos} {C:Addr} (hg:Gl X x) (hm:X.mg x=some (.ref C)) (hd:(x == ("__debug__" : Str))=false:=by decide):PE X (.Name x p) (tC (.ref C)):=fun pins s σ H Q I h=>g8 I hg hm ⟨.ref C,H,I,rfl,h⟩ hd
theorem iA {e:Expr} {me:ME} {x:Str} {p1 p2 pos:Pos} (hc:my X.K X.mg) (hgo:g=gOf X.mg) (he:PE X e (tM X.K g ε me)) (hg:Gl X "isinstance") (hm:X.mg "isinstance" = none) (hg2:Gl X x) (hx:x∈bE) (hd:(x == ("__debug__" : Str))=false:=by decide)
  (hs1:starEach [e,.Name x p2] X.env=(false,eval e X.env)::starEach [.Name x p2] X.env:=by rfl) (hs2:starEach [.Name x p2] X.env=[(false,eval (.Name x p2) X.env)]:=by rfl) (hpl:(backTo pos (starEach [.Name x p2] X.env)).any (·.1)=false:=by rfl) :
  PE X (.Call (.Name "isinstance" p1) [e,.Name x p2] [] pos) (tM X.K g ε (cUn (ph x) me)):=by
 obtain⟨C2,hC2⟩:=hc.at_ x hx
 refine PE.imp (ja (qL hc hgo) hg hm PyProof.Rows.boot_isinstance (c_ he (c_ (B8 hg2 hC2 hd) gS hs2) hs1) (by decide) (by decide) hs1 hpl) fun σ H Q ⟨α,env,h,s,w⟩=>tM.use s w.bind fun d1 h1 v1 H1 α1 e1 s1 r1 w1=>?_
 unfold ph at w1
 cases r1 with
 | @exc c C p o fs hgc hp hcl hdd xf=>
  obtain⟨hh,w1⟩:=WQ.b_ w1
  rw[Bool.and_eq_true] at hh
  refine⟨p,.ref C2,o,c,fs,C,_,rfl,hgc,hp,hcl,hdd,xf,hh.1,fun u ru=>?_,aA.now (aA.ext e1 w1) s1.heap (.bl _)⟩
  cases ru
  subst hgo
  exact hc.two c (by simpa using hh.1) C (iZ hgc) x hx C2 hC2
 | _=>exact w1.elim
theorem BI {e:Expr} {me:ME} {p1 p2 pos:Pos} (hc:my X.K X.mg) (hgo:g=gOf X.mg) (he:PE X e (tM X.K g ε me)) (hg:Gl X "isinstance") (hm:X.mg "isinstance" = none) (hg2:Gl X "ValueError") (hm2:X.mg "ValueError" = none)
  (hs1:starEach [e,.Name "ValueError" p2] X.env=(false,eval e X.env)::starEach [.Name "ValueError" p2] X.env:=by rfl) (hs2:starEach [.Name "ValueError" p2] X.env=[(false,eval (.Name "ValueError" p2) X.env)]:=by rfl) (hpl:(backTo pos (starEach [.Name "ValueError" p2] X.env)).any (·.1)=false:=by rfl) :
  PE X (.Call (.Name "isinstance" p1) [e,.Name "ValueError" p2] [] pos) (tM X.K g ε (cUn Cz me)):=by
 refine PE.imp (ja (qL hc hgo) hg hm PyProof.Rows.boot_isinstance (c_ he (c_ (tO (v:=.ty "ValueError") hg2 hm2 PyProof.Rows.Boot.«ValueError» rfl (by decide) (by decide)) gS hs2) hs1) (by decide) (by decide) hs1 hpl) fun σ H Q ⟨α,env,h,s,w⟩=>tM.use s w.bind fun d1 h1 v1 H1 α1 e1 s1 r1 w1=>?_
 unfold Cz at w1
 cases r1 with
 | @exc c C p o fs hgc hp hcl hdd xf=>
  obtain⟨hh,w1⟩:=WQ.b_ w1
  refine⟨p,.ty "ValueError", o,c,fs,C,_,rfl,hgc,hp,hcl,hdd,xf,hh,fun u ru=>?_,aA.now (aA.ext e1 w1) s1.heap (.bl _)⟩
  cases ru
  subst hgo
  exact(hc.one c (by simpa using hh) C (iZ hgc)).2.1
 | _=>exact w1.elim
theorem pT {h:Heap} {l:Addr} {its:Array Value} (x:h.IsList l its):∃dd n sl,h.get? l=some { cls:=.type "list", dict:=dd,data:=.seq its n,slots:=sl }:=by
 obtain⟨⟨c,d,da,sl⟩,h1,h2,n,h3⟩:=x
 dsimp only at h2 h3
 subst h2 h3
 exact⟨_,_,_,h1⟩
noncomputable def eqB (b:Bool):Value->Bool
 | .bool c=>c == b
 | _=>false
theorem mC:∀{bs:List Bool} {us:List Value},Vals (bs.map V.bl) us->us=bs.map Value.bool
 | [],_,.nil=>rfl
 | b::bs,_,.cons r t=>by
  have e:_=Value.bool b:=r
  rw[e,mC t];rfl
noncomputable def sF (K:PySem.W.Frag):V->List V->Hp->VK->Prop:=fun x vs H Q=>∃(l:Addr) (bs:List Bool) (b:Bool),x=.ref l/\vs=[.bl b]/\SqL K H l (bs.map V.bl)/\Q (.int (bs.countP (· == b):Nat)) H
theorem vt:MtM X "list.count" (sF X.K):=by
 intro pins s σ H x vs v us Q I rx rv h
 obtain⟨l,bs,b,rfl,rfl,hq,q⟩:=h
 cases rx
 obtain⟨u,rfl,ru⟩:=rv.one
 have e0:u=Value.bool b:=ru
 subst e0
 obtain⟨its,rs,pl,hz⟩:=I.list hq
 have ei:=mC rs
 subst ei
 obtain⟨dd,n,sl,ho⟩:=pT pl.isList
 refine call_meets F.slot_list_count ⟨_,ho,rfl⟩ F.entry_list_count (F.args_list_count_2 _ _) (SeqAt.list_countAt l _ n dd sl (.bool b) (eqB b)) ⟨ho,fun y hy=>?_,?_⟩
 ·obtain⟨c,_,rfl⟩:=List.mem_map.mp (by simpa using hy:y∈bs.map Value.bool)
  exact SeqAt.EqAt.bool_bool c b
 ·refine⟨.int (bs.countP (· == b):Nat),H,I.kept (h':=s.heap) (t':=s.toks+1) fun _ _ z=>z,⟨s.toks,?_⟩,q⟩
  rw[List.toList_toArray,List.countP_map]
  rfl
noncomputable def sM (K:PySem.W.Frag):V->List V->Hp->VK->Prop:=fun x vs H Q=>∃(l:Addr) (bs:List Bool) (b:Bool) (j:Nat),x=.ref l/\vs=[.bl b]/\SqL K H l (bs.map V.bl)/\bs.findIdx? (· == b)=some j/\bs.length<1000000/\Q (.int (j:Nat)) H
theorem vm:MtM X "list.index" (sM X.K):=by
 intro pins s σ H x vs v us Q I rx rv h
 obtain⟨l,bs,b,j,rfl,rfl,hq,hj,hlen,q⟩:=h
 cases rx
 obtain⟨u,rfl,ru⟩:=rv.one
 have e0:u=Value.bool b:=ru
 subst e0
 obtain⟨its,rs,pl,hz⟩:=I.list hq
 have ei:=mC rs
 subst ei
 obtain⟨dd,n,sl,ho⟩:=pT pl.isList
 obtain⟨hlt,hit,hno⟩:=List.findIdx?_eq_some_iff_getElem.mp hj
 refine call_meets F.slot_list_index ⟨_,ho,rfl⟩ F.entry_list_index (F.args_list_index_2 _ _) (SeqAt.list_indexAt l _ n dd sl (.bool b) (eqB b) j (by simpa using hlt) (by omega) ?_ ?_) ⟨ho,fun y hy=>?_,?_⟩
 ·simpa [eqB] using hit
 ·intro m hm h2
  have:=hno m h2
  simpa [eqB] using this
 ·obtain⟨c,_,rfl⟩:=List.mem_map.mp (by simpa using hy:y∈bs.map Value.bool)
  exact SeqAt.EqAt.bool_bool c b
 ·exact⟨.int (j:Nat),H,I.kept (h':=s.heap) (t':=s.toks+1) fun _ _ z=>z,⟨s.toks,rfl⟩,q⟩
noncomputable def oI:D->List D->Hh->R D:=fun o ds h=>match o,ds with
 | .frl xs,[.bl b]=>match gc xs with
  | some bs=>.ok (.int (bs.countP (· == b):Nat)) h
  | none=>.bad
 | _,_=>.bad
noncomputable def oS:D->List D->Hh->R D:=fun o ds h=>match o,ds with
 | .frl xs,[.bl b]=>match gc xs with
  | some bs=>match bs.findIdx? (· == b) with
   | some j=>if bs.length<1000000 then .ok (.int (j:Nat)) h else .bad
   | none=>.bad
  | none=>.bad
 | _,_=>.bad
theorem uN:n_ K g ε oI (sF K):=by
 intro α H h o a y x Q r ro ra w
 unfold oI at w
 cases ro with
 | @frl ds p vs hq rs=>
  cases ra with
  | nil=>exact w.elim
  | cons rd rr=>
   cases rr with
   | cons _ _=>cases rd<;>exact w.elim
   | nil=>
    cases rd with
    | bl b=>
     simp only at w
     cases e2:gc ds with
     | none=>rw[e2] at w;exact w.elim
     | some bs=>
      rw[e2] at w
      have e3:=fX e2
      subst e3
      have e4:=rs.zf
      subst e4
      exact⟨p,bs,b,rfl,rfl,hq.sq,aA.now w r (.int _)⟩
    | _=>exact w.elim
 | _=>exact w.elim
theorem um:n_ K g ε oS (sM K):=by
 intro α H h o a y x Q r ro ra w
 unfold oS at w
 cases ro with
 | @frl ds p vs hq rs=>
  cases ra with
  | nil=>exact w.elim
  | cons rd rr=>
   cases rr with
   | cons _ _=>cases rd<;>exact w.elim
   | nil=>
    cases rd with
    | bl b=>
     simp only at w
     cases e2:gc ds with
     | none=>rw[e2] at w;exact w.elim
     | some bs=>
      rw[e2] at w
      simp only at w
      cases e5:bs.findIdx? (· == b) with
      | none=>rw[e5] at w;exact w.elim
      | some j=>
       rw[e5] at w
       obtain⟨hl,w⟩:=WQ.b_ w
       have e3:=fX e2
       subst e3
       have e4:=rs.zf
       subst e4
       exact⟨p,bs,b,j,rfl,rfl,hq.sq,e5,hl,aA.now w r (.int _)⟩
    | _=>exact w.elim
 | _=>exact w.elim
end
end L2.FE
namespace L2
open PySem PySem.Spec PyProof.Rows
theorem Inv.DL {X:Cx} {pins pins' pn:List (Addr × Obj)} {σ:St} {H:Hp} {s:Shared} {E:Value->Shared->Prop} (J:Inv (X.wpn pn E) pins' σ H s) (hp:∀p∈X.pn++pins,p∈pn++pins'):Inv X pins σ H s:=
 ⟨⟨J.ok.mod,J.ok.kind,J.ok.glob,J.ok.blt,J.ok.above,J.ok.inj,J.ok.has,J.ok.cab,J.ok.hd,J.ok.frames,J.ok.stk,J.ok.exf,J.ok.bs,J.ok.bsz,J.ok.oD,J.ok.qA,J.ok.hG,J.ok.frf⟩,J.os,J.bare,J.base,J.loc,J.cell,J.free,J.df,fun p h=>J.pin p (hp p h),J.hok,J.len⟩
end L2
namespace L2.FE
open PySem PySem.Spec PyProof.Rows
noncomputable def ze (P:Program) (w:World) (K:PySem.W.Frag) (mg:Str->Option Value) (base:Heap) (g:GG) (x:Str) (k:Nat) (ps:List Str) (m:MF):Prop:=
 ∃f fd,FnH P w K mg base k f fd ps (spM K g ps.length m)/\PySem.W.keepIn K (.ref f)=true/\Binds K fd ps []/\mg x=some (.ref f)
section
variable {P:Program} {w:World} {K:PySem.W.Frag} {mg:Str->Option Value} {base:Heap} {g:GG}
theorem A4 {x qual:Str} {st:Stmt} {f:Addr} {fd:FuncData} {N ps:List Str} {k:Nat} {mb:MS} (F:Fun K x qual st f fd) (S:aN N ps (ak st))
  (hb:∀(cdv:Value) (A:Around) (outer:List Env) (s:Shared) (H:Hp) (E:XK),cO k (unm (A.deeper (envOfC qual (ak st) s.heap.objs.size f cdv))) →
   PSs (cxH P w K mg base N qual (ak st) f cdv A outer s H E) (bS st) (tMS K g E00 mb)):FnH P w K mg base (k+1) f fd ps (spM K g ps.length (cR N.length mb)):=by
 refine BA F S (fun vs H Q E h=>h.1) fun cdv A outer s H vs Q E hr h=>⟨_,hb cdv A outer s H E hr,?_⟩
 obtain⟨hl,α,ds,h,rs,hh,w⟩:=h
 refine tMS.use ⟨hh,jJ rs⟩ w.bind fun fl h' H' α' e r kk=>?_
 cases fl with
 | nx e'=>exact fun σ' s'=>(show aA K g α H Q .non h' from kk) _ H' α' e r .non
 | bk e'=>exact kk.elim
 | ct e'=>exact kk.elim
 | rt d=>exact fun v rv=>(show aA K g α H Q d h' from kk) _ H' α' e r rv
end
section
variable {X:Cx} {g:GG} {ε:EE}
theorem wF {k:Nat} {f:Addr} {fd:FuncData} {ps:List Str} {m:MF} {np:Nat} {x:Str} {p pos:Pos} {e:Expr} {es:List Expr} {mr:MA} (F:FnH X.prog X.w X.K X.mg X.base k f fd ps (spM X.K g np m)) (hr:cO k (unm X.A)) (hg:Gl X x) (hm:X.mg x=some (.ref f)) (hk:PySem.W.keepIn X.K (.ref f)=true) (hb:Binds X.K fd ps [])
  (ha:PA X (e::es) (tMA X.K g E00 mr)) (hlen:∀env h ds h',mr env h=.ok ds h'->ds.length=np) (hdb:(x == ("__debug__" : Str))=false:=by decide) (he:starEach (e::es) X.env=(false,eval e X.env)::starEach es X.env:=by rfl) (hpl:(backTo pos (starEach es X.env)).any (·.1)=false:=by rfl) :
  PE X (.Call (.Name x p) (e::es) [] pos) (tM X.K g E00 (ag m mr)):=
 PE.imp (qG F hr hg hm hk hb ha hdb he hpl) fun σ H Q ⟨α,env,h,s,w⟩=>⟨α,env,h,s,w.bind.mono fun d1 h1 eq w1 v1 H1 α1 e1 hr1 r1=>by
  show spM X.K g np m (v1++[]) H1 Q E0
  rw[List.append_nil]
  refine⟨?_,α1,d1,h1,r1,hr1,w1.post e1⟩
  rw[<- r1.length]
  exact hlen env h d1 h1 eq⟩
noncomputable def rJ (mb:MS) (mr:MF):MS:=fun env h=>match mb env h with
 | .ok fl h'=>.ok fl h'
 | .err x h'=>if (bE.contains x.cls&&(h'.take h.length).all (jv h.length))=true then (noR (mr [.exc x.cls x.fs] (h'.take h.length))).bind fun d h2=>.ok (.rt d) h2 else .bad
 | .bad=>.bad
theorem Dq {body:List Stmt} {mb:MS} {mr:MF} {k:Nat} {f:Addr} {fd:FuncData} {ps:List Str} {i:Nat} {n y:Str} {np p1 p2 cpos rpos hpos pos:Pos}
  (hcl:my X.K X.mg) (hgo:g=gOf X.mg) (pl:Plain X) (hN:X.N.Nodup) (hi:X.N[i]?=some n) (hl:X.env.scope.names.lookup n=some .local) (hgF:Gl X "FallError") (hgR:Gl X y)
  (F:FnH X.prog X.w X.K X.mg X.base k f fd ps (spM X.K g 1 mr)) (hr:cO k (unm X.A)) (hm:X.mg y=some (.ref f)) (hk:PySem.W.keepIn X.K (.ref f)=true) (hb:Binds X.K fd ps [])
  (hbd:∀(pn:List (Addr × Obj)) (xe:Value->Shared->Prop) (E:XK),ik (X.wpn pn xe) E->Plain (X.wpn pn xe)->PassesOwn (model X.prog X.w) X.A X.env xe->PSs (X.wpn pn xe) body (tMS X.K g (εX g E) mb))
  (hdn:(n == ("__debug__" : Str))=false:=by decide) (hdc:(n == ("__classdict__" : Str))=false:=by decide) (hdb:(y == ("__debug__" : Str))=false:=by decide)
  (hst:starEach [.Name n p2] X.env=(false,eval (.Name n p2) X.env)::starEach [] X.env:=by rfl) (hpl:(backTo cpos (starEach [] X.env)).any (·.1)=false:=by rfl) :
  PS X (.Try body [.ExceptHandler (some (.Name "FallError" np)) (some n) [.Return (some (.Call (.Name y p1) [.Name n p2] [] cpos)) rpos] hpos] [] [] pos) (tMS X.K g ε (rJ mb mr)):=by
 intro pins s σ H D I ⟨α,env,h,sr,w⟩
 obtain⟨CF,hmF⟩:=hcl.at_ "FallError" (by decide)
 refine wpAny_Try_except ?_
 let K1:Value->Shared->Prop:=fun e s₁=>wpAny (model X.prog X.w) X.A (noteFrame e X.env) (fun _ s₂=>wpAny (model X.prog X.w) X.A (setFlight e none) (fun _ s₃=>wpAny (model X.prog X.w) X.A (handleBy e X.env [.ExceptHandler (some (.Name "FallError" np)) (some n) [.Return (some (.Call (.Name y p1) [.Name n p2] [] cpos)) rpos] hpos]) (SP X pins D) X.xe s₃) X.xe s₂) X.xe s₁
 let E1:XK:=fun C dc H'=>∃α' x h',mb env h=.err x h'/\Ext X.K α H α' H'/\aS X.K g α' H' h'/\(∃C0,C=.ref C0/\g x.cls=some C0)/\XFs H' dc x.fs
 have un:∀{σ:St} {H:Hp} {s:Shared},Inv (X.wpn (X.pn++pins) K1) [] σ H s->Inv X pins σ H s:=fun J=>J.DL fun p hp=>by simpa using hp
 have fl:ik (X.wpn (X.pn++pins) K1) E1:=by
  rintro e s1 ⟨σ1,H1,B,a,C,dc,rfl,J,ar,cv,pn,α',x,h',eq,ext,hr',⟨C0,rfl,hgC⟩,xf⟩
  have ar':Arr B (X.env::X.outer) a (.ref C0) dc s1.heap:=by rw[<- pl.stk.1];exact ar
  have hA:X.A.frames=some (X.env::X.outer):=by rw[<- pl.stk.1];exact J.ok.frames
  have pl1:Plain (X.wpn (X.pn++pins) K1):=⟨pl.ex,pl.stk⟩
  unfold rJ at w
  rw[eq] at w
  obtain⟨low,w⟩:=WQ.b_ w
  rw[Bool.and_eq_true] at low
  obtain⟨hcn,low⟩:=low
  refine qp hA pl.stk.2 ar' fun h2 y2 g2=>pe y2 fun h3 y3 g3=>?_
  have J3:Inv (X.wpn (X.pn++pins) K1) [] σ1 H1 { s1 with heap:=h3 }:=J.flew (t':=s1.toks) pl1 cv pn ar.stays ar.fr y3.stays (g2.trans g3)
  refine wpAny_handleBy_cons (codeAny_handlers_test ?_) (by intro q;cases q)
  have J3h:Inv ((X.wpn (X.pn++pins) K1).hand (X.A.mark (some (.ref a))) (X.pn++pins) fun _ _=>False) [] σ1 H1 { s1 with heap:=h3 }:=Inv.hand (A:=X.A.mark (some (.ref a))) (pn:=X.pn++pins) J3 rfl (fun p hp=>hp) _
  refine g8 J3h hgF hmF ?_
  obtain⟨ob,ws0,hob,hoc,_,_⟩:=y3.there
  have LT:PySem.W.Looks (model X.prog X.w) h3 (typeOf (.ref a)) (.ref C0):=hoc ▸ (PySem.W.Looks.ld hob).andThen .now
  have hx:PySem.W.exmOne X.K (.ref C0) (.ref CF)=some true:=by
   subst hgo
   exact hcl.exm x.cls (by simpa using hcn) C0 (iZ hgC) CF hmF
  refine(PySem.W.exm_one J3.kIn LT hx).here ?_
  refine codeAny_handlers_suite_as ?_
  refine pe y3 fun h4 y4 g4=>?_
  have J4:Inv (X.wpn (X.pn++pins) K1) [] σ1 H1 { s1 with heap:=h4 }:=J.flew (t':=s1.toks) pl1 cv pn ar.stays ar.fr y4.stays (g2.trans (g3.trans g4))
  obtain⟨oe,ws,q1,q2,q3,q4⟩:=y4.there
  have fr4:h4.FunFrames B X.stack:=by rw[pl.stk.1];exact y4.fr
  obtain⟨hn,J5⟩:=J4.adopt pl1 cv pn fr4 y4.new q1 q4
  refine fQ (X:=X.wpn (X.pn++pins) K1) J5 hN hi (.inl hl) (v:=.ref a) (u:=.ref a) rfl (fun s6 J6=>?_) (.inr hl)
  have J7:Inv ((X.wpn (X.pn++pins) K1).hand (X.A.mark (some (.ref a))) (X.pn++pins) fun _ _=>False) [] (σ1.set i (some (.ref a))) (upd H1 a (AtO a oe)) s6:=Inv.hand (A:=X.A.mark (some (.ref a))) (pn:=X.pn++pins) J6 rfl (fun p hp=>hp) _
  have T:=sJ (vI (pos:=rpos) (qG (X:=(X.wpn (X.pn++pins) K1).hand (X.A.mark (some (.ref a))) (X.pn++pins) fun _ _=>False) (p:=p1) (pos:=cpos) F hr hgR hm hk hb (c_ (vV (pos:=p2) hi (.inl hl) hdn hdc) gS hst) hdb hst hpl))
  have lenσ:i<σ1.length:=by rw[J.len];exact(List.getElem?_eq_some_iff.mp hi).1
  refine wpAny_mono (T [] s6 _ _ { nx:=fun _ _=>False,rt:=D.rt } J7 ⟨.ref a,by simp[lenσ],?_⟩) (fun fl s7 q=>?_) fun _ _ z=>z.elim
  ·show spM X.K g 1 mr ([.ref a]++[]) (upd H1 a (AtO a oe)) D.rt E0
   have k0:α.length=h.length:=sr.heap.len
   have fz:∀p o u,H1 p=some (.frz o u)->upd H1 a (AtO a oe) p=some (.frz o u):=fun p o u z=>by rw[aB (aQ z hn)];exact z
   have Lw:lE X.K α α' H1 (upd H1 a (AtO a oe)) h.length:=⟨fun m hm=>fZ ext.pre (by omega),fun p xs z=>by rw[aB (aQ z hn)];exact z,fz⟩
   have kp:∀m p u,m<h.length->α'[m]?=some p->H1 p=some u->upd H1 a (AtO a oe) p=some u:=fun m p u _ _ z=>by rw[aB (aQ z hn)];exact z
   have ex2:Ext X.K α H α (upd H1 a (AtO a oe)):=⟨⟨List.prefix_refl _,fun p xs z=>Lw.tup p xs (ext.tup p xs z),fun p o u z=>fz p o u (ext.frz p o u z)⟩,fun p u z m=>by
    have:=ext.keep p u z m
    rw[aB (aQ this hn)];exact this,fun _ z m=>absurd z m⟩
   refine⟨rfl,α,[.exc x.cls x.fs],h'.take h.length,.cons (.exc hgC aL q2 ⟨ws,q4⟩ ?_) .nil,⟨?_,sr.heap.inj,fun m p ob h1 h2=>?_⟩,?_⟩
   ·rw[q3]
    exact xf.elim .inl fun⟨dx,od,z1,z2⟩=>.inr ⟨dx,od,z1,fz _ _ _ z2⟩
   ·rw[List.length_take,<- hr'.len,k0]
    have:=ext.pre.length_le
    omega
   ·have hm:m<h.length:=(lz h2).1
    rw[fZ ext.pre (by omega)] at h1
    exact k_ k0 ext hr' low Lw kp m p ob hm h1 h2
   ·refine((n3 w.bind).ext ex2).mono fun d h2 _ kk v H2 α2 e2 r2 rd=>?_
    exact(show cQ X.K g α H D (.rt d) h2 from kk) H2 α2 (ex2.trans e2) r2 v rd
  ·cases fl with
   | ret u=>
    obtain⟨v,σ7,H7,J8,rv,q⟩:=q
    obtain⟨m,hm7,_⟩:=J8.loc
    have J9:Inv X pins σ7 H7 s7:=un (Inv.back (pins:=[]) J8 J.ok fun p hp=>hp)
    refine wpAny_nameGoes_keeps hl hm7 (by rw[I.ok.kind];rfl) fun h8 v8 hn8 sb=>?_
    exact⟨v,σ7.set i none,H7,J9.forget hN hi hm7 hn8 (fun z hz=>if_neg hz) sb,rv,q⟩
   | next=>obtain⟨_,_,_,q⟩:=q;exact q.elim
   | brk=>obtain⟨_,_,_,q⟩:=q;exact q.elim
   | cont=>obtain⟨_,_,_,q⟩:=q;exact q.elim
 have I1:Inv (X.wpn (X.pn++pins) K1) [] σ H s:=I.wpn (fun p hp=>by simpa using hp) _
 refine wpAny_mono (hbd (X.pn++pins) K1 E1 fl ⟨pl.ex,pl.stk⟩ PassesOwn.looking [] s σ H D I1 ⟨α,env,h,sr,?_⟩) (fun f s1 q=>?_) fun _ _ z=>z
 ·unfold rJ at w
  cases eq:mb env h with
  | ok fl h'=>rw[eq] at w;exact w
  | err x h'=>exact fun α' H' e r C dc hg xf=>⟨α',x,h',eq,e,r,⟨C,rfl,hg⟩,xf⟩
  | bad=>rw[eq] at w;exact w.elim
 ·cases f with
  | next=>obtain⟨σ',H',J,q⟩:=q;exact wpAny_execs_nil ⟨σ',H',un J,q⟩
  | brk=>obtain⟨σ',H',J,q⟩:=q;exact⟨σ',H',un J,q⟩
  | cont=>obtain⟨σ',H',J,q⟩:=q;exact⟨σ',H',un J,q⟩
  | ret u=>obtain⟨v,σ',H',J,r,q⟩:=q;exact⟨v,σ',H',un J,r,q⟩
end
end L2.FE
namespace L2
open PySem PySem.Spec PyProof.Rows
theorem yk {k:Nat} {A:Around} (h:cO k A):cO k (unm A):=⟨rfl,h.dp,h.un,h.gd⟩
end L2
namespace L2.FE
open PySem PySem.Spec PyProof.Rows
section
variable {X:Cx} {g:GG} {ε:EE} {K:PySem.W.Frag}
noncomputable def xY (P:Program) (w:World) (K:PySem.W.Frag) (mg:Str->Option Value) (base:Heap) (g:GG) (k np:Nat) (tab:Str->Option MF):Prop:=
 ∀x m,tab x=some m->∃f fd ps,g x=some f/\dq P w K mg base (CXE P w) k f fd ps (spE K g np m)/\PySem.W.keepIn K (.ref f)=true/\Binds K fd ps []
theorem uG {E:XK} {k np:Nat} {tab:Str->Option MF} {fe e:Expr} {es:List Expr} {pos:Pos} {mf:ME} {mr:MA} (fl:ik X E) (pl:Plain X) (T:xY X.prog X.w X.K X.mg X.base g k np tab) (hr:cO k X.A) (hf:PE X fe (tM X.K g (εX g E) mf)) (ha:PA X (e::es) (tMA X.K g (εX g E) mr)) (hlen:∀env h ds h',mr env h=.ok ds h'->ds.length=np)
  (hc:eval (.Call fe (e::es) [] pos) X.env=(do callWith pos (← eval fe X.env) [] (backTo pos (starEach (e::es) X.env)) (backToKw pos (keywordEach [] X.env))):=by rfl)
  (he:starEach (e::es) X.env=(false,eval e X.env)::starEach es X.env:=by rfl) (hpl:(backTo pos (starEach es X.env)).any (·.1)=false:=by rfl) :
  PE X (.Call fe (e::es) [] pos) (tM X.K g (εX g E) (l9 tab mf mr)):=by
 intro pins s σ H Q I ⟨α,env,h,s0,w⟩
 refine Call_ (thn (hf pins s σ H (fun v H1=>∃α1 h1 f fd ps m,v=.ref f/\dq X.prog X.w X.K X.mg X.base (CXE X.prog X.w) k f fd ps (spE X.K g np m)/\PySem.W.keepIn X.K (.ref f)=true/\Binds X.K fd ps []/\dk X.K g α1 H1 env σ h1/\WQ X.K g (εX g E) α1 H1 ((mr env h1).bind m) (aA X.K g α1 H1 Q)) I ?_) fun v s1 ⟨x,H1,I1,r1,q1⟩=>?_) hc
 ·refine tM.use s0 w.bind fun d1 h1 v1 H1 α1 e1 s1 r1 w1=>?_
  cases r1 with
  | @fn x f hx=>
   simp only at w1
   cases et:tab x with
   | none=>rw[et] at w1;exact w1.elim
   | some m=>
    rw[et] at w1
    obtain⟨f',fd,ps,h1',h2',h3',h4'⟩:=T x m et
    rw[hx] at h1'
    cases h1'
    exact⟨α1,h1,f,fd,ps,m,rfl,h2',h3',h4',s1,WQ.post e1 w1⟩
  | _=>exact w1.elim
 ·obtain⟨α1,h1,f,fd,ps,m,rfl,F,hk,hb,s2,w2⟩:=q1
  cases r1
  refine PySem.W.callWith_K (h₀:=X.base) I.ok.mod.kin hk (thn (ha pos pins s1 σ H1 (fun vs H2=>spE X.K g np m vs H2 Q E) I1 ?_) fun us s3 ⟨vs,H2,I2,r,q⟩=>⟨I2.kIn,?_⟩) he hpl
  ·exact⟨α1,env,h1,s2,w2.bind.mono fun d3 h3 eq w3 v3 H3 α3 e3 hr3 r3=>⟨by rw[<- r3.length];exact hlen env h1 d3 h3 eq,α3,d3,h3,r3,hr3,w3.post e3⟩⟩
  ·exact wc F hr hb .nil (lK pl fl) I2 r (by rw[List.append_nil];exact q)
end
end L2.FE
namespace L2
open PySem PySem.Spec PyProof.Rows
inductive RdE (K:PySem.W.Frag) (H:Hp):V->PyData->Prop
 | non:RdE K H .non .none
 | bl (b:Bool):RdE K H (.bl b) (.bool b)
 | int (i:Int):RdE K H (.int i) (.int i)
 | str (x:Str):RdE K H (.str x) (.str x)
 | tup {a:Addr} {xs:List V} {ds:List PyData} (h:SqT K H a xs) (hl:xs.length=ds.length) (hx:∀(i:Nat) x d,xs[i]?=some x->ds[i]?=some d->RdE K H x d):RdE K H (.ref a) (.tuple ds)
 | edic {a:Addr} {o:Obj} (h:H a=some (.frz o (.dK []))):RdE K H (.ref a) (.dict [])
theorem nR {h:Heap}:∀{us:List Value} {ds:List PyData},us.length=ds.length->(∀(i:Nat) u d,us[i]?=some u->ds[i]?=some d->∃as,Reads h u d as/\sysModules∉as)->∃as,ReadsAll h us ds as/\sysModules∉as
 | [],[],_,_=>⟨_,.nil,by simp⟩
 | [],_::_,hl,_=>by simp at hl
 | _::_,[],hl,_=>by simp at hl
 | u::us,d::ds,hl,hx=>by
  obtain⟨as,h1,n1⟩:=hx 0 u d rfl rfl
  obtain⟨bs,h2,n2⟩:=nR (us:=us) (ds:=ds) (by simpa using hl) fun i u d e1 e2=>hx (i+1) u d (by simpa using e1) (by simpa using e2)
  exact⟨_,.cons h1 h2,by simp[n1,n2]⟩
section
variable {X:Cx}
theorem Inv.wd {pins:List (Addr × Obj)} {σ:St} {H:Hp} {s:Shared} (I:Inv X pins σ H s) {x:V} {d:PyData} (r:RdE X.K H x d):∀u,RelV x u->∃as,Reads s.heap u d as/\sysModules∉as:=by
 induction r with
 | non=>intro u ru;cases (show u=Value.none from ru);exact⟨_,.none,by simp⟩
 | bl b=>intro u ru;cases (show u=Value.bool b from ru);exact⟨_,.bool b,by simp⟩
 | int i=>intro u ru;obtain⟨t,q⟩:=(show ∃t,u=Value.int i t from ru);cases q;exact⟨_,.int i t,by simp⟩
 | str y=>intro u ru;obtain⟨t,q⟩:=(show ∃t,u=Value.str y t from ru);cases q;exact⟨_,.str y t,by simp⟩
 | @tup a xs ds h hl hx ih=>
  intro u ru
  cases (show u=Value.ref a from ru)
  obtain⟨its,rv,p,hz⟩:=I.tuple h
  obtain⟨o,ho,hc,n,hd⟩:=p
  obtain⟨as,ra,na⟩:=nR (h:=s.heap) (us:=its) (ds:=ds) (by rw[<- rv.length,hl]) fun i u d e1 e2=>by
   obtain⟨y,e3,ry⟩:=rv.get' e1
   exact ih i y d e3 e2 u ry
  exact⟨_,.tuple ho hc hd (by simpa using ra),na⟩
 | @edic a o h=>
  intro u ru
  cases (show u=Value.ref a from ru)
  obtain⟨_,_,na,vs,kv,o',es,ep,e1,e2,e3,e4⟩:=I.hok a _ h
  have hv:vs=[]:=by cases kv;rfl
  subst hv
  have he:es.toList=[]:=by
   have:=e4.2.1.length
   simpa using this
  exact⟨_,.dict (kvs:=[]) (as:=[]) (bs:=[]) e1 e2.1 e3 (by rw[he];exact .nil) (by rw[he];exact .nil),by simpa using fun z=>(by rw[<- z] at na;simp at na)⟩
theorem r9 (hg:X.A.guards=some []) (hu:X.A.units+64<cLine):aP X (.builtin "repr") (fun vs H Q=>∃p d,vs=[.ref p]/\RdE X.K H (.ref p) d/\d.showable=true/\d.depth<=60/\d.shown.length<=sizeLine/\Q (.str d.shown) H):=by
 intro pins s σ H xs us Q I r h
 obtain⟨p,d,rfl,rd,hs,hdp,hz,q⟩:=h
 obtain⟨u,rfl,rx⟩:=vals1 r
 cases rx
 obtain⟨as,ra,na⟩:=I.wd rd (.ref p) rfl
 exact repr_of_reads' ra hs (fun _=>na) hg (by omega) (fun _ _ e=>e) (fun h' u tk kp=>⟨.str d.shown,H,I.kept kp,⟨_,rfl⟩,q⟩) hz
theorem rL:aP X (.builtin "repr") (fun vs H Q=>vs=[.non]/\Q (.str "None") H):=by
 intro pins s σ H xs us Q I r h
 obtain⟨rfl,q⟩:=h
 obtain⟨u,rfl,rx⟩:=vals1 r
 cases (show u=Value.none from rx)
 exact PySem.P.repr_of_none ⟨.str "None", H,I.tok _,⟨_,rfl⟩,q⟩
theorem qS:aP X (.builtin "repr") (fun vs H Q=>∃b,vs=[.bl b]/\Q (.str (if b then "True" else "False")) H):=by
 intro pins s σ H xs us Q I r h
 obtain⟨b,rfl,q⟩:=h
 obtain⟨u,rfl,rx⟩:=vals1 r
 cases (show u=Value.bool b from rx)
 exact PySem.P.repr_of_bool ⟨.str (if b then "True" else "False"),H,I.tok _,⟨_,rfl⟩,q⟩
theorem rN:aP X (.builtin "repr") (fun vs H Q=>∃x,vs=[.str x]/\(reprText x).length<=sizeLine/\Q (.str (reprText x)) H):=by
 intro pins s σ H xs us Q I r h
 obtain⟨x,rfl,hz,q⟩:=h
 obtain⟨u,rfl,t,rfl⟩:=vals1 r
 exact PySem.P.repr_of_str ⟨.str (reprText x),H,I.tok _,⟨_,rfl⟩,q⟩ hz
end
end L2
namespace L2.FE
open PySem PySem.Spec PyProof.Rows
noncomputable def iN:Nat->D->Option PyData
 | 0,_=>none
 | k+1,d=>match d with
  | .non=>some .none
  | .bl b=>some (.bool b)
  | .int i=>if sml i=true then some (.int i) else none
  | .str x=>if x.cps.toList.all (fun c=>decide (c<16 ^ 8))=true then some (.str x) else none
  | .tup ds=>(aZ (iN k) ds).map .tuple
  | .edic=>some (.dict [])
  | _=>none
structure sE (k:Nat) (d:PyData):Prop where
 sh:d.showable=true
 dp:d.depth<=k
 lv:d.leavesShort 1921=true
structure xm (k:Nat) (ds:List PyData):Prop where
 sh:PyData.showableAll ds=true
 dp:PyData.depthAll ds<=k
 lv:PyData.leavesShortAll 1921 ds=true
section
variable {K:PySem.W.Frag} {g:GG} {α:List Addr} {H:Hp} {h:Hh} {X:Cx} {ε:EE}
theorem nB {f:D->Option PyData} {k:Nat} (hf:∀d x p,aE K g α H d x->f d=some p->RdE K H x p/\sE k p):∀{ds:List D} {vs:List V} {ps:List PyData},au K g α H ds vs->aZ f ds=some ps →
  xm k ps/\vs.length=ps.length/\∀(i:Nat) x d,vs[i]?=some x->ps[i]?=some d->RdE K H x d
 | _,_,_,.nil,e=>by
  cases e
  exact⟨⟨by simp[PyData.showableAll],by simp[PyData.depthAll],by simp[PyData.leavesShortAll]⟩,rfl,fun i x d h=>by simp at h⟩
 | _,_,_,.cons r t,e=>by
  unfold aZ at e
  split at e
  ·rename_i p ps h1 h2
   cases e
   obtain⟨a1,a2⟩:=hf _ _ _ r h1
   obtain⟨b1,b2,b3⟩:=nB hf t h2
   refine⟨⟨by rw[PyData.showableAll,a2.sh,b1.sh];rfl,by rw[PyData.depthAll];exact Nat.max_le.mpr ⟨a2.dp,b1.dp⟩,by rw[PyData.leavesShortAll,a2.lv,b1.lv];rfl⟩,by simp[b2],fun i x d hx hd=>?_⟩
   cases i with
   | zero=>simp at hx hd;subst hx hd;exact a1
   | succ i=>exact b3 i x d (by simpa using hx) (by simpa using hd)
  ·cases e
theorem qJ:∀(k:Nat) (d:D) (x:V) (p:PyData),aE K g α H d x->iN k d=some p->RdE K H x p/\sE k p
 | 0,_,_,_,_,e=>by cases e
 | k+1,d,x,p,rd,e=>by
  unfold iN at e
  cases rd with
  | non=>cases e;exact⟨.non,by simp[PyData.showable],by simp[PyData.depth],by simp[PyData.leavesShort]⟩
  | bl b=>cases e;exact⟨.bl b,by simp[PyData.showable],by simp[PyData.depth],by simp[PyData.leavesShort]⟩
  | int i=>
   simp only at e
   split at e
   ·rename_i hs
    cases e
    have hl:i.natAbs.log2<1920:=Nat.lt_trans (gX hs) (by decide)
    exact⟨.int i,by simp[PyData.showable,hl],by simp[PyData.depth],by simp only[PyData.leavesShort,decide_eq_true_eq];exact int_text_len_1921 hl⟩
   ·cases e
  | str z=>
   simp only at e
   split at e
   ·rename_i hs
    cases e
    exact⟨.str z,by simp[PyData.showable],by simp[PyData.depth],by simpa only[PyData.leavesShort] using hs⟩
   ·cases e
  | edic hp=>cases e;exact⟨.edic hp,by simp[PyData.showable,PyData.showableKv],by simp[PyData.depth,PyData.depthKv],by simp[PyData.leavesShort,PyData.leavesShortKv]⟩
  | tup hp rs=>
   simp only at e
   cases e1:aZ (iN k) _ with
   | none=>rw[e1] at e;cases e
   | some ps=>
    rw[e1] at e
    cases e
    obtain⟨b1,b2,b3⟩:=nB (fun d x p=>qJ k d x p) rs e1
    exact⟨.tup (SqT.of hp) b2 b3,by rw[PyData.showable];exact b1.sh,by rw[PyData.depth];exact Nat.succ_le_succ b1.dp,by rw[PyData.leavesShort];exact b1.lv⟩
  | _=>cases e
noncomputable def u0 (d:D) (h:Hh):R D:=match iN 12 d with
 | some p=>if p.bulk<=8000 then .ok (.str p.shown) h else .bad
 | none=>.bad
noncomputable def l_:List D->Hh->R D:=fun ds h=>match ds with
 | [.non]=>.ok (.str "None") h
 | [.bl b]=>.ok (.str (if b then "True" else "False")) h
 | [.str x]=>if (reprText x).length<=1000000 then .ok (.str (reprText x)) h else .bad
 | [.tup ds]=>u0 (.tup ds) h
 | [.edic]=>u0 .edic h
 | _=>.bad
noncomputable def dE:List D->Hh->R D:=fun ds h=>match ka ds h with
 | .ok d h'=>.ok d h'
 | _=>l_ ds h
noncomputable abbrev g7 (K:PySem.W.Frag):List V->Hp->VK->Prop:=fun vs H Q=>n9 K vs H Q\/(∃p d,vs=[.ref p]/\RdE K H (.ref p) d/\d.showable=true/\d.depth<=60/\d.shown.length<=sizeLine/\Q (.str d.shown) H)\/(vs=[.non]/\Q (.str "None") H)\/(∃b,vs=[.bl b]/\Q (.str (if b then "True" else "False")) H)\/∃x,vs=[.str x]/\(reprText x).length<=sizeLine/\Q (.str (reprText x)) H
theorem xD (hg:X.A.guards=some []) (hu:X.A.units+64<cLine):aP X (.builtin "repr") (g7 X.K):=aP.or (zG hg hu) (aP.or (r9 hg hu) (aP.or rL (aP.or qS rN)))
theorem xl:hJ K g ε dE (g7 K):=by
 intro α H h a x Q r ra w
 unfold dE at w
 cases e:ka a h with
 | ok d h'=>rw[e] at w;exact .inl (Aq α H h a x Q r ra (by rw[e];exact w))
 | err z h'=>rw[e] at w;exact im α H h a x Q r ra w
 | bad=>rw[e] at w;exact im α H h a x Q r ra w
where
 im (α H h a x Q) (r:aS K g α H h) (ra:au K g α H a x) (w:WQ K g ε α H (l_ a h) (aA K g α H Q)):g7 K x H Q:=by
  unfold l_ at w
  have gen:∀{d:D} {v:V},aE K g α H d v->(∃p,v=.ref p)->WQ K g ε α H (u0 d h) (aA K g α H Q)->g7 K [v] H Q:=by
   intro d v rd ⟨p,hp⟩ w
   subst hp
   unfold u0 at w
   cases e:iN 12 d with
   | none=>simp only[e] at w;exact w.elim
   | some pd=>
    simp only[e] at w
    obtain⟨hb,w⟩:=WQ.b_ w
    obtain⟨q1,q2⟩:=qJ 12 d _ pd rd e
    have:=PyData.shown_le_bulk 1921 (by decide) pd q2.lv
    exact .inr (.inl ⟨p,pd,rfl,q1,q2.sh,Nat.le_trans q2.dp (by decide),by rw[sizeLine_eq];omega,aA.now w r (.str _)⟩)
  cases ra with
  | nil=>exact w.elim
  | cons rd rr=>
   cases rr with
   | cons _ _=>cases rd<;>exact w.elim
   | nil=>
    cases rd with
    | non=>exact .inr (.inr (.inl ⟨rfl,aA.now w r (.str _)⟩))
    | bl b=>exact .inr (.inr (.inr (.inl ⟨b,rfl,aA.now w r (.str _)⟩)))
    | str z=>
     obtain⟨hz,w⟩:=WQ.b_ w
     exact .inr (.inr (.inr (.inr ⟨z,rfl,e_ hz,aA.now w r (.str _)⟩)))
    | tup hp rs=>exact gen (.tup hp rs) ⟨_,rfl⟩ w
    | edic hp=>exact gen (.edic hp) ⟨_,rfl⟩ w
    | _=>exact w.elim
theorem eN {ds:List D} {d:D} {h h':Hh} (e:ka ds h=.ok d h'):dE ds h=.ok d h':=by unfold dE;rw[e]
end
theorem us0 {P:List Value->Prop} {us:List Value} (hl:us.length=0) (h:P []):P us:=by cases us with | nil=>exact h | cons _ _=>cases hl
theorem us1 {P:List Value->Prop} {us:List Value} (hl:us.length=1) (h:∀a,P [a]):P us:=by cases us with | nil=>cases hl | cons a us=>exact us0 (P:=fun us=>P (a::us)) (Nat.succ.inj hl) (h a)
theorem us2 {P:List Value->Prop} {us:List Value} (hl:us.length=2) (h:∀a b,P [a,b]):P us:=by cases us with | nil=>cases hl | cons a us=>exact us1 (P:=fun us=>P (a::us)) (Nat.succ.inj hl) (h a)
theorem us3 {P:List Value->Prop} {us:List Value} (hl:us.length=3) (h:∀a b c,P [a,b,c]):P us:=by cases us with | nil=>cases hl | cons a us=>exact us2 (P:=fun us=>P (a::us)) (Nat.succ.inj hl) (h a)
theorem gR {fd:FuncData} {ps:List Str} {us:List Value} (hl:us.length=1) (h:∀a:Value,bindArgs fd ⟨[a],[]⟩=pure (ps.zip [a])):bindArgs fd ⟨us,[]⟩=pure (ps.zip us):=us1 (P:=fun us=>bindArgs fd ⟨us,[]⟩=pure (ps.zip us)) hl h
theorem uT {fd:FuncData} {ps:List Str} {us:List Value} (hl:us.length=2) (h:∀a b:Value,bindArgs fd ⟨[a,b],[]⟩=pure (ps.zip [a,b])):bindArgs fd ⟨us,[]⟩=pure (ps.zip us):=us2 (P:=fun us=>bindArgs fd ⟨us,[]⟩=pure (ps.zip us)) hl h
theorem Fq {fd:FuncData} {ps:List Str} {us:List Value} (hl:us.length=3) (h:∀a b c:Value,bindArgs fd ⟨[a,b,c],[]⟩=pure (ps.zip [a,b,c])):bindArgs fd ⟨us,[]⟩=pure (ps.zip us):=us3 (P:=fun us=>bindArgs fd ⟨us,[]⟩=pure (ps.zip us)) hl h
end L2.FE
namespace PySem.W
open PySem PySem.Calls PyProof.Rows PySem.Spec Builtin Builtin.ObjectAttr
noncomputable abbrev DE:List Value:=[.type "ValueError", .type "Exception", .type "BaseException", .type "object"]
noncomputable def xS:Value->Bool
 | .ref _=>true
 | _=>false
noncomputable def nO (l:List Value):Bool:=l.dropWhile xS == DE
theorem qM {l:List Value} (e:nO l=true):l=DE\/∃c r,l=.ref c::r/\nO r=true:=by
 cases l with
 | nil=>cases e
 | cons a r=>
  by_cases h:xS a=true
  ·cases a with
   | ref c=>exact .inr ⟨c,r,rfl,by unfold nO at e ⊢;rw[List.dropWhile_cons_of_pos h] at e;exact e⟩
   | _=>cases h
  ·unfold nO at e
   rw[List.dropWhile_cons_of_neg h] at e
   exact .inl (beq_iff_eq.mp e)
noncomputable def kR (K:Frag) (C:Addr):Bool:=(clsIn K C).any fun cd=>nO cd.mro
end PySem.W
namespace L2
open PySem PySem.Spec PyProof.Rows PySem.W
noncomputable def wM (K:PySem.W.Frag) (C fI:Addr):Bool:=match K.lookup C with
 | some ⟨.type "type", _,.cls cd,sl⟩=>(match cd.mro,sl.toList with
  | .ref C'::bm,[_,_,_,_,some (.builtin n),_]=>C' == C&&n == "ValueError.__new__" && !cd.hasDel&&tailIn K bmV bm&&nsOkIn K cd.ns&&nsIn K cd.ns "__init__" == some (some (.ref fI))
  | _,_=>false)
 | _=>false
inductive lg:List Stmt->List Str->Prop
 | nil:lg [] []
 | cons {f:Str} {p1 p2 p3 p4:Pos} {r:List Stmt} {fs:List Str}:(f == ("__debug__" : Str))=false->lg r fs->lg (.Assign [.Attribute (.Name "self" p1) f p2] (.Name f p3) p4::r) (f::fs)
noncomputable def cX:Stmt->Stmt
 | .ClassDef _ _ _ (st::_) ..=>st
 | st=>st
structure Dg (K:PySem.W.Frag) (x:Str) (cst:Stmt) (C:Addr) (fs:List Str):Prop where
 ex:∃fI fd qual,wM K C fI=true/\Fun K "__init__" qual (cX cst) fI fd/\Binds K fd ("self" :: fs) []/\typeIn K (.ref fI)=some (.type "function")
 sc:aN ("self" :: fs) ("self" :: fs) (ak (cX cst))
 loc:∀y∈("self" : Str)::fs,(ak (cX cst)).names.lookup y=some .local
 body:lg (bS (cX cst)) fs
 sa:findIn K (.ref C) "__setattr__" = some (some (.builtin "object.__setattr__"))
 ov:kR K C=true
 tk:∀f∈fs,takerIn K C f=some none
 hd:hasDictIn K C=true
 ne:fs≠[]
noncomputable abbrev ws0 (t:Addr):Array Value:=#[.ref t,.none,.none,.none,.bool false,.none]
end L2
namespace PySem.W
open PySem PySem.Calls PyProof.Rows PySem.Spec Builtin Builtin.ObjectAttr
theorem nU:∀(n:Nat) {l:List Value},l.length<=n->nO l=true->l.contains (.type "BaseException")=true
 | 0,l,hl,e=>by
  have:l=[]:=List.eq_nil_of_length_eq_zero (by omega)
  subst this;cases e
 | n+1,l,hl,e=>by
  rcases qM e with rfl | ⟨c,r,rfl,e'⟩
  ·simp
  ·rw[List.contains_cons,nU n (by simp at hl;omega) e',Bool.or_true]
section
variable {K:Frag} {prog:Program} {w:World} {A:Around} {E:Value->Shared->Prop} {s:Shared} {x C dx:Addr} {ox:Obj} {mA:Str->Option Value} {name:Str} {v:Value}
theorem ug {tk:Tok} {Q:Fin->Shared->Prop} (X:K.In s.heap) (hx:s.heap.get? x=some ox) (hc:ox.cls=.ref C) (hf:∃ws,ox.data=.fields ws) (hd:ox.dict=some dx) (hn:s.heap.Ns dx mA) (hv:mA name=some v)
  (hna:findIn K (.ref C) name=some none) (hh:hasDictIn K C=true) (h:Q (.done (.ret v)) s):wpAny (model prog w) A (Builtin.«object.__getattribute__» ⟨[.ref x,.str name tk],[]⟩) Q E s:=by
 obtain⟨cd,hcd,hd'⟩:=any_some hh
 obtain⟨oc,od,oda,osl⟩:=ox
 obtain⟨ws,hf⟩:=hf
 dsimp only at hc hd hf
 subst hc hd hf
 have I:InstAt s.heap x ⟨.ref C,some dx,.fields ws,osl⟩ C (some hn.choose):=⟨hx,rfl,rfl,hn.choose_spec.choose_spec.choose_spec.1⟩
 have e:Builtin.«object.__getattribute__» ⟨[.ref x,.str name tk],[]⟩=(typeOf (.ref x) >>= fun tp=>find (.ref x) tp name >>= fun f=>match f with
   | .value v=>(ret v:Sem Fin)
   | .bind g a=>bindTo g a (.ref x) tp
   | .missing=>do
    if tp == .type "module" then
     if ← isOpaqueModuleObj (.ref x) then
      let byTheModulesOwnEntry:=match (← stack).drop 1 with
       | (.builtin "module.__getattribute__" ⟨m::_,_⟩,_)::_=>m == .ref x
       | _=>false
      if !byTheModulesOwnEntry then unsupported "thirdparty:object.__getattribute__:a-miss-on-an-opaque-module"
    if tp == .type "type" then
     if let some key ← opaqueClassAbove (.ref x) then unsupported s!"thirdparty:{key.toString}.{name.toString}:object.__getattribute__-misses-on-an-opaque-class"
    noSuchAttribute (.ref x) name):=by rfl
 rw[e]
 refine wpAny_bind (I.type.here ?_)
 refine wpAny_bind ?_
 unfold find
 refine wpAny_bind ((looks_findIn X hna).here ?_)
 refine wpAny_bind (wpAny_pure (wpAny_bind (wpAny_pure ?_)))
 show wpAny _ _ (ownThenClass (.ref x) name none none) _ _ _
 unfold ownThenClass inOwnDict
 refine wpAny_bind (wpAny_bind ?_)
 show wpAny _ _ (loadPart x (some headPart) >>= _) _ _ _
 refine wpAny_bind (wpAny_loadPart hx ?_)
 show wpAny _ _ (instanceDict x false) _ _ _
 unfold instanceDict
 refine wpAny_bind (wpAny_loadPart hx ?_)
 refine wpAny_bind ?_
 refine(looks_clsIn X hcd).here ?_
 rw[hd']
 refine wpAny_pure (a:=some dx) ?_
 show wpAny _ _ (nsGet dx name) _ _ _
 refine wpAny_nsGet hn ?_
 rw[hv]
 refine wpAny_bind (wpAny_rule (wpAny_pure ?_))
 exact wpAny_pure h
theorem zV {b:Bool} {Q:Value->Shared->Prop} (X:K.In s.heap) (hx:s.heap.get? x=some ox) (hc:ox.cls=.ref C) (hf:∃ws,ox.data=.fields ws) (hd:ox.dict=some dx) (hn:s.heap.Ns dx mA) (hv:mA name=some v)
  (hga:findIn K (.ref C) "__getattribute__" = some (some (.builtin "BaseException.__getattribute__"))) (hgh:findIn K (.ref C) "__getattr__" = some none) (hna:findIn K (.ref C) name=some none) (ov:kR K C=true) (hh:hasDictIn K C=true) (hv2:handedOut v=pure v)
  (h:Q v { s with toks:=s.toks+1 }):wpAny (model prog w) A (getAttr (.ref x) name b) Q E s:=by
 have FB:=PySem.F.attrBase_ValueError
 have I:InstAt s.heap x ox C (some hn.choose):=⟨hx,hc,by obtain⟨ws,e⟩:=hf;unfold notCls;rw[e],by rw[hd];exact hn.choose_spec.choose_spec.choose_spec.1⟩
 obtain⟨cd,hcd,ho⟩:=any_some ov
 have ne:cd.mro.isEmpty=false:=by cases q:cd.mro with | nil=>rw[q] at ho;cases ho | cons _ _=>rfl
 have sub:Looks (model prog w) s.heap (isInstance (.ref x) (.type "BaseException")) true:=I.type.andThen (looks_mroIn X (by unfold mroIn;rw[hcd,Option.bind_some,if_neg (by rw[ne];decide),nU _ (Nat.le_refl _) ho]))
 unfold getAttr getAttrBy
 refine wpAny_bind (wpAny_mkText (wpAny_holding (wpAny_bind (Looks.here (s:={ s with toks:=s.toks+1 }) I.type (wpAny_bind (Looks.here (s:={ s with toks:=s.toks+1 }) (looks_findIn X hga) ?_))))))
 dsimp only
 have hx2:(Value.builtin "BaseException.__getattribute__" == Value.builtin "object.__getattribute__")=false:=by decide +kernel
 rw[if_neg (by rw[hx2,Bool.and_false];decide)]
 unfold getAttrByItsOwn
 refine wpAny_bind ?_
 show wpAny _ _ (typeLookup (.ref C) "__getattr__") _ _ _
 refine Looks.here (s:={ s with toks:=s.toks+1 }) (looks_findIn X hgh) ?_
 refine wpAny_bind (wpAny_attempt (wpAny_holding ?_))
 have hcall:callGetattribute (.ref x) (.str name s.toks) (.builtin "BaseException.__getattribute__") b=boundAndCalled (.builtin "BaseException.__getattribute__") (.ref x) (.str name s.toks):=by cases b<;>rfl
 rw[hcall]
 unfold boundAndCalled
 refine wpAny_bind ?_
 rw[FB.ga.bind (.ref x)]
 refine wpAny_pure ?_
 have hk:builtinKind "BaseException.__getattribute__" = some .slot:=by decide +kernel
 have hsplit:splitId "BaseException.__getattribute__" = some ("BaseException", "__getattribute__"):=by decide +kernel
 refine wpAny_call (codeAny_call_builtin FB.ga.plain PySem.F.entry_bexc_ga (@check_slot (model prog w) _ _ { s with toks:=s.toks+1 } "BaseException.__getattribute__" "BaseException" "__getattribute__" (.ref x) [.str name s.toks] [] _ hk hsplit sub (PySem.F.args_bexc_ga (.ref x) (.str name s.toks)) ?_))
 refine ug (s:={ s with toks:=s.toks+1 }) X hx hc hf hd hn hv hna hh ?_
 show wpAny _ _ (handedOut v) _ _ _
 rw[hv2]
 exact wpAny_pure h
end
end PySem.W
namespace L2
open PySem PySem.Spec PyProof.Rows PySem.W
structure Bk (K:PySem.W.Frag) (C:Addr) (f:Str):Prop where
 ga:findIn K (.ref C) "__getattribute__" = some (some (.builtin "BaseException.__getattribute__"))
 gh:findIn K (.ref C) "__getattr__" = some none
 na:findIn K (.ref C) f=some none
 ov:kR K C=true
 hd:hasDictIn K C=true
end L2
namespace L2.FE
open PySem PySem.Spec PyProof.Rows
noncomputable def yX (c f:Str):D->Hh->R D:=fun d h=>match d with
 | .exc c' fs=>if c'=c then (match fs.lookup f with | some i=>.ok (.int i) h | none=>.bad) else .bad
 | _=>.bad
theorem kc:∀{fs:List (Str × Int)} {f:Str} {i:Int},fs.lookup f=some i->(fs.map fun x=>(x.1,V.int x.2)).lookup f=some (.int i)
 | [],f,i,h=>by cases h
 | (y,j)::fs,f,i,h=>by
  simp only[List.map_cons,List.lookup] at h ⊢
  cases q:f == y with
  | true=>rw[q] at h;cases h;rfl
  | false=>rw[q] at h;exact kc h
section
variable {X:Cx} {g:GG} {ε:EE}
theorem BQ {e:Expr} {c f:Str} {C:Addr} {pos:Pos} {m:ME} (he:PE X e (tM X.K g ε m)) (hgc:g c=some C) (cr:Bk X.K C f) (hb:attributeBase e f X.env (eval e X.env)=eval e X.env:=by rfl):PE X (.Attribute e f pos) (tM X.K g ε (cUn (yX c f) m)):=by
 intro pins s σ H Q I ⟨α,env,h,sr,w⟩
 have A0:=he pins s σ H (fun v H1=>∃(p dx:Addr) (o od:Obj) (i:Int) (fs:List (Str × Int)),v=.ref p/\H1 p=some (AtO p o)/\o.cls=.ref C/\(∃vs,o.data=.fields vs)/\o.dict=some dx/\H1 dx=some (.frz od (.xd (fs.map fun x=>(x.1,V.int x.2))))/\fs.lookup f=some i/\Q (.int i) H1) I ⟨α,env,h,sr,w.bind.mono fun d h1 eq w1 v H1 α1 e1 hr1 r1=>by
  unfold yX at w1
  cases r1 with
  | exc hg hp hcl hda hfs=>
   rename_i c' C' p o fs
   dsimp only at w1
   by_cases hc:c'=c
   ·rw[if_pos hc] at w1
    subst hc
    rw[hgc] at hg;cases hg
    cases el:fs.lookup f with
    | none=>rw[el] at w1;exact w1.elim
    | some i=>
     rw[el] at w1
     rcases hfs with⟨_,rfl⟩ | ⟨dx,od,hd1,hd2⟩
     ·cases el
     ·exact⟨p,dx,o,od,i,fs,rfl,hp,hcl,hda,hd1,hd2,el,w1 (.int i) H1 α1 e1 hr1 (.int i)⟩
   ·rw[if_neg hc] at w1;exact w1.elim
  | _=>exact w1.elim⟩
 refine Aa hb (thn A0 fun u s1 ⟨v,H1,I1,rv,p,dx,o,od,i,fs,ev,hp,hcl,hda,hd1,hd2,el,q⟩=>?_)
 subst ev
 obtain rfl:u=Value.ref p:=rv
 obtain⟨ho,_⟩:=I1.hok p _ hp
 obtain⟨hod,mA,hns,rel⟩:=I1.hok dx _ hd2
 have rl:=rel f
 rw[kc el] at rl
 cases em:mA f with
 | none=>rw[em] at rl;exact rl.elim
 | some u=>
  rw[em] at rl
  obtain⟨t,rfl⟩:=rl
  exact PySem.W.zV I1.kIn ho hcl hda hd1 hns.ns em cr.ga cr.gh cr.na cr.ov cr.hd rfl ⟨.int i,H1,I1.tok _,⟨t,rfl⟩,q⟩
end
end L2.FE
namespace L2
open PySem PySem.Spec PyProof.Rows PySem.W
noncomputable def CIs (K:PySem.W.Frag) (x:Str) (cst:Stmt) (fs:List Str):Prop:=∃C,nsIn K mainGlobals x=some (some (.ref C))/\Dg K x cst C fs/\∀f∈fs,Bk K C f
noncomputable def D_ (K:PySem.W.Frag) (C fI:Addr) (fs:List Str):Bool:=wM K C fI&&typeIn K (.ref fI) == some (.type "function")&&findIn K (.ref C) "__setattr__" == some (some (.builtin "object.__setattr__"))&&kR K C&&hasDictIn K C&&
 findIn K (.ref C) "__getattribute__" == some (some (.builtin "BaseException.__getattribute__"))&&findIn K (.ref C) "__getattr__" == some none&&fs.all fun f=>takerIn K C f == some none&&findIn K (.ref C) f == some none
noncomputable def CIm (K:PySem.W.Frag) (mg:Str->Option Value) (x:Str) (cst:Stmt) (fs:List Str):Prop:=∃C,mg x=some (.ref C)/\Dg K x cst C fs/\∀f∈fs,Bk K C f
theorem CIm.of {K:PySem.W.Frag} {h:Heap} {mg:Str->Option Value} {x:Str} {cst:Stmt} {fs:List Str} (X:K.In h) (G:h.Ns mainGlobals mg) (c:CIs K x cst fs):CIm K mg x cst fs:=
 let ⟨C,a,b,d⟩:=c;⟨C,mg_of X G a,b,d⟩
end L2
namespace L2.FE
open PySem PySem.Spec PyProof.Rows
section
variable {X:Cx} {g:GG} {E:XK}
theorem yZ {ε:EE} {e:Expr} {c f:Str} {cst:Stmt} {fs:List Str} {pos:Pos} {m:ME} (he:PE X e (tM X.K g ε m)) (cm:CIm X.K X.mg c cst fs) (hgo:g=gOf X.mg) (hf:f∈fs) (hb:attributeBase e f X.env (eval e X.env)=eval e X.env:=by rfl):PE X (.Attribute e f pos) (tM X.K g ε (cUn (yX c f) m)):=by
 obtain⟨C,hm,_,cr⟩:=cm
 exact BQ he (by rw[hgo];unfold gOf;rw[hm]) (cr f hf) hb
end
end L2.FE
namespace L2
open PySem PySem.Spec PyProof.Rows PySem.W
theorem zB {K:PySem.W.Frag} {x qual:Str} {cst:Stmt} {C fI:Addr} {fs:List Str} {oc:Value} {od an:Option Addr} {osl:Array (Option Value)} {kV doc pm cdv ct:Value} (a:nsIn K mainGlobals x=some (some (.ref C))) (_b:findIn K (.ref C) "__init__" = some (some (.ref fI)))
  (l:K.lookup fI=some ⟨oc,od,.func (fnOf "__init__" qual (eZ (cX cst)) (bS (cX cst)) (ak (cX cst)) .none kV doc pm an cdv ct),osl⟩) (c:codeIn K cdv qual=true) (k:keepIn K (.ref fI)=true) (o:D_ K C fI fs=true)
  (sc:aN ("self" :: fs) ("self" :: fs) (ak (cX cst))) (loc:∀y∈("self" : Str)::fs,(ak (cX cst)).names.lookup y=some .local) (body:lg (bS (cX cst)) fs)
  (bd:∀(kV doc pm:Value) (an:Option Addr) (cdv ct:Value) (us:List Value),us.length=(("self" : Str)::fs).length->bindArgs (fnOf "__init__" qual (eZ (cX cst)) (bS (cX cst)) (ak (cX cst)) .none kV doc pm an cdv ct) ⟨us,[]⟩=pure ((("self" : Str)::fs).zip us)) (ne:fs≠[]):CIs K x cst fs:=by
 unfold D_ at o
 simp only[Bool.and_eq_true,beq_iff_eq,List.all_eq_true] at o
 obtain⟨⟨⟨⟨⟨⟨⟨o1,o2⟩,o3⟩,o4⟩,o5⟩,o6⟩,o7⟩,o8⟩:=o
 have F:Fun K "__init__" qual (cX cst) fI _:=xi l c k
 exact⟨C,a,⟨⟨fI,_,qual,o1,F,F.binds bd,o2⟩,sc,loc,body,o3,o4,fun f hf=>(o8 f hf).1,o5,ne⟩,fun f hf=>⟨o6,o7,(o8 f hf).2,o4,o5⟩⟩
end L2
namespace L2
open PySem PySem.Spec PyProof.Rows
inductive RdM (K:PySem.W.Frag) (H:Hp):V->PyData->Prop
 | non:RdM K H .non .none
 | bl (b:Bool):RdM K H (.bl b) (.bool b)
 | int (i:Int):RdM K H (.int i) (.int i)
 | str (x:Str):RdM K H (.str x) (.str x)
 | tup {a:Addr} {xs:List V} {ds:List PyData} (h:SqT K H a xs) (hl:xs.length=ds.length) (hx:∀(i:Nat) x d,xs[i]?=some x->ds[i]?=some d->RdM K H x d):RdM K H (.ref a) (.tuple ds)
 | lst {a:Addr} {xs:List V} {ds:List PyData} (h:SqL K H a xs) (hl:xs.length=ds.length) (hx:∀(i:Nat) x d,xs[i]?=some x->ds[i]?=some d->RdM K H x d):RdM K H (.ref a) (.list ds)
 | edic {a:Addr} {o:Obj} (h:H a=some (.frz o (.dK []))):RdM K H (.ref a) (.dict [])
noncomputable def RK (P:Program) (w:World) (h:Heap) (u:Value) (d:PyData):Prop:=∃as,Reads h u d as/\(d.showable=true->d.shown.length<=sizeLine->∃bs,ReadAtMost h d.depth bs/\ReprK P w bs h d.depth u d.shown)
theorem RK.of {P:Program} {w:World} {h:Heap} {u:Value} {d:PyData} {as:List Addr} (r:Reads h u d as) (n:sysModules∉as):RK P w h u d:=⟨as,r,fun hs hz=>ReprK.of_reads r hs (fun _=>n) hz⟩
theorem n5 {P:Program} {w:World} {h:Heap}:∀{us:List Value} {ds:List PyData},us.length=ds.length->(∀(i:Nat) u d,us[i]?=some u->ds[i]?=some d->RK P w h u d) →
  ∃as,ReadsAll h us ds as/\(PyData.showableAll ds=true->(∀t∈PyData.shownAll ds,t.length<=sizeLine)->∃bs,ReadAtMost h (PyData.depthAll ds) bs/\ReprAllK P w bs h (PyData.depthAll ds) us (PyData.shownAll ds))
 | [],[],_,_=>⟨_,.nil,fun _ _=>⟨[],(fun _ z=>nomatch z),by rw[PyData.shownAll];exact .nil⟩⟩
 | [],_::_,hl,_=>by simp at hl
 | _::_,[],hl,_=>by simp at hl
 | u::us,d::ds,hl,hx=>by
  obtain⟨as,r1,k1⟩:=hx 0 u d rfl rfl
  obtain⟨bs,r2,k2⟩:=n5 (P:=P) (w:=w) (us:=us) (ds:=ds) (by simpa using hl) fun i u d e1 e2=>hx (i+1) u d (by simpa using e1) (by simpa using e2)
  refine⟨_,.cons r1 r2,fun hs hz=>?_⟩
  rw[PyData.showableAll,Bool.and_eq_true] at hs
  rw[PyData.shownAll] at hz ⊢
  rw[PyData.depthAll]
  obtain⟨b1,m1,q1⟩:=k1 hs.1 (hz _ List.mem_cons_self)
  obtain⟨b2,m2,q2⟩:=k2 hs.2 fun t ht=>hz t (List.mem_cons_of_mem _ ht)
  exact⟨b1++b2,(m1.mono (Nat.le_max_left _ _)).append (m2.mono (Nat.le_max_right _ _)),.cons ((q1.more fun b hb=>List.mem_append_left _ hb).level_le (Nat.le_max_left _ _)) (q2.more_le (fun b hb=>List.mem_append_right _ hb) (Nat.le_max_right _ _))⟩
section
variable {X:Cx}
theorem Inv.CN {pins:List (Addr × Obj)} {σ:St} {H:Hp} {s:Shared} (I:Inv X pins σ H s) {x:V} {d:PyData} (r:RdM X.K H x d):∀u,RelV x u->RK X.prog X.w s.heap u d:=by
 induction r with
 | non=>intro u ru;cases (show u=Value.none from ru);exact .of .none (by simp)
 | bl b=>intro u ru;cases (show u=Value.bool b from ru);exact .of (.bool b) (by simp)
 | int i=>intro u ru;obtain⟨t,q⟩:=(show ∃t,u=Value.int i t from ru);cases q;exact .of (.int i t) (by simp)
 | str y=>intro u ru;obtain⟨t,q⟩:=(show ∃t,u=Value.str y t from ru);cases q;exact .of (.str y t) (by simp)
 | @tup a xs ds h hl hx ih=>
  intro u ru
  cases (show u=Value.ref a from ru)
  obtain⟨its,rv,p,hz⟩:=I.tuple h
  obtain⟨o,ho,hc,n,hd⟩:=p
  obtain⟨as,ra,k⟩:=n5 (P:=X.prog) (w:=X.w) (h:=s.heap) (us:=its) (ds:=ds) (by rw[<- rv.length,hl]) fun i u d e1 e2=>by
   obtain⟨y,e3,ry⟩:=rv.get' e1
   exact ih i y d e3 e2 u ry
  have rr:Reads s.heap (.ref a) (.tuple ds) as:=.tuple ho hc hd (by simpa using ra)
  refine⟨_,rr,fun hs hz=>?_⟩
  rw[PyData.shown] at hz ⊢
  obtain⟨bs,hb,hk⟩:=k (by rw[PyData.showable] at hs;exact hs) fun t ht=>Nat.le_trans (tupleText_mem_le ht) hz
  have hna:=not_mem_of_deeper rr (by rw[PyData.depth];omega) hb
  refine⟨a::bs,ReadAtMost.cons rr (by rw[PyData.depth];omega) hb,?_⟩
  rw[PyData.depth]
  exact ReprK.tuple ho hc hd hna (by simpa using hk)
 | @lst a xs ds h hl hx ih=>
  intro u ru
  cases (show u=Value.ref a from ru)
  obtain⟨its,rv,p,hz⟩:=I.list h
  obtain⟨o,ho,hc,n,hd⟩:=p.isList
  obtain⟨as,ra,k⟩:=n5 (P:=X.prog) (w:=X.w) (h:=s.heap) (us:=its) (ds:=ds) (by rw[<- rv.length,hl]) fun i u d e1 e2=>by
   obtain⟨y,e3,ry⟩:=rv.get' e1
   exact ih i y d e3 e2 u ry
  have rr:Reads s.heap (.ref a) (.list ds) _:=.list ho hc hd (by simpa using ra)
  refine⟨_,rr,fun hs hz=>?_⟩
  rw[PyData.shown] at hz ⊢
  obtain⟨bs,hb,hk⟩:=k (by rw[PyData.showable] at hs;exact hs) fun t ht=>Nat.le_trans (listText_mem_le ht) hz
  have hna:=not_mem_of_deeper rr (by rw[PyData.depth];omega) hb
  refine⟨a::bs,ReadAtMost.cons rr (by rw[PyData.depth];omega) hb,?_⟩
  rw[PyData.depth]
  cases its with
  | nil=>
   cases ra
   rw[PyData.shownAll,listText_nil]
   exact ReprK.listEmpty ho hc hd
  | cons x l=>exact ReprK.list ho hc hd hna (by simpa using hk.length_eq) fun i y e=>hk.item i y (by simpa using e)
 | @edic a o h=>
  intro u ru
  obtain⟨as,r,n⟩:=I.wd (.edic h) u ru
  exact .of r n
theorem si (hg:X.A.guards=some []) (hu:X.A.units+64<cLine):aP X (.builtin "repr") (fun vs H Q=>∃p xs d ds,vs=[.ref p]/\SqL X.K H p xs/\xs.length=(d::ds).length/\(∀(i:Nat) x e,xs[i]?=some x->(d::ds)[i]?=some e->RdM X.K H x e)/\PyData.showableAll (d::ds)=true/\PyData.depthAll (d::ds)<=60/\(PyData.list (d::ds)).shown.length<=sizeLine/\Q (.str (PyData.list (d::ds)).shown) H):=by
 intro pins s σ H xs us Q I r h
 obtain⟨a,xs,d,ds,rfl,sq,hl,hx,hs,hdp,hz,q⟩:=h
 obtain⟨u,rfl,rx⟩:=vals1 r
 cases rx
 obtain⟨its,rv,p,hz0⟩:=I.list sq
 obtain⟨o,ho,hc,n,hd⟩:=p.isList
 obtain⟨as,ra,k⟩:=n5 (P:=X.prog) (w:=X.w) (h:=s.heap) (us:=its) (ds:=d::ds) (by rw[<- rv.length,hl]) fun i u d e1 e2=>by
  obtain⟨y,e3,ry⟩:=rv.get' e1
  exact I.CN (hx i y d e3 e2) u ry
 have rr:Reads s.heap (.ref a) (.list (d::ds)) _:=.list ho hc hd (by simpa using ra)
 rw[PyData.shown] at hz q
 obtain⟨bs,hb,hk⟩:=k hs fun t ht=>Nat.le_trans (listText_mem_le ht) hz
 have hna:=not_mem_of_deeper rr (by rw[PyData.depth];omega) hb
 cases its with
 | nil=>cases ra
 | cons y l=>
  exact call_repr_slot (by omega) ⟨o,ho,hc⟩ PySem.F.slot_list_repr.toG (call_list_reprK ho hc hd hna (by simpa using hk.length_eq) (fun i y e=>hk.item i y (by simpa using e)) hg (fun b _=>Clear.nil b) (by show X.A.units+1+(PyData.depthAll (d::ds)+1)<cLine;omega) (fun _ _ e=>e) (fun h' u tk kp=>⟨_,_,rfl,⟨.str _,H,I.kept kp,⟨_,rfl⟩,q⟩⟩) hz)
end
end L2
namespace L2.FE
open PySem PySem.Spec PyProof.Rows
noncomputable def eV:Nat->D->Option PyData
 | 0,_=>none
 | k+1,d=>match d with
  | .non=>some .none
  | .bl b=>some (.bool b)
  | .int i=>if sml i=true then some (.int i) else none
  | .str x=>if x.cps.toList.all (fun c=>decide (c<16 ^ 8))=true then some (.str x) else none
  | .tup ds=>(aZ (eV k) ds).map .tuple
  | .frl ds=>(aZ (eV k) ds).map .list
  | .edic=>some (.dict [])
  | _=>none
section
variable {K:PySem.W.Frag} {g:GG} {α:List Addr} {H:Hp} {h:Hh} {X:Cx} {ε:EE}
theorem gY {f:D->Option PyData} {k:Nat} (hf:∀d x p,aE K g α H d x->f d=some p->RdM K H x p/\sE k p):∀{ds:List D} {vs:List V} {ps:List PyData},au K g α H ds vs->aZ f ds=some ps →
  xm k ps/\vs.length=ps.length/\∀(i:Nat) x d,vs[i]?=some x->ps[i]?=some d->RdM K H x d
 | _,_,_,.nil,e=>by
  cases e
  exact⟨⟨by simp[PyData.showableAll],by simp[PyData.depthAll],by simp[PyData.leavesShortAll]⟩,rfl,fun i x d h=>by simp at h⟩
 | _,_,_,.cons r t,e=>by
  unfold aZ at e
  split at e
  ·rename_i p ps h1 h2
   cases e
   obtain⟨a1,a2⟩:=hf _ _ _ r h1
   obtain⟨b1,b2,b3⟩:=gY hf t h2
   refine⟨⟨by rw[PyData.showableAll,a2.sh,b1.sh];rfl,by rw[PyData.depthAll];exact Nat.max_le.mpr ⟨a2.dp,b1.dp⟩,by rw[PyData.leavesShortAll,a2.lv,b1.lv];rfl⟩,by simp[b2],fun i x d hx hd=>?_⟩
   cases i with
   | zero=>simp at hx hd;subst hx hd;exact a1
   | succ i=>exact b3 i x d (by simpa using hx) (by simpa using hd)
  ·cases e
theorem mD:∀(k:Nat) (d:D) (x:V) (p:PyData),aE K g α H d x->eV k d=some p->RdM K H x p/\sE k p
 | 0,_,_,_,_,e=>by cases e
 | k+1,d,x,p,rd,e=>by
  unfold eV at e
  cases rd with
  | non=>cases e;exact⟨.non,by simp[PyData.showable],by simp[PyData.depth],by simp[PyData.leavesShort]⟩
  | bl b=>cases e;exact⟨.bl b,by simp[PyData.showable],by simp[PyData.depth],by simp[PyData.leavesShort]⟩
  | int i=>
   simp only at e
   split at e
   ·rename_i hs
    cases e
    have hl:i.natAbs.log2<1920:=Nat.lt_trans (gX hs) (by decide)
    exact⟨.int i,by simp[PyData.showable,hl],by simp[PyData.depth],by simp only[PyData.leavesShort,decide_eq_true_eq];exact int_text_len_1921 hl⟩
   ·cases e
  | str z=>
   simp only at e
   split at e
   ·rename_i hs
    cases e
    exact⟨.str z,by simp[PyData.showable],by simp[PyData.depth],by simpa only[PyData.leavesShort] using hs⟩
   ·cases e
  | edic hp=>cases e;exact⟨.edic hp,by simp[PyData.showable,PyData.showableKv],by simp[PyData.depth,PyData.depthKv],by simp[PyData.leavesShort,PyData.leavesShortKv]⟩
  | tup hp rs=>
   simp only at e
   cases e1:aZ (eV k) _ with
   | none=>rw[e1] at e;cases e
   | some ps=>
    rw[e1] at e
    cases e
    obtain⟨b1,b2,b3⟩:=gY (fun d x p=>mD k d x p) rs e1
    exact⟨.tup (SqT.of hp) b2 b3,by rw[PyData.showable];exact b1.sh,by rw[PyData.depth];exact Nat.succ_le_succ b1.dp,by rw[PyData.leavesShort];exact b1.lv⟩
  | frl hp rs=>
   simp only at e
   cases e1:aZ (eV k) _ with
   | none=>rw[e1] at e;cases e
   | some ps=>
    rw[e1] at e
    cases e
    obtain⟨b1,b2,b3⟩:=gY (fun d x p=>mD k d x p) rs e1
    exact⟨.lst hp.sq b2 b3,by rw[PyData.showable];exact b1.sh,by rw[PyData.depth];exact Nat.succ_le_succ b1.dp,by rw[PyData.leavesShort];exact b1.lv⟩
  | _=>cases e
noncomputable def l6:List D->Hh->R D:=fun ds h=>match ds with
 | [.frl ds]=>(match aZ (eV 12) ds with
  | some (p::ps)=>if PyData.bulk (.list (p::ps))<=8000 then .ok (.str (PyData.list (p::ps)).shown) h else .bad
  | _=>.bad)
 | _=>.bad
noncomputable abbrev pN (K:PySem.W.Frag):List V->Hp->VK->Prop:=fun vs H Q=>∃p xs d ds,vs=[.ref p]/\SqL K H p xs/\xs.length=(d::ds).length/\(∀(i:Nat) x e,xs[i]?=some x->(d::ds)[i]?=some e->RdM K H x e)/\PyData.showableAll (d::ds)=true/\PyData.depthAll (d::ds)<=60/\(PyData.list (d::ds)).shown.length<=sizeLine/\Q (.str (PyData.list (d::ds)).shown) H
theorem qQ:hJ K g ε l6 (pN K):=by
 intro α H h a x Q r ra w
 unfold l6 at w
 cases ra with
 | nil=>exact w.elim
 | cons rd rr=>
  cases rr with
  | cons _ _=>cases rd<;>exact w.elim
  | nil=>
   cases rd with
   | frl hp rs=>
    dsimp only at w
    cases e1:aZ (eV 12) _ with
    | none=>rw[e1] at w;exact w.elim
    | some l=>
     rw[e1] at w
     cases l with
     | nil=>exact w.elim
     | cons p ps=>
      obtain⟨hb,w⟩:=WQ.b_ w
      obtain⟨b1,b2,b3⟩:=gY (fun d x p=>mD 12 d x p) rs e1
      have:=PyData.shown_le_bulk 1921 (by decide) (PyData.list (p::ps)) (by rw[PyData.leavesShort];exact b1.lv)
      exact⟨_,_,p,ps,rfl,hp.sq,b2,b3,b1.sh,Nat.le_trans b1.dp (by decide),by rw[sizeLine_eq];omega,aA.now w r (.str _)⟩
   | _=>exact w.elim
end
end L2.FE
namespace L2.Srt
open PySem PySem.W PyProof.Rows PySem.Calls
section
variable {prog:Program} {w:World} {A:Around} {E:Value->Shared->Prop} {s:Shared} {vs:List Value}
inductive Prs (h:Heap):List Value->List (Int × Int)->Prop
 | nil:Prs h [] []
 | cons {a:Addr} {o:Obj} {k:Nat} {t u:Tok} {x y:Int} {vs:List Value} {ps:List (Int × Int)}:h.get? a=some o->o.cls=.type "tuple" -> o.data=.seq #[.int x t,.int y u] k->Prs h vs ps->Prs h (.ref a::vs) ((x,y)::ps)
theorem Prs.len {h:Heap} {vs:List Value} {ps:List (Int × Int)} (r:Prs h vs ps):vs.length=ps.length:=by
 induction r with
 | nil=>rfl
 | cons _ _ _ _ ih=>simp[ih]
theorem Prs.at_ {h:Heap} {vs:List Value} {ps:List (Int × Int)} (r:Prs h vs ps):∀{i:Nat},i<ps.length->∃a o k t u,vs.getD i Value.none=.ref a/\h.get? a=some o/\o.data=.seq #[.int (ps.getD i (0,0)).1 t,.int (ps.getD i (0,0)).2 u] k:=by
 induction r with
 | nil=>intro i hi;simp at hi
 | @cons a o k t u x y vs ps ha hc hd r ih=>
  intro i hi
  cases i with
  | zero=>exact⟨a,o,k,t,u,rfl,ha,hd⟩
  | succ i=>
   obtain⟨a',o',k',t',u',e1,e2,e3⟩:=ih (i:=i) (by simpa using hi)
   exact⟨a',o',k',t',u',by simpa using e1,e2,by simpa using e3⟩
end
end L2.Srt
namespace L2
open PySem PySem.Spec PyProof.Rows L2.Srt
inductive PrV (K:PySem.W.Frag) (H:Hp):List V->List (Int × Int)->Prop
 | nil:PrV K H [] []
 | cons {a:Addr} {x y:Int} {xs:List V} {ps:List (Int × Int)}:SqT K H a [.int x,.int y]->PrV K H xs ps->PrV K H (.ref a::xs) ((x,y)::ps)
section
variable {X:Cx}
theorem PrV.len {K:PySem.W.Frag} {H:Hp} {xs:List V} {ps:List (Int × Int)} (r:PrV K H xs ps):xs.length=ps.length:=by
 induction r with
 | nil=>rfl
 | cons _ _ ih=>simp[ih]
end
end L2
namespace L2.FE
open PySem PySem.Spec PyProof.Rows
noncomputable def setOf (h:Hh) (n:Nat):Option (List Int):=match h[n]? with
 | some (.set ns)=>some ns
 | _=>none
section
variable {X:Cx} {g:GG} {ε:EE} {K:PySem.W.Frag}
theorem aS.set {α:List Addr} {H:Hp} {h:Hh} {n:Nat} {p:Addr} {ns:List Int} (r:aS K g α H h) (e:setOf h n=some ns) (hp:α[n]?=some p):H p=some (.set (fun k=>ns.any (· == k)) ns.length):=by
 unfold setOf at e
 cases eo:h[n]? with
 | none=>rw[eo] at e;cases e
 | some o=>
  rw[eo] at e
  cases o with
  | set k=>cases e;exact r.here n p _ hp eo
  | _=>cases e
end
noncomputable def AV (h:Hh) (n:Nat):Option (List (List Key × D)):=match h[n]? with
 | some (.dit kvs)=>some kvs
 | _=>none
noncomputable abbrev PDT (K:PySem.W.Frag) (g:GG) (α:List Addr) (H:Hp):List (List Key × D)->List (List Key × V)->Prop:=Paired (fun(a:List Key × D) (b:List Key × V)=>a.1=b.1/\aE K g α H a.2 b.2)
section
variable {K:PySem.W.Frag} {g:GG} {α:List Addr} {H:Hp} {h:Hh}
theorem aS.dit {n:Nat} {p:Addr} {kvs:List (List Key × D)} (r:aS K g α H h) (e:AV h n=some kvs) (hp:α[n]?=some p):∃kws,H p=some (.dT kws)/\PDT K g α H kvs kws:=by
 unfold AV at e
 cases eo:h[n]? with
 | none=>rw[eo] at e;cases e
 | some o=>
  rw[eo] at e
  cases o with
  | dit k=>cases e;exact r.here n p _ hp eo
  | _=>cases e
theorem PDT.ext {α':List Addr} {H':Hp} {kvs:List (List Key × D)} {kws:List (List Key × V)} (e:Ext K α H α' H') (r:PDT K g α H kvs kws):PDT K g α' H' kvs kws:=Paired.Dj e.toEx0 r
theorem aA.dit {Q:VK} {kvs:List (List Key × D)} {kws:List (List Key × V)} {p:Addr} (w:aA K g α H Q (.ref h.length) (h++[.dit kvs])) (r:aS K g α H h) (rs:PDT K g α H kvs kws) (hp:H p=none):Q (.ref p) (upd H p (.dT kws)):=by
 have x:=Ext.push (K:=K) (α:=α) (o:=.dT kws) hp
 exact w _ _ _ x (r.push hp ⟨_,aL,rs.ext x⟩) (.ref (by rw[<- r.len];simp))
end
end L2.FE
namespace L2
open PySem PySem.Spec PyProof.Rows
section
variable {prog:Program} {w:World} {A:Around} {R:Result->Shared->Prop} {s:Shared} {elt tg iter tg2 iter2:Expr} {scope:Scope} {pos:Pos} {it acc:Value} {env:Env}
noncomputable abbrev e2 (elt tg iter tg2 iter2:Expr) (scope:Scope) (pos:Pos):Expr:=.ListComp elt [⟨tg,iter,[],0⟩,⟨tg2,iter2,[],0⟩] scope pos
end
end L2
namespace L2.FE
open PySem PySem.Spec PyProof.Rows
noncomputable def aR:List D->Hh->R D:=fun ds h=>match dE ds h with
 | .ok d h'=>.ok d h'
 | _=>l6 ds h
section
variable {X:Cx} {g:GG} {ε:EE} {K:PySem.W.Frag}
theorem dh (hg:X.A.guards=some []) (hu:X.A.units+64<cLine):aP X (.builtin "repr") (fun vs H Q=>g7 X.K vs H Q\/pN X.K vs H Q):=aP.or (xD hg hu) (si hg hu)
theorem de:hJ K g ε aR (fun vs H Q=>g7 K vs H Q\/pN K vs H Q):=by
 intro α H h a x Q r ra w
 unfold aR at w
 cases e:dE a h with
 | ok d h'=>rw[e] at w;exact .inl (xl α H h a x Q r ra (by rw[e];exact w))
 | err z h'=>rw[e] at w;exact .inr (qQ α H h a x Q r ra w)
 | bad=>rw[e] at w;exact .inr (qQ α H h a x Q r ra w)
theorem fG {ds:List D} {h:Hh} {s:Str} (e:dE ds h=.ok (.str s) h):aR ds h=.ok (.str s) h:=by delta aR;rw[e]
end
noncomputable def iX:List D->Hh->R D:=fun ds h=>match ds with
 | [.int i]=>if sml i=true then .ok (.str (toString i)) h else .bad
 | _=>.bad
section
variable {X:Cx} {g:GG} {ε:EE} {K:PySem.W.Frag}
theorem jH:aP X (.type "str") (fun vs H Q=>∃i,vs=[.int i]/\i.natAbs.log2<1920/\Q (.str (toString i)) H):=by
 intro pins s σ H xs us Q I r h
 obtain⟨i,rfl,hi,q⟩:=h
 obtain⟨u,rfl,t,rfl⟩:=vals1 r
 exact PySem.P.str_of_int hi ⟨.str (toString i),H,I.tok _,⟨_,rfl⟩,q⟩
theorem om:hJ K g ε iX (fun vs H Q=>∃i,vs=[.int i]/\i.natAbs.log2<1920/\Q (.str (toString i)) H):=by
 intro α H h a x Q r ra w
 unfold iX at w
 cases ra with
 | nil=>exact w.elim
 | cons rd rr=>
  cases rr with
  | cons _ _=>cases rd<;>exact w.elim
  | nil=>
   cases rd with
   | int i=>
    obtain⟨hl,w⟩:=WQ.b_ w
    exact⟨i,rfl,Nat.lt_trans (gX hl) (by decide),aA.now w r (.str _)⟩
   | _=>exact w.elim
end
section
variable {h:Hh}
@[simp] theorem lR {i:Int}:iX [.int i] h=if sml i=true then .ok (.str (toString i)) h else .bad:=Eq.trans rfl rfl
end
variable {X:Cx} {g:GG}
theorem t8 {K:PySem.W.Frag} {ε:EE} {mi:MI} {ix:List Nat} {tt:TT} {te:TE} {σ:St} {H:Hp} {Q:VK} (t:A6 (tMI K g ε mi) ix tt te σ H Q):nX (tMI K g ε mi) 1 ix (iT 0) tt te σ H Q:=by
 obtain⟨α,env,h,s,w⟩:=t
 refine⟨α,env,h,s,w.mono fun sr h1 _ z J H' α' e hr rd acc ha=>?_⟩
 obtain⟨W,w0,st⟩:=z J H' α' e hr rd acc ha
 refine⟨W,w0,fun i m ys H1 hw=>(st i m ys H1 hw).imp id fun⟨a,b⟩=>⟨a,fun σ0 x H2 hc hy=>?_⟩⟩
 obtain⟨ts,tl,rfl⟩:=hc
 match ts,tl with
 | [t0],_=>exact⟨⟨[some x],rfl,rfl⟩,b x H2 hy⟩
theorem cE {nl:NL} [iz nl] {elt iter:Expr} {x:Str} {px:Pos} {ifs:List Expr} {scope osc:Scope} {pos:Pos} {mi:MI} {tt:MT} {te:ME} (ix:List Nat) (N':List Str)
  (hxe:X.xe=fun _ _=>False) (hc:X.calm=true) (ho:X.env.scope=osc) (hN:N'=x::ix.map fun i=>(X.N[i]?).getD ("" : Str)) (hnd:N'.Nodup)
  (hall:(∀y∈scope.names,y.2=.free->osc.names.lookup y.1=some .cell)/\(∀y∈scope.names,y.2≠.cell)/\scope.kind=.function/\(∀y∈scope.names,y.2=.local->scope.names.lookup y.1=some .local)/\scope.names.lookup x=some .local/\(∀y∈N'.tail,scope.names.lookup y=some .free))
  (hi:PI X (.Name x px) iter (tMI X.K g E00 mi))
  (ht:∀cl C aJ aT fp,PTs (cK X scope cl C aJ aT fp N') ifs (tMT X.K g E00 tt))
  (he:∀cl C aJ aT fp,PE (cK X scope cl C aJ aT fp N') elt (tM X.K g E00 te))
  (hs:∀x,foldedSetIterable iter X.env x=pure x:=by intro _;rfl) :
  PE X (.ListComp elt [⟨.Name x px,iter,ifs,0⟩] scope pos) (tM X.K g E00 (bY nl mi ix tt te)):=by
 refine PE.imp (PE.frz (wK (tgr:=iT 0) ix [x] N' hxe hc ho hN hnd ⟨hall.1,hall.2.1,hall.2.2.1,hall.2.2.2.1,fun y hy=>hall.2.2.2.2.2 y (by rw[hN] at hy ⊢;exact hy)⟩ hi (fun cl C aJ aT fp=>cZ (X:=cK X scope cl C aJ aT fp N') hnd (show N'[0]?=some x by rw[hN];rfl) (.inl (lookup_relabel_local hall.2.2.2.2.1)) (.inr (lookup_relabel_local hall.2.2.2.2.1))) ht he hs)) fun σ H Q t=>?_
 exact t8 (qt (fun _ _ z=>z) t)
theorem rz {nl:NL} [iz nl] {elt iter:Expr} {x z:Str} {px pz:Pos} {ifs:List Expr} {scope osc:Scope} {pos spos:Pos} {mi:MI} {tt:MT} {te:ME} {i:Nat} (ix:List Nat) (N':List Str)
  (hxe:X.xe=fun _ _=>False) (hc:X.calm=true) (ho:X.env.scope=osc) (hN:N'=x::ix.map fun i=>(X.N[i]?).getD ("" : Str)) (hnd:N'.Nodup)
  (hall:(∀y∈scope.names,y.2=.free->osc.names.lookup y.1=some .cell)/\(∀y∈scope.names,y.2≠.cell)/\scope.kind=.function/\(∀y∈scope.names,y.2=.local->scope.names.lookup y.1=some .local)/\scope.names.lookup x=some .local/\(∀y∈N'.tail,scope.names.lookup y=some .free))
  (hi:PI X (.Name x px) iter (tMI X.K g E00 mi))
  (ht:∀cl C aJ aT fp,PTs (cK X scope cl C aJ aT fp N') ifs (tMT X.K g E00 tt))
  (he:∀cl C aJ aT fp,PE (cK X scope cl C aJ aT fp N') elt (tM X.K g E00 te))
  (hNN:X.N.Nodup) (hz:X.N[i]?=some z) (hl:X.env.scope.names.lookup z=some .local:=by rfl)
  (hsw:swapsWith (.ListComp elt [⟨.Name x px,iter,ifs,0⟩] scope pos) (some (.Name z pz)) spos.line X.env=pure true:=by rfl)
  (hs:∀x,foldedSetIterable iter X.env x=pure x:=by intro _;rfl) :
  PS X (.Assign [.Name z pz] (.ListComp elt [⟨.Name x px,iter,ifs,0⟩] scope pos) spos) (tMS X.K g E00 (bA i (bY nl mi ix tt te))):=by
 refine PS.imp (PS.frz (pY (tgr:=iT 0) ix [x] N' hxe hc ho hN hnd ⟨hall.1,hall.2.1,hall.2.2.1,hall.2.2.2.1,fun y hy=>hall.2.2.2.2.2 y (by rw[hN] at hy ⊢;exact hy)⟩ hi (fun cl C aJ aT fp=>cZ (X:=cK X scope cl C aJ aT fp N') hnd (show N'[0]?=some x by rw[hN];rfl) (.inl (lookup_relabel_local hall.2.2.2.2.1)) (.inr (lookup_relabel_local hall.2.2.2.2.1))) ht he hNN hz hl hsw hs)) fun E σ H ⟨α,env,h,s,w⟩=>t8 (qt (nl:=nl) (Q:=fun v H1=>E.nx (σ.set i (some v)) H1) (fun v H1 z=>Ae z) (tM.use s w.bind fun d1 h1 v1 H1 α1 e1 s1 r1 w1=>(show cQ X.K g α H E (.nx (env.set i (some d1))) h1 from w1) H1 α1 e1 s1.heap _ (s1.vs.set r1)))
end L2.FE
namespace L2.FE
open PySem PySem.Spec PyProof.Rows
noncomputable def isStr:D->Bool
 | .str _=>true
 | _=>false
noncomputable def dj (f:D->List D->Hh->R D) (o:ME) (a:MA):ME:=fun env h=>(o env h).bind fun x h1=>if isStr x=true then (a env h1).bind fun xs h2=>f x xs h2 else .bad
noncomputable def oY (f:D->List D->Hh->R D) (o:ME):ME:=fun env h=>(o env h).bind fun x h1=>if isStr x=true then f x [] h1 else .bad
section
variable {X:Cx} {g:GG} {ε:EE} {K:PySem.W.Frag}
theorem jX {α:List Addr} {H:Hp} {d:D} {x:V} (rd:aE K g α H d x) (e:isStr d=true):tyV K "str" x H:=by
 cases rd<;>first | rfl | cases e
theorem ly {o e:Expr} {es:List Expr} {mo:ME} {mr:MA} {name:Str} {apos cpos:Pos} {id:String} {r:V->List V->Hp->VK->Prop} {f:D->List D->Hh->R D} (slot:Slot "str" name id) (hty:typeOf (.builtin id)=pure (.type "method_descriptor")) (hm:MtM X id r) (im:n_ X.K g ε f r) (ho:PE X o (tM X.K g ε mo)) (ha:PA X (e::es) (tMA X.K g ε mr))
  (hbase:attributeBase o name X.env (eval o X.env)=eval o X.env:=by rfl)
  (hfew:((backTo cpos (starEach (e::es) X.env)).all (fun x=>!x.1)&&(backToKw cpos (keywordEach [] X.env)).all (fun x=>x.1.isSome)
   && decide ((e::es).length+([]:List Keyword).length+(if ([]:List Keyword).isEmpty then 0 else 1)<30))=true:=by rfl)
  (hline:(apos.endLine == cpos.line)=true:=by rfl) (hs:starEach (e::es) X.env=(false,eval e X.env)::starEach es X.env:=by rfl) (hplain:(backTo cpos (starEach es X.env)).any (·.1)=false:=by rfl) :
  PE X (.Call (.Attribute o name apos) (e::es) [] cpos) (tM X.K g ε (dj f mo mr)):=
 PE.imp (vM PySem.F.plainAttrs_str slot hty hm ho ha hbase hfew hline hs hplain) fun σ H Q ⟨α,env,h,s,w⟩=>tM.use s w.bind fun d1 h1 v1 H1 α1 e1 s1 r1 w1=>by
  obtain⟨hl,w1⟩:=WQ.b_ w1
  refine⟨jX r1 hl,tMA.use s1 (w1.ext e1).bind fun d2 h2 v2 H2 α2 e2 s2 r2 w2=>?_⟩
  exact im α2 H2 h2 d1 d2 v1 v2 Q s2.heap (r1.ext e2) r2 ((w2.ext e2).mono fun _ _ _ p=>aA.ext (e1.trans e2) p)
theorem tN {o:Expr} {mo:ME} {name:Str} {apos cpos:Pos} {id:String} {r:V->List V->Hp->VK->Prop} {f:D->List D->Hh->R D} (slot:Slot "str" name id) (hty:typeOf (.builtin id)=pure (.type "method_descriptor")) (hm:MtM X id r) (im:n_ X.K g ε f r) (ho:PE X o (tM X.K g ε mo))
  (hbase:attributeBase o name X.env (eval o X.env)=eval o X.env:=by rfl) (hline:(apos.endLine == cpos.line)=true:=by rfl) :
  PE X (.Call (.Attribute o name apos) [] [] cpos) (tM X.K g ε (oY f mo)):=
 PE.imp (BU PySem.F.plainAttrs_str slot hty hm ho hbase hline) fun σ H Q ⟨α,env,h,s,w⟩=>tM.use s w.bind fun d1 h1 v1 H1 α1 e1 s1 r1 w1=>by
  obtain⟨hl,w1⟩:=WQ.b_ w1
  exact⟨jX r1 hl,im α1 H1 h1 d1 [] v1 [] Q s1.heap r1 .nil ((w1.ext e1).mono fun _ _ _ p=>aA.ext e1 p)⟩
noncomputable def CG (t:Str->Bool):V->List V->Hp->VK->Prop:=fun x vs H Q=>∃z,x=.str z/\vs=[]/\Q (.bl (t z)) H
noncomputable def za (t:Str->Bool):D->List D->Hh->R D:=fun o ds h=>match o,ds with
 | .str z,[]=>.ok (.bl (t z)) h
 | _,_=>.bad
theorem yG {t:Str->Bool}:n_ K g ε (za t) (CG t):=by
 intro α H h o a y x Q r ro ra w
 unfold za at w
 split at w
 ·cases ro
  cases ra
  exact⟨_,rfl,rfl,aA.now w r (.bl _)⟩
 ·exact w.elim
theorem rB:MtM X "str.isascii" (CG Txt.isascii):=by
 intro pins s σ H x vs v us Q I rx rv h
 obtain⟨z,rfl,rfl,q⟩:=h
 obtain⟨t,rfl⟩:=rx
 cases rv
 exact SC.isascii ⟨.bl _,H,I,rfl,q⟩
theorem r6:MtM X "str.isdigit" (CG Txt.isdigit):=by
 intro pins s σ H x vs v us Q I rx rv h
 obtain⟨z,rfl,rfl,q⟩:=h
 obtain⟨t,rfl⟩:=rx
 cases rv
 exact SC.isdigit ⟨.bl _,H,I,rfl,q⟩
theorem nQ:∀{zs:List Str} {us:List Value},Vals (zs.map V.str) us->StrsAre us zs
 | [],_,.nil=>.nil
 | z::zs,_,.cons ⟨t,e⟩ r=>by subst e;exact .cons z t (nQ r)
noncomputable def wgt (zs:List Str):Nat:=(zs.map (·.length)).sum+zs.length
noncomputable def rJoin (K:PySem.W.Frag):V->List V->Hp->VK->Prop:=fun x vs H Q=>∃(sep:Str) (p:Addr) (zs:List Str),x=.str sep/\vs=[.ref p]/\SqL K H p (zs.map V.str)/\sep.length<=16/\wgt zs<=1048576/\Q (.str (Txt.join sep zs)) H
theorem i7:MtM X "str.join" (rJoin X.K):=by
 intro pins s σ H x vs v us Q I rx rv h
 obtain⟨sep,p,zs,rfl,rfl,hq,h1,h2,q⟩:=h
 obtain⟨t,rfl⟩:=rx
 obtain⟨u,rfl,ru⟩:=rv.one
 cases ru
 obtain⟨its,rs,pl,hz⟩:=I.list hq
 exact join_listW pl.isList (by simpa using nQ rs) h1 h2 fun t' k=>⟨.str _,H,I.tok _,⟨_,rfl⟩,q⟩
noncomputable def strsOf:List D->Option (List Str)
 | []=>some []
 | .str z::r=>(strsOf r).map (z::·)
 | _::_=>none
theorem ki:∀{ds:List D} {zs:List Str},strsOf ds=some zs->ds=zs.map D.str
 | [],zs,e=>by cases e;rfl
 | d::r,zs,e=>by
  cases d with
  | str z=>
   cases h:strsOf r with
   | none=>simp[strsOf,h] at e
   | some ys=>
    simp[strsOf,h] at e
    subst e
    rw[List.map_cons,<- ki h]
  | _=>simp[strsOf] at e
theorem se (zs:List Str):strsOf (zs.map D.str)=some zs:=by
 induction zs with
 | nil=>rfl
 | cons z zs ih=>rw[List.map_cons];unfold strsOf;rw[ih];rfl
theorem lS {α:List Addr} {H:Hp}:∀{zs:List Str} {vs:List V},au K g α H (zs.map D.str) vs->vs=zs.map V.str
 | [],_,.nil=>rfl
 | z::zs,_,.cons r rs=>by cases r;rw[lS rs];rfl
noncomputable def gL:D->List D->Hh->R D:=fun o ds h=>match o,ds with
 | .str sep,[.frl xs]=>match strsOf xs with
  | some zs=>if sep.length<=16/\wgt zs<=1048576 then .ok (.str (Txt.join sep zs)) h else .bad
  | none=>.bad
 | _,_=>.bad
theorem jb:n_ K g ε gL (rJoin K):=by
 intro α H h o a y x Q r ro ra w
 unfold gL at w
 split at w
 ·split at w
  ·rename_i zs e2
   obtain⟨hl,w⟩:=WQ.b_ w
   have e3:=ki e2
   subst e3
   cases ro
   cases ra with
   | cons rd rr=>
    cases rr
    cases rd with
    | @frl _ p vs hq rs=>
     have e4:=lS rs
     subst e4
     exact⟨_,p,zs,rfl,rfl,hq.sq,hl.1,hl.2,aA.now w r (.str _)⟩
  ·exact w.elim
 ·exact w.elim
noncomputable def By:V->List V->Hp->VK->Prop:=fun x vs H Q=>∃(z y:Str),x=.str z/\vs=[.str y]/\(y.length == 0)=false/\z.length<=1000000/\∀l,H l=none->Q (.ref l) (upd H l (.lst ((Txt.split z y).map V.str)))
theorem pU:∀(zs:List Str) (k:Nat),Vals (zs.map V.str) (strsFrom k zs)
 | [],_=>.nil
 | z::zs,k=>.cons ⟨k,rfl⟩ (pU zs (k+1))
theorem vO:MtM X "str.split" By:=by
 intro pins s σ H x vs v us Q I rx rv h
 obtain⟨z,y,rfl,rfl,hy,hz,q⟩:=h
 obtain⟨t,rfl⟩:=rx
 obtain⟨u,rfl,ru⟩:=rv.one
 obtain⟨u,rfl⟩:=ru
 have hsz:z.length<=sizeLine:=by rw[sizeLine_eq];omega
 have hw:=split_weight z y (by have:=hy;simp at this;omega)
 cases h1:(decide (z.length<y.length) || decide (Builtin.Str.strKind z<Builtin.Str.strKind y))
 ·cases hf:(Builtin.Str.occurrences z y 0 z.length (z.length+1)).isEmpty
  ·have e:Txt.split z y=Builtin.Str.partsBetween z (Builtin.Str.occurrences z y 0 z.length (z.length+1)) y.length:=(if_neg (ne_true_of_eq_false h1)).trans (if_neg (ne_true_of_eq_false hf))
   rw[e] at hw q
   refine call_meets F.slot_str_split (typeIs_str _ _ _) F.entry_str_split (F.args_str_split_2 _ _) (meets_str_split_sep z y t u h1 hy hf hsz (by rw[sizeLine_eq];omega)) ?_
   exact⟨.ref _,_,I.uL (pU _ _) (by rw[List.length_map,sizeLine_eq];omega),rfl,q _ I.fresh⟩
  ·have e:Txt.split z y=[z]:=(if_neg (ne_true_of_eq_false h1)).trans (if_pos hf)
   rw[e] at q
   refine call_meets F.slot_str_split (typeIs_str _ _ _) F.entry_str_split (F.args_str_split_2 _ _) (meets_str_split_not_found z y t u h1 hy hf) ?_
   exact⟨.ref _,_,I.uL (ys:=[V.str z]) (its:=[.str z t]) (.cons ⟨t,rfl⟩ .nil) (by rw[sizeLine_eq];simp),rfl,q _ I.fresh⟩
 ·have e:Txt.split z y=[z]:=if_pos h1
  rw[e] at q
  refine call_meets F.slot_str_split (typeIs_str _ _ _) F.entry_str_split (F.args_str_split_2 _ _) (meets_str_split_cannot_occur z y t u h1) ?_
  exact⟨.ref _,_,I.uL (ys:=[V.str z]) (its:=[.str z t]) (.cons ⟨t,rfl⟩ .nil) (by rw[sizeLine_eq];simp),rfl,q _ I.fresh⟩
noncomputable def gT (nl:NL):D->List D->Hh->R D:=fun o ds h=>match o,ds with
 | .str z,[.str y]=>if (y.length == 0)=false/\z.length<=1000000 then nl ((Txt.split z y).map D.str) h else .bad
 | _,_=>.bad
theorem ij {α:List Addr} {H:Hp}:∀(zs:List Str),au K g α H (zs.map D.str) (zs.map V.str)
 | []=>.nil
 | z::zs=>.cons (.str z) (ij zs)
theorem pV {nl:NL} [iz nl] {o e:Expr} {mo:ME} {mr:MA} {apos cpos:Pos} (ho:PE X o (tM X.K g ε mo)) (ha:PA X [e] (tMA X.K g ε mr))
  (hbase:attributeBase o "split" X.env (eval o X.env)=eval o X.env:=by rfl)
  (hfew:((backTo cpos (starEach [e] X.env)).all (fun x=>!x.1)&&(backToKw cpos (keywordEach [] X.env)).all (fun x=>x.1.isSome)
   && decide (([e]:List Expr).length+([]:List Keyword).length+(if ([]:List Keyword).isEmpty then 0 else 1)<30))=true:=by rfl)
  (hline:(apos.endLine == cpos.line)=true:=by rfl) (hs:starEach [e] X.env=(false,eval e X.env)::starEach [] X.env:=by rfl) (hplain:(backTo cpos (starEach [] X.env)).any (·.1)=false:=by rfl) :
  PE X (.Call (.Attribute o "split" apos) [e] [] cpos) (tM X.K g ε (dj (gT nl) mo mr)):=
 PE.imp (PE.frz (vM PySem.F.plainAttrs_str PySem.F.slot_str_split PySem.F.type_str_split vO ho ha hbase hfew hline hs hplain)) fun σ H Q ⟨α,env,h,s,w⟩=>tM.use s w.bind fun d1 h1 v1 H1 α1 e1 s1 r1 w1=>by
  obtain⟨hl,w1⟩:=WQ.b_ w1
  refine⟨jX r1 hl,tMA.use s1 (w1.ext e1).bind fun d2 h2 v2 H2 α2 e2 s2 r2 w2=>?_⟩
  have w2:=(w2.ext e2).mono fun _ _ _ p=>aA.ext (e1.trans e2) p
  unfold gT at w2
  split at w2
  ·obtain⟨hb,w2⟩:=WQ.b_ w2
   cases r1
   cases r2 with
   | cons rd rr=>
    cases rr
    cases rd
    exact⟨_,_,rfl,rfl,hb.1,hb.2,fun l hl=>NL.post w2 s2.heap (ij _) hl⟩
  ·exact w2.elim
end
section
variable {X:Cx} {g:GG} {ε:EE} {K:PySem.W.Frag}
noncomputable def BP:D->D->Hh->R D:=fun a b h=>match a,b with
 | .str z,.int i=>if z.length<=1000000 then (match atI z.cps.toList i with
  | some c=>.ok (.str ⟨#[c]⟩) h
  | none=>.bad) else .bad
 | _,_=>.bad
theorem Bj:dH K g ε BP (rIx K):=by
 intro α H h a b x y Q r ra rb w
 unfold BP at w
 split at w
 ·obtain⟨hl,w⟩:=WQ.b_ w
  split at w
  ·rename_i c e
   cases ra
   cases rb
   exact .inr (.inr ⟨_,_,c,rfl,rfl,by rw[sizeLine_eq];omega,e,aA.now w r (.str _)⟩)
  ·exact w.elim
 ·exact w.elim
noncomputable def Fc:V->Option Int->Option Int->Hp->VK->Prop:=fun x lo hi H Q=>∃z,x=.str z/\z.length<=1000000/\Q (.str (Txt.slice z lo hi)) H
theorem part_of {v:Value} {o:Option Int} (p:IsPart v o):∃l:Option (Int × Tok),v=partValue l/\l.map (·.1)=o:=by
 cases p with
 | none=>exact⟨none,rfl,rfl⟩
 | int i t=>exact⟨some (i,t),rfl,rfl⟩
theorem CK:SlR X Fc:=by
 intro pins s σ H x v vl vu lo hi sl Q I rx hs pl pu h
 obtain⟨z,rfl,hz,q⟩:=h
 obtain⟨t,rfl⟩:=rx
 obtain⟨l,rfl,rfl⟩:=part_of pl
 obtain⟨u,rfl,rfl⟩:=part_of pu
 have hsz:z.length<=sizeLine:=by rw[sizeLine_eq];omega
 refine⟨"str", _,PySem.F.slot_str_getitem.lookup,typeIs_str _ _ _,wpAny_getItem_str_slice (l:=l) (u:=u) (st:=none) hs rfl
  (post_val_or_str ⟨Nat.le_trans (Txt.slice_le z _ _) hsz,fun t' k=>⟨.str _,H,I.tok _,⟨_,rfl⟩,q⟩⟩)⟩
noncomputable def pB (a:ME) (l u:MO):ME:=fun env h=>(a env h).bind fun x h1=>(l env h1).bind fun lo h2=>(u env h2).bind fun hi h3=>match x with
 | .str z=>if z.length<=1000000 then .ok (.str (Txt.slice z lo hi)) h3 else .bad
 | _=>.bad
theorem vo {e:Expr} {me:ME} {lo hi:Option Expr} {ml mh:MO} {p2 pos:Pos} (he:PE X e (tM X.K g ε me)) (hl:PO X lo (tMO X.K g ε ml)) (hu:PO X hi (tMO X.K g ε mh)):PE X (.Subscript e (.Slice lo hi none p2) pos) (tM X.K g ε (pB me ml mh)):=
 PE.imp (qq CK he hl hu) fun σ H Q ⟨α,env,h,s,w⟩=>tM.use s w.bind fun d1 h1 v1 H1 α1 e1 s1 r1 w1=>tMO.use s1 (w1.ext e1).bind fun o2 h2 H2 α2 e2 s2 w2=>tMO.use s2 (w2.ext e2).bind fun o3 h3 H3 α3 e3 s3 w3=>by
  have tr:=e1.trans (e2.trans e3)
  have r3:=r1.ext (e2.trans e3)
  have w4:=(w3.ext e3).mono fun _ _ _ p=>aA.ext tr p
  cases r3 with
  | str z=>
   obtain⟨hb,w4⟩:=WQ.b_ w4
   exact⟨z,rfl,hb,aA.now w4 s3.heap (.str _)⟩
  | _=>exact w4.elim
noncomputable def xp:List D->Hh->R D:=fun ds h=>match ds with
 | [.str z]=>if z.length<=640 then (match PySem.intText? z with
  | some n=>.ok (.int n) h
  | none=>.bad) else .bad
 | _=>.bad
theorem uU:aP X (.type "int") (fun vs H Q=>∃z n,vs=[.str z]/\z.length<=640/\PySem.intText? z=some n/\Q (.int n) H):=by
 intro pins s σ H xs us Q I r h
 obtain⟨z,n,rfl,hz,hn,q⟩:=h
 obtain⟨u,rfl,t,rfl⟩:=vals1 r
 exact PySem.W.KIN.call_text hn hz ⟨.int n,H,I.tok _,⟨_,rfl⟩,q⟩
theorem zA:hJ K g ε xp (fun vs H Q=>∃z n,vs=[.str z]/\z.length<=640/\PySem.intText? z=some n/\Q (.int n) H):=by
 intro α H h a x Q r ra w
 unfold xp at w
 split at w
 ·obtain⟨hl,w⟩:=WQ.b_ w
  split at w
  ·rename_i n e
   cases ra with
   | cons rd rr=>
    cases rr
    cases rd
    exact⟨_,n,rfl,hl,e,aA.now w r (.int _)⟩
  ·exact w.elim
 ·exact w.elim
end
end L2.FE
namespace PySem
open Sem (wp)
open AutoSeq1 (wpAny_loadPart')
theorem Cn (l:Addr) (items:Array Value) (n:Nat) (dct:Option Addr) (sl:Array (Option Value)) (t:Tok) :
  Meets (Builtin.«enumerate.__new__» ⟨[.type "enumerate", .ref l],[("start", .int 1 t)]⟩) (fun _ R s=>s.heap.get? l=some { cls:=.type "list", dict:=dct,data:=.seq items n,slots:=sl } ∧
   R (.ok (.ret (.ref (s.heap.push { cls:=.type "list_iterator", data:=.fields #[.ref l,.int 0 0] }).objs.size)))
    { s with heap:=(s.heap.push { cls:=.type "list_iterator", data:=.fields #[.ref l,.int 0 0] }).push { cls:=.type "enumerate", data:=.fields #[.none,.bool false,.ref s.heap.objs.size,rawInt 1,.none,.none] } }):=
 .of_wp fun prog w A R s h=>by
  obtain⟨hp,g,d,tk,os⟩:=s
  obtain⟨hl,h⟩:=h
  have hsub:=sub_enumerate
  have hL:Heap.IsList (Shared.heap ⟨hp,g,d,tk,os⟩) l items:=⟨_,hl,rfl,n,rfl⟩
  wp_walk using wpAny_loadPart' hl
  refine wpAny_stack_any fun st=>wpAny_pure ?_
  split
  ·rename_i c _ _ _ _ _
   cases (c == Value.type "enumerate")
   ·wp_walk using wpAny_loadPart' hl,wpAny_pyIter_list hL
    exact⟨_,rfl,h⟩
   ·wp_walk using wpAny_loadPart' hl,wpAny_pyIter_list hL
    exact⟨_,rfl,h⟩
  ·wp_walk using wpAny_loadPart' hl,wpAny_pyIter_list hL
   exact⟨_,rfl,h⟩
theorem zC {self a:Value} {kw:List (Str × Value)}:Meets (Builtin.«object.__init__» ⟨[self,a],kw⟩) (fun _ R s=>s.TypeIs self "enumerate" /\ R (.ok (.ret .none)) s):=by
 refine Meets.of_wp fun prog w A R s hs=>?_
 obtain⟨hT,hq⟩:=hs
 have hl:=F.called_enumerate.init.lookup
 have hm:=F.called_enumerate.made
 repeat (any_goals (first | assumption | wp_step))
 all_goals first | exact⟨_,rfl,hq⟩ | skip
section
variable {prog:Program} {w:World} {A:Around} {E:Value->Shared->Prop} {s:Shared}
theorem Am {l:Addr} {t:Tok} {S:Spec} {Q:Value->Shared->Prop} (g:Meets (Builtin.«enumerate.__new__» ⟨[.type "enumerate", .ref l],[("start", .int 1 t)]⟩) S)
  (h:S A.in1 (wants (fun obj s₁=>s₁.TypeIs obj "enumerate" /\ Q obj s₁) E) s):wpAny (model prog w) A (call (.type "enumerate") [.ref l] [("start", .int 1 t)]) Q E s:=by
 have ft:=F.called_enumerate
 obtain⟨c,tl,hmro⟩:=ft.mro
 have hmade:=ft.made
 have hsub:=ft.sub
 have hct:checkTypeCall "enumerate" ⟨[.ref l],[("start", .int 1 t)]⟩=pure ():=by kernel_rfl
 have hcn:checkBuiltinCall "enumerate.__new__" ⟨[.type "enumerate", .ref l],[("start", .int 1 t)]⟩=pure ():=by kernel_rfl
 refine wpAny_call (codeAny_of_tree ?_)
 show wpAny _ _ (callAny (.type "enumerate") _) _ _ _
 refine wpAny_pure ⟨Code.quiet_builtin _ (by decide +kernel),codeAny_builtin F.entry_type_call ?_⟩
 rw[Around.under_plain (weight_type_call_type "enumerate" [.ref l] [("start", .int 1 t)]) (units_type_call_type "enumerate" [.ref l] [("start", .int 1 t)])]
 have h1:=ft.notType
 have h2:=ft.canCreate
 repeat (any_goals (first | assumption | wp_step))
 refine codeAny_mono (codeAny_call_builtin ft.plain F.entry_enumerate_new (wpAny_of_eq hcn (g prog w A.in1 _ s h))) fun r s₁ hr=>?_
 cases r with
 | error e=>exact hr
 | ok fl=>
  cases fl with
  | ret obj=>
   have hli:=ft.init.lookup
   have hbi:=ft.init.bind obj
   have hT:s₁.TypeIs obj "enumerate" := hr.1
   have hok:argsOk "object.__init__" ⟨[obj,.ref l],[("start", .int 1 t)]⟩:=by
    unfold argsOk;rw[signature?_of (id:="object.__init__") (n:=['_','_','t','i','n','i','_','_']) (o:=['t','c','e','j','b','o']) (by kernel_rfl) PySem.F.owner_object];kernel_rfl
   repeat (any_goals (first | assumption | wp_step))
   refine codeAny_mono (codeAny_call_builtin ft.init.plain F.entry_object_init (ft.init.check _ _ _ _ _ _ _ _ hT hok (zC prog w A.in1 _ s₁ (show s₁.TypeIs obj "enumerate" /\ wants (fun r s₂=>r=.none/\Q obj s₂) E _ s₁ from⟨hT,rfl,hr.2⟩)))) fun r₂ s₂ hr₂=>?_
   cases r₂ with
   | error e=>exact hr₂
   | ok fl₂=>
    cases fl₂ with
    | ret r=>
     obtain⟨rfl,hq⟩:=hr₂
     repeat (any_goals (first | assumption | wp_step))
    | _=>exact hr₂.elim
  | _=>exact hr.elim
end
end PySem
namespace L2
open PySem PySem.Spec PyProof.Rows
theorem Cf {prog:Program} {w:World} {A:Around} {it:Addr} {fp:List Addr} {n:Nat} {P:Nat->Value->Prop} {St:Nat->Heap->Prop} (D:Draws prog w A it fp n P St):Draws prog w A it fp (n+1) (fun i x=>∃j,i=j+1/\P j x) (fun i h=>∃j,i=j+1/\St j h) where
 live:=fun i h ⟨j,_,z⟩=>D.live j h z
 frame:=fun i h h' ⟨j,e,z⟩ k=>⟨j,e,D.frame j h h' z k⟩
 item:=fun i s Q E hi ⟨j,e,z⟩ q=>D.item j s Q E (by omega) z fun x h' tk p z' sb=>q x h' tk ⟨j,e,p⟩ ⟨j+1,by omega,z'⟩ sb
 done:=fun s Q E ⟨j,e,z⟩ q=>D.done s Q E (by rw[show n=j by omega];exact z) q
theorem Bt {prog:Program} {w:World} {A:Around} (hh:A.handled=none) (it l:Addr) (items:Array Value) (i:Nat) (hx:items[i]?=none) :
  Draws prog w A it [it,l] 0 (fun _ _=>True) (fun _ h=>h.IsListIter it l i/\h.IsList l items) where
 live:=fun _ _ st=>let ⟨o,ho,_⟩:=st.1;⟨o,ho⟩
 frame:=fun _ _ _ st hk=>⟨st.1.at fun o e=>hk it (by simp) o e,st.2.at fun o e=>hk l (by simp) o e⟩
 item:=fun j s Q E hj=>absurd hj (Nat.not_lt_zero _)
 done:=fun s Q E st hE=>wpAny_nextOf_list_end hh st.1 st.2 hx hE
noncomputable def Ies (K:PySem.W.Frag) (a:Addr):It:=
 ⟨fun i H=>∃xs x,SqL K H a xs/\xs[i]?=some x,fun i H x H'=>∃p v,x=.ref p/\H p=none/\(∀xs,SqL K H a xs->xs[i]?=some v)/\H'=upd H p (.tup [.int ((i+1:Nat):Int),v]),fun i H=>∃xs,SqL K H a xs/\xs.length<=i⟩
theorem qT {P:Program} {w:World} {K:PySem.W.Frag} {elts:List Expr} {k:Nat} {pos:Pos} {a it e:Addr} (hei:e≠it):Turn P w K (.Tuple elts k pos) (Ies K a) [e,it] e (fun i h=>(∃old,IsEnum h e it ((i+1:Nat):Int) old)/\h.IsListIter it a i) where
 mem:=by simp
 obj:=fun i h z b hb=>by
  obtain⟨⟨old,z1⟩,z2⟩:=z
  rcases List.mem_cons.mp hb with rfl | hb
  ·exact xC z1
  ·rw[List.mem_singleton.mp hb]
   obtain⟨o,q,_,d⟩:=z2
   exact⟨o,q,fun v y=>by rw[d] at y;cases y⟩
 keep:=fun i h h' z kk=>⟨let ⟨old,z1⟩:=z.1;⟨old,kk e (by simp) _ z1⟩,z.2.at fun o q=>kk it (by simp) o q⟩
 item:=by
  intro X hP hw hK hc i pins s σ H E I hf st hg
  subst hP hw hK
  obtain⟨xs,x,hq,hx⟩:=hg
  obtain⟨its,rv,p,hz⟩:=I.list hq
  obtain⟨u,hu,ru⟩:=rv.get hx
  have hl:=rv.length
  have plt:a<s.heap.objs.size:=by obtain⟨o,q,_⟩:=p.isList;exact Heap.lt_size q
  have hai:a≠it/\a≠e:=by
   obtain⟨oa,qa,ca,_⟩:=p.isList
   obtain⟨⟨old,z1⟩,oi,qi,ci,_⟩:=st
   exact⟨(fun q=>by rw[q,qi] at qa;cases qa;rw[ci] at ca;injection ca with y;exact absurd y (by decide)),(fun q=>by rw[q,z1] at qa;cases qa;injection ca with y;exact absurd y (by decide))⟩
  have DD:=Cf (Draws.list (prog:=X.prog) (w:=X.w) (A:=X.A.in1) (I.ok.hd hc) it a hai.1 its.toArray)
  have hef0:e∉[it,a]:=by simp;exact⟨hei,fun q=>hai.2 q.symm⟩
  have W:=WalksT.enumerateD (prog:=X.prog) (w:=X.w) (A:=X.A) DD e hei hef0 (by simp)
  refine rV DD e hei hef0 (i+1) s _ _ (by rw[List.size_toArray,<- hl];exact Nat.succ_lt_succ (List.getElem?_eq_some_iff.mp hx).1) ⟨st.1,i,rfl,st.2,p.isList⟩ fun T vals h1 tk hv hT ht hm k1=>?_
  obtain⟨t,v,⟨j,ej,hv1⟩,hv2⟩:=hv
  have ej:j=i:=by omega
  rw[ej] at hv1
  have ev:v=u:=by
   have:its[i]?=some v:=by simpa using hv1
   rw[hu] at this;exact(Option.some.inj this).symm
  subst ev
  refine⟨.ref T,rfl,W.go elts k pos (i+1) T { s with heap:=h1,toks:=tk } _ _ hm fun h2 st2 k2=>?_⟩
  have kk:∀b o,b∉[e,it]->s.heap.get? b=some o->h2.get? b=some o:=fun b o hb q=>k2 b o hb (k1 b o hb q)
  have hT2:mj h2 T vals:=by
   obtain⟨o,q,c⟩:=ht
   exact⟨o,k2 T o (fun z=>W.apart _ _ _ hm z) q,c⟩
  have hn:H T=none:=I.hok.fresh hT
  have nTf:∀b∈[e,it],b≠T:=fun b hb z=>by
   have hlt:b<s.heap.objs.size:=by
    rcases List.mem_cons.mp hb with rfl | hb
    ·obtain⟨old,z1⟩:=st.1;exact Heap.lt_size z1
    ·rw[List.mem_singleton.mp hb];obtain⟨o,q,_⟩:=st.2;exact Heap.lt_size q
   rw[z] at hlt;exact absurd hlt (Nat.not_lt.mpr hT)
  refine⟨.ref T,upd H T (.tup [.int ((i+1:Nat):Int),x]),I.yielded (t':=tk) hf kk hT ⟨by show 2<=sizeLine;decide,[.int ((i+1:Nat):Int) t,v],.cons ⟨t,rfl⟩ (.cons ru .nil),?_⟩,rfl,⟨T,x,rfl,hn,fun ys hy=>by rw[I.lO hy hq];exact hx,rfl⟩,⟨st2.1,by obtain⟨j2,e2,q2,_⟩:=st2.2;rw[show i+1=j2 by omega];exact q2⟩,fun b hb=>by rw[aB (nTf b hb)];exact(hf b hb).1⟩
  rw[hv2] at hT2;exact hT2
 done:=by
  intro X hP hw hK hc i pins s σ H E I hf st hg
  subst hP hw hK
  obtain⟨xs,hq,hx⟩:=hg
  obtain⟨its,rv,p,hz⟩:=I.list hq
  obtain⟨⟨old,z1⟩,z2⟩:=st
  have hl:=rv.length
  exact wpAny_pyNext_enum_endD (Bt (A:=X.A.in1) (I.ok.hd hc) it a its.toArray i (Array.getElem?_eq_none (by rw[List.size_toArray];omega))) z1 ⟨z2,p.isList⟩ fun h' eb=>⟨rfl,I.zR (t':=s.toks) hf fun b u hb q=>eb b u (fun z=>hb (by simp[z])) q⟩
 self:=fun A i s Q E z q=>by
  obtain⟨⟨old,z1⟩,z2⟩:=z
  exact wpAny_pyIter_enum z1 q
theorem zi {prog:Program} {w:World} {A:Around} {E:Value->Shared->Prop} {s:Shared} {l:Addr} {items:Array Value} {t:Tok} {Q:Value->Shared->Prop} (hL:s.heap.IsList l items)
  (h:∀h',IsEnum h' (s.heap.objs.size+1) s.heap.objs.size 1 .none->h'.IsListIter s.heap.objs.size l 0->h'.objs.size=s.heap.objs.size+2 →
   (∀b o,s.heap.get? b=some o->h'.get? b=some o)->Q (.ref (s.heap.objs.size+1)) { s with heap:=h' }) :
  wpAny (model prog w) A (call (.type "enumerate") [.ref l] [("start", .int 1 t)]) Q E s:=by
 obtain⟨⟨c,dct,dt,sl⟩,hl,hc,n,hd⟩:=hL
 cases (show c=.type "list" from hc)
 cases (show dt=.seq items n from hd)
 refine Am (Cn l items n dct sl t) ⟨hl,?_⟩
 obtain⟨h1,e1⟩:∃h1,s.heap.push { cls:=.type "list_iterator", data:=.fields #[.ref l,.int 0 0] }=h1:=⟨_,rfl⟩
 have hz:h1.objs.size=s.heap.objs.size+1:=by rw[<- e1];exact Heap.size_push ..
 have hi:h1.get? s.heap.objs.size=some { cls:=.type "list_iterator", data:=.fields #[.ref l,.int 0 0] }:=by rw[<- e1];exact Heap.get?_push_size _ rfl
 have hk:∀b o,s.heap.get? b=some o->h1.get? b=some o:=fun b o x=>by rw[<- e1];exact Heap.get?_push_of_some _ x
 rw[e1]
 have he:IsEnum (h1.push { cls:=.type "enumerate", data:=.fields #[.none,.bool false,.ref s.heap.objs.size,rawInt 1,.none,.none] }) h1.objs.size s.heap.objs.size 1 .none:=Heap.get?_push_size _ rfl
 refine⟨⟨_,he,rfl⟩,?_⟩
 rw[hz] at he ⊢
 exact h _ he ⟨_,Heap.get?_push_of_some _ hi,rfl,rfl⟩ (by rw[Heap.size_push,hz]) fun b o x=>Heap.get?_push_of_some _ (hk b o x)
theorem qF {M:Model} {A:Around} {E:Value->Shared->Prop} {s:Shared} {pos:Pos} {T:String} {args:List (Bool × Sem Value)} {keywords:List (Option Str × Sem Value)} {Q:Value->Shared->Prop}
  (hplain:args.any (·.1)=false) (hkw:keywords.any (·.1.isNone)=false)
  (h:wpAny M A (evalArgs (.type T) true args keywords) (fun a s₁=>wpAny M A (call (.type T) a.pos a.kw) Q E s₁) E s) :
  wpAny M A (callWith pos (.type T) [] args keywords) Q E s:=by
 unfold callWith
 refine wpAny_bind (wpAny_holding (wpAny_mono h (fun a s₁ h₁=>wpAny_bind (wpAny_standAt ?_)) fun _ _ x=>x))
 simp only[hplain,hkw,Bool.or_false]
 refine wpAny_bind (wpAny_pure ?_)
 exact wpAny_bind (wpAny_mono h₁ (fun r s₂ hr=>wpAny_bind (wpAny_holding (wpAny_point (wpAny_pure hr)))) fun _ _ x=>x)
theorem BN {M:Model} {A:Around} {env:Env} {E:Value->Shared->Prop} {s:Shared} {x:Str} {p pos:Pos} {args:List Expr} {kws:List Keyword} {Q:Value->Shared->Prop}
  (h:wpAny M A (eval (.Name x p) env) (fun f s₁=>wpAny M A (callWith pos f [] (backTo pos (starEach args env)) (backToKw pos (keywordEach kws env))) Q E s₁) E s)
  (hc:eval (.Call (.Name x p) args kws pos) env=(do callWith pos (← eval (.Name x p) env) [] (backTo pos (starEach args env)) (backToKw pos (keywordEach kws env))):=by rfl):wpAny M A (eval (.Call (.Name x p) args kws pos) env) Q E s:=by
 rw[hc]
 exact wpAny_bind h
noncomputable def BD (K:PySem.W.Frag) (tl:TE):TI:=fun σ H R=>tl σ H fun x H1=>∃a,x=.ref a/\(∃xs,SqL K H1 a xs)/\R (Ies K a) H1
theorem yq {X:Cx} {elts:List Expr} {kt:Nat} {tp p pos kp cp:Pos} {j:Nat} {l:Expr} {tl:TE} (hg:Gl X "enumerate") (hm:X.mg "enumerate" = none) (hl:PE X l tl) (hs:starEach [l] X.env=[(false,eval l X.env)]:=by rfl) :
  PI X (.Tuple elts kt tp) (.Call (.Name "enumerate" p) [l] [⟨some "start", .Constant (.int 1) j cp,kp⟩] pos) (BD X.K tl):=by
 intro pins s σ H R I h
 have h':AU tl De σ H (fun vs H1=>match vs with
  | [x]=>∃a,x=.ref a/\(∃xs,SqL X.K H1 a xs)/\R (Ies X.K a) H1
  | _=>False):=h
 refine BN (lL I hg hm PyProof.Rows.boot_enumerate (qF (by rw[hs];rfl) rfl ?_))
 have pa:=c_ hl gS hs pos pins s σ H _ I h'
 rw[hs] at pa ⊢
 refine evalArgs_kwB rfl (thn pa fun us s1 ⟨vs,H1,I1,r1,q1⟩=>?_)
 refine kws_cons (wpAny_Constant_int ?_)
 refine kws_nil ?_
 cases r1 with
 | nil=>exact q1.elim
 | cons r rr=>
  cases rr with
  | cons _ _=>exact q1.elim
  | nil=>
   obtain⟨a,rfl,⟨xs,hq⟩,q⟩:=q1
   cases r
   have I2:=I1.tok (s1.toks+1)
   have fp:∀{h':Heap},∀b∈[s1.heap.objs.size+1,s1.heap.objs.size],m4 X pins H1 b:=fun{h'} b hb=>by
    have hb':s1.heap.objs.size<=b:=by
     rcases List.mem_cons.mp hb with z | hb
     ·omega
     ·have:=List.mem_singleton.mp hb;omega
    exact I1.yS hb' (I1.hok.fresh hb')
   obtain⟨its,rv,pl,hz⟩:=I2.list hq
   refine zi (s:={ s1 with toks:=s1.toks+1 }) pl.isList fun h2 z1 z2 hsz kp=>wpAny_pyIter_enum (s:={ s1 with heap:=h2,toks:=s1.toks+1 }) z1 ?_
   exact⟨s1.heap.objs.size+1,[s1.heap.objs.size+1,s1.heap.objs.size],_,_,H1,rfl,I2.kept (t':=s1.toks+1) kp,qT (a:=a) (Nat.succ_ne_self _),⟨⟨_,z1⟩,z2⟩,fp (h':=h2),q⟩
end L2
namespace L2.FE
open PySem PySem.Spec PyProof.Rows
noncomputable def ke (ds:List D):List D:=(List.range ds.length).map fun(i:Nat)=>D.tup [.int ((i+1:Nat):Int),ds.getD i .non]
noncomputable def oq (a:ME):MI:=fun env h=>(a env h).bind fun d h1=>match d with
 | .frl ds=>.ok (.snap (ke ds)) h1
 | _=>.bad
theorem nk {ds:List D} {i:Nat}:(ke ds)[i]?=(ds[i]?).map fun d=>D.tup [.int ((i+1:Nat):Int),d]:=by
 unfold ke
 rw[List.getElem?_map]
 by_cases hi:i<ds.length
 ·have e:ds.getD i .non=ds[i]:=by rw[List.getD_eq_getElem?_getD,List.getElem?_eq_getElem hi];rfl
  rw[List.getElem?_range hi,List.getElem?_eq_getElem hi,Option.map_some,Option.map_some,e]
 ·rw[List.getElem?_eq_none (by simpa using hi),List.getElem?_eq_none (by omega)];rfl
section
variable {X:Cx} {g:GG} {ε:EE}
theorem qH {K:PySem.W.Frag} {α:List Addr} {H:Hp} {a:Addr} {ds:List D} {vs:List V} (hq:Fro K H a vs) (rs:au K g α H ds vs):Reads K g (Ies K a) (Src.snap (ke ds)).rdr α H:=by
 intro α2 H2 h2 x2 hr i
 have hq2:SqL K H2 a vs:=(x2.fro _ _ hq).sq
 have rs2:=rs.ext x2
 show match some (ke ds)[i]? with | none=>True | some none=>_ | some (some d)=>_
 rw[nk]
 cases e:ds[i]? with
 | none=>
  have:ds.length<=i:=List.getElem?_eq_none_iff.mp e
  exact⟨vs,hq2,by rw[<- rs.length];exact this⟩
 | some d=>
  obtain⟨v,ev,rv⟩:=rs2.get e
  refine⟨⟨vs,v,hq2,ev⟩,fun x H' y=>?_⟩
  obtain⟨p,v',e1,hp,e2,e3⟩:=y
  subst e1 e3
  have:=e2 vs hq2
  rw[ev] at this
  cases this
  exact⟨α2,Ext.fresh hp,hr.grow hp,.tup aL (.cons (.int _) (.cons (rv.ext (Ext.fresh hp)) .nil))⟩
theorem wJ {elts:List Expr} {kt j:Nat} {tp p pos kp cp:Pos} {e:Expr} {me:ME} (hg:Gl X "enumerate") (hm:X.mg "enumerate" = none) (he:PE X e (tM X.K g ε me)) (hs:starEach [e] X.env=[(false,eval e X.env)]:=by rfl):PI X (.Tuple elts kt tp) (.Call (.Name "enumerate" p) [e] [⟨some "start", .Constant (.int 1) j cp,kp⟩] pos) (tMI X.K g ε (oq me)):=
 PI.imp (yq hg hm he hs) fun σ H T ⟨α,env,h,s,w⟩=>tM.use s w.bind fun d1 h1 v1 H1 α1 e1 s1 r1 w1=>by
  cases r1 with
  | frl hq rs=>exact⟨_,rfl,⟨_,hq.sq⟩,w1 _ H1 α1 e1 s1.heap (qH hq.fro rs)⟩
  | _=>exact w1.elim
end
end L2.FE
namespace FC
open PySem L2 L2.FE
noncomputable def bD:MF:=cR 2 (aH (cD (aI asB (ax dLt (ah 1) (ag c0 (aa (ah 0) aj)))) (bq (ax dIx (ah 0) (ah 1))) bj)
  (bq (cC (.int 0))))
noncomputable def bR:MF:=cR 2 (aH (bA 1 (ag vZ (aa (ah 0) (aa (ax q_ (cC (.int 0)) (ah 0)) aj))))
  (bq (ag (cL uP) (aa (ah 1) (aa (ag yA (aa (ax dGe (ah 1) (ax wm (cC (.int 10)) (cC (.int 18)))) aj)) (aa (ax qI (ah 1) (cC (.int 1000003))) aj))))))
noncomputable def cW:MF:=cR 1 (aH (bA 0 (ax qI (ax (bK az) (ah 0) (cC (.int 7919))) (cC (.int 2147483647))))
  (bq (ax qI (ax (bK az) (ax (bK az) (ax (oN az) (ah 0) (ah 0)) (ax (oN az) (cC (.int 48271)) (ah 0))) (cC (.int 12345))) (cC (.int 2147483629)))))
noncomputable def aq:MF:=cR 3 (aH (cD (t6 (aI asB (ax dEq (ax dIx (ah 0) (cC (.int 1))) (cC (.int 1)))) (aI asB (ax dGt (ax dIx (ah 0) (cC (.int 0))) (cC (.int 0))))) (aH (bA 2 (ax qI (ax dIx (ah 0) (cC (.int 0))) (ah 1)))
  (aH (pE jh (ah 0) (cC (.int 0)) (ax vU (ax dIx (ah 0) (cC (.int 0))) (ah 1)))
  (bq (ah 2)))) bj)
  (aH (pE jh (ah 0) (cC (.int 2)) (ag cW (aa (ax (bK az) (ag cW (aa (ax dIx (ah 0) (cC (.int 2))) aj)) (cC (.int 7))) aj)))
  (bq (ax qI (ax vU (ax dIx (ah 0) (cC (.int 2))) (cC (.int 64))) (ah 1)))))
noncomputable def bx:MF:=fun ds h=>((cR 3 (aH (bA 2 (ag (jQ uP) (aa (ah 1) aj)))
  (bq (ag eF (aa (bY az (pI kq (aa (ah 1) aj)) [2,0] tt1 (dU qN (ah 1) (aa (ag aq (aa (ah 2) (aa (ag c0 (aa (ah 1) aj)) aj))) aj))) aj))))) ds h).bind (ed h)
noncomputable def bh:MF:=cR 3 (aH (bA 1 (cC (.str "")))
  (aH (gm (bV (ah 0)) (gN 2) (bA 1 (ax (bK az) (ax (bK az) (ah 1) (cC (.str " "))) (ag iX (aa (ah 2) aj)))))
  (bq (pB (ah 1) (dm (cC (.int 1))) b8))))
noncomputable def eT:MF:=cR 1 (bq (t5 (cUn (ir "int") (ah 0)) (wA (cUn (ir "bool") (ah 0)))))
noncomputable def b0:MF:=cR 3 (bq (t5 (ag eT (aa (ah 0) aj)) (gy dLe dLe (ah 1) (ah 0) (ah 2))))
noncomputable def aF:MF:=fun ds h=>((cR 2 (aH (cD (gp (cI (aI fN (cUn (ir "tuple") (ah 0)))) (cI (aI asB (gy dLe dLe (cC (.int 1)) (ag c0 (aa (ah 0) aj)) (cC (.int 20)))))) (bq (cC (.bl false))) bj)
  (aH (gm (bV (ah 0)) (gN 1) (cD (cI (aI fN (ag b0 (aa (ah 1) (aa (cC (.int 0)) (aa (ax q_ (ag c0 (aa (ah 0) aj)) (cC (.int 1))) aj)))))) (bq (cC (.bl false))) bj))
  (bq (ax dEq (ag c0 (aa (ag qs (aa (ah 0) aj)) aj)) (ag c0 (aa (ah 0) aj))))))) ds h).bind (ed h)
noncomputable def aO:MF:=cR 1 (aH (cD (gp (cI (aI fN (cUn (ir "list") (ah 0)))) (cI (aI asB (gy dLe dLe (cC (.int 1)) (ag c0 (aa (ah 0) aj)) (cC (.int 20)))))) (bq (cC (.bl false))) bj)
  (bq (ag wx (aa (bY az (bV (ah 0)) [] tt1 (ag aF (aa (ah 0) aj))) aj))))
noncomputable def bW:MF:=cR 1 (cD (cI (aI fN (ag aF (aa (ah 0) aj)))) ua bj)
noncomputable def aU:MF:=cR 1 (aH (j9 (ag bW (aa (ah 0) aj)))
  (bq (dj gL (cC (.str " ")) (aa (bY az (bV (ah 0)) [] tt1 (ag iX (aa (ah 0) aj))) aj))))
noncomputable def bJ:MF:=cR 1 (aH (cD (cI (aI fN (ag aO (aa (ah 0) aj)))) ua bj)
  (bq (dj gL (cC (.str "\n")) (aa (bY az (bV (ah 0)) [] tt1 (ag aU (aa (ah 0) aj))) aj))))
noncomputable def cu:MF:=cR 1 (aH (cD (gp (cI (aI fN (oY (za Txt.isascii) (ah 0)))) (gp (cI (aI fN (oY (za Txt.isdigit) (ah 0)))) (aI asB (ax dGt (ag c0 (aa (ah 0) aj)) (cC (.int 20)))))) (bq (cC .non)) bj)
  (aH (cD (t6 (aI asB (ax dEq (ax BP (ah 0) (cC (.int 0))) (cC (.str "0")))) (aI asB (ax dGt (ag c0 (aa (ah 0) aj)) (cC (.int 1))))) (bq (cC .non)) bj)
  (bq (ag xp (aa (ah 0) aj)))))
noncomputable def cq:MF:=fun ds h=>((cR 5 (aH (cD (cI (aI fN (cUn (ir "str") (ah 0)))) ua bj)
  (aH (bA 1 (ag (cL uP) aj))
  (aH (gm (oq (dj (gT az) (ah 0) (aa (cC (.str "\n")) aj))) (gT2 2 3) (aH (bA 4 (ag eF (aa (bY az (bV (dj (gT az) (ah 3) (aa (cC (.str " ")) aj))) [] tt1 (ag cu (aa (ah 0) aj))) aj)))
  (aH (cD (gp (aI asB (ax dGt (ah 2) (cC (.int 20)))) (cI (aI fN (ag aF (aa (ah 4) aj))))) ua bj)
  (j9 (dU eg (ah 1) (aa (ah 4) aj))))))
  (bq (ah 1)))))) ds h).bind (mx h)
noncomputable def cz:MF:=cR 7 (aH (zu 2 3 (aa (ag aq (aa (ah 0) (aa (cC (.int 7)) aj))) (aa (ag aq (aa (ah 0) (aa (ag c0 (aa (ah 1) aj)) aj))) aj)))
  (aH (bA 4 (ax dIx (ag (cL az) (aa (ag c0 (aa (ah 1) aj)) (aa (cUn zc (cC (.int 1))) (aa (cC .non) (aa (cC (.str "0")) (aa (ag (cL az) (aa (cC (.int 0)) aj)) (aa (cC .edic) (aa (ag fh (aa (cC (.int 0)) aj)) (aa (ax wm (cC (.int 10)) (cC (.int 30))) aj))))))))) (ag aq (aa (ah 0) (aa (cC (.int 8)) aj)))))
  (aH (bA 5 (ax (bK az) (ax (bK az) (cN az (ah 1) b8 (dm (ah 3))) (ag fh (aa (ah 4) aj))) (cN az (ah 1) (dm (ax (bK az) (ah 3) (cC (.int 1)))) b8)))
  (aH (bA 6 (ag eF (aa (bY az (bV (ah 1)) [] tt1 (cIf (aI asB (ax dLt (ah 0) (cC (.int 2)))) (ax dEq (ah 0) (cC (.int 1))) (ah 0))) aj)))
  (bq (ax dIx (ag (cL az) (aa (ah 5) (aa (ah 6) (aa (ag (dList az) (aa (ah 1) aj)) (aa (ag fh aj) (aa (cC .non) (aa (ag nz (aa (cC (.int 21)) aj)) (aa (ax (bK az) (ah 1) (cN az (ah 1) b8 (dm (cC (.int 1))))) aj)))))))) (ah 2)))))))
noncomputable def eO:MF:=cR 2 (aH (bA 1 (ag (cL az) (aa (cUn (ph "NoOrder") (ah 0)) (aa (cUn (ph "NoNumber") (ah 0)) (aa (cUn (ph "NoSet") (ah 0)) (aa (cUn (ph "NoRow") (ah 0)) aj))))))
  (aH (bA 1 (ax (bK az) (ah 1) (ag (cL az) (aa (cUn (ph "NoLine") (ah 0)) (aa (cUn (ph "NoText") (ah 0)) (aa (cUn (ph "TooGreat") (ah 0)) aj))))))
  (aH (cD (gp (cI (aI fN (cUn Cz (ah 0)))) (aI asB (ax dNe (dU oI (ah 1) (aa (cC (.bl true)) aj)) (cC (.int 1))))) (bq (cC (.str "other"))) bj)
  (bq (ax dIx (ag (cL az) (aa (cC (.str "order")) (aa (cC (.str "number")) (aa (cC (.str "set")) (aa (cC (.str "row")) (aa (cC (.str "line")) (aa (cC (.str "text")) (aa (cC (.str "great")) aj)))))))) (dU oS (ah 1) (aa (cC (.bl true)) aj)))))))
noncomputable def bg:MF:=cR 2 (aH (bA 1 (ag eO (aa (ah 0) aj)))
  (aH (cD (aI asB (ax dEq (ah 1) (cC (.str "text")))) (bq (ag fh (aa (ah 1) (aa (cUn (yX "NoText" "row") (ah 0)) aj)))) bj)
  (bq (cIf (aI asB (ax dEq (ah 1) (cC (.str "great")))) (ag fh (aa (ah 1) (aa (fun _ _=>.bad) (aa (fun _ _=>.bad) aj)))) (ag fh (aa (ah 1) aj))))))
noncomputable def cy:MF:=cR 1 (cD (up (cI (aI fN (ag aF (aa (ah 0) aj))))) (ow "NoOrder") bj)
noncomputable def bQ:MF:=cR 1 (aH (j9 (ag cy (aa (up (ah 0)) aj)))
  (up (bq (dj gL (cC (.str " ")) (aa (bY az (bV (ah 0)) [] tt1 (ag iX (aa (ah 0) aj))) aj)))))
noncomputable def bB:MF:=cR 1 (aH (cD (up (cI (aI fN (ag aO (aa (ah 0) aj))))) (ow "NoRow") bj)
  (bq (dj gL (up (cC (.str "\n"))) (aa (up (bY az (bV (ah 0)) [] tt1 (ag aU (aa (ah 0) aj)))) aj))))
noncomputable def kf:Str->Option MF:=fun x=>if x="order_shown" then some bQ else if x="orders_shown" then some bB else none
@[simp] theorem sy:kf "order_shown" = some bQ:=by kernel_rfl
@[simp] theorem rT:kf "orders_shown" = some bB:=by kernel_rfl
noncomputable def bc:MF:=cR 3 (rJ (bq (l9 kf (up (ax dIx (ag (cL az) (aa (cC (.fn "order_shown")) (aa (cC (.fn "orders_shown")) aj))) (ah 0))) (aa (up (ah 1)) aj))) bg)
noncomputable def lV:MF:=fun ds h=>((cR 14 (aH (gm (bV (ax (bK az) (ag (cL az) (aa (ag bD (aa (ah 0) (aa (cC (.int 0)) aj))) aj)) (cN az (ah 0) (dm (cC (.int 1))) (dm (cC (.int 5)))))) (gN 1) (aH (bA 2 (ag bR (aa (ah 1) aj)))
  (aH (xQ 3 4 (ag fh (aa (ax dIx (ag (cL az) (aa (ax (bK az) (cC (.int 1)) (ag aq (aa (ah 2) (aa (cC (.int 20)) aj)))) (aa (cC (.int 20)) (aa (ax (bK az) (cC (.int 1)) (ag aq (aa (ah 2) (aa (cC (.int 3)) aj)))) aj)))) (ag aq (aa (ah 2) (aa (cC (.int 3)) aj)))) (aa (ax (bK az) (cC (.int 1)) (ag aq (aa (ah 2) (aa (cC (.int 20)) aj)))) aj))))
  (aH (bA 5 (bY az (pI kq (aa (ah 3) aj)) [2,4] tt1 (ag bx (aa (ah 1) (aa (ax (bK az) (cC (.int 1)) (ag aq (aa (ah 1) (aa (ah 2) aj)))) aj)))))
  (aH (bA 6 (ag aR (aa (ah 5) aj)))
  (aH (bA 7 (dj gL (cC (.str "\n")) (aa (bY az (bV (ah 5)) [] tt1 (ag bh (aa (ah 0) aj))) aj)))
  (aH (cD (gp (aI asB (ax dNe (ag aR (aa (ag bJ (aa (ah 5) aj)) aj)) (ag aR (aa (ah 7) aj)))) (aI asB (ax dNe (ag aR (aa (ah 5) aj)) (ah 6)))) (bq (cC (.bl false))) bj)
  (aH (gm (pI kq (aa (cC (.int 2)) aj)) (gN 8) (aH (bA 9 (ag cq (aa (ah 7) aj)))
  (aH (cD (aI asB (ax dNe (ag aR (aa (ah 9) aj)) (ah 6))) (bq (cC (.bl false))) bj)
  (j9 (dU eg (ah 9) (aa (ag fh aj) aj))))))
  (aH (cD (aI asB (ax dNe (ag aR (aa (bY az (bV (ah 5)) [] tt1 (ag aU (aa (ah 0) aj))) aj)) (ag aR (aa (bY az (bV (ah 5)) [] tt1 (ag bh (aa (ah 0) aj))) aj)))) (bq (cC (.bl false))) bj)
  (aH (bA 10 (ag cz (aa (ah 2) (aa (ax dIx (ah 5) (cC (.int 0))) aj))))
  (aH (bA 11 (ag aq (aa (ah 2) (aa (ah 3) aj))))
  (aH (bA 12 (ag (cL az) (aa (ax (bK az) (ax (bK az) (cN az (ah 5) b8 (dm (ah 11))) (ag (cL az) (aa (ah 10) aj))) (cN az (ah 5) (dm (ax (bK az) (ah 11) (cC (.int 1)))) b8)) (aa (ag eF (aa (ah 5) aj)) (aa (ag (cL az) aj) (aa (cN az (ax (oN az) (ah 5) (cC (.int 21))) b8 (dm (cC (.int 21)))) (aa (cC .non) (aa (cC (.str "0")) (aa (ag (cL az) (aa (ah 5) aj)) aj)))))))))
  (aH (bA 12 (ax (bK az) (ah 12) (ag (cL az) (aa (ax dIx (ah 5) (cC (.int 0))) (aa (cC .edic) aj)))))
  (aH (cD (gp (aI asB (ax dNe (ag bc (aa (cC (.int 0)) (aa (ah 10) aj))) (ag fh (aa (cC (.str "order")) aj)))) (aI asB (ax dNe (ag bc (aa (cC (.int 0)) (aa (ah 5) aj))) (ag fh (aa (cC (.str "order")) aj))))) (bq (cC (.bl false))) bj)
  (gm (bV (ah 12)) (gN 13) (aH (bA 6 (ag aR (aa (ah 13) aj)))
  (cD (gp (aI asB (ax dNe (ag bc (aa (cC (.int 1)) (aa (ah 13) aj))) (ag fh (aa (cC (.str "row")) aj)))) (aI asB (ax dNe (ag aR (aa (ah 13) aj)) (ah 6)))) (bq (cC (.bl false))) bj)))))))))))))))))
  (bq (cC (.bl true))))) ds h).bind (ed h)
noncomputable def aK (i:Nat):Stmt:=PySem.Challenge.pw_fallcounts_k91_orders_written.main.body.getD i (.Pass ⟨0,0,0,0⟩)
structure Blt (mg:Str->Option Value):Prop where
 ValueError:mg "ValueError" = none
 all:mg "all" = none
 bool:mg "bool" = none
 enumerate:mg "enumerate" = none
 int:mg "int" = none
 isinstance:mg "isinstance" = none
 len:mg "len" = none
 list:mg "list" = none
 max:mg "max" = none
 range:mg "range" = none
 repr:mg "repr" = none
 set:mg "set" = none
 str:mg "str" = none
 tuple:mg "tuple" = none
section
variable {P:Program} {w:World} {K:PySem.W.Frag} {mg:Str->Option Value} {base:Heap} {g:GG}
theorem kM:aN ["_law_script", "_law_k"] ["_law_script", "_law_k"] (ak (aK 25)):=⟨rfl,rfl,rfl,by decide +kernel,rfl,by decide +kernel,by decide +kernel⟩
theorem jB (D:a9 K mg "_law_cell_at" (aK 25)) (T:Blt mg):Has P w K mg base g "_law_cell_at" 1 ["_law_script", "_law_k"] bD:=by
 obtain⟨f,fd,hm,F⟩:=D
 refine⟨f,fd,gn F kM (fun cdv A outer s H E hr=>?_),F.kp,F.binds (fun _ _ _ _ _ _ us hl=>uT hl fun _ _=>rfl),hm,bz F⟩
 exact(@aw _ _ _ _ _ _ _ (@fK _ _ _ _ _ _ _ _ _ _ (@b9 _ _ _ _ _ _ _ _ _ _ _ AD AR (af 1) (a_ eJ eI rfl T.len PySem.boot_len (@ae _ _ _ _ _ _ _ (af 0) ai rfl)) (bL _)) (@aC _ _ _ _ _ (@bo _ _ _ _ _ _ (@eC _ _ _ _ _ _ _ _ _ _ cT eY (af 0) (af 1) (fun _ _=>rfl)))) bt)
   (@aC _ _ _ _ _ (@bo _ _ _ _ _ _ av)))
theorem gx:aN ["_law_cell", "_law_left"] ["_law_cell"] (ak (aK 27)):=⟨rfl,rfl,rfl,by decide +kernel,rfl,by decide +kernel,by decide +kernel⟩
theorem km (D:a9 K mg "_law_pen_of" (aK 27)) (T:Blt mg):Has P w K mg base g "_law_pen_of" 1 ["_law_cell"] bR:=by
 obtain⟨f,fd,hm,F⟩:=D
 refine⟨f,fd,gn F gx (fun cdv A outer s H E hr=>?_),F.kp,F.binds (fun _ _ _ _ _ _ us hl=>gR hl fun _=>rfl),hm,bz F⟩
 exact(@aw _ _ _ _ _ _ _ (@cG _ _ _ _ _ _ 1 _ _ gx.nd rfl (by first | exact Or.inl rfl | exact Or.inr rfl) (a_ (uf rfl) zH rfl T.max PyProof.Rows.boot_max (@ae _ _ _ _ _ _ _ (af 0) (@ae _ _ _ _ _ _ _ (@a8 _ _ _ _ _ _ _ _ _ _ _ yI yi av (af 0)) ai rfl) rfl)) rfl (.inl rfl))
   (@aC _ _ _ _ _ (@bo _ _ _ _ _ _ (@cM _ _ _ _ _ _ _ _ (@ae _ _ _ _ _ _ _ (af 1) (@ae _ _ _ _ _ _ _ (bZ vv BH rfl T.int PyProof.Rows.boot_int (@ae _ _ _ _ _ _ _ (@rA _ _ _ _ _ _ _ _ _ _ _ Dw Dv (af 1) (@a8 _ _ _ _ _ _ _ _ _ _ _ tw yt av av) (bL _)) ai rfl)) (@ae _ _ _ _ _ _ _ (@a8 _ _ _ _ _ _ _ _ _ _ _ lb lN (af 1) av) ai rfl) rfl) rfl)))))
theorem iM:aN ["_law_seed"] ["_law_seed"] (ak (aK 26)):=⟨rfl,rfl,rfl,by decide +kernel,rfl,by decide +kernel,by decide +kernel⟩
theorem mW (D:a9 K mg "_law_next" (aK 26)) (T:Blt mg):Has P w K mg base g "_law_next" 1 ["_law_seed"] cW:=by
 obtain⟨f,fd,hm,F⟩:=D
 refine⟨f,fd,gn F iM (fun cdv A outer s H E hr=>?_),F.kp,F.binds (fun _ _ _ _ _ _ us hl=>gR hl fun _=>rfl),hm,bz F⟩
 exact(@aw _ _ _ _ _ _ _ (@cG _ _ _ _ _ _ 0 _ _ iM.nd rfl (by first | exact Or.inl rfl | exact Or.inr rfl) (@a8 _ _ _ _ _ _ _ _ _ _ _ lb lN (@a8 _ _ _ _ _ _ _ _ _ _ _ bU bX (af 0) av) av) rfl (.inl rfl))
   (@aC _ _ _ _ _ (@bo _ _ _ _ _ _ (@a8 _ _ _ _ _ _ _ _ _ _ _ lb lN (@a8 _ _ _ _ _ _ _ _ _ _ _ bU bX (@a8 _ _ _ _ _ _ _ _ _ _ _ bU bX (@a8 _ _ _ _ _ _ _ _ _ _ _ sf rZ (af 0) (af 0)) (@a8 _ _ _ _ _ _ _ _ _ _ _ sf rZ av (af 0))) av) av))))
theorem iL:aN ["_law_pen", "_law_many", "_law_found"] ["_law_pen", "_law_many"] (ak (aK 28)):=⟨rfl,rfl,rfl,by decide +kernel,rfl,by decide +kernel,by decide +kernel⟩
theorem mT (D:a9 K mg "_law_draw" (aK 28)) (T:Blt mg) (fi:Has P w K mg base g "_law_next" 1 ["_law_seed"] cW):Has P w K mg base g "_law_draw" 2 ["_law_pen", "_law_many"] aq:=by
 obtain⟨f,fd,hm,F⟩:=D
 obtain⟨yJ,vN,il,hW,h9,h7,_⟩:=fi
 refine⟨f,fd,gn F iL (fun cdv A outer s H E hr=>?_),F.kp,F.binds (fun _ _ _ _ _ _ us hl=>uT hl fun _ _=>rfl),hm,bz F⟩
 exact(@aw _ _ _ _ _ _ _ (@fK _ _ _ _ _ _ _ _ _ _ (PW.pt (@wa _ _ _ _ _ _ _ _ _ (@b9 _ _ _ _ _ _ _ _ _ _ _ (ji hr.units) nG (@eC _ _ _ _ _ _ _ _ _ _ cT eY (af 0) av (fun _ _=>rfl)) av (bL _)) (@t4 _ _ _ _ _ _ (@b9 _ _ _ _ _ _ _ _ _ _ _ sC tT (@eC _ _ _ _ _ _ _ _ _ _ cT eY (af 0) av (fun _ _=>rfl)) av (bL _))))) (@aw _ _ _ _ _ _ _ (@cG _ _ _ _ _ _ 2 _ _ iL.nd rfl (by first | exact Or.inl rfl | exact Or.inr rfl) (@a8 _ _ _ _ _ _ _ _ _ _ _ lb lN (@eC _ _ _ _ _ _ _ _ _ _ cT eY (af 0) av (fun _ _=>rfl)) (af 1)) rfl (.inl rfl))
   (@aw _ _ _ _ _ _ _ (tG (@a8 _ _ _ _ _ _ _ _ _ _ _ p6 xJ (@eC _ _ _ _ _ _ _ _ _ _ cT eY (af 0) av (fun _ _=>rfl)) (af 1)) (af 0) av set_list qz)
   (@aC _ _ _ _ _ (@bo _ _ _ _ _ _ (af 2))))) bt)
   (@aw _ _ _ _ _ _ _ (tG (aG (il.mono (by decide)) hr rfl h7 hW h9 (@ae _ _ _ _ _ _ _ (@a8 _ _ _ _ _ _ _ _ _ _ _ bU bX (aG (il.mono (by decide)) hr rfl h7 hW h9 (@ae _ _ _ _ _ _ _ (@eC _ _ _ _ _ _ _ _ _ _ cT eY (af 0) av (fun _ _=>rfl)) ai rfl) (ao aD)) av) ai rfl) (ao aD)) (af 0) av set_list qz)
   (@aC _ _ _ _ _ (@bo _ _ _ _ _ _ (@a8 _ _ _ _ _ _ _ _ _ _ _ lb lN (@a8 _ _ _ _ _ _ _ _ _ _ _ p6 xJ (@eC _ _ _ _ _ _ _ _ _ _ cT eY (af 0) av (fun _ _=>rfl)) av) (af 1))))))
theorem ie:aN ["_law_pen", "_law_n", "_law_left"] ["_law_pen", "_law_n"] (ak (aK 31)):=⟨rfl,rfl,rfl,by decide +kernel,rfl,by decide +kernel,by decide +kernel⟩
theorem mw (D:a9 K mg "_law_order" (aK 31)) (T:Blt mg) (bf:Has P w K mg base g "_law_draw" 2 ["_law_pen", "_law_many"] aq):Has P w K mg base g "_law_order" 3 ["_law_pen", "_law_n"] bx:=by
 obtain⟨f,fd,hm,F⟩:=D
 obtain⟨hX,gC,aW,aV,aY,aX,_⟩:=bf
 refine⟨f,fd,oJ (gn F ie (fun cdv A outer s H E hr=>?_)),F.kp,F.binds (fun _ _ _ _ _ _ us hl=>uT hl fun _ _=>rfl),hm,bz F⟩
 exact(@aw _ _ _ _ _ _ _ (@cG _ _ _ _ _ _ 2 _ _ ie.nd rfl (by first | exact Or.inl rfl | exact Or.inr rfl) (vQ rfl rfl T.list rfl T.range (@ae _ _ _ _ _ _ _ (af 1) ai rfl)) rfl (.inl rfl))
   (@aC _ _ _ _ _ (@bo _ _ _ _ _ _ (bZ dG iO rfl T.tuple PyProof.Rows.boot_tuple (@ae _ _ _ _ _ _ _ (cE (osc:=ak (aK 31)) [2,0] ["_law_place", "_law_left", "_law_pen"] rfl rfl rfl rfl (by decide +kernel) ⟨by decide +kernel,by decide +kernel,rfl,by decide +kernel,rfl,by decide +kernel⟩ (pK rfl T.range (@ae _ _ _ _ _ _ _ (af 1) ai rfl))
    (fun cl C aJ aT fp=>dY) (fun cl C aJ aT fp=>(lG PySem.F.slot_list_pop PySem.F.type_list_pop yh C5 (af 1) (@ae _ _ _ _ _ _ _ (aG (aW.mono (by decide)) hr rfl aX aV aY (@ae _ _ _ _ _ _ _ (af 2) (@ae _ _ _ _ _ _ _ (a_ eJ eI rfl T.len PySem.boot_len (@ae _ _ _ _ _ _ _ (af 1) ai rfl)) ai rfl) rfl) (ao (ao aD))) ai rfl)))) ai rfl)))))
theorem ek:aN ["_law_order_here", "_law_found", "_law_number"] ["_law_order_here"] (ak (aK 33)):=⟨rfl,rfl,rfl,by decide +kernel,rfl,by decide +kernel,by decide +kernel⟩
theorem mZ (D:a9 K mg "_law_text" (aK 33)) (T:Blt mg):Has P w K mg base g "_law_text" 1 ["_law_order_here"] bh:=by
 obtain⟨f,fd,hm,F⟩:=D
 refine⟨f,fd,gn F ek (fun cdv A outer s H E hr=>?_),F.kp,F.binds (fun _ _ _ _ _ _ us hl=>gR hl fun _=>rfl),hm,bz F⟩
 exact(@aw _ _ _ _ _ _ _ (@cG _ _ _ _ _ _ 1 _ _ ek.nd rfl (by first | exact Or.inl rfl | exact Or.inr rfl) bu rfl (.inl rfl))
   (@aw _ _ _ _ _ _ _ (m5 PassesOwn.never rfl (@dg _ _ _ _ _ _ (af 0)) (cZ (i:=2) ek.nd rfl (by first | exact Or.inl rfl | exact Or.inr rfl)) i3 (@aC _ _ _ _ _ (@cG _ _ _ _ _ _ 1 _ _ ek.nd rfl (by first | exact Or.inl rfl | exact Or.inr rfl) (@a8 _ _ _ _ _ _ _ _ _ _ _ bU bX (@a8 _ _ _ _ _ _ _ _ _ _ _ bU bX (af 1) bu) (bZ jH om rfl T.str rfl (@ae _ _ _ _ _ _ _ (af 2) ai rfl))) rfl (.inl rfl))))
   (@aC _ _ _ _ _ (@bo _ _ _ _ _ _ (vo (af 1) (@eA _ _ _ _ _ av) fU)))))
theorem pR:aN ["thing"] ["thing"] (ak (aK 10)):=⟨rfl,rfl,rfl,by decide +kernel,rfl,by decide +kernel,by decide +kernel⟩
theorem oV (D:a9 K mg "is_whole" (aK 10)) (T:Blt mg):Has P w K mg base g "is_whole" 1 ["thing"] eT:=by
 obtain⟨f,fd,hm,F⟩:=D
 refine⟨f,fd,gn F pR (fun cdv A outer s H E hr=>?_),F.kp,F.binds (fun _ _ _ _ _ _ us hl=>gR hl fun _=>rfl),hm,bz F⟩
 exact(@aC _ _ _ _ _ (@bo _ _ _ _ _ _ (@yy _ _ _ _ _ _ _ _ _ (lQ (af 0) rfl T.isinstance rfl T.int PyProof.Rows.boot_int) (@yu _ _ _ _ _ _ _ (@CJ _ _ _ _ _ _ (lQ (af 0) rfl T.isinstance rfl T.bool PyProof.Rows.boot_bool))))))
theorem pk:aN ["thing", "least", "most"] ["thing", "least", "most"] (ak (aK 11)):=⟨rfl,rfl,rfl,by decide +kernel,rfl,by decide +kernel,by decide +kernel⟩
theorem mH (D:a9 K mg "is_within" (aK 11)) (T:Blt mg) (fR:Has P w K mg base g "is_whole" 1 ["thing"] eT):Has P w K mg base g "is_within" 2 ["thing", "least", "most"] b0:=by
 obtain⟨f,fd,hm,F⟩:=D
 obtain⟨z_,yK,pO,oK,ot,pf,_⟩:=fR
 refine⟨f,fd,gn F pk (fun cdv A outer s H E hr=>?_),F.kp,F.binds (fun _ _ _ _ _ _ us hl=>Fq hl fun _ _ _=>rfl),hm,bz F⟩
 exact(@aC _ _ _ _ _ (@bo _ _ _ _ _ _ (@yy _ _ _ _ _ _ _ _ _ (aG (pO.mono (by decide)) hr rfl pf oK ot (@ae _ _ _ _ _ _ _ (af 0) ai rfl) (ao aD)) (@yu _ _ _ _ _ _ _ (wZ nN nN m9 m9 (af 1) (af 0) (af 2))))))
theorem ip:aN ["thing", "number"] ["thing"] (ak (aK 14)):=⟨rfl,rfl,rfl,by decide +kernel,rfl,by decide +kernel,by decide +kernel⟩
theorem lx (D:a9 K mg "order_good" (aK 14)) (T:Blt mg) {gE:Tok} (eG:mg "MOST_NUMBERS" = some (.int 20 gE)) (fC:Has P w K mg base g "is_within" 2 ["thing", "least", "most"] b0):Has P w K mg base g "order_good" 3 ["thing"] aF:=by
 obtain⟨f,fd,hm,F⟩:=D
 obtain⟨yL,wB,mJ,mX,mU,mY,_⟩:=fC
 refine⟨f,fd,oJ (gn F ip (fun cdv A outer s H E hr=>?_)),F.kp,F.binds (fun _ _ _ _ _ _ us hl=>gR hl fun _=>rfl),hm,bz F⟩
 exact(@aw _ _ _ _ _ _ _ (@fK _ _ _ _ _ _ _ _ _ _ (PW.pt (@iI _ _ _ _ _ _ _ _ _ (@di _ _ _ _ _ _ (@cb _ _ _ _ _ _ dM (lQ (af 0) rfl T.isinstance rfl T.tuple PyProof.Rows.boot_tuple) (fun _=>rfl))) (@gz _ _ _ _ _ _ (@di _ _ _ _ _ _ (pX nN nN m9 m9 av (a_ eJ eI rfl T.len PySem.boot_len (@ae _ _ _ _ _ _ _ (af 0) ai rfl)) (i8 rfl eG)))))) (@aC _ _ _ _ _ (@bo _ _ _ _ _ _ gr)) bt)
   (@aw _ _ _ _ _ _ _ (m5 PassesOwn.never rfl (@dg _ _ _ _ _ _ (af 0)) (cZ (i:=1) ip.nd rfl (by first | exact Or.inl rfl | exact Or.inr rfl)) i3 (@aC _ _ _ _ _ (@fK _ _ _ _ _ _ _ _ _ _ (@di _ _ _ _ _ _ (@cb _ _ _ _ _ _ dM (aG (mJ.mono (by decide)) hr rfl mY mX mU (@ae _ _ _ _ _ _ _ (af 1) (@ae _ _ _ _ _ _ _ av (@ae _ _ _ _ _ _ _ (@a8 _ _ _ _ _ _ _ _ _ _ _ yI yi (a_ eJ eI rfl T.len PySem.boot_len (@ae _ _ _ _ _ _ _ (af 0) ai rfl)) av) ai rfl) rfl) rfl) (ao (ao (ao aD)))) (fun _=>rfl))) (@aC _ _ _ _ _ (@bo _ _ _ _ _ _ gr)) bt)))
   (@aC _ _ _ _ _ (@bo _ _ _ _ _ _ (@rA _ _ _ _ _ _ _ _ _ _ _ (ji hr.units) nG (a_ eJ eI rfl T.len PySem.boot_len (@ae _ _ _ _ _ _ _ (bZ (n8 rfl) CC rfl T.set PyProof.Rows.boot_set (@ae _ _ _ _ _ _ _ (af 0) ai rfl)) ai rfl)) (a_ eJ eI rfl T.len PySem.boot_len (@ae _ _ _ _ _ _ _ (af 0) ai rfl)) (bL _))))))
theorem lj:aN ["thing"] ["thing"] (ak (aK 21)):=⟨rfl,rfl,rfl,by decide +kernel,rfl,by decide +kernel,by decide +kernel⟩
theorem kx (D:a9 K mg "orders_good" (aK 21)) (T:Blt mg) {e8:Tok} (cV:mg "MOST_ROWS" = some (.int 20 e8)) (aM:Has P w K mg base g "order_good" 3 ["thing"] aF):Has P w K mg base g "orders_good" 4 ["thing"] aO:=by
 obtain⟨f,fd,hm,F⟩:=D
 obtain⟨eB,dN,bF,bC,bH,bG,_⟩:=aM
 refine⟨f,fd,gn F lj (fun cdv A outer s H E hr=>?_),F.kp,F.binds (fun _ _ _ _ _ _ us hl=>gR hl fun _=>rfl),hm,bz F⟩
 exact(@aw _ _ _ _ _ _ _ (@fK _ _ _ _ _ _ _ _ _ _ (PW.pt (@iI _ _ _ _ _ _ _ _ _ (@di _ _ _ _ _ _ (@cb _ _ _ _ _ _ dM (lQ (af 0) rfl T.isinstance rfl T.list PyProof.Rows.boot_list) (fun _=>rfl))) (@gz _ _ _ _ _ _ (@di _ _ _ _ _ _ (pX nN nN m9 m9 av (a_ eJ eI rfl T.len PySem.boot_len (@ae _ _ _ _ _ _ _ (af 0) ai rfl)) (i8 rfl cV)))))) (@aC _ _ _ _ _ (@bo _ _ _ _ _ _ gr)) bt)
   (@aC _ _ _ _ _ (@bo _ _ _ _ _ _ (a_ (uc rfl) CO rfl T.all rfl (@ae _ _ _ _ _ _ _ (cE (osc:=ak (aK 21)) [] ["order"] rfl rfl rfl rfl (by decide +kernel) ⟨by decide +kernel,by decide +kernel,rfl,by decide +kernel,rfl,by decide +kernel⟩ (@dg _ _ _ _ _ _ (af 0))
    (fun cl C aJ aT fp=>dY) (fun cl C aJ aT fp=>(aG (bF.mono (by decide)) hr rfl bG bC bH (@ae _ _ _ _ _ _ _ (af 0) ai rfl) (ao aD)))) ai rfl)))))
theorem gi:aN ["thing"] ["thing"] (ak (aK 15)):=⟨rfl,rfl,rfl,by decide +kernel,rfl,by decide +kernel,by decide +kernel⟩
theorem jU (D:a9 K mg "order_needed" (aK 15)) (T:Blt mg) (aM:Has P w K mg base g "order_good" 3 ["thing"] aF):Has P w K mg base g "order_needed" 4 ["thing"] bW:=by
 obtain⟨f,fd,hm,F⟩:=D
 obtain⟨eB,dN,bF,bC,bH,bG,_⟩:=aM
 refine⟨f,fd,gn F gi (fun cdv A outer s H E hr=>?_),F.kp,F.binds (fun _ _ _ _ _ _ us hl=>gR hl fun _=>rfl),hm,bz F⟩
 exact(@aC _ _ _ _ _ (@fK _ _ _ _ _ _ _ _ _ _ (@di _ _ _ _ _ _ (@cb _ _ _ _ _ _ dM (aG (bF.mono (by decide)) hr rfl bG bC bH (@ae _ _ _ _ _ _ _ (af 0) ai rfl) (ao aD)) (fun _=>rfl))) (@aC _ _ _ _ _ (PS.imp i_ fun E σ H ⟨α,env,h,s,w⟩=>w.elim)) bt))
theorem gU:aN ["order"] ["order"] (ak (aK 19)):=⟨rfl,rfl,rfl,by decide +kernel,rfl,by decide +kernel,by decide +kernel⟩
theorem kC (D:a9 K mg "order_shown" (aK 19)) (T:Blt mg) (dv:Has P w K mg base g "order_needed" 4 ["thing"] bW):Has P w K mg base g "order_shown" 5 ["order"] aU:=by
 obtain⟨f,fd,hm,F⟩:=D
 obtain⟨vx,sN,jZ,j0,jo,jR,_⟩:=dv
 refine⟨f,fd,gn F gU (fun cdv A outer s H E hr=>?_),F.kp,F.binds (fun _ _ _ _ _ _ us hl=>gR hl fun _=>rfl),hm,bz F⟩
 exact(@aw _ _ _ _ _ _ _ (oB (aG (jZ.mono (by decide)) hr rfl jR j0 jo (@ae _ _ _ _ _ _ _ (af 0) ai rfl) (ao aD)))
   (@aC _ _ _ _ _ (@bo _ _ _ _ _ _ (ly PySem.F.slot_str_join PySem.F.type_str_join i7 jb bu (@ae _ _ _ _ _ _ _ (cE (osc:=ak (aK 19)) [] ["number"] rfl rfl rfl rfl (by decide +kernel) ⟨by decide +kernel,by decide +kernel,rfl,by decide +kernel,rfl,by decide +kernel⟩ (@dg _ _ _ _ _ _ (af 0))
    (fun cl C aJ aT fp=>dY) (fun cl C aJ aT fp=>(bZ jH om rfl T.str rfl (@ae _ _ _ _ _ _ _ (af 0) ai rfl)))) ai rfl)))))
theorem gf:aN ["some"] ["some"] (ak (aK 20)):=⟨rfl,rfl,rfl,by decide +kernel,rfl,by decide +kernel,by decide +kernel⟩
theorem jf (D:a9 K mg "orders_shown" (aK 20)) (T:Blt mg) (bN:Has P w K mg base g "orders_good" 4 ["thing"] aO) (ba:Has P w K mg base g "order_shown" 5 ["order"] aU):Has P w K mg base g "orders_shown" 6 ["some"] bJ:=by
 obtain⟨f,fd,hm,F⟩:=D
 obtain⟨kH,jA,dO,dX,dQ,d9,_⟩:=bN
 obtain⟨gj,fO,cg,cj,ck,cf,_⟩:=ba
 refine⟨f,fd,gn F gf (fun cdv A outer s H E hr=>?_),F.kp,F.binds (fun _ _ _ _ _ _ us hl=>gR hl fun _=>rfl),hm,bz F⟩
 exact(@aw _ _ _ _ _ _ _ (@fK _ _ _ _ _ _ _ _ _ _ (@di _ _ _ _ _ _ (@cb _ _ _ _ _ _ dM (aG (dO.mono (by decide)) hr rfl d9 dX dQ (@ae _ _ _ _ _ _ _ (af 0) ai rfl) (ao aD)) (fun _=>rfl))) (@aC _ _ _ _ _ (PS.imp i_ fun E σ H ⟨α,env,h,s,w⟩=>w.elim)) bt)
   (@aC _ _ _ _ _ (@bo _ _ _ _ _ _ (ly PySem.F.slot_str_join PySem.F.type_str_join i7 jb bu (@ae _ _ _ _ _ _ _ (cE (osc:=ak (aK 20)) [] ["order"] rfl rfl rfl rfl (by decide +kernel) ⟨by decide +kernel,by decide +kernel,rfl,by decide +kernel,rfl,by decide +kernel⟩ (@dg _ _ _ _ _ _ (af 0))
    (fun cl C aJ aT fp=>dY) (fun cl C aJ aT fp=>(aG (cg.mono (by decide)) hr rfl cf cj ck (@ae _ _ _ _ _ _ _ (af 0) ai rfl) (ao aD)))) ai rfl)))))
theorem lP:aN ["word"] ["word"] (ak (aK 23)):=⟨rfl,rfl,rfl,by decide +kernel,rfl,by decide +kernel,by decide +kernel⟩
theorem kA (D:a9 K mg "number_read" (aK 23)) (T:Blt mg) {gK:Tok} (eE:mg "MOST_FIGURES" = some (.int 20 gK)):Has P w K mg base g "number_read" 1 ["word"] cu:=by
 obtain⟨f,fd,hm,F⟩:=D
 refine⟨f,fd,gn F lP (fun cdv A outer s H E hr=>?_),F.kp,F.binds (fun _ _ _ _ _ _ us hl=>gR hl fun _=>rfl),hm,bz F⟩
 exact(@aw _ _ _ _ _ _ _ (@fK _ _ _ _ _ _ _ _ _ _ (PW.pt (@iI _ _ _ _ _ _ _ _ _ (@di _ _ _ _ _ _ (@cb _ _ _ _ _ _ dM (tN PySem.F.slot_str_isascii PySem.F.type_str_isascii rB yG (af 0)) (fun _=>rfl))) (@iI _ _ _ _ _ _ _ _ _ (@di _ _ _ _ _ _ (@cb _ _ _ _ _ _ dM (tN PySem.F.slot_str_isdigit PySem.F.type_str_isdigit r6 yG (af 0)) (fun _=>rfl))) (@gz _ _ _ _ _ _ (@b9 _ _ _ _ _ _ _ _ _ _ _ sC tT (a_ eJ eI rfl T.len PySem.boot_len (@ae _ _ _ _ _ _ _ (af 0) ai rfl)) (i8 rfl eE) (bL _)))))) (@aC _ _ _ _ _ (@bo _ _ _ _ _ _ lC)) bt)
   (@aw _ _ _ _ _ _ _ (@fK _ _ _ _ _ _ _ _ _ _ (PW.pt (@wa _ _ _ _ _ _ _ _ _ (@b9 _ _ _ _ _ _ _ _ _ _ _ (ji hr.units) nG (@eC _ _ _ _ _ _ _ _ _ _ cT Bj (af 0) av (fun _ _=>rfl)) bu (bL _)) (@t4 _ _ _ _ _ _ (@b9 _ _ _ _ _ _ _ _ _ _ _ sC tT (a_ eJ eI rfl T.len PySem.boot_len (@ae _ _ _ _ _ _ _ (af 0) ai rfl)) av (bL _))))) (@aC _ _ _ _ _ (@bo _ _ _ _ _ _ lC)) bt)
   (@aC _ _ _ _ _ (@bo _ _ _ _ _ _ (bZ uU zA rfl T.int PyProof.Rows.boot_int (@ae _ _ _ _ _ _ _ (af 0) ai rfl))))))
theorem cF:aN ["text", "orders", "row", "line", "order"] ["text"] (ak (aK 22)):=⟨rfl,rfl,rfl,by decide +kernel,rfl,by decide +kernel,by decide +kernel⟩
theorem kO (D:a9 K mg "orders_read" (aK 22)) (T:Blt mg) {e8:Tok} (cV:mg "MOST_ROWS" = some (.int 20 e8)) (d8:Has P w K mg base g "number_read" 1 ["word"] cu) (aM:Has P w K mg base g "order_good" 3 ["thing"] aF):Has P w K mg base g "orders_read" 4 ["text"] cq:=by
 obtain⟨f,fd,hm,F⟩:=D
 obtain⟨vB,uD,kj,kP,ky,kF,_⟩:=d8
 obtain⟨eB,dN,bF,bC,bH,bG,_⟩:=aM
 refine⟨f,fd,yD (gn F cF (fun cdv A outer s H E hr=>?_)),F.kp,F.binds (fun _ _ _ _ _ _ us hl=>gR hl fun _=>rfl),hm,bz F⟩
 exact(@aw _ _ _ _ _ _ _ (@fK _ _ _ _ _ _ _ _ _ _ (@di _ _ _ _ _ _ (@cb _ _ _ _ _ _ dM (lQ (af 0) rfl T.isinstance rfl T.str rfl) (fun _=>rfl))) (@aC _ _ _ _ _ (PS.imp i_ fun E σ H ⟨α,env,h,s,w⟩=>w.elim)) bt)
   (@aw _ _ _ _ _ _ _ (@cG _ _ _ _ _ _ 1 _ _ cF.nd rfl (by first | exact Or.inl rfl | exact Or.inr rfl) (@cM _ _ _ _ _ _ _ _ ai) rfl (.inl rfl))
   (@aw _ _ _ _ _ _ _ (m5 PassesOwn.never rfl (wJ rfl T.enumerate (pV (af 0) (@ae _ _ _ _ _ _ _ bu ai rfl))) (yd rfl (i5 (cZ (i:=2) cF.nd rfl (by first | exact Or.inl rfl | exact Or.inr rfl)) (i5 (cZ (i:=3) cF.nd rfl (by first | exact Or.inl rfl | exact Or.inr rfl)) tD))) yB (@aw _ _ _ _ _ _ _ (@cG _ _ _ _ _ _ 4 _ _ cF.nd rfl (by first | exact Or.inl rfl | exact Or.inr rfl) (bZ dG iO rfl T.tuple PyProof.Rows.boot_tuple (@ae _ _ _ _ _ _ _ (cE (osc:=ak (aK 22)) [] ["word"] rfl rfl rfl rfl (by decide +kernel) ⟨by decide +kernel,by decide +kernel,rfl,by decide +kernel,rfl,by decide +kernel⟩ (@dg _ _ _ _ _ _ (pV (af 3) (@ae _ _ _ _ _ _ _ bu ai rfl)))
    (fun cl C aJ aT fp=>dY) (fun cl C aJ aT fp=>(aG (kj.mono (by decide)) hr rfl kF kP ky (@ae _ _ _ _ _ _ _ (af 0) ai rfl) (ao aD)))) ai rfl)) rfl (.inl rfl))
   (@aw _ _ _ _ _ _ _ (@fK _ _ _ _ _ _ _ _ _ _ (PW.pt (@iI _ _ _ _ _ _ _ _ _ (@b9 _ _ _ _ _ _ _ _ _ _ _ sC tT (af 2) (i8 rfl cV) (bL _)) (@gz _ _ _ _ _ _ (@di _ _ _ _ _ _ (@cb _ _ _ _ _ _ dM (aG (bF.mono (by decide)) hr rfl bG bC bH (@ae _ _ _ _ _ _ _ (af 4) ai rfl) (ao aD)) (fun _=>rfl)))))) (@aC _ _ _ _ _ (PS.imp i_ fun E σ H ⟨α,env,h,s,w⟩=>w.elim)) bt)
   (@aC _ _ _ _ _ (oB (lG PySem.F.slot_list_append PySem.F.type_list_append jS nh (af 1) (@ae _ _ _ _ _ _ _ (af 4) ai rfl)))))))
   (@aC _ _ _ _ _ (@bo _ _ _ _ _ _ (af 1))))))
theorem dI:aN ["_law_pen", "_law_order_here", "_law_way", "_law_spot", "_law_odd", "_law_bent", "_law_truth"] ["_law_pen", "_law_order_here"] (ak (aK 34)):=⟨rfl,rfl,rfl,by decide +kernel,rfl,by decide +kernel,by decide +kernel⟩
theorem oZ (D:a9 K mg "_law_bad" (aK 34)) (T:Blt mg) (bf:Has P w K mg base g "_law_draw" 2 ["_law_pen", "_law_many"] aq):Has P w K mg base g "_law_bad" 3 ["_law_pen", "_law_order_here"] cz:=by
 obtain⟨f,fd,hm,F⟩:=D
 obtain⟨hX,gC,aW,aV,aY,aX,_⟩:=bf
 refine⟨f,fd,gn F dI (fun cdv A outer s H E hr=>?_),F.kp,F.binds (fun _ _ _ _ _ _ us hl=>uT hl fun _ _=>rfl),hm,bz F⟩
 exact(@aw _ _ _ _ _ _ _ (Bd (i:=2) (j:=3) rfl dI.nd rfl rfl (by decide) (@ae _ _ _ _ _ _ _ (aG (aW.mono (by decide)) hr rfl aX aV aY (@ae _ _ _ _ _ _ _ (af 0) (@ae _ _ _ _ _ _ _ av ai rfl) rfl) (ao (ao aD))) (@ae _ _ _ _ _ _ _ (aG (aW.mono (by decide)) hr rfl aX aV aY (@ae _ _ _ _ _ _ _ (af 0) (@ae _ _ _ _ _ _ _ (a_ eJ eI rfl T.len PySem.boot_len (@ae _ _ _ _ _ _ _ (af 1) ai rfl)) ai rfl) rfl) (ao (ao aD))) ai rfl) rfl))
   (@aw _ _ _ _ _ _ _ (@cG _ _ _ _ _ _ 4 _ _ dI.nd rfl (by first | exact Or.inl rfl | exact Or.inr rfl) (@eC _ _ _ _ _ _ _ _ _ _ cT eY (@cM _ _ _ _ _ _ _ _ (@ae _ _ _ _ _ _ _ (a_ eJ eI rfl T.len PySem.boot_len (@ae _ _ _ _ _ _ _ (af 1) ai rfl)) (@ae _ _ _ _ _ _ _ (@Ey _ _ _ _ _ _ _ _ _ Bb CI av) (@ae _ _ _ _ _ _ _ lC (@ae _ _ _ _ _ _ _ bu (@ae _ _ _ _ _ _ _ (@cM _ _ _ _ _ _ _ _ (@ae _ _ _ _ _ _ _ av ai rfl)) (@ae _ _ _ _ _ _ _ tq (@ae _ _ _ _ _ _ _ (@eL _ _ _ _ _ _ _ (@ae _ _ _ _ _ _ _ av ai rfl)) (@ae _ _ _ _ _ _ _ (@a8 _ _ _ _ _ _ _ _ _ _ _ tw yt av av) ai rfl) rfl) rfl) rfl) rfl) rfl) rfl) rfl)) (aG (aW.mono (by decide)) hr rfl aX aV aY (@ae _ _ _ _ _ _ _ (af 0) (@ae _ _ _ _ _ _ _ av ai rfl) rfl) (ao (ao aD))) (fun _ _=>rfl)) rfl (.inl rfl))
   (@aw _ _ _ _ _ _ _ (@cG _ _ _ _ _ _ 5 _ _ dI.nd rfl (by first | exact Or.inl rfl | exact Or.inr rfl) (@a8 _ _ _ _ _ _ _ _ _ _ _ bU bX (@a8 _ _ _ _ _ _ _ _ _ _ _ bU bX (eP (af 1) fU (@eA _ _ _ _ _ (af 3))) (@eL _ _ _ _ _ _ _ (@ae _ _ _ _ _ _ _ (af 4) ai rfl))) (eP (af 1) (@eA _ _ _ _ _ (@a8 _ _ _ _ _ _ _ _ _ _ _ bU bX (af 3) av)) fU)) rfl (.inl rfl))
   (@aw _ _ _ _ _ _ _ (@cG _ _ _ _ _ _ 6 _ _ dI.nd rfl (by first | exact Or.inl rfl | exact Or.inr rfl) (bZ dG iO rfl T.tuple PyProof.Rows.boot_tuple (@ae _ _ _ _ _ _ _ (cE (osc:=ak (aK 34)) [] ["_law_number"] rfl rfl rfl rfl (by decide +kernel) ⟨by decide +kernel,by decide +kernel,rfl,by decide +kernel,rfl,by decide +kernel⟩ (@dg _ _ _ _ _ _ (af 1))
    (fun cl C aJ aT fp=>dY) (fun cl C aJ aT fp=>(@qu _ _ _ _ _ _ _ _ _ _ (@b9 _ _ _ _ _ _ _ _ _ _ _ AD AR (af 0) av (bL _)) (@rA _ _ _ _ _ _ _ _ _ _ _ (ji hr.units) nG (af 0) av (bL _)) (af 0)))) ai rfl)) rfl (.inl rfl))
   (@aC _ _ _ _ _ (@bo _ _ _ _ _ _ (@eC _ _ _ _ _ _ _ _ _ _ cT eY (@cM _ _ _ _ _ _ _ _ (@ae _ _ _ _ _ _ _ (af 5) (@ae _ _ _ _ _ _ _ (af 6) (@ae _ _ _ _ _ _ _ (bZ (aP.frz oy) yV rfl T.list PyProof.Rows.boot_list (@ae _ _ _ _ _ _ _ (af 1) ai rfl)) (@ae _ _ _ _ _ _ _ (@eL _ _ _ _ _ _ _ ai) (@ae _ _ _ _ _ _ _ lC (@ae _ _ _ _ _ _ _ (zD rfl rfl T.tuple rfl T.range (@ae _ _ _ _ _ _ _ av ai rfl)) (@ae _ _ _ _ _ _ _ (@a8 _ _ _ _ _ _ _ _ _ _ _ bU bX (af 1) (eP (af 1) fU (@eA _ _ _ _ _ av))) ai rfl) rfl) rfl) rfl) rfl) rfl) rfl)) (af 2) (fun _ _=>rfl))))))))
theorem dR:aN ["_law_e", "_law_marks"] ["_law_e"] (ak (aK 29)):=⟨rfl,rfl,rfl,by decide +kernel,rfl,by decide +kernel,by decide +kernel⟩
theorem jG (D:a9 K mg "_law_kind_of" (aK 29)) (T:Blt mg) (hgo:g=gOf mg) (CL:my K mg):ze P w K mg base g "_law_kind_of" 1 ["_law_e"] eO:=by
 obtain⟨f,fd,hm,F⟩:=D
 refine⟨f,fd,A4 F dR (fun cdv A outer s H E hr=>?_),F.kp,F.binds (fun _ _ _ _ _ _ us hl=>gR hl fun _=>rfl),hm⟩
 exact(@aw _ _ _ _ _ _ _ (@cG _ _ _ _ _ _ 1 _ _ dR.nd rfl (by first | exact Or.inl rfl | exact Or.inr rfl) (@cM _ _ _ _ _ _ _ _ (@ae _ _ _ _ _ _ _ (iA CL hgo (af 0) rfl T.isinstance rfl (by decide)) (@ae _ _ _ _ _ _ _ (iA CL hgo (af 0) rfl T.isinstance rfl (by decide)) (@ae _ _ _ _ _ _ _ (iA CL hgo (af 0) rfl T.isinstance rfl (by decide)) (@ae _ _ _ _ _ _ _ (iA CL hgo (af 0) rfl T.isinstance rfl (by decide)) ai rfl) rfl) rfl) rfl)) rfl (.inl rfl))
   (@aw _ _ _ _ _ _ _ (@cG _ _ _ _ _ _ 1 _ _ dR.nd rfl (by first | exact Or.inl rfl | exact Or.inr rfl) (@a8 _ _ _ _ _ _ _ _ _ _ _ bU bX (af 1) (@cM _ _ _ _ _ _ _ _ (@ae _ _ _ _ _ _ _ (iA CL hgo (af 0) rfl T.isinstance rfl (by decide)) (@ae _ _ _ _ _ _ _ (iA CL hgo (af 0) rfl T.isinstance rfl (by decide)) (@ae _ _ _ _ _ _ _ (iA CL hgo (af 0) rfl T.isinstance rfl (by decide)) ai rfl) rfl) rfl))) rfl (.inl rfl))
   (@aw _ _ _ _ _ _ _ (@fK _ _ _ _ _ _ _ _ _ _ (PW.pt (@iI _ _ _ _ _ _ _ _ _ (@di _ _ _ _ _ _ (@cb _ _ _ _ _ _ dM (BI CL hgo (af 0) rfl T.isinstance rfl T.ValueError) (fun _=>rfl))) (@gz _ _ _ _ _ _ (@b9 _ _ _ _ _ _ _ _ _ _ _ (fY hr.units) iQ (lG PySem.F.slot_list_count PySem.F.type_list_count vt uN (af 1) (@ae _ _ _ _ _ _ _ gr ai rfl)) av (bL _))))) (@aC _ _ _ _ _ (@bo _ _ _ _ _ _ bu)) bt)
   (@aC _ _ _ _ _ (@bo _ _ _ _ _ _ (@eC _ _ _ _ _ _ _ _ _ _ cT eY (@cM _ _ _ _ _ _ _ _ (@ae _ _ _ _ _ _ _ bu (@ae _ _ _ _ _ _ _ bu (@ae _ _ _ _ _ _ _ bu (@ae _ _ _ _ _ _ _ bu (@ae _ _ _ _ _ _ _ bu (@ae _ _ _ _ _ _ _ bu (@ae _ _ _ _ _ _ _ bu ai rfl) rfl) rfl) rfl) rfl) rfl) rfl)) (lG PySem.F.slot_list_index PySem.F.type_list_index vm um (af 1) (@ae _ _ _ _ _ _ _ gr ai rfl)) (fun _ _=>rfl)))))))
theorem gk:aN ["_law_e", "_law_kind"] ["_law_e"] (ak (aK 30)):=⟨rfl,rfl,rfl,by decide +kernel,rfl,by decide +kernel,by decide +kernel⟩
theorem jF (D:a9 K mg "_law_refused" (aK 30)) (T:Blt mg) (hgo:g=gOf mg) (jN:CIm K mg "NoText" (aK 7) ["row"]) (dD:ze P w K mg base g "_law_kind_of" 1 ["_law_e"] eO):ze P w K mg base g "_law_refused" 2 ["_law_e"] bg:=by
 obtain⟨f,fd,hm,F⟩:=D
 obtain⟨uZ,tB,jI,jj,j1,j3⟩:=dD
 refine⟨f,fd,A4 F gk (fun cdv A outer s H E hr=>?_),F.kp,F.binds (fun _ _ _ _ _ _ us hl=>gR hl fun _=>rfl),hm⟩
 exact(@aw _ _ _ _ _ _ _ (@cG _ _ _ _ _ _ 1 _ _ gk.nd rfl (by first | exact Or.inl rfl | exact Or.inr rfl) (wF (jI.mono (by decide)) hr rfl j3 jj j1 (@ae _ _ _ _ _ _ _ (af 0) ai rfl) (ao aD)) rfl (.inl rfl))
   (@aw _ _ _ _ _ _ _ (@fK _ _ _ _ _ _ _ _ _ _ (@b9 _ _ _ _ _ _ _ _ _ _ _ (ji hr.units) nG (af 1) bu (bL _)) (@aC _ _ _ _ _ (@bo _ _ _ _ _ _ (@eL _ _ _ _ _ _ _ (@ae _ _ _ _ _ _ _ (af 1) (@ae _ _ _ _ _ _ _ (yZ (af 0) jN hgo (by decide)) ai rfl) rfl)))) bt)
   (@aC _ _ _ _ _ (@bo _ _ _ _ _ _ (@qu _ _ _ _ _ _ _ _ _ _ (@b9 _ _ _ _ _ _ _ _ _ _ _ (ji hr.units) nG (af 1) bu (bL _)) (@eL _ _ _ _ _ _ _ (@ae _ _ _ _ _ _ _ (af 1) (@ae _ _ _ _ _ _ _ qe (@ae _ _ _ _ _ _ _ qe ai rfl) rfl) rfl)) (@eL _ _ _ _ _ _ _ (@ae _ _ _ _ _ _ _ (af 1) ai rfl)))))))
theorem jK (D:a9 K mg "order_needed" (aK 15)) (T:Blt mg) (hgo:g=gOf mg) (CL:my K mg) (aM:Has P w K mg base g "order_good" 3 ["thing"] aF):uo P w K mg base g "order_needed" 4 ["thing"] cy:=by
 obtain⟨f,fd,hm,F⟩:=D
 obtain⟨eB,dN,bF,bC,bH,bG,_⟩:=aM
 obtain⟨A_NoOrder,j5⟩:=CL.at_ "NoOrder" (by decide)
 refine⟨f,fd,xc F gi (fun cdv A outer s H E hr fl pl po=>?_),F.kp,F.binds (fun _ _ _ _ _ _ us hl=>gR hl fun _=>rfl),hm⟩
 exact(@aC _ _ _ _ _ (@fK _ _ _ _ _ _ _ _ _ _ (@AL _ _ _ _ _ (@di _ _ _ _ _ _ (@cb _ _ _ _ _ _ dM (aG (bF.mono (by decide)) hr rfl bG bC bH (@ae _ _ _ _ _ _ _ (af 0) ai rfl) (ao aD)) (fun _=>rfl)))) (@aC _ _ _ _ _ (sV fl pl rfl rfl j5 (ju hgo j5) ((CL.one _ (by decide) _ j5).2.2 rfl))) bt))
theorem ku (D:a9 K mg "order_shown" (aK 19)) (T:Blt mg) (du:uo P w K mg base g "order_needed" 4 ["thing"] cy):uo P w K mg base g "order_shown" 5 ["order"] bQ:=by
 obtain⟨f,fd,hm,F⟩:=D
 obtain⟨uH,tU,jO,jx,jE,jT⟩:=du
 refine⟨f,fd,xc F gU (fun cdv A outer s H E hr fl pl po=>?_),F.kp,F.binds (fun _ _ _ _ _ _ us hl=>gR hl fun _=>rfl),hm⟩
 exact(@aw _ _ _ _ _ _ _ (oB (vJ fl pl (jO.mono (by decide)) hr rfl jT jx jE (@ae _ _ _ _ _ _ _ (@qg _ _ _ _ _ (af 0)) ai rfl) (ao aD)))
   (@aC _ _ _ _ _ (@E5 _ _ _ _ _ (@bo _ _ _ _ _ _ (ly PySem.F.slot_str_join PySem.F.type_str_join i7 jb bu (@ae _ _ _ _ _ _ _ (cE (osc:=ak (aK 19)) [] ["number"] rfl rfl rfl rfl (by decide +kernel) ⟨by decide +kernel,by decide +kernel,rfl,by decide +kernel,rfl,by decide +kernel⟩ (@dg _ _ _ _ _ _ (af 0))
    (fun cl C aJ aT fp=>dY) (fun cl C aJ aT fp=>(bZ jH om rfl T.str rfl (@ae _ _ _ _ _ _ _ (af 0) ai rfl)))) ai rfl))))))
theorem jg (D:a9 K mg "orders_shown" (aK 20)) (T:Blt mg) (hgo:g=gOf mg) (CL:my K mg) (bN:Has P w K mg base g "orders_good" 4 ["thing"] aO) (ba:Has P w K mg base g "order_shown" 5 ["order"] aU):uo P w K mg base g "orders_shown" 6 ["some"] bB:=by
 obtain⟨f,fd,hm,F⟩:=D
 obtain⟨kH,jA,dO,dX,dQ,d9,_⟩:=bN
 obtain⟨gj,fO,cg,cj,ck,cf,_⟩:=ba
 obtain⟨A_NoRow,pj⟩:=CL.at_ "NoRow" (by decide)
 refine⟨f,fd,xc F gf (fun cdv A outer s H E hr fl pl po=>?_),F.kp,F.binds (fun _ _ _ _ _ _ us hl=>gR hl fun _=>rfl),hm⟩
 exact(@aw _ _ _ _ _ _ _ (@fK _ _ _ _ _ _ _ _ _ _ (@AL _ _ _ _ _ (@di _ _ _ _ _ _ (@cb _ _ _ _ _ _ dM (aG (dO.mono (by decide)) hr rfl d9 dX dQ (@ae _ _ _ _ _ _ _ (af 0) ai rfl) (ao aD)) (fun _=>rfl)))) (@aC _ _ _ _ _ (sV fl pl rfl rfl pj (ju hgo pj) ((CL.one _ (by decide) _ pj).2.2 rfl))) bt)
   (@aC _ _ _ _ _ (@bo _ _ _ _ _ _ (ly PySem.F.slot_str_join PySem.F.type_str_join i7 jb (@qg _ _ _ _ _ bu) (@ae _ _ _ _ _ _ _ (@qg _ _ _ _ _ (cE (osc:=ak (aK 20)) [] ["order"] rfl rfl rfl rfl (by decide +kernel) ⟨by decide +kernel,by decide +kernel,rfl,by decide +kernel,rfl,by decide +kernel⟩ (@dg _ _ _ _ _ _ (af 0))
    (fun cl C aJ aT fp=>dY) (fun cl C aJ aT fp=>(aG (cg.mono (by decide)) hr rfl cf cj ck (@ae _ _ _ _ _ _ _ (af 0) ai rfl) (ao aD))))) ai rfl)))))
theorem iW:aN ["_law_way", "_law_thing", "_law_e"] ["_law_way", "_law_thing"] (ak (aK 32)):=⟨rfl,rfl,rfl,by decide +kernel,rfl,by decide +kernel,by decide +kernel⟩
theorem m3 (D:a9 K mg "_law_told" (aK 32)) (T:Blt mg) (hgo:g=gOf mg) (CL:my K mg) (dy:ze P w K mg base g "_law_refused" 2 ["_law_e"] bg) (dS:uo P w K mg base g "order_shown" 5 ["order"] bQ) (dA:uo P w K mg base g "orders_shown" 6 ["some"] bB):Has P w K mg base g "_law_told" 7 ["_law_way", "_law_thing"] bc:=by
 obtain⟨f,fd,hm,F⟩:=D
 obtain⟨vj,tQ,jk,je,jq,jM⟩:=dy
 obtain⟨vC,vq,kI,kD,kl,dW⟩:=dS
 obtain⟨uQ,tf,js,jP,jm,dz⟩:=dA
 have TE_0:xY P w K mg base g 6 1 kf:=by
  intro x m e
  unfold kf at e
  by_cases dZ:x="order_shown"
  ·rw[if_pos dZ] at e;cases e;rw[dZ];exact⟨_,_,_,ju hgo dW,kI.mono (by decide),kD,kl⟩
  rw[if_neg dZ] at e
  by_cases dB:x="orders_shown"
  ·rw[if_pos dB] at e;cases e;rw[dB];exact⟨_,_,_,ju hgo dz,js.mono (by decide),jP,jm⟩
  rw[if_neg dB] at e
  cases e
 refine⟨f,fd,gn F iW (fun cdv A outer s H E hr=>?_),F.kp,F.binds (fun _ _ _ _ _ _ us hl=>uT hl fun _ _=>rfl),hm,bz F⟩
 exact(@aC _ _ _ _ _ (Dq (i:=2) CL hgo ⟨rfl,rfl,rfl⟩ iW.nd rfl rfl rfl rfl (jk.mono (by decide)) (yk hr) jM je jq (fun pn xe E fl pl po=>(@aC _ _ _ _ _ (@bo _ _ _ _ _ _ (uG fl pl TE_0 hr (@qg _ _ _ _ _ (@eC _ _ _ _ _ _ _ _ _ _ cT eY (@cM _ _ _ _ _ _ _ _ (@ae _ _ _ _ _ _ _ (A1 rfl dW (ju hgo dW)) (@ae _ _ _ _ _ _ _ (A1 rfl dz (ju hgo dz)) ai rfl) rfl)) (af 0) (fun _ _=>rfl))) (@ae _ _ _ _ _ _ _ (@qg _ _ _ _ _ (af 1)) ai rfl) (ao aD)))))))
theorem cS:aN ["_law_script", "_law_cell", "_law_pen", "_law_many", "_law_most", "_law_some", "_law_kept", "_law_text_here", "_law_turn", "_law_found", "_law_bad_here", "_law_spot", "_law_wrong", "_law_thing"] ["_law_script"] (ak (aK 35)):=⟨rfl,rfl,rfl,by decide +kernel,rfl,by decide +kernel,by decide +kernel⟩
theorem y_ (D:a9 K mg "law" (aK 35)) (T:Blt mg) (dw:Has P w K mg base g "_law_cell_at" 1 ["_law_script", "_law_k"] bD) (dP:Has P w K mg base g "_law_pen_of" 1 ["_law_cell"] bR) (bf:Has P w K mg base g "_law_draw" 2 ["_law_pen", "_law_many"] aq) (eK:Has P w K mg base g "_law_order" 3 ["_law_pen", "_law_n"] bx) (fu:Has P w K mg base g "_law_text" 1 ["_law_order_here"] bh) (dC:Has P w K mg base g "orders_shown" 6 ["some"] bJ) (d_:Has P w K mg base g "orders_read" 4 ["text"] cq) (ba:Has P w K mg base g "order_shown" 5 ["order"] aU) (fS:Has P w K mg base g "_law_bad" 3 ["_law_pen", "_law_order_here"] cz) (fD:Has P w K mg base g "_law_told" 7 ["_law_way", "_law_thing"] bc):Has P w K mg base g "law" 8 ["_law_script"] lV:=by
 obtain⟨f,fd,hm,F⟩:=D
 obtain⟨ub,sO,jY,jc,jw,jD,_⟩:=dw
 obtain⟨vE,vf,kG,kB,kL,kr,_⟩:=dP
 obtain⟨hX,gC,aW,aV,aY,aX,_⟩:=bf
 obtain⟨xb,vD,ll,l8,l5,lZ,_⟩:=eK
 obtain⟨yN,xN,h_,ic,hZ,iq,_⟩:=fu
 obtain⟨uy,tR,jt,j4,jl,jW,_⟩:=dC
 obtain⟨vA,vz,kz,kN,kJ,kn,_⟩:=d_
 obtain⟨gj,fO,cg,cj,ck,cf,_⟩:=ba
 obtain⟨Ax,yO,oF,oG,oR,oj,_⟩:=fS
 obtain⟨yM,xX,fm,fF,fB,ff,_⟩:=fD
 refine⟨f,fd,oJ (gn F cS (fun cdv A outer s H E hr=>?_)),F.kp,F.binds (fun _ _ _ _ _ _ us hl=>gR hl fun _=>rfl),hm,bz F⟩
 exact(@aw _ _ _ _ _ _ _ (m5 PassesOwn.never rfl (@dg _ _ _ _ _ _ (@a8 _ _ _ _ _ _ _ _ _ _ _ bU bX (@cM _ _ _ _ _ _ _ _ (@ae _ _ _ _ _ _ _ (aG (jY.mono (by decide)) hr rfl jD jc jw (@ae _ _ _ _ _ _ _ (af 0) (@ae _ _ _ _ _ _ _ av ai rfl) rfl) (ao (ao aD))) ai rfl)) (eP (af 0) (@eA _ _ _ _ _ av) (@eA _ _ _ _ _ av)))) (cZ (i:=1) cS.nd rfl (by first | exact Or.inl rfl | exact Or.inr rfl)) i3 (@aw _ _ _ _ _ _ _ (@cG _ _ _ _ _ _ 2 _ _ cS.nd rfl (by first | exact Or.inl rfl | exact Or.inr rfl) (aG (kG.mono (by decide)) hr rfl kr kB kL (@ae _ _ _ _ _ _ _ (af 1) ai rfl) (ao aD)) rfl (.inl rfl))
   (@aw _ _ _ _ _ _ _ (Ed (i:=3) (j:=4) rfl cS.nd rfl rfl (@eL _ _ _ _ _ _ _ (@ae _ _ _ _ _ _ _ (@eC _ _ _ _ _ _ _ _ _ _ cT eY (@cM _ _ _ _ _ _ _ _ (@ae _ _ _ _ _ _ _ (@a8 _ _ _ _ _ _ _ _ _ _ _ bU bX av (aG (aW.mono (by decide)) hr rfl aX aV aY (@ae _ _ _ _ _ _ _ (af 2) (@ae _ _ _ _ _ _ _ av ai rfl) rfl) (ao (ao aD)))) (@ae _ _ _ _ _ _ _ av (@ae _ _ _ _ _ _ _ (@a8 _ _ _ _ _ _ _ _ _ _ _ bU bX av (aG (aW.mono (by decide)) hr rfl aX aV aY (@ae _ _ _ _ _ _ _ (af 2) (@ae _ _ _ _ _ _ _ av ai rfl) rfl) (ao (ao aD)))) ai rfl) rfl) rfl)) (aG (aW.mono (by decide)) hr rfl aX aV aY (@ae _ _ _ _ _ _ _ (af 2) (@ae _ _ _ _ _ _ _ av ai rfl) rfl) (ao (ao aD))) (fun _ _=>rfl)) (@ae _ _ _ _ _ _ _ (@a8 _ _ _ _ _ _ _ _ _ _ _ bU bX av (aG (aW.mono (by decide)) hr rfl aX aV aY (@ae _ _ _ _ _ _ _ (af 2) (@ae _ _ _ _ _ _ _ av ai rfl) rfl) (ao (ao aD)))) ai rfl) rfl)))
   (@aw _ _ _ _ _ _ _ (rz (osc:=ak (aK 35)) [2,4] ["_law_turn", "_law_pen", "_law_most"] rfl rfl rfl rfl (by decide +kernel) ⟨by decide +kernel,by decide +kernel,rfl,by decide +kernel,rfl,by decide +kernel⟩ (pK rfl T.range (@ae _ _ _ _ _ _ _ (af 3) ai rfl))
    (fun cl C aJ aT fp=>dY) (fun cl C aJ aT fp=>(aG (ll.mono (by decide)) hr rfl lZ l8 l5 (@ae _ _ _ _ _ _ _ (af 1) (@ae _ _ _ _ _ _ _ (@a8 _ _ _ _ _ _ _ _ _ _ _ bU bX av (aG (aW.mono (by decide)) hr rfl aX aV aY (@ae _ _ _ _ _ _ _ (af 1) (@ae _ _ _ _ _ _ _ (af 2) ai rfl) rfl) (ao (ao aD)))) ai rfl) rfl) (ao (ao aD)))) (i:=5) cS.nd rfl)
   (@aw _ _ _ _ _ _ _ (@cG _ _ _ _ _ _ 6 _ _ cS.nd rfl (by first | exact Or.inl rfl | exact Or.inr rfl) (a_ (dh hr.gd hr.units) de rfl T.repr PyProof.Rows.boot_repr (@ae _ _ _ _ _ _ _ (af 5) ai rfl)) rfl (.inl rfl))
   (@aw _ _ _ _ _ _ _ (@cG _ _ _ _ _ _ 7 _ _ cS.nd rfl (by first | exact Or.inl rfl | exact Or.inr rfl) (ly PySem.F.slot_str_join PySem.F.type_str_join i7 jb bu (@ae _ _ _ _ _ _ _ (cE (osc:=ak (aK 35)) [] ["_law_order_here"] rfl rfl rfl rfl (by decide +kernel) ⟨by decide +kernel,by decide +kernel,rfl,by decide +kernel,rfl,by decide +kernel⟩ (@dg _ _ _ _ _ _ (af 5))
    (fun cl C aJ aT fp=>dY) (fun cl C aJ aT fp=>(aG (h_.mono (by decide)) hr rfl iq ic hZ (@ae _ _ _ _ _ _ _ (af 0) ai rfl) (ao aD)))) ai rfl)) rfl (.inl rfl))
   (@aw _ _ _ _ _ _ _ (@fK _ _ _ _ _ _ _ _ _ _ (PW.pt (@iI _ _ _ _ _ _ _ _ _ (@b9 _ _ _ _ _ _ _ _ _ _ _ (fY hr.units) iQ (a_ (dh hr.gd hr.units) de rfl T.repr PyProof.Rows.boot_repr (@ae _ _ _ _ _ _ _ (aG (jt.mono (by decide)) hr rfl jW j4 jl (@ae _ _ _ _ _ _ _ (af 5) ai rfl) (ao aD)) ai rfl)) (a_ (dh hr.gd hr.units) de rfl T.repr PyProof.Rows.boot_repr (@ae _ _ _ _ _ _ _ (af 7) ai rfl)) (bL _)) (@gz _ _ _ _ _ _ (@b9 _ _ _ _ _ _ _ _ _ _ _ (fY hr.units) iQ (a_ (dh hr.gd hr.units) de rfl T.repr PyProof.Rows.boot_repr (@ae _ _ _ _ _ _ _ (af 5) ai rfl)) (af 6) (bL _))))) (@aC _ _ _ _ _ (@bo _ _ _ _ _ _ gr)) bt)
   (@aw _ _ _ _ _ _ _ (m5 PassesOwn.never rfl (pK rfl T.range (@ae _ _ _ _ _ _ _ av ai rfl)) (cZ (i:=8) cS.nd rfl (by first | exact Or.inl rfl | exact Or.inr rfl)) i3 (@aw _ _ _ _ _ _ _ (@cG _ _ _ _ _ _ 9 _ _ cS.nd rfl (by first | exact Or.inl rfl | exact Or.inr rfl) (aG (kz.mono (by decide)) hr rfl kn kN kJ (@ae _ _ _ _ _ _ _ (af 7) ai rfl) (ao aD)) rfl (.inl rfl))
   (@aw _ _ _ _ _ _ _ (@fK _ _ _ _ _ _ _ _ _ _ (@b9 _ _ _ _ _ _ _ _ _ _ _ (fY hr.units) iQ (a_ (dh hr.gd hr.units) de rfl T.repr PyProof.Rows.boot_repr (@ae _ _ _ _ _ _ _ (af 9) ai rfl)) (af 6) (bL _)) (@aC _ _ _ _ _ (@bo _ _ _ _ _ _ gr)) bt)
   (@aC _ _ _ _ _ (oB (lG PySem.F.slot_list_append PySem.F.type_list_append jS nh (af 9) (@ae _ _ _ _ _ _ _ (@eL _ _ _ _ _ _ _ ai) ai rfl)))))))
   (@aw _ _ _ _ _ _ _ (@fK _ _ _ _ _ _ _ _ _ _ (@b9 _ _ _ _ _ _ _ _ _ _ _ (fY hr.units) iQ (a_ (dh hr.gd hr.units) de rfl T.repr PyProof.Rows.boot_repr (@ae _ _ _ _ _ _ _ (cE (osc:=ak (aK 35)) [] ["_law_order_here"] rfl rfl rfl rfl (by decide +kernel) ⟨by decide +kernel,by decide +kernel,rfl,by decide +kernel,rfl,by decide +kernel⟩ (@dg _ _ _ _ _ _ (af 5))
    (fun cl C aJ aT fp=>dY) (fun cl C aJ aT fp=>(aG (cg.mono (by decide)) hr rfl cf cj ck (@ae _ _ _ _ _ _ _ (af 0) ai rfl) (ao aD)))) ai rfl)) (a_ (dh hr.gd hr.units) de rfl T.repr PyProof.Rows.boot_repr (@ae _ _ _ _ _ _ _ (cE (osc:=ak (aK 35)) [] ["_law_order_here"] rfl rfl rfl rfl (by decide +kernel) ⟨by decide +kernel,by decide +kernel,rfl,by decide +kernel,rfl,by decide +kernel⟩ (@dg _ _ _ _ _ _ (af 5))
    (fun cl C aJ aT fp=>dY) (fun cl C aJ aT fp=>(aG (h_.mono (by decide)) hr rfl iq ic hZ (@ae _ _ _ _ _ _ _ (af 0) ai rfl) (ao aD)))) ai rfl)) (bL _)) (@aC _ _ _ _ _ (@bo _ _ _ _ _ _ gr)) bt)
   (@aw _ _ _ _ _ _ _ (@cG _ _ _ _ _ _ 10 _ _ cS.nd rfl (by first | exact Or.inl rfl | exact Or.inr rfl) (aG (oF.mono (by decide)) hr rfl oj oG oR (@ae _ _ _ _ _ _ _ (af 2) (@ae _ _ _ _ _ _ _ (@eC _ _ _ _ _ _ _ _ _ _ cT eY (af 5) av (fun _ _=>rfl)) ai rfl) rfl) (ao (ao aD))) rfl (.inl rfl))
   (@aw _ _ _ _ _ _ _ (@cG _ _ _ _ _ _ 11 _ _ cS.nd rfl (by first | exact Or.inl rfl | exact Or.inr rfl) (aG (aW.mono (by decide)) hr rfl aX aV aY (@ae _ _ _ _ _ _ _ (af 2) (@ae _ _ _ _ _ _ _ (af 3) ai rfl) rfl) (ao (ao aD))) rfl (.inl rfl))
   (@aw _ _ _ _ _ _ _ (@cG _ _ _ _ _ _ 12 _ _ cS.nd rfl (by first | exact Or.inl rfl | exact Or.inr rfl) (@cM _ _ _ _ _ _ _ _ (@ae _ _ _ _ _ _ _ (@a8 _ _ _ _ _ _ _ _ _ _ _ bU bX (@a8 _ _ _ _ _ _ _ _ _ _ _ bU bX (eP (af 5) fU (@eA _ _ _ _ _ (af 11))) (@cM _ _ _ _ _ _ _ _ (@ae _ _ _ _ _ _ _ (af 10) ai rfl))) (eP (af 5) (@eA _ _ _ _ _ (@a8 _ _ _ _ _ _ _ _ _ _ _ bU bX (af 11) av)) fU)) (@ae _ _ _ _ _ _ _ (bZ dG iO rfl T.tuple PyProof.Rows.boot_tuple (@ae _ _ _ _ _ _ _ (af 5) ai rfl)) (@ae _ _ _ _ _ _ _ (@cM _ _ _ _ _ _ _ _ ai) (@ae _ _ _ _ _ _ _ (eP (@a8 _ _ _ _ _ _ _ _ _ _ _ sf rZ (af 5) av) fU (@eA _ _ _ _ _ av)) (@ae _ _ _ _ _ _ _ lC (@ae _ _ _ _ _ _ _ bu (@ae _ _ _ _ _ _ _ (@cM _ _ _ _ _ _ _ _ (@ae _ _ _ _ _ _ _ (af 5) ai rfl)) ai rfl) rfl) rfl) rfl) rfl) rfl) rfl)) rfl (.inl rfl))
   (@aw _ _ _ _ _ _ _ (@cG _ _ _ _ _ _ 12 _ _ cS.nd rfl (by first | exact Or.inl rfl | exact Or.inr rfl) (@a8 _ _ _ _ _ _ _ _ _ _ _ bU bX (af 12) (@cM _ _ _ _ _ _ _ _ (@ae _ _ _ _ _ _ _ (@eC _ _ _ _ _ _ _ _ _ _ cT eY (af 5) av (fun _ _=>rfl)) (@ae _ _ _ _ _ _ _ tq ai rfl) rfl))) rfl (.inl rfl))
   (@aw _ _ _ _ _ _ _ (@fK _ _ _ _ _ _ _ _ _ _ (PW.pt (@iI _ _ _ _ _ _ _ _ _ (@b9 _ _ _ _ _ _ _ _ _ _ _ (fY hr.units) iQ (aG (fm.mono (by decide)) hr rfl ff fF fB (@ae _ _ _ _ _ _ _ av (@ae _ _ _ _ _ _ _ (af 10) ai rfl) rfl) (ao (ao aD))) (@eL _ _ _ _ _ _ _ (@ae _ _ _ _ _ _ _ bu ai rfl)) (bL _)) (@gz _ _ _ _ _ _ (@b9 _ _ _ _ _ _ _ _ _ _ _ (fY hr.units) iQ (aG (fm.mono (by decide)) hr rfl ff fF fB (@ae _ _ _ _ _ _ _ av (@ae _ _ _ _ _ _ _ (af 5) ai rfl) rfl) (ao (ao aD))) (@eL _ _ _ _ _ _ _ (@ae _ _ _ _ _ _ _ bu ai rfl)) (bL _))))) (@aC _ _ _ _ _ (@bo _ _ _ _ _ _ gr)) bt)
   (@aC _ _ _ _ _ (m5 PassesOwn.never rfl (@dg _ _ _ _ _ _ (af 12)) (cZ (i:=13) cS.nd rfl (by first | exact Or.inl rfl | exact Or.inr rfl)) i3 (@aw _ _ _ _ _ _ _ (@cG _ _ _ _ _ _ 6 _ _ cS.nd rfl (by first | exact Or.inl rfl | exact Or.inr rfl) (a_ (dh hr.gd hr.units) de rfl T.repr PyProof.Rows.boot_repr (@ae _ _ _ _ _ _ _ (af 13) ai rfl)) rfl (.inl rfl))
   (@aC _ _ _ _ _ (@fK _ _ _ _ _ _ _ _ _ _ (PW.pt (@iI _ _ _ _ _ _ _ _ _ (@b9 _ _ _ _ _ _ _ _ _ _ _ (fY hr.units) iQ (aG (fm.mono (by decide)) hr rfl ff fF fB (@ae _ _ _ _ _ _ _ av (@ae _ _ _ _ _ _ _ (af 13) ai rfl) rfl) (ao (ao aD))) (@eL _ _ _ _ _ _ _ (@ae _ _ _ _ _ _ _ bu ai rfl)) (bL _)) (@gz _ _ _ _ _ _ (@b9 _ _ _ _ _ _ _ _ _ _ _ (fY hr.units) iQ (a_ (dh hr.gd hr.units) de rfl T.repr PyProof.Rows.boot_repr (@ae _ _ _ _ _ _ _ (af 13) ai rfl)) (af 6) (bL _))))) (@aC _ _ _ _ _ (@bo _ _ _ _ _ _ gr)) bt)))))))))))))))))))
   (@aC _ _ _ _ _ (@bo _ _ _ _ _ _ gr)))
theorem rh:aN ["self", "row"] ["self", "row"] (ak (cX (aK 7))):=⟨rfl,rfl,rfl,by decide +kernel,rfl,by decide +kernel,by decide +kernel⟩
theorem pP:∀y∈(["self", "row"]:List Str),(ak (cX (aK 7))).names.lookup y=some .local:=by decide +kernel
theorem rC:lg (bS (cX (aK 7))) ["row"]:=lg.cons rfl (.nil)
theorem sk:∀(kV doc pm:Value) (an:Option Addr) (cdv ct:Value) (us:List Value),us.length=(["self", "row"]:List Str).length->bindArgs (PySem.W.fnOf "__init__" "NoText.__init__" (eZ (cX (aK 7))) (bS (cX (aK 7))) (ak (cX (aK 7))) .none kV doc pm an cdv ct) ⟨us,[]⟩=pure ((["self", "row"]:List Str).zip us):=fun _ _ _ _ _ _ us hl=>uT hl fun _ _=>rfl
end
structure Text (K:PySem.W.Frag):Prop where
 eW:cJ K "_law_cell_at" (aK 25)
 fA:cJ K "_law_pen_of" (aK 27)
 gM:cJ K "_law_next" (aK 26)
 gw:cJ K "_law_draw" (aK 28)
 f7:cJ K "_law_order" (aK 31)
 gW:cJ K "_law_text" (aK 33)
 iD:cJ K "is_whole" (aK 10)
 gv:cJ K "is_within" (aK 11)
 f_:cJ K "order_good" (aK 14)
 fE:cJ K "orders_good" (aK 21)
 eS:cJ K "order_needed" (aK 15)
 fw:cJ K "order_shown" (aK 19)
 eQ:cJ K "orders_shown" (aK 20)
 fq:cJ K "number_read" (aK 23)
 fv:cJ K "orders_read" (aK 22)
 iw:cJ K "_law_bad" (aK 34)
 eU:cJ K "_law_kind_of" (aK 29)
 eD:cJ K "_law_refused" (aK 30)
 gF:cJ K "_law_told" (aK 32)
 xM:cJ K "law" (aK 35)
 cls:w8 K
 jC:CIs K "NoText" (aK 7) ["row"]
 f6:PySem.W.nsIn K mainGlobals "ValueError" = some none
 yz:PySem.W.nsIn K mainGlobals "all" = some none
 qX:PySem.W.nsIn K mainGlobals "bool" = some none
 gG:PySem.W.nsIn K mainGlobals "enumerate" = some none
 xG:PySem.W.nsIn K mainGlobals "int" = some none
 fT:PySem.W.nsIn K mainGlobals "isinstance" = some none
 wX:PySem.W.nsIn K mainGlobals "len" = some none
 rD:PySem.W.nsIn K mainGlobals "list" = some none
 wW:PySem.W.nsIn K mainGlobals "max" = some none
 oA:PySem.W.nsIn K mainGlobals "range" = some none
 su:PySem.W.nsIn K mainGlobals "repr" = some none
 wR:PySem.W.nsIn K mainGlobals "set" = some none
 wu:PySem.W.nsIn K mainGlobals "str" = some none
 pw:PySem.W.nsIn K mainGlobals "tuple" = some none
 cA:∃t,PySem.W.nsIn K mainGlobals "MOST_FIGURES" = some (some (Value.int 20 t))
 cH:∃t,PySem.W.nsIn K mainGlobals "MOST_NUMBERS" = some (some (Value.int 20 t))
 dJ:∃t,PySem.W.nsIn K mainGlobals "MOST_ROWS" = some (some (Value.int 20 t))
theorem all_mk {P:Program} {w:World} {K:PySem.W.Frag} {h:Heap} {mg:Str->Option Value} {fa:Addr} (X:K.In h) (G:h.Ns mainGlobals mg) (hfa:mg "law" = some (.ref fa)) (t:Text K) :
  ∃fd:FuncData,(∀(s:Shared) (v:Value),BindsTo s fd ⟨[v],[]⟩ [("_law_script", v)])/\∀base:Heap,K.In base->base.Ns mainGlobals mg->dq P w K mg base CX0 8 fa fd ["_law_script"] (spM K (gOf mg) 1 lV):=by
 have T:Blt mg:=⟨PySem.W.mg_none_of X G t.f6,PySem.W.mg_none_of X G t.yz,PySem.W.mg_none_of X G t.qX,PySem.W.mg_none_of X G t.gG,PySem.W.mg_none_of X G t.xG,PySem.W.mg_none_of X G t.fT,PySem.W.mg_none_of X G t.wX,PySem.W.mg_none_of X G t.rD,PySem.W.mg_none_of X G t.wW,PySem.W.mg_none_of X G t.oA,PySem.W.mg_none_of X G t.su,PySem.W.mg_none_of X G t.wR,PySem.W.mg_none_of X G t.wu,PySem.W.mg_none_of X G t.pw⟩
 obtain⟨gK,cA⟩:=t.cA
 have eE:=PySem.W.mg_of X G cA
 obtain⟨gE,cH⟩:=t.cH
 have eG:=PySem.W.mg_of X G cH
 obtain⟨e8,dJ⟩:=t.dJ
 have cV:=PySem.W.mg_of X G dJ
 have l7:=a9.of X G t.eW
 have mR:=a9.of X G t.fA
 have qE:=a9.of X G t.gM
 have pW:=a9.of X G t.gw
 have pA:=a9.of X G t.f7
 have p5:=a9.of X G t.gW
 have qW:=a9.of X G t.iD
 have qd:=a9.of X G t.gv
 have oW:=a9.of X G t.f_
 have mI:=a9.of X G t.fE
 have gD:=a9.of X G t.eS
 have ib:=a9.of X G t.fw
 have gH:=a9.of X G t.eQ
 have mO:=a9.of X G t.fq
 have mM:=a9.of X G t.fv
 have rW:=a9.of X G t.iw
 have md:=a9.of X G t.eU
 have lp:=a9.of X G t.eD
 have qv:=a9.of X G t.gF
 have Ep:=a9.of X G t.xM
 have CL:=my.of X G t.cls
 have jN:=CIm.of X G t.jC
 obtain⟨f,fd,hm,F⟩:=Ep
 have e:=hfa.symm.trans hm
 cases e
 refine⟨fd,?_,fun base _ _=>?_⟩
 ·obtain⟨oc,od,kV,doc,pm,an,cdv,ct,osl,rfl,lk,hcd⟩:=F.ex
  exact fun s v=>.of_eq rfl
 ·have dw:=jB (P:=P) (w:=w) (base:=base) (g:=gOf mg) l7 T
  have dP:=km (P:=P) (w:=w) (base:=base) (g:=gOf mg) mR T
  have fi:=mW (P:=P) (w:=w) (base:=base) (g:=gOf mg) qE T
  have bf:=mT (P:=P) (w:=w) (base:=base) (g:=gOf mg) pW T fi
  have eK:=mw (P:=P) (w:=w) (base:=base) (g:=gOf mg) pA T bf
  have fu:=mZ (P:=P) (w:=w) (base:=base) (g:=gOf mg) p5 T
  have fR:=oV (P:=P) (w:=w) (base:=base) (g:=gOf mg) qW T
  have fC:=mH (P:=P) (w:=w) (base:=base) (g:=gOf mg) qd T fR
  have aM:=lx (P:=P) (w:=w) (base:=base) (g:=gOf mg) oW T eG fC
  have bN:=kx (P:=P) (w:=w) (base:=base) (g:=gOf mg) mI T cV aM
  have dv:=jU (P:=P) (w:=w) (base:=base) (g:=gOf mg) gD T aM
  have ba:=kC (P:=P) (w:=w) (base:=base) (g:=gOf mg) ib T dv
  have dC:=jf (P:=P) (w:=w) (base:=base) (g:=gOf mg) gH T bN ba
  have d8:=kA (P:=P) (w:=w) (base:=base) (g:=gOf mg) mO T eE
  have d_:=kO (P:=P) (w:=w) (base:=base) (g:=gOf mg) mM T cV d8 aM
  have fS:=oZ (P:=P) (w:=w) (base:=base) (g:=gOf mg) rW T bf
  have dD:=jG (P:=P) (w:=w) (base:=base) (g:=gOf mg) md T rfl CL
  have dy:=jF (P:=P) (w:=w) (base:=base) (g:=gOf mg) lp T rfl jN dD
  have du:=jK (P:=P) (w:=w) (base:=base) (g:=gOf mg) gD T rfl CL aM
  have dS:=ku (P:=P) (w:=w) (base:=base) (g:=gOf mg) ib T du
  have dA:=jg (P:=P) (w:=w) (base:=base) (g:=gOf mg) gH T rfl CL bN ba
  have fD:=m3 (P:=P) (w:=w) (base:=base) (g:=gOf mg) qv T rfl CL dy dS dA
  have An:=y_ (P:=P) (w:=w) (base:=base) (g:=gOf mg) ⟨_,_,hm,F⟩ T dw dP bf eK fu dC d_ ba fS fD
  exact B5 F hm An
theorem walk {l:PySem.W.OpenLaw} {q:Program} {loose:List Str} {XP:(Str->Option Value)->Heap->Prop} {YP:World->Heap->Prop} {d:DefRec} {K:Params->PySem.W.Frag} (hn:l.most=some 63) (hdf:d.params.defaults=[])
  (hY:∀(w:World) (h:Heap),YP w h->(K w.params).In h)
  (ok:∀ns:List Int,ns.length<=63->∃h,lV [.scr (ns.map D.int)] []=.ok (.bl true) h)
  (F:∀(w:World) (mg:Str->Option Value) (fa:Addr) (h:Heap),(K w.params).In h->h.Ns mainGlobals mg->mg d.name=some (.ref fa) →
   ∃fd:FuncData,(∀(s:Shared) (u:Value),BindsTo s fd ⟨[u],[]⟩ [("_law_script", u)])/\∀base:Heap,(K w.params).In base->base.Ns mainGlobals mg->dq l.prog w (K w.params) mg base CX0 8 fa fd ["_law_script"] (spM (K w.params) (gOf mg) 1 lV)) :
  PySem.W.WalkO q loose XP YP l.row.toRowW d [] (fun f vs=>PySem.call f vs):=
 CY (k:=8) hn hdf ⟨rfl,by decide,by decide,rfl⟩ hY ok F
theorem jr {i:Int} (h1:-(10 ^ 30)<=i) (h2:i<=10 ^ 30):sml i=true:=C3 (Nat.le_trans (show i.natAbs<=10 ^ 30 by omega) (by decide +kernel))
theorem rF {h:Hh} {n:Nat} {ds:List D} (e:ay h n=some ds):n<h.length:=by
 unfold ay at e
 by_cases hl:n<h.length
 ·exact hl
 ·rw[List.getElem?_eq_none (by omega)] at e;cases e
theorem oz {h:Hh} {n:Nat} {ds es:List D} (e:ay h n=some ds):ay (h.set n (.lst es)) n=some es:=by
 unfold ay;rw[List.getElem?_set_self (rF e)]
theorem Aj {h t:Hh} {n:Nat} {ds:List D} (e:ay h n=some ds):ay (h++t) n=some ds:=by
 have:=rF e
 unfold ay at e ⊢;rw[List.getElem?_append_left this];exact e
theorem Ai {h t:Hh} {n:Nat} {o:O} (hn:n<h.length):(h++t).set n o=h.set n o++t:=List.set_append_left _ _ hn
theorem yp {h:Hh} {n:Nat} {ds:List D} (e:ay h n=some ds):h.set n (.lst ds)=h:=by
 unfold ay at e
 split at e
 ·rename_i ds' q
  cases e
  refine List.ext_getElem? fun i=>?_
  rw[List.getElem?_set]
  split
  ·rename_i hi;subst hi
   have hl:n<h.length:=by
    by_cases hl:n<h.length
    ·exact hl
    ·rw[List.getElem?_eq_none (by omega)] at q;cases q
   rw[if_pos hl,q]
  ·rfl
 ·cases e
theorem Bx {h:Hh} {n:Nat} {ds:List D} (w:Wf h) (l:cB h.length ds=true):Wf (h.set n (.lst ds)):=by
 unfold Wf at w ⊢
 rw[List.length_set,List.all_eq_true] at *
 intro x hx
 rcases List.mem_or_eq_of_mem_set hx with hx | hx
 ·exact w x hx
 ·subst hx;exact l
structure Pen where
 a:Int
 b:Int
 s:Int
noncomputable abbrev bp (p:Pen):List D:=[.int p.a,.int p.b,.int p.s]
noncomputable def nxt (x:Int):Int:=((x+7919) % 2147483647*((x+7919) % 2147483647)+48271*((x+7919) % 2147483647)+12345) % 2147483629
noncomputable def dr (p:Pen) (m:Int):Int:=if p.b=1/\0<p.a then p.a % m else nxt (nxt p.s+7) / 64 % m
noncomputable def bw (p:Pen) (m:Int):Pen:=if p.b=1/\0<p.a then ⟨p.a / m,p.b,p.s⟩ else ⟨p.a,p.b,nxt (nxt p.s+7)⟩
theorem pJ (p:Pen) {m:Int} (h:0<m):0<=dr p m:=by unfold dr;split<;>exact Int.emod_nonneg _ (by omega)
theorem lI (p:Pen) {m:Int} (h:0<m):dr p m<m:=by unfold dr;split<;>exact Int.emod_lt_of_pos _ h
@[simp] theorem E4 {x:Int} {h:Hh}:cW [.int x] h=.ok (.int (nxt x)) h:=by
 have h1:0<=(x+7919) % 2147483647:=Int.emod_nonneg _ (by decide)
 have h2:(x+7919) % 2147483647<2147483647:=Int.emod_lt_of_pos _ (by decide)
 have s1:sml ((x+7919) % 2147483647)=true:=jr (by omega) (by omega)
 have s2:sml 48271=true:=by decide +kernel
 simp[cW,bI,s1,s2,nxt]
theorem xa {p:Pen} {m:Int} {h:Hh} {n:Nat} (e:ay h n=some (bp p)) (hm:0<m) (hm2:m<=10 ^ 20):aq [.ref n,.int m] h=.ok (.int (dr p m)) (h.set n (.lst (bp (bw p m)))):=by
 have s1:sml m=true:=jr (by omega) (by omega)
 have s2:sml 64=true:=by decide +kernel
 have i2:∀(x y z:Int) (h:Hh),ixK [D.int x,.int y,.int z] 2 h=.ok (.int z) h:=fun _ _ _ _=>rfl
 have n0:ixN (bp p).length 0=some 0:=rfl
 have n2:ixN (bp p).length 2=some 2:=rfl
 by_cases c:p.b=1
 ·by_cases c2:0<p.a
  ·simp[aq,bI,p_ e,c,c2,hm,s1,oE e n0,dr,bw]
  ·simp[aq,bI,p_ e,c,c2,i2,oE e n2,p_ (oz e),s1,s2,hm,dr,bw]
 ·simp[aq,bI,p_ e,c,i2,oE e n2,p_ (oz e),s1,s2,hm,dr,bw]
@[simp] theorem oH {p:Pen} {m:Int} {h t:Hh} (hm:0<m/\m<=10 ^ 20):aq [.ref h.length,.int m] (h++.lst (bp p)::t)=.ok (.int (dr p m)) (h++.lst (bp (bw p m))::t):=by
 rw[xa fc hm.1 hm.2,kX]
noncomputable def sT (c:Int):Pen:=⟨max c (0 - c),if max c (0 - c) ≥ 10 ^ 18 then 1 else 0,max c (0 - c) % 1000003⟩
@[simp] theorem Gf {c:Int} {h:Hh}:bR [.int c] h=.ok (.ref h.length) (h++[.lst (bp (sT c))]):=by
 have s1:sml 10=true:=by decide +kernel
 simp[bR,bI,s1,sT]
@[simp] theorem FT {ns:List Int} {h:Hh}:bD [.scr (ns.map D.int),.int 0] h=.ok (.int (ns.headD 0)) h:=by
 cases ns with
 | nil=>simp[bD,bI]
 | cons c r=>simp[bD,bI]
@[simp] theorem EO {i:Int} {h:Hh}:eT [.int i] h=.ok (.bl true) h:=by simp[eT,bI]
@[simp] theorem wo {i a b:Int} {h:Hh}:b0 [.int i,.int a,.int b] h=.ok (.bl (decide (a<=i/\i<=b))) h:=by
 by_cases z:a<=i<;>simp[b0,bI,z]
structure Ord (n:Nat) (xs:List Int):Prop where
 len:xs.length=n
 nd:xs.Nodup
 lo:∀x∈xs,0<=x
 hi:∀x∈xs,x<n
noncomputable def fj (lo:Int) (n:Nat):List Int:=(List.range n).map fun(i:Nat)=>lo+i
theorem sH (lo:Int) (n:Nat):cn lo n=(fj lo n).map D.int:=by simp[cn,fj,List.map_map]
theorem gO (lo:Int) (n:Nat):(fj lo n).length=n:=by simp[fj]
theorem i9 (n:Nat):Ord n (fj 0 n):=by
 refine⟨gO _ _,?_,?_,?_⟩
 ·unfold fj List.Nodup
  rw[List.pairwise_map]
  exact List.Pairwise.imp (fun{a b} h e=>h (by omega)) List.nodup_range
 ·intro x hx;simp[fj] at hx;omega
 ·intro x hx;simp[fj] at hx;omega
noncomputable def eX (s:Pen × List Int) (_:Nat):Pen × List Int:=(bw s.1 s.2.length,s.2.eraseIdx (dr s.1 s.2.length).toNat)
noncomputable def gq (s:Pen × List Int) (_:Nat):Int:=gI s.2 (dr s.1 s.2.length).toNat
noncomputable def o_ (p:Pen) (k:Nat):(Pen × List Int) × List Int:=(List.range k).foldl (fun a x=>(eX a.1 x,a.2++[gq a.1 x])) ((p,fj 0 k),[])
noncomputable def mn (p:Pen) (k:Nat):Pen:=(o_ p k).1.1
noncomputable def kE (p:Pen) (k:Nat):List Int:=(o_ p k).2
theorem m6 {σ X β:Type} (f:σ->X->σ) (g:σ->X->β):∀(xs:List X) (s:σ) (o:List β),(xs.foldl (fun a x=>(f a.1 x,a.2++[g a.1 x])) (s,o)).1=xs.foldl f s
 | [],_,_=>rfl
 | x::xs,s,o=>by rw[List.foldl_cons,List.foldl_cons];exact m6 f g xs _ _
theorem getElem_erase {X:Type}:∀{l:List X} {n:Nat} (h:n<l.length),(l[n]::l.eraseIdx n).Perm l
 | x::l,0,_=>by simp
 | x::l,n+1,h=>by
  simp only[List.getElem_cons_succ,List.eraseIdx_cons_succ]
  exact(List.Perm.swap _ _ _).trans (List.Perm.cons x (getElem_erase (by simpa using h)))
theorem Av (p:Pen) (k:Nat):∀j,j<=k->∀a,a=(List.range j).foldl (fun a x=>(eX a.1 x,a.2++[gq a.1 x])) ((p,fj 0 k),[])->a.1.2.length=k - j/\a.2.length=j/\(a.2++a.1.2).Perm (fj 0 k):=by
 intro j
 induction j with
 | zero=>intro _ a e;subst e;simp[gO]
 | succ j ih=>
  intro hj a e
  rw[List.range_succ,List.foldl_append] at e
  generalize hb:(List.range j).foldl (fun a x=>(eX a.1 x,a.2++[gq a.1 x])) ((p,fj 0 k),[])=b at e
  obtain⟨l1,l2,pm⟩:=ih (by omega) b hb.symm
  subst e
  simp only[List.foldl_cons,List.foldl_nil,eX,gq]
  have hp:(0:Int)<(b.1.2.length:Nat):=by omega
  have d0:=pJ b.1.1 hp
  have d1:=lI b.1.1 hp
  generalize dr b.1.1 (b.1.2.length:Nat)=d at d0 d1
  have hd:d.toNat<b.1.2.length:=by omega
  refine⟨by rw[List.length_eraseIdx,if_pos hd];omega,by simp[l2],?_⟩
  refine List.Perm.trans ?_ pm
  rw[List.append_assoc]
  refine List.Perm.append_left _ ?_
  rw[AM hd]
  exact getElem_erase hd
theorem vW (p:Pen) (k:Nat):Ord k (kE p k):=by
 obtain⟨l1,l2,pm⟩:=Av p k k (Nat.le_refl _) _ rfl
 have e:(o_ p k).1.2=[]:=List.eq_nil_of_length_eq_zero (by unfold o_;omega)
 have pm':(kE p k).Perm (fj 0 k):=by
  unfold kE
  have:(o_ p k).2++(o_ p k).1.2=(o_ p k).2:=by rw[e,List.append_nil]
  rw[<- this];exact pm
 have o:=i9 k
 exact⟨by rw[pm'.length_eq,o.len],pm'.nodup_iff.mpr o.nd,fun x hx=>o.lo x (pm'.mem_iff.mp hx),fun x hx=>o.hi x (pm'.mem_iff.mp hx)⟩
theorem Eb {n k:Nat} {ds:List D} {i:Int} {d:D} {h:Hh} (e:ay h n=some ds) (e2:ixN ds.length i=some k) (e3:ds[k]?=some d) (hl:ds.length<=1000000):qN (.ref n) [.int i] h=.ok d (h.set n (.lst (ds.eraseIdx k))):=by delta qN;dsimp only;rw[e];dsimp only;rw[e2];dsimp only;rw[e3];exact if_pos hl
theorem i6 {X Y:Type} (f:X->Y):∀(xs:List X) (k:Nat),(xs.map f).eraseIdx k=(xs.eraseIdx k).map f
 | [],_=>rfl
 | _::_,0=>rfl
 | x::xs,k+1=>by simp[i6 f xs k]
theorem zx {p:Pen} {k:Nat} {h:Hh} {n:Nat} (e:ay h n=some (bp p)) (w:Wf h) (hk:k<=1000):bx [.ref n,.int k] h=.ok (.tup ((kE p k).map D.int)) (h.set n (.lst (bp (mn p k)))):=by
 have hn:=rF e
 have z1:k<=1000000:=by omega
 have st:∀(s:Pen × List Int) (x:Nat) (r:List Nat),(s.2.length=(x::r).length/\(x::r).length<=k)->((eX s x).2.length=r.length/\r.length<=k) ∧
   (dU qN (ah 1) (aa (ag aq (aa (ah 2) (aa (ag c0 (aa (ah 1) aj)) aj))) aj)) [some (D.int (0+(x:Int))),some (.ref h.length),some (.ref n)] (h.set n (.lst (bp s.1))++[.lst (s.2.map D.int)])=.ok (D.int (gq s x)) (h.set n (.lst (bp (eX s x).1))++[.lst ((eX s x).2.map D.int)]):=by
  intro s x r ⟨hs,hr⟩
  simp only[List.length_cons] at hs hr
  have hp:(0:Int)<(s.2.length:Nat):=by omega
  have hp2:((s.2.length:Nat):Int)<=10 ^ 20:=by omega
  have d0:=pJ s.1 hp
  have d1:=lI s.1 hp
  have hd:(dr s.1 s.2.length).toNat<s.2.length:=by omega
  refine⟨⟨by simp only[eX];rw[List.length_eraseIdx,if_pos hd];omega,by omega⟩,?_⟩
  have hL:(h.set n (.lst (bp s.1))).length=h.length:=List.length_set
  have e1:ay (h.set n (.lst (bp s.1))++[.lst (s.2.map D.int)]) n=some (bp s.1):=Aj (oz e)
  have e2:ay (h.set n (.lst (bp s.1))++[.lst (s.2.map D.int)]) h.length=some (s.2.map D.int):=by rw[<- hL];exact fc
  have e3:(h.set n (.lst (bp s.1))++[O.lst (s.2.map D.int)]).set n (.lst (bp (bw s.1 s.2.length)))=h.set n (.lst (bp (bw s.1 s.2.length)))++[.lst (s.2.map D.int)]:=by rw[Ai (by omega),List.set_set]
  have hL':(h.set n (.lst (bp (bw s.1 s.2.length)))).length=h.length:=List.length_set
  have e4:ay (h.set n (.lst (bp (bw s.1 s.2.length)))++[.lst (s.2.map D.int)]) h.length=some (s.2.map D.int):=by rw[<- hL'];exact fc
  have e5:(s.2.map D.int)[(dr s.1 s.2.length).toNat]?=some (.int (gq s x)):=by
   rw[List.getElem?_map,List.getElem?_eq_getElem hd];simp[gq,AM hd]
  have e6:ixN (s.2.map D.int).length (dr s.1 s.2.length)=some (dr s.1 s.2.length).toNat:=by rw[List.length_map];exact yY (by omega) hd
  simp only[zJ,x8,rj,br,yj e2,if_true,xU,yH,A7,CM e2,List.length_map,xa e1 hp hp2,e3,Eb e4 e6 e5 (by rw[List.length_map];omega)]
  rw[<- hL',kX,i6]
  rfl
 obtain⟨ys,q1,q2,q3⟩:=m7 (te:=dU qN (ah 1) (aa (ag aq (aa (ah 2) (aa (ag c0 (aa (ah 1) aj)) aj))) aj)) (ee:=fun d=>[some d,some (.ref h.length),some (.ref n)])
  (fun(s:Pen × List Int)=>h.set n (.lst (bp s.1))++[.lst (s.2.map D.int)]) (fun(i:Nat)=>D.int (0+i)) eX (fun s x=>D.int (gq s x)) (fun r s=>s.2.length=r.length/\r.length<=k) st (List.range k) (p,fj 0 k) ⟨by simp[gO],by simp⟩
 have q1':cP tt1 (dU qN (ah 1) (aa (ag aq (aa (ah 2) (aa (ag c0 (aa (ah 1) aj)) aj))) aj)) (fun d=>[some d,some (.ref h.length),some (.ref n)]) (cn 0 k) (h++[.lst (cn 0 k)])=.ok ((kE p k).map D.int) (h.set n (.lst (bp (mn p k)))++[.lst []]):=by
  have a1:h.set n (.lst (bp p))=h:=yp e
  have a2:((List.range k).foldl eX (p,fj 0 k)).2=[]:=List.eq_nil_of_length_eq_zero q2.1
  have a3:((List.range k).foldl eX (p,fj 0 k)).1=mn p k:=by unfold mn o_;rw[m6]
  have a4:ys=(kE p k).map D.int:=by
   rw[q3]
   unfold kE o_
   have key:∀(xs:List Nat) (s:Pen × List Int) (o:List Int),(xs.foldl (fun(a:(Pen × List Int) × List D) x=>(eX a.1 x,a.2++[D.int (gq a.1 x)])) (s,o.map D.int)).2=((xs.foldl (fun(a:(Pen × List Int) × List Int) x=>(eX a.1 x,a.2++[gq a.1 x])) (s,o)).2).map D.int:=by
    intro xs
    induction xs with
    | nil=>intro s o;rfl
    | cons x xs ih=>
     intro s o
     rw[List.foldl_cons,List.foldl_cons]
     have:=ih (eX s x) (o++[gq s x])
     simpa using this
   exact key _ _ []
  simp only[a1,a2,a3,a4,List.map_nil] at q1
  rw[<- sH] at q1
  exact q1
 have hL:(h.set n (.lst (bp (mn p k)))).length=h.length:=List.length_set
 have w':Wf (h.set n (.lst (bp (mn p k)))):=Bx w rfl
 have ex:ed h (.tup ((kE p k).map D.int)) (h.set n (.lst (bp (mn p k)))++[.lst []])=.ok (.tup ((kE p k).map D.int)) (h.set n (.lst (bp (mn p k)))):=by
  have:=eM (h:=h.set n (.lst (bp (mn p k)))) (t:=[.lst []]) (d:=.tup ((kE p k).map D.int)) w' (by simp)
  unfold ed at this ⊢
  rw[hL] at this
  exact this
 have hk6:k<=1000000:=by omega
 simp[bx,bI,z1,iG,q1',ex,hk6]
theorem rn {n:Nat} {xs:List Int} {h:Hh} (o:Ord n xs) (h1:1<=n) (h2:n<=20) (w:Wf h):aF [.tup (xs.map D.int)] h=.ok (.bl true) h:=by
 have hl:=o.len
 obtain⟨q,_⟩:=lq (tg:=gN 1) (body:=cD (cI (aI fN (ag b0 (aa (ah 1) (aa (cC (.int 0)) (aa (ax q_ (ag c0 (aa (ah 0) aj)) (cC (.int 1))) aj)))))) (bq (cC (.bl false))) bj)
  (fun(s:Option D)=>[some (.tup (xs.map D.int)),s]) (fun _=>h) D.int (fun s x=>some (.int x)) (fun r s=>∀x∈r,0<=x/\x<n) (fun s x r hr=>⟨fun y hy=>hr y (List.mem_cons_of_mem _ hy),.inl (by
   have:=hr x List.mem_cons_self
   have z:0<=x/\x<=↑xs.length - 1:=by omega
   simp[z])⟩) xs none (fun x hx=>⟨o.lo x hx,o.hi x hx⟩)
 have c1:(1:Int)<=xs.length:=by omega
 have c2:(xs.length:Int)<=20:=by omega
 have c3:xs.length<=4000:=by omega
 have c4:=uk o.nd
 simp[aF,bI,c1,c2,q,c3,c4]
 exact eM w rfl
theorem vh {n:Nat} {xs:List Int} {h:Hh} (o:Ord n xs) (h1:1<=n) (h2:n<=20) (w:Wf h):bW [.tup (xs.map D.int)] h=.ok .non h:=by
 simp[bW,bI,rn o h1 h2 w]
noncomputable def cx {X:Type} (xs:List X) (lo hi:Option Int):List X:=(xs.drop (HT.sIx xs.length 0 lo)).take (HT.sIx xs.length xs.length hi - HT.sIx xs.length 0 lo)
theorem gJ {X:Type} (f:X->D) (xs:List X) (lo hi:Option Int):cutD (xs.map f) lo hi=(cx xs lo hi).map f:=by
 unfold cutD cx
 rw[List.length_map,List.map_take,List.map_drop]
theorem kY {X:Type} (xs:List X) (k:Nat):cx xs none (some (k:Int))=xs.take k:=by
 unfold cx
 rw[HT.ql,HT.tX]
 simp
theorem nM {X:Type} (xs:List X) (k:Nat):cx xs (some (k:Int)) none=xs.drop k:=by
 unfold cx
 rw[HT.ql,HT.tX]
 rcases Nat.le_total k xs.length with h | h
 ·rw[Nat.min_eq_left h,List.take_of_length_le (by simp)]
 ·rw[Nat.min_eq_right h];simp[List.drop_eq_nil_of_le h]
theorem iu {k:Nat} {h:Hh}:∀{ns:List Int},(∀x∈ns,sml x=true)->aZ (toPy (k+1) h) (ns.map D.int)=some (ns.map PyData.int)
 | [],_=>rfl
 | n::r,hs=>by
  have h1:sml n=true:=hs n List.mem_cons_self
  rw[List.map_cons,aZ,iu (ns:=r) fun x hx=>hs x (List.mem_cons_of_mem _ hx)]
  simp[toPy,h1]
theorem jz:∀ns:List Int,PyData.bulkAll (ns.map PyData.int)=ns.length
 | []=>rfl
 | n::r=>by rw[List.map_cons,PyData.bulkAll,jz r,PyData.bulk,List.length_cons];omega
theorem n4 {i:Int} (h0:0<=i) (h:i<=1000000):sml i=true:=jr (by omega) (by omega)
theorem rO {h:Hh} (w:Wf h) (p:Pen):Wf (h++[.lst (bp p)]):=w.app rfl
theorem iU (p:Pen) (m:Int) (h:0<m):∃k:Nat,dr p m=(k:Int)/\(k:Int)<m:=by
 have h0:=pJ p h
 have h1:=lI p h
 exact⟨(dr p m).toNat,by omega,by omega⟩
theorem ud (ns:List Int) (lo hi:Option Int):cutD (ns.map D.int) lo hi=(cx ns lo hi).map D.int:=gJ _ _ _ _
theorem k6 {X:Type} (xs:List X) (lo hi:Option Int):(cx xs lo hi).length<=xs.length:=by
 unfold cx;rw[List.length_take,List.length_drop];omega
theorem yf {p:Pen} {k:Nat} {h:Hh} (w:Wf h) (hk:k<=1000):bx [.ref h.length,.int k] (h++[.lst (bp p)])=.ok (.tup ((kE p k).map D.int)) (h++[.lst (bp (mn p k))]):=by
 rw[zx fc (rO w p) hk,kX]
theorem rH:∀(n:Nat) (xs:List Int),xs.Nodup->(∀x∈xs,0<=x/\x<n)->xs.length<=n
 | 0,xs,_,h=>by
  cases xs with
  | nil=>simp
  | cons x r=>have:=h x List.mem_cons_self;omega
 | n+1,xs,nd,h=>by
  by_cases hm:(n:Int)∈xs
  ·have ih:=rH n (xs.erase n) (nd.erase _) (fun x hx=>by
    obtain⟨a,b⟩:=(List.Nodup.mem_erase_iff nd).mp hx
    have:=h x b;omega)
   rw[List.length_erase_of_mem hm] at ih
   omega
  ·have ih:=rH n xs nd (fun x hx=>by
    have a:=h x hx
    have b:x≠(n:Int):=fun e=>hm (e ▸ hx)
    omega)
   omega
theorem tE {n:Nat} {xs:List Int} (o:Ord n xs) {j:Int} (h0:0<=j) (h1:j<n):j∈xs:=by
 refine Classical.byContradiction fun hj=>?_
 have:=rH n (j::xs) (List.nodup_cons.mpr ⟨hj,o.nd⟩) (fun x hx=>by
  rcases List.mem_cons.mp hx with rfl | hx
  ·exact⟨h0,h1⟩
  ·exact⟨o.lo x hx,o.hi x hx⟩)
 rw[List.length_cons,o.len] at this
 omega
section
variable {env:En} {h:Hh}
@[simp] theorem GJ {β:Type} {m:En->Hh->R β}:up m env h=noR (m env h):=Eq.trans rfl rfl
@[simp] theorem yl {β γ:Type} {x:Xc} {f:β->Hh->R γ}:(R.err x h:R β).bind f=.err x h:=Eq.trans rfl rfl
@[simp] theorem EF {x:Str}:ow x env h=.err ⟨x,[]⟩ h:=Eq.trans rfl rfl
theorem v9 {mb:MS} {mr:MF} {x:Xc} {d:D} (w:Wf h) (e:mb env h=.err x h) (c:bE.contains x.cls=true) (r:mr [.exc x.cls x.fs] h=.ok d h):rJ mb mr env h=.ok (.rt d) h:=by
 unfold rJ
 rw[e]
 have w':(h.take h.length).all (jv h.length)=true:=by rw[List.take_length];exact w
 show(if (bE.contains x.cls&&(h.take h.length).all (jv h.length))=true then _ else _)=_
 rw[c,w',List.take_length,r]
 rfl
end
noncomputable def itm:D->Bool
 | .int _=>true
 | .bl _=>true
 | .non=>true
 | .str _=>true
 | .tup _=>true
 | .frl _=>true
 | .edic=>true
 | _=>false
noncomputable def isI:D->Bool
 | .int _=>true
 | _=>false
noncomputable def qo:D->Int
 | .int i=>i
 | _=>0
noncomputable def inR (a b:Int):D->Bool
 | .int i=>decide (a<=i/\i<=b)
 | _=>false
theorem sL {a b:Int} {d:D} (e:inR a b d=true):isI d=true:=by cases d<;>first | rfl | (simp[inR] at e)
theorem Ag {d:D} (e:isI d=true):d=.int (qo d):=by cases d<;>first | rfl | (simp[isI] at e)
theorem tP:∀{ds:List D},ds.all isI=true->ds=(ds.map qo).map D.int
 | [],_=>rfl
 | d::ds,e=>by
  simp only[List.all_cons,Bool.and_eq_true] at e
  rw[List.map_cons,List.map_cons,<- tP e.2,<- Ag e.1]
theorem Ad {a b:Int}:∀{ds:List D},ds.all (inR a b)=true->ds.all isI=true:=fun{ds} e=>by
 rw[List.all_eq_true] at e ⊢
 exact fun d hd=>sL (e d hd)
theorem vi {a b:Int} {d:D} {h:Hh} (k:itm d=true):b0 [d,.int a,.int b] h=.ok (.bl (inR a b d)) h:=by
 cases d with
 | int i=>rw[wo];rfl
 | _=>first | (exact absurd k Bool.false_ne_true) | rfl
theorem CP {d:D} {h:Hh} (k:itm d=true) (n:∀ds,d≠.tup ds):ir "tuple" d h=.ok (.bl false) h:=by
 cases d<;>first | (exact absurd k Bool.false_ne_true) | exact absurd rfl (n _) | rfl
noncomputable def RA (e:D):Prop:=∀h,∃p,toPy 11 h e=some p/\p.bulk<=100
noncomputable def RB (e:D):Prop:=∃p,iN 11 e=some p/\p.bulk<=100
noncomputable def RX (d:D):Prop:=∀h,∃s,dE [d] h=.ok (.str s) h
theorem dF {f:D->Option PyData} {n:Nat}:∀{ds:List D},(∀e∈ds,∃p,f e=some p/\p.bulk<=n)->∃ps,aZ f ds=some ps/\PyData.bulkAll ps<=(n+1)*ds.length
 | [],_=>⟨[],rfl,by simp[PyData.bulkAll]⟩
 | d::ds,k=>by
  obtain⟨p,e,b⟩:=k d List.mem_cons_self
  obtain⟨ps,e2,b2⟩:=dF (ds:=ds) fun x hx=>k x (List.mem_cons_of_mem _ hx)
  refine⟨p::ps,by simp[aZ,e,e2],?_⟩
  rw[PyData.bulkAll,List.length_cons,Nat.mul_add]
  omega
theorem zF {ds:List D} (hl:ds.length<=60) (k:∀e∈ds,RA e):RX (.tup ds):=by
 intro h
 obtain⟨ps,e,b⟩:=dF fun x hx=>k x hx h
 have e1:toPy 12 h (.tup ds)=some (.tuple ps):=by
  show(aZ (toPy 11 h) ds).map PyData.tuple=_
  rw[e];rfl
 have e2:PyData.bulk (.tuple ps)<=8000:=by rw[PyData.bulk];omega
 exact⟨_,eN (show eH (.tup ds) h=.ok (.str (PyData.tuple ps).shown) h from by delta eH;rw[e1];exact if_pos e2)⟩
theorem Bz {ds:List D} (hl:ds.length<=60) (k:∀e∈ds,RA e):RX (.frl ds):=by
 intro h
 obtain⟨ps,e,b⟩:=dF fun x hx=>k x hx h
 have e1:toPy 12 h (.frl ds)=some (.list ps):=by
  show(aZ (toPy 11 h) ds).map PyData.list=_
  rw[e];rfl
 have e2:PyData.bulk (.list ps)<=8000:=by rw[PyData.bulk];omega
 exact⟨_,eN (show eH (.frl ds) h=.ok (.str (PyData.list ps).shown) h from by delta eH;rw[e1];exact if_pos e2)⟩
theorem ES {ds:List D} (hl:ds.length<=60) (k:∀e∈ds,RB e):RX (.tup ds):=by
 intro h
 obtain⟨ps,e,b⟩:=dF fun x hx=>k x hx
 have e1:iN 12 (.tup ds)=some (.tuple ps):=by
  show(aZ (iN 11) ds).map PyData.tuple=_
  rw[e];rfl
 have e2:PyData.bulk (.tuple ps)<=8000:=by rw[PyData.bulk];omega
 have e3:l_ [.tup ds] h=.ok (.str (PyData.tuple ps).shown) h:=show u0 (.tup ds) h=_ from by delta u0;rw[e1];exact if_pos e2
 have hR:eH (.tup ds) h=.bad\/∃s,eH (.tup ds) h=.ok (.str s) h:=by
  delta eH
  cases toPy 12 h (.tup ds) with
  | none=>exact .inl rfl
  | some p=>
   by_cases z2:p.bulk<=8000
   ·exact .inr ⟨_,if_pos z2⟩
   ·exact .inl (if_neg z2)
 rcases hR with e | ⟨s,e⟩
 ·refine⟨_,Eq.trans ?_ e3⟩
  have e':ka [.tup ds] h=.bad:=e
  delta dE;rw[e']
 ·exact⟨s,eN e⟩
theorem lh {i:Int} (s:sml i=true):RA (.int i):=fun h=>⟨.int i,by show(if sml i=true then some (PyData.int i) else none)=_;rw[if_pos s],by simp[PyData.bulk]⟩
theorem CD {i:Int} (s:sml i=true):RB (.int i):=⟨.int i,by show(if sml i=true then some (PyData.int i) else none)=_;rw[if_pos s],by simp[PyData.bulk]⟩
noncomputable def p7 (e:D):Prop:=itm e=true/\(RA e\/RB e)
theorem oQ {i:Int} (s:sml i=true):p7 (.int i):=⟨rfl,.inl (lh s)⟩
theorem Au:p7 .non:=⟨rfl,.inl fun h=>⟨.none,rfl,by simp[PyData.bulk]⟩⟩
theorem xP:p7 (.str "0"):=⟨rfl,.inl fun h=>⟨.str "0", by kernel_rfl,by decide +kernel⟩⟩
theorem wb:p7 .edic:=⟨rfl,.inr ⟨.dict [],rfl,by decide +kernel⟩⟩
theorem xO:p7 (.tup [.int 0]):=⟨rfl,.inl fun h=>⟨.tuple [.int 0],by kernel_rfl,by decide +kernel⟩⟩
theorem wU:p7 (.frl [.int 0]):=⟨rfl,.inl fun h=>⟨.list [.int 0],by kernel_rfl,by decide +kernel⟩⟩
structure Th (d:D):Prop where
 it:itm d=true
 its:∀ds,d=.tup ds->(∀e∈ds,itm e=true)/\ds.length<=60
 rx:RX d
theorem yP {od:D} {xs ys:List Int} (o:p7 od) (hx:∀x∈xs,sml x=true) (hy:∀x∈ys,sml x=true) (hl:xs.length+ys.length<=50):Th (.tup (xs.map D.int++od::ys.map D.int)):=by
 have ml:(xs.map D.int++od::ys.map D.int).length<=60:=by simp;omega
 have mm:∀e∈xs.map D.int++od::ys.map D.int,(∃i,e=.int i/\sml i=true)\/e=od:=by
  intro e he
  rcases List.mem_append.mp he with he | he
  ·obtain⟨i,hi,rfl⟩:=List.mem_map.mp he;exact .inl ⟨i,rfl,hx i hi⟩
  ·rcases List.mem_cons.mp he with he | he
   ·exact .inr he
   ·obtain⟨i,hi,rfl⟩:=List.mem_map.mp he;exact .inl ⟨i,rfl,hy i hi⟩
 refine⟨rfl,fun ds e=>?_,?_⟩
 ·cases e
  refine⟨fun e he=>?_,ml⟩
  rcases mm e he with⟨i,rfl,_⟩ | rfl
  ·rfl
  ·exact o.1
 ·rcases o.2 with a | b
  ·refine zF ml fun e he=>?_
   rcases mm e he with⟨i,rfl,s⟩ | rfl
   ·exact lh s
   ·exact a
  ·refine ES ml fun e he=>?_
   rcases mm e he with⟨i,rfl,s⟩ | rfl
   ·exact CD s
   ·exact b
theorem kS {xs:List Int} (hx:∀x∈xs,sml x=true) (hl:xs.length<=60):Th (.tup (xs.map D.int)):=by
 refine⟨rfl,fun ds e=>?_,zF (by simpa using hl) fun e he=>?_⟩
 ·cases e
  exact⟨fun e he=>by obtain⟨i,_,rfl⟩:=List.mem_map.mp he;rfl,by simpa using hl⟩
 ·obtain⟨i,hi,rfl⟩:=List.mem_map.mp he
  exact lh (hx i hi)
theorem BX {xs:List Int} (hx:∀x∈xs,sml x=true) (hl:xs.length<=60):Th (.frl (xs.map D.int)):=by
 refine⟨rfl,fun ds e=>(nomatch e),Bz (by simpa using hl) fun e he=>?_⟩
 obtain⟨i,hi,rfl⟩:=List.mem_map.mp he
 exact lh (hx i hi)
theorem lJ {te:ME} {ee:D->En} (G:Pen->Hh) (P:D->Prop) (st:∀x p,∃d p',te (ee x) (G p)=.ok d (G p')/\P d):∀(xs:List D) (p:Pen),∃ys p',cP tt1 te ee xs (G p)=.ok ys (G p')/\(∀y∈ys,P y)/\ys.length=xs.length
 | [],p=>⟨[],p,rfl,by simp,rfl⟩
 | x::xs,p=>by
  obtain⟨d,p1,e,q⟩:=st x p
  obtain⟨ys,p2,e2,q2,l⟩:=lJ G P st xs p1
  refine⟨d::ys,p2,?_,?_,by simp[l]⟩
  ·rw[cP,AZ,br,if_pos rfl,e,br,e2];rfl
  ·intro y hy
   rcases List.mem_cons.mp hy with rfl | hy
   ·exact q
   ·exact q2 y hy
noncomputable def OGB:MS:=cD (cI (aI fN (ag b0 (aa (ah 1) (aa (cC (.int 0)) (aa (ax q_ (ag c0 (aa (ah 0) aj)) (cC (.int 1))) aj)))))) (bq (cC (.bl false))) bj
theorem tm {es:List D} {h:Hh}:∀(ds:List D) (s:Option D),(∀d∈ds,itm d=true)->∃s',(ds.all (inR 0 ((es.length:Int) - 1))=true->ec (gN 1) OGB ds [some (.tup es),s] h=.ok (.nx [some (.tup es),s']) h)/\(ds.all (inR 0 ((es.length:Int) - 1))=false->ec (gN 1) OGB ds [some (.tup es),s] h=.ok (.rt (.bl false)) h)
 | [],s,_=>⟨s,fun _=>rfl,fun z=>nomatch z⟩
 | d::ds,s,k=>by
  obtain⟨s',e1,e2⟩:=tm (es:=es) (h:=h) ds (some d) (fun x hx=>k x (List.mem_cons_of_mem _ hx))
  have w:=vi (a:=0) (b:=(es.length:Int) - 1) (h:=h) (k d List.mem_cons_self)
  have b1:inR 0 ((es.length:Int) - 1) d=true->OGB [some (.tup es),some d] h=.ok (.nx [some (.tup es),some d]) h:=fun c=>by simp[OGB,w,c]
  have b2:inR 0 ((es.length:Int) - 1) d=false->OGB [some (.tup es),some d] h=.ok (.rt (.bl false)) h:=fun c=>by simp[OGB,w,c]
  refine⟨s',fun z=>?_,fun z=>?_⟩
  ·rw[List.all_cons,Bool.and_eq_true] at z
   rw[fP]
   simp only[CW,br,List.set,b1 z.1,ng,e1 z.2]
  ·rw[fP]
   simp only[CW,br,List.set]
   cases c:inR 0 ((es.length:Int) - 1) d with
   | false=>rw[b2 c];simp
   | true=>
    rw[List.all_cons,c,Bool.true_and] at z
    simp only[b1 c,br,ng,e2 z]
noncomputable def ogB (ds:List D):Bool:=decide (1<=(ds.length:Int)/\(ds.length:Int)<=20)&&(ds.all (inR 0 ((ds.length:Int) - 1))&&((unl (ds.map qo)).length == ds.length))
noncomputable def ogD:D->Bool
 | .tup ds=>ogB ds
 | _=>false
theorem AK:aF=fun ds h=>((cR 2 (aH (cD (gp (cI (aI fN (cUn (ir "tuple") (ah 0)))) (cI (aI asB (gy dLe dLe (cC (.int 1)) (ag c0 (aa (ah 0) aj)) (cC (.int 20)))))) (bq (cC (.bl false))) bj)
  (aH (gm (bV (ah 0)) (gN 1) OGB) (bq (ax dEq (ag c0 (aa (ag qs (aa (ah 0) aj)) aj)) (ag c0 (aa (ah 0) aj))))))) ds h).bind (ed h):=rfl
theorem pL {d:D} {h:Hh} (t:Th d) (w:Wf h):aF [d] h=.ok (.bl (ogD d)) h:=by
 have ex:∀t b,ed h (.bl b) (h++t)=.ok (.bl b) h:=fun t b=>eM w rfl
 have ex0:∀b,ed h (.bl b) h=.ok (.bl b) h:=fun b=>qy w rfl
 by_cases nt:∀ds,d≠.tup ds
 ·have e1:=CP (h:=h) t.it nt
  have e2:ogD d=false:=by cases d<;>first | rfl | exact absurd rfl (nt _)
  rw[AK,e2]
  simp[bI,e1,ex0]
 ·obtain⟨ds,rfl⟩:∃ds,d=.tup ds:=Classical.byContradiction fun z=>nt fun ds e=>z ⟨ds,e⟩
  obtain⟨k,_⟩:=t.its ds rfl
  obtain⟨s',q1,q2⟩:=tm (es:=ds) (h:=h) ds none k
  show _=R.ok (D.bl (ogB ds)) h
  unfold ogB
  rw[AK]
  by_cases c:1<=(ds.length:Int)/\(ds.length:Int)<=20
  ·by_cases c2:ds.all (inR 0 ((ds.length:Int) - 1))=true
   ·have q:=q1 c2
    have ei:=tP (Ad c2)
    have c3:ds.length<=4000:=by omega
    have st:qs [.tup ds] h=.ok (.ref h.length) (h++[.set (unl (ds.map qo))]):=by
     have:=Cu (h:=h) (ns:=ds.map qo)
     rw[<- ei] at this
     rw[this,List.length_map,if_pos c3]
    have cc:(((unl (ds.map qo)).length:Int) == (ds.length:Int))=((unl (ds.map qo)).length == ds.length):=by
     rw[Bool.eq_iff_iff];simp;omega
    simp only[bI,List.map_cons,List.map_nil,List.length_cons,List.length_nil,List.replicate,List.cons_append,List.nil_append,AQ,Ea,Es,Cm,C1,Fx,rj,br,B7,BK,Bool.not_true,yU]
    simp[c.1,c.2,q,st,c2,ex,cc]
   ·simp only[Bool.not_eq_true] at c2
    have q:=q2 c2
    simp[bI,c.1,c.2,q,c2,ex0]
  ·have c':decide (1<=(ds.length:Int)/\(ds.length:Int)<=20)=false:=by simpa using c
   rw[c']
   by_cases c1:1<=(ds.length:Int)
   ·have c4:¬ (ds.length:Int)<=20:=fun z=>c ⟨c1,z⟩
    simp[bI,c1,c4,ex0]
   ·simp[bI,c1,ex0]
theorem k4 {xs:List Int} {k:Int}:k∈unl xs↔k∈xs:=by
 have e:(List.range xs.length).map (fun i=>xs.getD i 0)=xs:=by
  refine List.ext_getElem (by simp) fun i h1 h2=>?_
  simp[h2]
 have:=PyProof.Rows.firstMet_any (fun i=>xs.getD i 0) xs.length k
 rw[e] at this
 show k∈PyProof.Rows.firstMet (fun i=>xs.getD i 0) xs.length↔_
 rw[Bool.eq_iff_iff] at this
 simpa using this
theorem tK:∀(ys acc:List Int),acc.Nodup->(ys.foldl PyProof.Rows.step_dedup acc).Nodup
 | [],acc,h=>h
 | y::ys,acc,h=>by
  rw[List.foldl_cons]
  refine tK ys _ ?_
  unfold PyProof.Rows.step_dedup
  split
  ·exact h
  ·rename_i z
   rw[List.nodup_append]
   refine⟨h,by simp,fun a ha b hb=>?_⟩
   simp only[List.mem_singleton] at hb
   subst hb
   intro e
   subst e
   exact z (List.any_eq_true.mpr ⟨a,ha,by simp⟩)
theorem CH (xs:List Int):(unl xs).Nodup:=tK _ [] List.nodup_nil
theorem rX:∀(as bs:List Int),as.Nodup->(∀a∈as,a∈bs)->as.length<=bs.length
 | [],bs,_,_=>Nat.zero_le _
 | a::as,bs,nd,s=>by
  obtain⟨h1,h2⟩:=List.nodup_cons.mp nd
  have hm:=s a List.mem_cons_self
  have ih:=rX as (bs.erase a) h2 fun x hx=>by
   have hx':=s x (List.mem_cons_of_mem _ hx)
   have ne:x≠a:=fun e=>h1 (e ▸ hx)
   exact(List.mem_erase_of_ne ne).mpr hx'
  rw[List.length_erase_of_mem hm] at ih
  have:0<bs.length:=List.length_pos_of_mem hm
  simp only[List.length_cons]
  omega
theorem uF {xs:List Int} (h1:1<=xs.length):((xs.map D.int).all (inR 0 ((xs.length:Int) - 1))&&((unl xs).length == xs.length))=((List.range xs.length).filter fun(i:Nat)=>!(xs.any (· == (i:Int)))).isEmpty:=by
 rw[Bool.eq_iff_iff,Bool.and_eq_true,List.isEmpty_iff,List.filter_eq_nil_iff,List.all_eq_true]
 simp only[beq_iff_eq,List.mem_range,Bool.not_eq_true',Bool.not_eq_false]
 constructor
 ·intro⟨a,b⟩ i hi
  have o:Ord xs.length (unl xs):=⟨b,CH xs,fun x hx=>by
   have:=a _ (List.mem_map_of_mem (k4.mp hx));simp[inR] at this;omega,fun x hx=>by
   have:=a _ (List.mem_map_of_mem (k4.mp hx));simp[inR] at this;omega⟩
  have:=k4.mp (tE o (j:=(i:Int)) (by omega) (by omega))
  exact List.any_eq_true.mpr ⟨_,this,by simp⟩
 ·intro a
  have all:∀y∈fj 0 xs.length,y∈xs:=fun y hy=>by
   simp only[fj,List.mem_map,List.mem_range] at hy
   obtain⟨i,hi,rfl⟩:=hy
   obtain⟨z,hz,e⟩:=List.any_eq_true.mp (a i hi)
   have:z=(i:Int):=by simpa using e
   subst this
   simpa using hz
  have nd:=(i9 xs.length).nd
  refine⟨fun d hd=>?_,?_⟩
  ·obtain⟨x,hx,rfl⟩:=List.mem_map.mp hd
   refine Classical.byContradiction fun z=>?_
   have z':¬ (0<=x/\x<=(xs.length:Int) - 1):=by simpa [inR] using z
   have:=rX (fj 0 xs.length) (xs.erase x) nd fun y hy=>by
    have l:=(i9 xs.length).lo y hy
    have l2:=(i9 xs.length).hi y hy
    have ne:y≠x:=by omega
    exact(List.mem_erase_of_ne ne).mpr (all y hy)
   rw[gO,List.length_erase_of_mem hx] at this
   omega
  ·have:=rX (fj 0 xs.length) (unl xs) nd fun y hy=>k4.mpr (all y hy)
   rw[gO] at this
   have:=BS xs
   omega
noncomputable abbrev TRw:D:=.tup [.str "row"]
noncomputable abbrev TOr:D:=.tup [.str "order"]
theorem FR {h:Hh}:bg [.exc "NoRow" []] h=.ok TRw h:=by kernel_rfl
theorem E_ {h:Hh}:bg [.exc "NoOrder" []] h=.ok TOr h:=by kernel_rfl
theorem CS {d:D} {h:Hh} (t:Th d) (w:Wf h) (c:ogD d=false):cy [d] h=.err ⟨"NoOrder", []⟩ h:=by
 simp[cy,bI,pL t w,c]
theorem xW (xs:List Int):ogB (xs.map D.int)=(decide (1<=(xs.length:Int)/\(xs.length:Int)<=20)&&((xs.map D.int).all (inR 0 ((xs.length:Int) - 1))&&((unl xs).length == xs.length))):=by
 have:(xs.map D.int).map qo=xs:=by rw[List.map_map];exact(List.map_congr_left (fun _ _=>rfl)).trans (List.map_id xs)
 unfold ogB
 rw[this,List.length_map]
theorem yQ {xs:List Int} (h1:1<=xs.length) {k:Nat} (hk:k<xs.length) (hm:∀x∈xs,x≠(k:Int)):ogD (.tup (xs.map D.int))=false:=by
 show ogB (xs.map D.int)=false
 rw[xW,uF h1]
 have:((List.range xs.length).filter fun(i:Nat)=>!(xs.any (· == (i:Int)))).isEmpty=false:=by
  cases z:((List.range xs.length).filter fun(i:Nat)=>!(xs.any (· == (i:Int)))).isEmpty with
  | false=>rfl
  | true=>
   have:=List.filter_eq_nil_iff.mp (List.isEmpty_iff.mp z) k (List.mem_range.mpr hk)
   simp only[Bool.not_eq_true',Bool.not_eq_false] at this
   obtain⟨x,hx,e⟩:=List.any_eq_true.mp this
   exact absurd (by simpa using e) (hm x hx)
 rw[this,Bool.and_false]
theorem zz {ds:List D} (h:20<ds.length):ogD (.tup ds)=false:=by
 show ogB ds=false
 unfold ogB
 rw[decide_eq_false (by omega)];rfl
theorem sG {ds:List D} {e:D} (he:e∈ds) (k:isI e=false):ogD (.tup ds)=false:=by
 show ogB ds=false
 unfold ogB
 have:ds.all (inR 0 ((ds.length:Int) - 1))=false:=by
  cases z:ds.all (inR 0 ((ds.length:Int) - 1)) with
  | false=>rfl
  | true=>
   have:=List.all_eq_true.mp z e he
   rw[sL this] at k
   cases k
 rw[this];simp
theorem BL {ds:List D} {e:D} (he:e∈ds) (k:∀n:Nat,n=ds.length->inR 0 ((n:Int) - 1) e=false):ogD (.tup ds)=false:=by
 show ogB ds=false
 unfold ogB
 have:ds.all (inR 0 ((ds.length:Int) - 1))=false:=by
  cases z:ds.all (inR 0 ((ds.length:Int) - 1)) with
  | false=>rfl
  | true=>
   have:=List.all_eq_true.mp z e he
   rw[k _ rfl] at this
   cases this
 rw[this];simp
noncomputable def cl (s:Str):List Nat:=s.cps.toList
theorem sA {a b:Str} (h:cl a=cl b):a=b:=by
 cases a;cases b
 exact congrArg Str.mk (Array.toList_inj.mp h)
theorem mz (a b:Str):cl (a++b)=cl a++cl b:=by
 show(a.cps++b.cps).toList=_
 rw[Array.toList_append];rfl
theorem qZ (a:Str):(cl a).length=a.length:=by
 show a.cps.toList.length=a.cps.size
 exact Array.length_toList
noncomputable def jn (c:Nat):List (List Nat)->List Nat
 | []=>[]
 | [x]=>x
 | x::y::r=>x++c::jn c (y::r)
theorem g6 (c:Nat):∀zs:List Str,cl (Str.join ⟨#[c]⟩ zs)=jn c (zs.map cl)
 | []=>rfl
 | [x]=>rfl
 | x::y::r=>by
  show cl (x++⟨#[c]⟩++Str.join ⟨#[c]⟩ (y::r))=cl x++c::jn c ((y::r).map cl)
  rw[mz,mz,g6 c (y::r),List.append_assoc];rfl
theorem AY {c:Nat}:∀{x x' r r':List Nat},c∉x->c∉x'->x++c::r=x'++c::r'->x=x'/\r=r'
 | [],[],_,_,_,_,e=>⟨rfl,by injection e⟩
 | [],b::x',_,_,_,h,e=>by injection e with e1 _;exact absurd (e1 ▸ List.mem_cons_self) h
 | a::x,[],_,_,h,_,e=>by injection e with e1 _;exact absurd (e1 ▸ List.mem_cons_self) h
 | a::x,b::x',_,_,h,h',e=>by
  injection e with e1 e2
  obtain⟨p,q⟩:=AY (fun z=>h (List.mem_cons_of_mem _ z)) (fun z=>h' (List.mem_cons_of_mem _ z)) e2
  exact⟨by rw[e1,p],q⟩
theorem wC {c:Nat}:∀{xs ys:List (List Nat)},xs≠[]->ys≠[]->(∀x∈xs,c∉x)->(∀y∈ys,c∉y)->jn c xs=jn c ys->xs=ys
 | [],_,h,_,_,_,_=>absurd rfl h
 | _,[],_,h,_,_,_=>absurd rfl h
 | [x],[y],_,_,_,_,e=>by rw[show x=y from e]
 | [x],y::y2::r,_,_,hx,_,e=>absurd (show c∈x by rw[show x=y++c::jn c (y2::r) from e];simp) (hx x (by simp))
 | x::x2::r,[y],_,_,_,hy,e=>absurd (show c∈y by rw[<- show x++c::jn c (x2::r)=y from e];simp) (hy y (by simp))
 | x::x2::r,y::y2::r',_,_,hx,hy,e=>by
  obtain⟨p,q⟩:=AY (hx x (by simp)) (hy y (by simp)) e
  rw[p,wC (by simp) (by simp) (fun z hz=>hx z (List.mem_cons_of_mem _ hz)) (fun z hz=>hy z (List.mem_cons_of_mem _ hz)) q]
theorem tj (sep:Str) (zs:List Str):Txt.join sep zs=Str.join sep zs:=StrLaws.glued_eq_join sep zs
theorem k8:∀{xs ys:List Str},xs.map cl=ys.map cl->xs=ys
 | [],[],_=>rfl
 | [],_::_,e=>by cases e
 | _::_,[],e=>by cases e
 | x::xs,y::ys,e=>by
  injection e with e1 e2
  rw[sA e1,k8 e2]
theorem lX {c:Nat} {zs:List Str} (hn:zs≠[]) (hc:∀z∈zs,c∉cl z):Txt.split (Txt.join ⟨#[c]⟩ zs) ⟨#[c]⟩=zs:=by
 have e:=StrLaws.join_split (Txt.join ⟨#[c]⟩ zs) ⟨#[c]⟩
 have f:=StrLaws.split_free (Txt.join ⟨#[c]⟩ zs) c
 have p:=PyProof.Rows.split_pos (Txt.join ⟨#[c]⟩ zs) ⟨#[c]⟩
 have e2:=congrArg cl e
 rw[tj,g6,g6] at e2
 rw[<- tj] at e2
 refine k8 (wC (c:=c) ?_ ?_ ?_ ?_ e2)
 ·intro z;rw[List.map_eq_nil_iff] at z;rw[z] at p;simp at p
 ·intro z;exact hn (List.map_eq_nil_iff.mp z)
 ·intro x hx;obtain⟨z,hz,rfl⟩:=List.mem_map.mp hx;exact f z hz
 ·intro x hx;obtain⟨z,hz,rfl⟩:=List.mem_map.mp hx;exact hc z hz
noncomputable def nm (i:Int):Str:=toString i
theorem qc:(" " : Str)=⟨#[32]⟩:=by kernel_rfl
theorem yr:("\n" : Str)=⟨#[10]⟩:=by kernel_rfl
theorem BO {z:Str} (h:1<=(cl z).length):cl (Txt.slice z (some 1) none)=(cl z).drop 1:=by
 have e:Txt.slice z (some 1) none=StrLaws.sliceText z (some 1) none:=rfl
 rw[e,StrLaws.sliceText_from ⟨by decide,by exact_mod_cast h⟩]
 show(((z.cps.toList.drop 1).take _).toArray).toList=_
 rw[List.toList_toArray]
 apply List.take_of_length_le
 rw[List.length_drop]
 omega
noncomputable def tx (s:Str) (xs:List Int):Str:=xs.foldl (fun s i=>s++" " ++ nm i) s
theorem AS:∀(xs:List Int) (s:Str),cl (tx s xs)=cl s++(xs.map fun i=>32::cl (nm i)).flatten
 | [],s=>by simp[tx]
 | i::xs,s=>by
  show cl (tx (s++" " ++ nm i) xs)=_
  rw[AS xs,mz,mz,qc,List.map_cons,List.flatten_cons,List.append_assoc,List.append_assoc]
  rfl
theorem tZ (c:Nat):∀(xs:List (List Nat)),xs≠[]->c::jn c xs=(xs.map fun x=>c::x).flatten
 | [],h=>absurd rfl h
 | [x],_=>by simp[jn]
 | x::y::r,_=>by
  show c::(x++c::jn c (y::r))=_
  rw[tZ c (y::r) (by simp),List.map_cons (l:=y::r),List.flatten_cons];rfl
noncomputable def cw (xs:List Int):Str:=Txt.join " " (xs.map nm)
noncomputable def cY (Ls:List (List Int)):Str:=Txt.join "\n" (Ls.map cw)
theorem CV {xs:List Int} (h:xs≠[]):Txt.slice (tx "" xs) (some 1) none=cw xs:=by
 apply sA
 have e:=AS xs ""
 have e0:cl ("" : Str)=[]:=by kernel_rfl
 rw[e0,List.nil_append] at e
 have e1:cl (cw xs)=jn 32 ((xs.map nm).map cl):=by unfold cw;rw[tj,qc,g6]
 have e2:=tZ 32 ((xs.map nm).map cl) (by simpa using h)
 have e3:(((xs.map nm).map cl).map fun x=>32::x)=xs.map fun i=>32::cl (nm i):=by simp[List.map_map,Function.comp_def]
 rw[e3] at e2
 rw[<- e2] at e
 rw[BO (by rw[e];simp),e,e1];rfl
section
variable {env:En} {h:Hh}
@[simp] theorem EM {f:D->List D->Hh->R D} {o:ME} {a:MA}:dj f o a env h=(o env h).bind fun x h1=>if isStr x=true then (a env h1).bind fun xs h2=>f x xs h2 else .bad:=Eq.trans rfl rfl
@[simp] theorem C9 {z:Str}:isStr (.str z)=true:=Eq.trans rfl rfl
noncomputable def slK (lo hi:Option Int):D->Hh->R D:=fun x h3=>match x with
 | .str z=>if z.length<=1000000 then .ok (.str (Txt.slice z lo hi)) h3 else .bad
 | _=>.bad
@[simp] theorem Dc {a:ME} {l u:MO}:pB a l u env h=(a env h).bind fun x h1=>(l env h1).bind fun lo h2=>(u env h2).bind fun hi h3=>slK lo hi x h3:=Eq.trans rfl rfl
@[simp] theorem Gj {z:Str} {lo hi:Option Int}:slK lo hi (.str z) h=if z.length<=1000000 then .ok (.str (Txt.slice z lo hi)) h else .bad:=Eq.trans rfl rfl
noncomputable def enK:D->Hh->R Src:=fun d h1=>match d with
 | .frl ds=>.ok (.snap (ke ds)) h1
 | _=>.bad
@[simp] theorem EN {a:ME}:oq a env h=(a env h).bind enK:=Eq.trans rfl rfl
@[simp] theorem GD {ds:List D}:enK (.frl ds) h=.ok (.snap (ke ds)) h:=Eq.trans rfl rfl
@[simp] theorem lR {i:Int}:iX [.int i] h=if sml i=true then .ok (.str (nm i)) h else .bad:=Eq.trans rfl rfl
@[simp] theorem FG {z:Str}:ir "str" (.str z) h=.ok (.bl true) h:=Eq.trans rfl rfl
end
theorem qU {sep:Str} {zs:List Str} {h:Hh} (h1:sep.length<=16) (h2:wgt zs<=1048576):gL (.str sep) [.frl (zs.map D.str)] h=.ok (.str (Txt.join sep zs)) h:=by
 delta gL;dsimp only;rw[se];exact if_pos ⟨h1,h2⟩
theorem tJ {nl:NL} {z y:Str} {h:Hh} (hy:(y.length == 0)=false) (hz:z.length<=1000000):gT nl (.str z) [.str y] h=nl ((Txt.split z y).map D.str) h:=by
 delta gT;dsimp only;exact if_pos ⟨hy,hz⟩
theorem xA:((" " : Str).length == 0)=false/\(" " : Str).length<=16:=by decide +kernel
theorem sv:(("\n" : Str).length == 0)=false/\("\n" : Str).length<=16:=by decide +kernel
structure SmL (xs:List Int):Prop where
 ne:xs≠[]
 len:xs.length<=20
 rg:∀x∈xs,∃k:Nat,x=(k:Int)/\k<20
theorem Bi {n:Nat} {xs:List Int} (o:Ord n xs) (h1:1<=n) (h2:n<=20):SmL xs:=
 ⟨fun e=>by have:=o.len;rw[e] at this;simp at this;omega,by rw[o.len];exact h2,fun x hx=>⟨x.toNat,by have:=o.lo x hx;omega,by have:=o.lo x hx;have:=o.hi x hx;omega⟩⟩
theorem SmL.sm {xs:List Int} (s:SmL xs):∀x∈xs,sml x=true:=fun x hx=>by
 obtain⟨k,rfl,hk⟩:=s.rg x hx
 exact n4 (by omega) (by omega)
theorem wy:∀k:Nat,k<20->(nm k).length<=2/\(cl (nm k)).all (fun c=>decide (48<=c)&&decide (c<=57))=true:=by decide +kernel
theorem r_ {b:Nat}:∀{zs:List Str},(∀z∈zs,z.length<=b)->wgt zs<=(b+1)*zs.length
 | [],_=>Nat.le_refl _
 | z::zs,k=>by
  have e:=r_ (zs:=zs) fun x hx=>k x (List.mem_cons_of_mem _ hx)
  have f:=k z List.mem_cons_self
  unfold wgt at e ⊢
  rw[List.map_cons,List.sum_cons,List.length_cons,Nat.mul_add]
  omega
theorem rE {s c:Nat}:∀{xs:List (List Nat)},c∈jn s xs->c=s\/∃x∈xs,c∈x
 | [],h=>by cases h
 | [x],h=>.inr ⟨x,by simp,h⟩
 | x::y::r,h=>by
  rcases List.mem_append.mp (show c∈x++s::jn s (y::r) from h) with h | h
  ·exact .inr ⟨x,by simp,h⟩
  ·rcases List.mem_cons.mp h with h | h
   ·exact .inl h
   ·rcases rE h with h | ⟨z,hz,h⟩
    ·exact .inl h
    ·exact .inr ⟨z,List.mem_cons_of_mem _ hz,h⟩
theorem qk {c:Nat} (zs:List Str):(Txt.join ⟨#[c]⟩ zs).length<=wgt zs:=by
 rw[tj]
 have:=StrLaws.join_length_le ⟨#[c]⟩ zs
 have e:(⟨#[c]⟩:Str).length=1:=rfl
 rw[e] at this
 unfold wgt;omega
theorem Bg {xs:List Int} (s:SmL xs):∀z∈xs.map nm,z.length<=2:=fun z hz=>by
 obtain⟨x,hx,rfl⟩:=List.mem_map.mp hz
 obtain⟨k,rfl,hk⟩:=s.rg x hx
 exact(wy k hk).1
theorem wt {xs:List Int} (s:SmL xs) {x:Int} (hx:x∈xs) {c:Nat} (hc:c∈cl (nm x)):48<=c/\c<=57:=by
 obtain⟨k,rfl,hk⟩:=s.rg x hx
 have:=List.all_eq_true.mp (wy k hk).2 c hc
 simpa using this
theorem xy {xs:List Int} (s:SmL xs):wgt (xs.map nm)<=60:=by
 have:=r_ (Bg s)
 rw[List.length_map] at this
 have:=s.len
 omega
theorem lB {xs:List Int} (s:SmL xs):(cw xs).length<=60:=by
 unfold cw;rw[qc];exact Nat.le_trans (qk _) (xy s)
theorem oU {xs:List Int} (s:SmL xs) {c:Nat} (hc:c∈cl (cw xs)):c=32\/(48<=c/\c<=57):=by
 unfold cw at hc
 rw[tj,qc,g6] at hc
 rcases rE hc with h | ⟨x,hx,h⟩
 ·exact .inl h
 ·obtain⟨z,hz,rfl⟩:=List.mem_map.mp hx
  obtain⟨i,hi,rfl⟩:=List.mem_map.mp hz
  exact .inr (wt s hi h)
theorem rS {xs:List Int} (s:SmL xs):Txt.split (cw xs) " " = xs.map nm:=by
 unfold cw
 rw[qc]
 refine lX (by simpa using s.ne) fun z hz hc=>?_
 obtain⟨x,hx,rfl⟩:=List.mem_map.mp hz
 have:=wt s hx hc
 omega
structure vX (Ls:List (List Int)):Prop where
 ne:Ls≠[]
 len:Ls.length<=20
 all:∀xs∈Ls,SmL xs
theorem wg {Ls:List (List Int)} (s:vX Ls):wgt (Ls.map cw)<=1220:=by
 have:=r_ (b:=60) (zs:=Ls.map cw) fun z hz=>by
  obtain⟨x,hx,rfl⟩:=List.mem_map.mp hz
  exact lB (s.all x hx)
 rw[List.length_map] at this
 have:=s.len
 omega
theorem qC {Ls:List (List Int)} (s:vX Ls):(cY Ls).length<=1220:=by
 unfold cY;rw[yr];exact Nat.le_trans (qk _) (wg s)
theorem rY {Ls:List (List Int)} (s:vX Ls):Txt.split (cY Ls) "\n" = Ls.map cw:=by
 unfold cY
 rw[yr]
 refine lX (by simpa using s.ne) fun z hz hc=>?_
 obtain⟨x,hx,rfl⟩:=List.mem_map.mp hz
 have:=oU (s.all x hx) hc
 omega
theorem Al {Ls:List (List Int)} (s:vX Ls) {c:Nat} (hc:c∈cl (cY Ls)):c<=57:=by
 unfold cY at hc
 rw[tj,yr,g6] at hc
 rcases rE hc with h | ⟨x,hx,h⟩
 ·omega
 ·obtain⟨z,hz,rfl⟩:=List.mem_map.mp hx
  obtain⟨i,hi,rfl⟩:=List.mem_map.mp hz
  have:=oU (s.all i hi) h
  omega
theorem uA {h:Hh}:∀k:Nat,k<20->cu [.str (nm k)] h=.ok (.int k) h
 | 0,_=>by kernel_rfl
 | 1,_=>by kernel_rfl
 | 2,_=>by kernel_rfl
 | 3,_=>by kernel_rfl
 | 4,_=>by kernel_rfl
 | 5,_=>by kernel_rfl
 | 6,_=>by kernel_rfl
 | 7,_=>by kernel_rfl
 | 8,_=>by kernel_rfl
 | 9,_=>by kernel_rfl
 | 10,_=>by kernel_rfl
 | 11,_=>by kernel_rfl
 | 12,_=>by kernel_rfl
 | 13,_=>by kernel_rfl
 | 14,_=>by kernel_rfl
 | 15,_=>by kernel_rfl
 | 16,_=>by kernel_rfl
 | 17,_=>by kernel_rfl
 | 18,_=>by kernel_rfl
 | 19,_=>by kernel_rfl
 | _+20,e=>absurd e (by omega)
noncomputable abbrev tpI (xs:List Int):D:=.tup (xs.map D.int)
noncomputable def fV (xs:List Int):Prop:=∃n,Ord n xs/\1<=n/\n<=20
theorem fV.sm {xs:List Int} (o:fV xs):SmL xs:=let ⟨_,o,h1,h2⟩:=o;Bi o h1 h2
structure OL (Ls:List (List Int)):Prop where
 ne:Ls≠[]
 len:Ls.length<=20
 all:∀xs∈Ls,fV xs
theorem OL.sm {Ls:List (List Int)} (o:OL Ls):vX Ls:=⟨o.ne,o.len,fun xs hx=>(o.all xs hx).sm⟩
theorem jV {xs:List Int} (o:fV xs):Th (tpI xs):=kS o.sm.sm (by have:=o.sm.len;omega)
theorem Ba {xs:List Int} (o:fV xs):ogD (tpI xs)=true:=by
 have a:=pL (h:=[]) (jV o) Wf.nil
 obtain⟨n,o1,h1,h2⟩:=o
 rw[show aF [tpI xs] []=_ from rn o1 h1 h2 Wf.nil] at a
 injection a with a
 injection a with a
 exact a.symm
theorem E8 {xs:List Int} {h:Hh} (o:fV xs) (w:Wf h):aF [tpI xs] h=.ok (.bl true) h:=let ⟨_,o,h1,h2⟩:=o;rn o h1 h2 w
theorem Cd {xs:List Int} {h:Hh} (s:SmL xs):cP tt1 (ag iX (aa (ah 0) aj)) (fun x=>[some x]) (xs.map D.int) h=.ok ((xs.map nm).map D.str) h:=by
 rw[fH D.int (fun i=>D.str (nm i)) xs fun x hx=>by simp[s.sm x hx,-L2.FE.lR,FC.lR],List.map_map];rfl
theorem Af {xs:List Int} {h:Hh} (o:fV xs) (w:Wf h):aU [tpI xs] h=.ok (.str (cw xs)) h:=by
 have s:=o.sm
 have q:=Cd (h:=h) s
 have c3:xs.length<=1000000:=by have:=s.len;omega
 have c4:wgt (xs.map nm)<=1048576:=Nat.le_trans (xy s) (by decide)
 have nd:bW [.tup (xs.map D.int)] h=.ok .non h:=by obtain⟨n,o1,h1,h2⟩:=o;exact vh o1 h1 h2 w
 unfold cw
 generalize xs.map nm=zs at q c4 ⊢
 simp[aU,bI,nd,q,c3,qU xA.2 c4]
theorem gA (a b:Str):(a++b).length=a.length+b.length:=by
 rw[<- qZ,mz,List.length_append,qZ,qZ]
theorem vP:(" " : Str).length=1:=by decide +kernel
theorem xt:∀(xs:List Int) (s:Str) (d:Option D),(xs.foldl (fun(s:Str × Option D) x=>(s.1++" " ++ nm x,some (D.int x))) (s,d)).1=tx s xs
 | [],_,_=>rfl
 | x::xs,s,d=>xt xs (s++" " ++ nm x) (some (.int x))
theorem Cb {xs:List Int} {h:Hh} (s:SmL xs):bh [tpI xs] h=.ok (.str (cw xs)) h:=by
 obtain⟨q,q2,_⟩:=lq (tg:=gN 2) (body:=bA 1 (ax (bK az) (ax (bK az) (ah 1) (cC (.str " "))) (ag iX (aa (ah 2) aj))))
  (fun(s:Str × Option D)=>[some (tpI xs),some (.str s.1),s.2]) (fun _=>h) D.int (fun s x=>(s.1++" " ++ nm x,some (.int x))) (fun r s=>s.1.length+3*r.length<=100/\∀x∈r,∃k:Nat,x=(k:Int)/\k<20) (fun s x r hr=>by
   obtain⟨k,rfl,hk⟩:=hr.2 x List.mem_cons_self
   have n1:=(wy k hk).1
   have l1:=hr.1
   rw[List.length_cons] at l1
   have sm:sml (k:Int)=true:=n4 (by omega) (by omega)
   refine⟨⟨?_,fun y hy=>hr.2 y (List.mem_cons_of_mem _ hy)⟩,.inl ?_⟩
   ·show(s.1++" " ++ nm k).length+_<=100
    rw[gA,gA,vP];omega
   ·have c1:s.1.length+(" " : Str).length<=1000000:=by rw[vP];omega
    have c2:(s.1++" ").length+(nm k).length<=1000000:=by rw[gA,vP];omega
    simp[sm,c1,c2,-L2.FE.lR,FC.lR]) xs ("", none) ⟨by have:=s.len;show(("" : Str)).length+_<=_;rw[show(("" : Str)).length=0 by decide +kernel];omega,s.rg⟩
 have e:=xt xs "" none
 have c3:xs.length<=1000000:=by have:=s.len;omega
 rw[<- CV s.ne,<- e]
 generalize (xs.foldl (fun(s:Str × Option D) x=>(s.1++" " ++ nm x,some (D.int x))) ("", none))=S at q q2
 have c4:S.1.length<=1000000:=by simp at q2;omega
 simp[bh,bI,q,c3,c4]
theorem iK {ds:List D} {h:Hh} (k:∀d∈ds,Th d) (hl:ds.length<=1000) (w:Wf h):aO [.frl ds] h=.ok (.bl (decide (1<=(ds.length:Int)/\(ds.length:Int)<=20)&&ds.all ogD)) h:=by
 have q:=fH (te:=ag aF (aa (ah 0) aj)) (ee:=fun x=>[some x]) (h:=h) id (fun d=>D.bl (ogD d)) ds fun d hd=>by
  have:=pL (k d hd) w
  simp[this]
 have e2:ds.map (fun d=>D.bl (ogD d))=(ds.map ogD).map D.bl:=by rw[List.map_map];rfl
 have e3:(ds.map ogD).all id=ds.all ogD:=by rw[List.all_map];rfl
 rw[List.map_id,e2] at q
 rw[<- e3]
 have c3:ds.length<=1000000:=by omega
 generalize ds.map ogD=bs at q ⊢
 by_cases z1:1<=(ds.length:Int)
 ·by_cases z2:(ds.length:Int)<=20
  ·simp[aO,bI,z1,z2,q,c3]
  ·simp[aO,bI,z1,z2]
 ·simp[aO,bI,z1]
theorem yb {Ls:List (List Int)} {h:Hh} (o:OL Ls) (w:Wf h):aO [.frl (Ls.map tpI)] h=.ok (.bl true) h:=by
 have hl:=o.len
 have hn:1<=Ls.length:=by cases Ls with | nil=>exact absurd rfl o.ne | cons x r=>simp
 rw[iK (fun d hd=>by obtain⟨xs,hx,rfl⟩:=List.mem_map.mp hd;exact jV (o.all xs hx)) (by rw[List.length_map];omega) w]
 rw[List.length_map,decide_eq_true (by omega),List.all_eq_true.mpr fun d hd=>by obtain⟨xs,hx,rfl⟩:=List.mem_map.mp hd;exact Ba (o.all xs hx)]
 rfl
theorem tL {Ls:List (List Int)} {h:Hh} (o:OL Ls) (w:Wf h):cP tt1 (ag aU (aa (ah 0) aj)) (fun x=>[some x]) (Ls.map tpI) h=.ok ((Ls.map cw).map D.str) h:=by
 rw[fH tpI (fun xs=>D.str (cw xs)) Ls fun xs hx=>by have:=Af (o.all xs hx) w;simp[this],List.map_map];rfl
theorem vG {Ls:List (List Int)} {h:Hh} (o:OL Ls):cP tt1 (ag bh (aa (ah 0) aj)) (fun x=>[some x]) (Ls.map tpI) h=.ok ((Ls.map cw).map D.str) h:=by
 rw[fH tpI (fun xs=>D.str (cw xs)) Ls fun xs hx=>by have:=Cb (h:=h) (o.all xs hx).sm;simp[this],List.map_map];rfl
theorem x9 {Ls:List (List Int)} {h:Hh} (o:OL Ls) (w:Wf h):bJ [.frl (Ls.map tpI)] h=.ok (.str (cY Ls)) h:=by
 have q:=tL o w
 have g:=yb o w
 have c3:(Ls.map tpI).length<=1000000:=by rw[List.length_map];have:=o.len;omega
 have c4:wgt (Ls.map cw)<=1048576:=Nat.le_trans (wg o.sm) (by decide)
 unfold cY
 generalize Ls.map cw=zs at q c4 ⊢
 generalize Ls.map tpI=ds at q g c3 ⊢
 simp[bJ,bI,g,q,c3,qU sv.2 c4]
noncomputable def RDB:MS:=(aH (bA 4 (ag eF (aa (bY az (bV (dj (gT az) (ah 3) (aa (cC (.str " ")) aj))) [] tt1 (ag cu (aa (ah 0) aj))) aj)))
  (aH (cD (gp (aI asB (ax dGt (ah 2) (cC (.int 20)))) (cI (aI fN (ag aF (aa (ah 4) aj))))) ua bj)
  (j9 (dU eg (ah 1) (aa (ah 4) aj)))))
theorem D3:cq=fun ds h=>((cR 5 (aH (cD (cI (aI fN (cUn (ir "str") (ah 0)))) ua bj)
  (aH (bA 1 (ag (cL uP) aj))
  (aH (gm (oq (dj (gT az) (ah 0) (aa (cC (.str "\n")) aj))) (gT2 2 3) RDB)
  (bq (ah 1)))))) ds h).bind (mx h):=rfl
noncomputable def ens:Nat->List Str->List D
 | _,[]=>[]
 | i,z::zs=>.tup [.int ((i+1:Nat):Int),.str z]::ens (i+1) zs
theorem sW:∀(zs:List Str) (i j:Nat),(ens i zs)[j]?=zs[j]?.map fun z=>D.tup [.int ((i+j+1:Nat):Int),.str z]
 | [],_,_=>rfl
 | z::zs,i,0=>rfl
 | z::zs,i,j+1=>by
  show(ens (i+1) zs)[j]?=zs[j]?.map _
  rw[sW zs (i+1) j,show i+1+j+1=i+(j+1)+1 by omega]
theorem t_ (zs:List Str):ke (zs.map D.str)=ens 0 zs:=by
 apply List.ext_getElem?
 intro j
 rw[nk,sW,List.getElem?_map,Option.map_map,Nat.zero_add];rfl
theorem tu:∀(zs:List Str) (i:Nat),(ens i zs).length=zs.length
 | [],_=>rfl
 | z::zs,i=>by show(ens (i+1) zs).length+1=_;rw[tu];rfl
theorem wO {k:Nat} (Ls:List (List Int)):cB k (Ls.map tpI)=true:=nF fun xs=>by show cB k _=true;exact r8
theorem Cy {xs:List Int} {h:Hh} (s:SmL xs):cP tt1 (ag cu (aa (ah 0) aj)) (fun x=>[some x]) ((xs.map nm).map D.str) h=.ok (xs.map D.int) h:=by
 rw[List.map_map]
 exact fH (D.str ∘ nm) D.int xs fun x hx=>by
  obtain⟨k,rfl,hk⟩:=s.rg x hx
  have:=uA (h:=h) k hk
  simp[this]
theorem uO {h:Hh} {P:List D} {xs:List Int} {i:Nat} {d0 y2 y3 y4:Option D} (o:fV xs) (w:Wf (h++[.lst P])) (hi:i<20) (hp:P.length<1000) :
  (gT2 2 3 (.tup [.int ((i+1:Nat):Int),.str (cw xs)]) [d0,some (.ref h.length),y2,y3,y4] (h++[.lst P])).bind RDB=.ok (.nx [d0,some (.ref h.length),some (.int ((i+1:Nat):Int)),some (.str (cw xs)),some (tpI xs)]) (h++[.lst (P++[tpI xs])]):=by
 have s:=o.sm
 have q:=Cy (h:=h++[.lst P]) s
 have g:=E8 o w
 have c1:(cw xs).length<=1000000:=Nat.le_trans (lB s) (by decide)
 have c2:((xs.map nm).map D.str).length<=1000000:=by rw[List.length_map,List.length_map];have:=s.len;omega
 have c3:¬ (20<((i+1:Nat):Int)):=by omega
 have c4:P.length<1000000:=by omega
 have sp:=tJ (nl:=az) (h:=h++[.lst P]) xA.1 c1
 rw[rS s] at sp
 generalize ((i+1:Nat):Int)=I at c3 ⊢
 generalize (xs.map nm).map D.str=zs at q c2 sp
 show _=R.ok (Fl.nx [_,_,_,_,some (.tup (xs.map D.int))]) _
 have g:aF [.tup (xs.map D.int)] (h++[.lst P])=_:=g
 obtain⟨ys,ey⟩:∃ys,xs.map D.int=ys:=⟨_,rfl⟩
 rw[ey] at q g
 simp[RDB,sp,q,g,c2,c3,c4]
 exact ey.symm
theorem nP {h:Hh} {d0:Option D} (w:Wf h):∀(Ls P:List (List Int)) (i:Nat) (y2 y3 y4:Option D),(∀xs∈Ls,fV xs)->i+Ls.length<=20->P.length+Ls.length<=900 →
  ∃z2 z3 z4,ec (gT2 2 3) RDB (ens i (Ls.map cw)) [d0,some (.ref h.length),y2,y3,y4] (h++[.lst (P.map tpI)])=.ok (.nx [d0,some (.ref h.length),z2,z3,z4]) (h++[.lst ((P++Ls).map tpI)])
 | [],P,i,y2,y3,y4,_,_,_=>⟨y2,y3,y4,by rw[List.append_nil];rfl⟩
 | xs::Ls,P,i,y2,y3,y4,k,hi,hp=>by
  rw[List.length_cons] at hi hp
  have t:=uO (h:=h) (P:=P.map tpI) (d0:=d0) (y2:=y2) (y3:=y3) (y4:=y4) (k xs List.mem_cons_self) (w.app (wO P)) (show i<20 by omega) (by rw[List.length_map];omega)
  obtain⟨z2,z3,z4,e⟩:=nP w Ls (P++[xs]) (i+1) (some (.int ((i+1:Nat):Int))) (some (.str (cw xs))) (some (tpI xs)) (fun x hx=>k x (List.mem_cons_of_mem _ hx)) (by omega) (by rw[List.length_append];simp;omega)
  refine⟨z2,z3,z4,?_⟩
  show ec (gT2 2 3) RDB (.tup [.int ((i+1:Nat):Int),.str (cw xs)]::ens (i+1) (Ls.map cw)) _ _=_
  rw[fP,<- bM,t,br,ng]
  have e1:(P++[xs]).map tpI=P.map tpI++[tpI xs]:=by rw[List.map_append];rfl
  have e2:P++xs::Ls=(P++[xs])++Ls:=by simp
  rw[<- e1,e2]
  exact e
theorem zQ (Ls:List (List Int)):(Ls.map tpI).all (deep 8)=true:=by
 rw[List.all_map,List.all_eq_true]
 intro xs _
 show(xs.map D.int).all (deep 7)=true
 rw[List.all_map,List.all_eq_true]
 intro x _
 rfl
theorem Bo {Ls:List (List Int)} {h:Hh} (o:OL Ls) (w:Wf h):cq [.str (cY Ls)] h=.ok (.ref h.length) (h++[.lst (Ls.map tpI)]):=by
 obtain⟨z2,z3,z4,q⟩:=nP (h:=h) (d0:=some (.str (cY Ls))) w Ls [] 0 none none none o.all (by have:=o.len;omega) (by have:=o.len;simp;omega)
 have c1:(cY Ls).length<=1000000:=Nat.le_trans (qC o.sm) (by decide)
 have sp:=tJ (nl:=az) (h:=h++[.lst []]) sv.1 c1
 rw[rY o.sm] at sp
 have c2:(ens 0 (Ls.map cw)).length<=1000000:=by rw[tu,List.length_map];have:=o.len;omega
 have ee:=t_ (Ls.map cw)
 rw[List.nil_append] at q
 have ex:=vc (h:=h) (ds:=Ls.map tpI) (t:=[]) w (zQ Ls)
 generalize Ls.map tpI=ts at q ex ⊢
 generalize cY Ls=T at q sp ⊢
 generalize ens 0 (Ls.map cw)=es at q c2 ee
 generalize (Ls.map cw).map D.str=zs at ee sp
 rw[D3]
 simp only[List.map_nil] at q
 simp[bI,sp,ee,q,c2,ex]
noncomputable def pyT (xs:List Int):PyData:=.tuple (xs.map PyData.int)
theorem iJ {k:Nat} {h:Hh}:∀{Ls:List (List Int)},(∀xs∈Ls,SmL xs)->aZ (toPy (k+2) h) (Ls.map tpI)=some (Ls.map pyT)
 | [],_=>rfl
 | xs::Ls,a=>by
  have e1:toPy (k+2) h (tpI xs)=some (pyT xs):=by
   show(aZ (toPy (k+1) h) (xs.map D.int)).map PyData.tuple=_
   rw[iu (a xs List.mem_cons_self).sm];rfl
  rw[List.map_cons,aZ,e1,iJ fun x hx=>a x (List.mem_cons_of_mem _ hx)];rfl
theorem kW:∀{Ls:List (List Int)},(∀xs∈Ls,SmL xs)->PyData.bulkAll (Ls.map pyT)<=21*Ls.length
 | [],_=>by simp[PyData.bulkAll]
 | xs::Ls,a=>by
  have l:=(a xs List.mem_cons_self).len
  have b:=kW fun x hx=>a x (List.mem_cons_of_mem _ hx)
  rw[List.map_cons,PyData.bulkAll,pyT,PyData.bulk,jz,List.length_cons]
  omega
noncomputable def hV (Ls:List (List Int)):Str:=(PyData.list (Ls.map pyT)).shown
theorem pZ {Ls:List (List Int)} {h:Hh} (o:∀xs∈Ls,SmL xs) (hl:Ls.length<=100):aR [.frl (Ls.map tpI)] h=.ok (.str (hV Ls)) h:=
 fG (eN (show eH (.frl (Ls.map tpI)) h=_ from by
  delta eH
  rw[show toPy 12 h (.frl (Ls.map tpI))=some (.list (Ls.map pyT)) by show(aZ (toPy 11 h) _).map PyData.list=_;rw[iJ (k:=9) o];rfl]
  exact if_pos (by rw[PyData.bulk];have:=kW o;omega)))
theorem wN {Ls:List (List Int)} {h:Hh} {n:Nat} (e:ay h n=some (Ls.map tpI)) (o:∀xs∈Ls,SmL xs) (hl:Ls.length<=100):aR [.ref n] h=.ok (.str (hV Ls)) h:=
 fG (eN (show eH (.ref n) h=_ from by
  delta eH
  rw[show toPy 12 h (.ref n)=some (.list (Ls.map pyT)) by
   show(match ay h n with | some ds=>(aZ (toPy 11 h) ds).map PyData.list | none=>none)=_
   rw[e]
   show(aZ (toPy 11 h) _).map PyData.list=_
   rw[iJ (k:=9) o];rfl]
  exact if_pos (by rw[PyData.bulk];have:=kW o;omega)))
theorem AH {z:Str} (a:∀c∈cl z,c<=57):z.cps.toList.all (fun c=>decide (c<16 ^ 8))=true:=List.all_eq_true.mpr fun c hc=>decide_eq_true (Nat.lt_of_le_of_lt (a c hc) (by decide))
theorem mv {k:Nat} {h:Hh}:∀{zs:List Str},(∀z∈zs,∀c∈cl z,c<=57)->aZ (toPy (k+1) h) (zs.map D.str)=some (zs.map PyData.str)
 | [],_=>rfl
 | z::zs,a=>by
  have e1:toPy (k+1) h (.str z)=some (.str z):=if_pos (AH (a z List.mem_cons_self))
  rw[List.map_cons,aZ,e1,mv fun x hx=>a x (List.mem_cons_of_mem _ hx)];rfl
theorem nE {b:Nat}:∀{zs:List Str},(∀z∈zs,z.length<=b)->PyData.bulkAll (zs.map PyData.str)<=(b+1)*zs.length
 | [],_=>by simp[PyData.bulkAll]
 | z::zs,a=>by
  have l:z.cps.size<=b:=a z List.mem_cons_self
  have c:=nE fun x hx=>a x (List.mem_cons_of_mem _ hx)
  rw[List.map_cons,PyData.bulkAll,PyData.bulk,List.length_cons,Nat.mul_add]
  omega
theorem zk {zs:List Str} {h:Hh} (a:∀z∈zs,∀c∈cl z,c<=57) (b:∀z∈zs,z.length<=60) (hl:zs.length<=20):∃s,aR [.frl (zs.map D.str)] h=.ok (.str s) h:=
 ⟨_,fG (eN (show eH (.frl (zs.map D.str)) h=.ok (.str (PyData.list (zs.map PyData.str)).shown) h from by
  delta eH
  rw[show toPy 12 h (.frl (zs.map D.str))=some (.list (zs.map PyData.str)) by show(aZ (toPy 11 h) _).map PyData.list=_;rw[mv (k:=10) a];rfl]
  exact if_pos (by rw[PyData.bulk];have:=nE b;omega)))⟩
theorem wL {z:Str} {h:Hh} (a:∀c∈cl z,c<=57) (hl:z.length<=2000):aR [.str z] h=.ok (.str (reprText z)) h:=by
 have c:(reprText z).length<=1000000:=by
  have:=PyData.shown_le_bulk 8 (by decide) (.str z) (by rw[PyData.leavesShort];exact AH a)
  rw[PyData.bulk] at this
  have e:(PyData.str z).shown=reprText z:=by rw[PyData.shown]
  rw[e] at this
  have hl:z.cps.size<=2000:=hl
  omega
 refine fG ?_
 have e1:dE [.str z] h=l_ [.str z] h:=rfl
 rw[e1]
 exact if_pos c
noncomputable def RM (e:D):Prop:=∃p,eV 12 e=some p/\p.bulk<=100
theorem DB (ds:List D) (h:Hh):dE [.frl ds] h=.bad\/∃s,dE [.frl ds] h=.ok (.str s) h:=by
 delta dE
 have hR:eH (.frl ds) h=.bad\/∃s,eH (.frl ds) h=.ok (.str s) h:=by
  delta eH
  cases toPy 12 h (.frl ds) with
  | none=>exact .inl rfl
  | some p=>
   by_cases z2:p.bulk<=8000
   ·exact .inr ⟨_,if_pos z2⟩
   ·exact .inl (if_neg z2)
 rcases hR with e | ⟨s,e⟩
 ·have e':ka [.frl ds] h=.bad:=e
  rw[e'];exact .inl rfl
 ·have e':ka [.frl ds] h=.ok (.str s) h:=e
  rw[e'];exact .inr ⟨s,rfl⟩
theorem xZ {ds:List D} (hn:ds≠[]) (hl:ds.length<=70) (k:∀e∈ds,RM e) (h:Hh):∃s,aR [.frl ds] h=.ok (.str s) h:=by
 cases ds with
 | nil=>exact absurd rfl hn
 | cons d ds=>
  obtain⟨ps,e,b⟩:=dF (f:=eV 12) fun x hx=>k x hx
  rcases DB (d::ds) h with x | ⟨s,x⟩
  ·cases ps with
   | nil=>
    exfalso
    have:∀{f:D->Option PyData} {a:D} {as:List D},aZ f (a::as)=some []->False:=fun{f a as} z=>by
     rw[aZ] at z
     revert z
     cases f a<;>cases aZ f as<;>intro z<;>cases z
    exact this e
   | cons p ps=>
    have z:PyData.bulk (.list (p::ps))<=8000:=by rw[PyData.bulk];omega
    refine⟨(PyData.list (p::ps)).shown,?_⟩
    have q:l6 [.frl (d::ds)] h=.ok (.str (PyData.list (p::ps)).shown) h:=by
     simp only[l6,e];exact if_pos z
    delta aR
    rw[x]
    exact q
  ·exact⟨s,fG x⟩
noncomputable def R3 (e:D):Prop:=∃p,eV 11 e=some p/\p.bulk<=1
theorem k9 {i:Int} (s:sml i=true):R3 (.int i):=⟨.int i,by show(if sml i=true then some (PyData.int i) else none)=_;rw[if_pos s],by simp[PyData.bulk]⟩
theorem vp {ds:List D} (k:∀e∈ds,R3 e) (hl:ds.length<=40):RM (.tup ds):=by
 obtain⟨ps,e,b⟩:=dF (f:=eV 11) k
 refine⟨.tuple ps,?_,by rw[PyData.bulk];omega⟩
 show(aZ (eV 11) ds).map PyData.tuple=_
 rw[e];rfl
theorem Fw {ds:List D} (k:∀e∈ds,R3 e) (hl:ds.length<=40):RM (.frl ds):=by
 obtain⟨ps,e,b⟩:=dF (f:=eV 11) k
 refine⟨.list ps,?_,by rw[PyData.bulk];omega⟩
 show(aZ (eV 11) ds).map PyData.list=_
 rw[e];rfl
theorem gZ {xs:List Int} (s:∀x∈xs,sml x=true):∀e∈xs.map D.int,R3 e:=fun e he=>by
 obtain⟨x,hx,rfl⟩:=List.mem_map.mp he
 exact k9 (s x hx)
theorem xT {xs:List Int} (s:SmL xs):RM (tpI xs):=vp (gZ s.sm) (by rw[List.length_map];have:=s.len;omega)
theorem yc {xs:List Int} (s:SmL xs):RA (tpI xs):=fun h=>⟨pyT xs,by
  show(aZ (toPy 10 h) (xs.map D.int)).map PyData.tuple=_
  rw[iu (k:=9) s.sm];rfl,by rw[pyT,PyData.bulk,jz];have:=s.len;omega⟩
theorem xH {Ls:List (List Int)} (hl:Ls.length<=60) (o:∀xs∈Ls,SmL xs):RX (.frl (Ls.map tpI)):=Bz (by rw[List.length_map];exact hl) fun e he=>by
 obtain⟨x,hx,rfl⟩:=List.mem_map.mp he
 exact yc (o x hx)
theorem DC {Ls:List (List Int)} (hl:Ls.length<=60) (o:∀xs∈Ls,SmL xs):RX (.tup (Ls.map tpI)):=zF (by rw[List.length_map];exact hl) fun e he=>by
 obtain⟨x,hx,rfl⟩:=List.mem_map.mp he
 exact yc (o x hx)
theorem DA {Ls:List (List Int)} (hl:Ls.length<=60) (o:∀xs∈Ls,SmL xs):RX (.frl [.frl (Ls.map tpI)]):=fun h=>
 ⟨_,eN (show eH (.frl [.frl (Ls.map tpI)]) h=.ok (.str (PyData.list [.list (Ls.map pyT)]).shown) h from by
  delta eH
  rw[show toPy 12 h (.frl [.frl (Ls.map tpI)])=some (.list [.list (Ls.map pyT)]) by
   have e:toPy 11 h (.frl (Ls.map tpI))=some (.list (Ls.map pyT)):=by show(aZ (toPy 10 h) _).map PyData.list=_;rw[iJ (k:=8) o];rfl
   show(aZ (toPy 11 h) [.frl (Ls.map tpI)]).map PyData.list=_
   rw[aZ,e];rfl]
  exact if_pos (by rw[PyData.bulk,PyData.bulkAll,PyData.bulk,PyData.bulkAll];have:=kW o;omega))⟩
structure Bad (d:D):Prop where
 th:Th d
 rm:RM d
 og:ogD d=false
noncomputable def Bh (n:Nat) (d:D):Prop:=p7 d/\R3 d/\(isI d=false\/inR 0 ((n:Int) - 1) d=false)
noncomputable def rM (n:Int):List D:=[.int n,.int (-1),.non,.str "0", .frl [.int 0],.edic,.tup [.int 0],.int (10 ^ 30)]
theorem zm {n:Nat} (hn:n<=20):∀d∈rM n,Bh n d:=by
 intro d hd
 simp only[rM,List.mem_cons,List.not_mem_nil,or_false] at hd
 rcases hd with rfl | rfl | rfl | rfl | rfl | rfl | rfl | rfl
 ·have s:sml (n:Int)=true:=n4 (by omega) (by omega)
  exact⟨oQ s,k9 s,.inr (decide_eq_false (by omega))⟩
 ·have s:sml (-1)=true:=by decide +kernel
  exact⟨oQ s,k9 s,.inr (show decide ((0:Int)<=-1/\(-1:Int)<=(n:Int) - 1)=false from decide_eq_false (by omega))⟩
 ·exact⟨Au,⟨.none,rfl,by simp[PyData.bulk]⟩,.inl rfl⟩
 ·exact⟨xP,⟨.str "0", by kernel_rfl,by decide +kernel⟩,.inl rfl⟩
 ·exact⟨wU,⟨.list [.int 0],by kernel_rfl,by decide +kernel⟩,.inl rfl⟩
 ·exact⟨wb,⟨.dict [],rfl,by decide +kernel⟩,.inl rfl⟩
 ·exact⟨xO,⟨.tuple [.int 0],by kernel_rfl,by decide +kernel⟩,.inl rfl⟩
 ·have s:sml (10 ^ 30)=true:=by decide +kernel
  exact⟨oQ s,k9 s,.inr (decide_eq_false (by omega))⟩
theorem vH {xs:List Int} (o:fV xs) {od:D} (k:Bh xs.length od) {sp:Nat} (hs:sp<xs.length):Bad (.tup ((xs.take sp).map D.int++od::(xs.drop (sp+1)).map D.int)):=by
 have s:=o.sm
 have hl:=s.len
 have ht:∀x∈xs.take sp,sml x=true:=fun x hx=>s.sm x (List.mem_of_mem_take hx)
 have hd:∀x∈xs.drop (sp+1),sml x=true:=fun x hx=>s.sm x (List.mem_of_mem_drop hx)
 have ml:((xs.take sp).map D.int++od::(xs.drop (sp+1)).map D.int).length=xs.length:=by simp;omega
 refine⟨yP k.1 ht hd (by simp;omega),vp (fun e he=>?_) (by rw[ml];omega),?_⟩
 ·rcases List.mem_append.mp he with he | he
  ·exact gZ ht e he
  ·rcases List.mem_cons.mp he with he | he
   ·rw[he];exact k.2.1
   ·exact gZ hd e he
 ·rcases k.2.2 with z | z
  ·exact sG (e:=od) (by simp) z
  ·refine BL (e:=od) (by simp) fun n hn=>?_
   rw[hn,ml];exact z
noncomputable def trD (x:Int):D:=if x<2 then .bl (x == 1) else .int x
theorem zl {xs:List Int} {h:Hh}:cP tt1 (cIf (aI asB (ax dLt (ah 0) (cC (.int 2)))) (ax dEq (ah 0) (cC (.int 1))) (ah 0)) (fun x=>[some x]) (xs.map D.int) h=.ok (xs.map trD) h:=
 fH D.int trD xs fun x hx=>by
  unfold trD
  by_cases z:x<2<;>simp[z]
theorem Dt {x:Int} (s:sml x=true):itm (trD x)=true/\RA (trD x)/\R3 (trD x):=by
 unfold trD
 by_cases z:x<2
 ·rw[if_pos z];exact⟨rfl,fun h=>⟨.bool _,rfl,by simp[PyData.bulk]⟩,.bool _,rfl,by simp[PyData.bulk]⟩
 ·rw[if_neg z];exact⟨rfl,lh s,k9 s⟩
theorem uw {xs:List Int} (o:fV xs):Bad (.tup (xs.map trD)):=by
 have s:=o.sm
 have hl:=s.len
 have a:∀e∈xs.map trD,itm e=true/\RA e/\R3 e:=fun e he=>by obtain⟨x,hx,rfl⟩:=List.mem_map.mp he;exact Dt (s.sm x hx)
 refine⟨⟨rfl,fun ds e=>by cases e;exact⟨fun e he=>(a e he).1,by rw[List.length_map];omega⟩,zF (by rw[List.length_map];omega) fun e he=>(a e he).2.1⟩,vp (fun e he=>(a e he).2.2) (by rw[List.length_map];omega),?_⟩
 obtain⟨n,o1,h1,h2⟩:=o
 have z:=tE o1 (j:=0) (by omega) (by omega)
 exact sG (e:=trD 0) (List.mem_map.mpr ⟨0,z,rfl⟩) rfl
theorem wD {xs:List Int} (o:fV xs):Bad (.frl (xs.map D.int)):=⟨BX o.sm.sm (by have:=o.sm.len;omega),Fw (gZ o.sm.sm) (by rw[List.length_map];have:=o.sm.len;omega),rfl⟩
theorem Ac:Bad (.tup []):=⟨kS (xs:=[]) (fun x hx=>by cases hx) (by decide),vp (fun e he=>by cases he) (by decide),by decide +kernel⟩
theorem tW:Bad .non:=⟨⟨rfl,fun ds e=>(nomatch e),fun h=>⟨"None", rfl⟩⟩,⟨.none,rfl,by simp[PyData.bulk]⟩,rfl⟩
theorem zt:Bad (.tup (cn 0 21)):=by
 have sm:∀x∈fj 0 21,sml x=true:=by decide +kernel
 rw[sH]
 exact⟨kS sm (by decide),vp (gZ sm) (by decide),zz (by decide)⟩
theorem vT {xs:List Int} (o:fV xs):Bad (.tup ((xs++xs.take 1).map D.int)):=by
 have s:=o.sm
 have hl:=s.len
 have sm:∀x∈xs++xs.take 1,sml x=true:=fun x hx=>by
  rcases List.mem_append.mp hx with hx | hx
  ·exact s.sm x hx
  ·exact s.sm x (List.mem_of_mem_take hx)
 obtain⟨n,o1,h1,h2⟩:=o
 have e:=o1.len
 refine⟨kS sm (by simp;omega),vp (gZ sm) (by simp;omega),yQ (k:=n) (by simp;omega) (by simp;omega) fun x hx=>?_⟩
 have:x<n:=by
  rcases List.mem_append.mp hx with hx | hx
  ·exact o1.hi x hx
  ·exact o1.hi x (List.mem_of_mem_take hx)
 omega
noncomputable def sg (xs:List Int) (od:D) (sp:Int):List D:=
 [.tup ((cx xs none (some sp)).map D.int++[od]++(cx xs (some (sp+1)) none).map D.int),.tup (xs.map trD),.frl (xs.map D.int),.tup [],.non,.tup (cn 0 21),.tup (xs.map D.int++(cx xs none (some 1)).map D.int)]
theorem Ab {xs:List Int} (o:fV xs) {od:D} (k:Bh xs.length od) {sp:Nat} (hs:sp<xs.length):∀d∈sg xs od sp,Bad d:=by
 intro d hd
 have c1:cx xs none (some (sp:Int))=xs.take sp:=kY xs sp
 have c2:cx xs (some ((sp:Int)+1)) none=xs.drop (sp+1):=nM xs (sp+1)
 have c3:cx xs none (some (1:Int))=xs.take 1:=kY xs 1
 simp only[sg,c1,c2,c3,List.mem_cons,List.not_mem_nil,or_false] at hd
 rcases hd with rfl | rfl | rfl | rfl | rfl | rfl | rfl
 ·rw[List.append_assoc];exact vH o k hs
 ·exact uw o
 ·exact wD o
 ·exact Ac
 ·exact tW
 ·exact zt
 ·rw[<- List.map_append];exact vT o
theorem Ex {xs:List Int} {p:Pen} {h t:Hh} (o:fV xs):∃d p',cz [.ref h.length,tpI xs] (h++.lst (bp p)::t)=.ok d (h++.lst (bp p')::t)/\Bad d:=by
 have hl:=o.sm.len
 have hn:1<=xs.length:=by cases xs with | nil=>exact absurd rfl o.sm.ne | cons=>simp
 obtain⟨k1,e1,b1⟩:=iU p 7 (by decide)
 obtain⟨sp,e2,b2⟩:=iU (bw p 7) (xs.length:Int) (by omega)
 obtain⟨k3,e3,b3⟩:=iU (bw (bw p 7) (xs.length:Int)) 8 (by decide)
 have hk3:k3<(rM xs.length).length:=by show k3<8;omega
 have oo:=zm hl _ (List.getElem_mem hk3)
 have ix3:∀H:Hh,ixK (rM xs.length) (k3:Int) H=.ok (rM xs.length)[k3] H:=fun H=>kU rfl (List.getElem?_eq_getElem hk3)
 generalize (rM xs.length)[k3]=od at *
 have hk1:k1<(sg xs od sp).length:=by show k1<7;omega
 have bb:=Ab o oo (show sp<xs.length by omega) _ (List.getElem_mem hk1)
 have ix1:∀H:Hh,ixK (sg xs od sp) (k1:Int) H=.ok (sg xs od sp)[k1] H:=fun H=>kU rfl (List.getElem?_eq_getElem hk1)
 refine⟨_,bw (bw (bw p 7) (xs.length:Int)) 8,?_,bb⟩
 generalize (sg xs od sp)[k1]=DD at ix1
 have ct:=zl (xs:=xs) (h:=h++.lst (bp (bw (bw (bw p 7) (xs.length:Int)) 8))::t)
 have cl:∀lo hi,(cx xs lo hi).length<=20:=fun lo hi=>by have:=k6 xs lo hi;omega
 have l1:=cl none (some sp)
 have l3:=cl (some ((sp:Int)+1)) none
 have l4:=cl none (some 1)
 have dn:0<(xs.length:Int)/\(xs.length:Int)<=10 ^ 20:=by omega
 unfold sg at ix1
 unfold rM at ix3
 clear oo bb
 generalize hM1:(cx xs none (some (sp:Int)))=M1 at *
 generalize hM3:(cx xs (some ((sp:Int)+1)) none)=M3 at *
 generalize hM4:(cx xs none (some 1))=M4 at *
 have z0:xs.length<=1000000:=by omega
 have z2:M1.length+1<=1000000:=by omega
 have z3:M1.length+1+M3.length<=1000000:=by omega
 have z6:xs.length+M4.length<=1000000:=by omega
 generalize hT:xs.map trD=TR at *
 have t30:(10:Int) ^ 30=1000000000000000000000000000000:=by decide +kernel
 simp only[t30] at ix3
 have s10:sml 10=true:=by decide +kernel
 simp only[List.append_assoc,List.cons_append,List.nil_append] at ix1
 simp[cz,bI,e1,oH dn,e2,e3,gJ,hM1,hM3,hM4,z0,z2,z3,z6,ct,s10,ix3]
 simp[ix1]
noncomputable def B0:MS:=(aH (bA 9 (ag cq (aa (ah 7) aj))) (aH (cD (aI asB (ax dNe (ag aR (aa (ah 9) aj)) (ah 6))) (bq (cC (.bl false))) bj) (j9 (dU eg (ah 9) (aa (ag fh aj) aj)))))
noncomputable def B1:MS:=(aH (bA 6 (ag aR (aa (ah 13) aj))) (cD (gp (aI asB (ax dNe (ag bc (aa (cC (.int 1)) (aa (ah 13) aj))) (ag fh (aa (cC (.str "row")) aj)))) (aI asB (ax dNe (ag aR (aa (ah 13) aj)) (ah 6)))) (bq (cC (.bl false))) bj))
noncomputable def B2:MS:=(aH (bA 2 (ag bR (aa (ah 1) aj))) (aH (xQ 3 4 (ag fh (aa (ax dIx (ag (cL az) (aa (ax (bK az) (cC (.int 1)) (ag aq (aa (ah 2) (aa (cC (.int 20)) aj)))) (aa (cC (.int 20)) (aa (ax (bK az) (cC (.int 1)) (ag aq (aa (ah 2) (aa (cC (.int 3)) aj)))) aj)))) (ag aq (aa (ah 2) (aa (cC (.int 3)) aj)))) (aa (ax (bK az) (cC (.int 1)) (ag aq (aa (ah 2) (aa (cC (.int 20)) aj)))) aj)))) (aH (bA 5 (bY az (pI kq (aa (ah 3) aj)) [2,4] tt1 (ag bx (aa (ah 1) (aa (ax (bK az) (cC (.int 1)) (ag aq (aa (ah 1) (aa (ah 2) aj)))) aj))))) (aH (bA 6 (ag aR (aa (ah 5) aj))) (aH (bA 7 (dj gL (cC (.str "\n")) (aa (bY az (bV (ah 5)) [] tt1 (ag bh (aa (ah 0) aj))) aj))) (aH (cD (gp (aI asB (ax dNe (ag aR (aa (ag bJ (aa (ah 5) aj)) aj)) (ag aR (aa (ah 7) aj)))) (aI asB (ax dNe (ag aR (aa (ah 5) aj)) (ah 6)))) (bq (cC (.bl false))) bj) (aH (gm (pI kq (aa (cC (.int 2)) aj)) (gN 8) B0) (aH (cD (aI asB (ax dNe (ag aR (aa (bY az (bV (ah 5)) [] tt1 (ag aU (aa (ah 0) aj))) aj)) (ag aR (aa (bY az (bV (ah 5)) [] tt1 (ag bh (aa (ah 0) aj))) aj)))) (bq (cC (.bl false))) bj) (aH (bA 10 (ag cz (aa (ah 2) (aa (ax dIx (ah 5) (cC (.int 0))) aj)))) (aH (bA 11 (ag aq (aa (ah 2) (aa (ah 3) aj)))) (aH (bA 12 (ag (cL az) (aa (ax (bK az) (ax (bK az) (cN az (ah 5) b8 (dm (ah 11))) (ag (cL az) (aa (ah 10) aj))) (cN az (ah 5) (dm (ax (bK az) (ah 11) (cC (.int 1)))) b8)) (aa (ag eF (aa (ah 5) aj)) (aa (ag (cL az) aj) (aa (cN az (ax (oN az) (ah 5) (cC (.int 21))) b8 (dm (cC (.int 21)))) (aa (cC .non) (aa (cC (.str "0")) (aa (ag (cL az) (aa (ah 5) aj)) aj))))))))) (aH (bA 12 (ax (bK az) (ah 12) (ag (cL az) (aa (ax dIx (ah 5) (cC (.int 0))) (aa (cC .edic) aj))))) (aH (cD (gp (aI asB (ax dNe (ag bc (aa (cC (.int 0)) (aa (ah 10) aj))) (ag fh (aa (cC (.str "order")) aj)))) (aI asB (ax dNe (ag bc (aa (cC (.int 0)) (aa (ah 5) aj))) (ag fh (aa (cC (.str "order")) aj))))) (bq (cC (.bl false))) bj) (gm (bV (ah 12)) (gN 13) B1))))))))))))))
theorem xn:lV=fun ds h=>((cR 14 (aH (gm (bV (ax (bK az) (ag (cL az) (aa (ag bD (aa (ah 0) (aa (cC (.int 0)) aj))) aj)) (cN az (ah 0) (dm (cC (.int 1))) (dm (cC (.int 5)))))) (gN 1) B2) (bq (cC (.bl true))))) ds h).bind (ed h):=rfl
noncomputable def ya:Prop:=∀(ns:List Int) (c:Int) (y2 y3 y4 y5 y6 y7 y8 y9 y10 y11 y12 y13:Option D) (h:Hh),Wf h->Ok (B2 [some (.scr (ns.map D.int)),some (.int c),y2,y3,y4,y5,y6,y7,y8,y9,y10,y11,y12,y13] h) fun fl h2=>∃z2 z3 z4 z5 z6 z7 z8 z9 z10 z11 z12 z13,fl=.nx [some (.scr (ns.map D.int)),some (.int c),z2,z3,z4,z5,z6,z7,z8,z9,z10,z11,z12,z13]/\Wf h2
theorem BJ (step:ya) (ns:List Int) (hl:ns.length<=63):∃h,lV [.scr (ns.map D.int)] []=.ok (.bl true) h:=by
 have key:Ok (ec (gN 1) B2 (((ns.headD 0)::cx ns (some 1) (some 5)).map D.int) [some (.scr (ns.map D.int)),none,none,none,none,none,none,none,none,none,none,none,none,none] []) fun fl h2=>(∃e,fl=.nx e)/\Wf h2:=by
  refine n6 D.int (fun e h=>(∃y1 y2 y3 y4 y5 y6 y7 y8 y9 y10 y11 y12 y13,e=[some (.scr (ns.map D.int)),y1,y2,y3,y4,y5,y6,y7,y8,y9,y10,y11,y12,y13])/\Wf h) _ _ _ ⟨⟨_,_,_,_,_,_,_,_,_,_,_,_,_,rfl⟩,Wf.nil⟩ (fun x e h _ ⟨⟨y1,y2,y3,y4,y5,y6,y7,y8,y9,y10,y11,y12,y13,e1⟩,w⟩=>?_) (fun e h ⟨_,w⟩=>⟨⟨_,rfl⟩,w⟩)
  subst e1
  simp only[CW,br,List.set]
  refine(step ns x y2 y3 y4 y5 y6 y7 y8 y9 y10 y11 y12 y13 h w).mono fun fl h2 ⟨z2,z3,z4,z5,z6,z7,z8,z9,z10,z11,z12,z13,e2,w2⟩=>?_
  subst e2
  exact⟨⟨_,_,_,_,_,_,_,_,_,_,_,_,_,rfl⟩,w2⟩
 obtain⟨fl,h2,e,⟨e',rfl⟩,w⟩:=key
 have cl:=k6 ns (some 1) (some 5)
 have c1:1+(cx ns (some 1) (some 5)).length<=1000000:=by omega
 have ex:ed [] (.bl true) h2=.ok (.bl true) []:=by
  have:=eM (h:=[]) (t:=h2) (d:=.bl true) Wf.nil rfl
  simpa using this
 refine⟨[],?_⟩
 have e2:ec (gN 1) B2 (D.int (ns.headD 0)::(cx ns (some 1) (some 5)).map D.int) [some (.scr (ns.map D.int)),none,none,none,none,none,none,none,none,none,none,none,none,none] []=.ok (.nx e') h2:=e
 rw[xn]
 simp[bI,ud,c1,e2,ex,-List.headD_eq_head?_getD]
noncomputable def S1:MS:=(bA 2 (ag bR (aa (ah 1) aj)))
noncomputable def S2:MS:=(xQ 3 4 (ag fh (aa (ax dIx (ag (cL az) (aa (ax (bK az) (cC (.int 1)) (ag aq (aa (ah 2) (aa (cC (.int 20)) aj)))) (aa (cC (.int 20)) (aa (ax (bK az) (cC (.int 1)) (ag aq (aa (ah 2) (aa (cC (.int 3)) aj)))) aj)))) (ag aq (aa (ah 2) (aa (cC (.int 3)) aj)))) (aa (ax (bK az) (cC (.int 1)) (ag aq (aa (ah 2) (aa (cC (.int 20)) aj)))) aj))))
noncomputable def S3:MS:=(bA 5 (bY az (pI kq (aa (ah 3) aj)) [2,4] tt1 (ag bx (aa (ah 1) (aa (ax (bK az) (cC (.int 1)) (ag aq (aa (ah 1) (aa (ah 2) aj)))) aj)))))
noncomputable def S4:MS:=(bA 6 (ag aR (aa (ah 5) aj)))
noncomputable def S5:MS:=(bA 7 (dj gL (cC (.str "\n")) (aa (bY az (bV (ah 5)) [] tt1 (ag bh (aa (ah 0) aj))) aj)))
noncomputable def S6:MS:=(cD (gp (aI asB (ax dNe (ag aR (aa (ag bJ (aa (ah 5) aj)) aj)) (ag aR (aa (ah 7) aj)))) (aI asB (ax dNe (ag aR (aa (ah 5) aj)) (ah 6)))) (bq (cC (.bl false))) bj)
noncomputable def S7:MS:=(gm (pI kq (aa (cC (.int 2)) aj)) (gN 8) B0)
noncomputable def S8:MS:=(cD (aI asB (ax dNe (ag aR (aa (bY az (bV (ah 5)) [] tt1 (ag aU (aa (ah 0) aj))) aj)) (ag aR (aa (bY az (bV (ah 5)) [] tt1 (ag bh (aa (ah 0) aj))) aj)))) (bq (cC (.bl false))) bj)
noncomputable def S9:MS:=(bA 10 (ag cz (aa (ah 2) (aa (ax dIx (ah 5) (cC (.int 0))) aj))))
noncomputable def S10:MS:=(bA 11 (ag aq (aa (ah 2) (aa (ah 3) aj))))
noncomputable def S11:MS:=(bA 12 (ag (cL az) (aa (ax (bK az) (ax (bK az) (cN az (ah 5) b8 (dm (ah 11))) (ag (cL az) (aa (ah 10) aj))) (cN az (ah 5) (dm (ax (bK az) (ah 11) (cC (.int 1)))) b8)) (aa (ag eF (aa (ah 5) aj)) (aa (ag (cL az) aj) (aa (cN az (ax (oN az) (ah 5) (cC (.int 21))) b8 (dm (cC (.int 21)))) (aa (cC .non) (aa (cC (.str "0")) (aa (ag (cL az) (aa (ah 5) aj)) aj)))))))))
noncomputable def S12:MS:=(bA 12 (ax (bK az) (ah 12) (ag (cL az) (aa (ax dIx (ah 5) (cC (.int 0))) (aa (cC .edic) aj)))))
noncomputable def S13:MS:=(cD (gp (aI asB (ax dNe (ag bc (aa (cC (.int 0)) (aa (ah 10) aj))) (ag fh (aa (cC (.str "order")) aj)))) (aI asB (ax dNe (ag bc (aa (cC (.int 0)) (aa (ah 5) aj))) (ag fh (aa (cC (.str "order")) aj))))) (bq (cC (.bl false))) bj)
noncomputable def S14:MS:=(gm (bV (ah 12)) (gN 13) B1)
theorem Ez:B2=aH S1 (aH S2 (aH S3 (aH S4 (aH S5 (aH S6 (aH S7 (aH S8 (aH S9 (aH S10 (aH S11 (aH S12 (aH S13 (S14))))))))))))):=rfl
noncomputable def TB:MS:=bq (l9 kf (up (ax dIx (ag (cL az) (aa (cC (.fn "order_shown")) (aa (cC (.fn "orders_shown")) aj))) (ah 0))) (aa (up (ah 1)) aj))
theorem sD:bc=cR 3 (rJ TB bg):=rfl
theorem v_ {d:D} {h:Hh} (t:Th d) (w:Wf h) (c:ogD d=false):bc [.int 0,d] h=.ok TOr h:=by
 have e0:bQ [d] h=.err ⟨"NoOrder", []⟩ h:=by simp[bQ,bI,CS t w c]
 have e:TB [some (.int 0),some d,none] h=.err ⟨"NoOrder", []⟩ h:=by simp[TB,sP (tab:=kf) (x:="order_shown") (m:=bQ) (h1:=h),e0]
 have q:=v9 (mr:=bg) w e (by decide) E_
 rw[sD];simp[bI,q]
theorem CB {d:D} {h:Hh} (w:Wf h) (g:aO [d] h=.ok (.bl false) h):bc [.int 1,d] h=.ok TRw h:=by
 have e0:bB [d] h=.err ⟨"NoRow", []⟩ h:=by simp[bB,bI,g]
 have e:TB [some (.int 1),some d,none] h=.err ⟨"NoRow", []⟩ h:=by simp[TB,sP (tab:=kf) (x:="orders_shown") (m:=bB) (h1:=h),e0]
 have q:=v9 (mr:=bg) w e (by decide) FR
 rw[sD];simp[bI,q]
theorem Ec {h:Hh}:dNe TRw (.tup [.str "row"]) h=.ok (.bl false) h:=by kernel_rfl
theorem DT {h:Hh}:dNe TOr (.tup [.str "order"]) h=.ok (.bl false) h:=by kernel_rfl
structure Wr (h:Hh) (d:D):Prop where
 rp:∃s,aR [d] h=.ok (.str s) h
 gd:aO [d] h=.ok (.bl false) h
theorem qw {d:D} {h:Hh} (k:itm d=true) (n:∀ds,d≠.frl ds):aO [d] h=.ok (.bl false) h:=by
 cases d<;>first | (exact absurd k Bool.false_ne_true) | exact absurd rfl (n _) | rfl
theorem ni {d:D} (r:RX d) (h:Hh):∃s,aR [d] h=.ok (.str s) h:=let ⟨s,e⟩:=r h;⟨s,fG e⟩
noncomputable def wrL (Ls:List (List Int)) (sp:Int) (bd:D):List D:=
 [.frl ((cx Ls none (some sp)).map tpI++[bd]++(cx Ls (some (sp+1)) none).map tpI),.tup (Ls.map tpI),.frl [],.frl ((cx (List.replicate 21 Ls).flatten none (some 21)).map tpI),.non,.str "0", .frl [.frl (Ls.map tpI)]]
theorem Ck {Ls:List (List Int)} {sp:Nat} {bd:D} {h:Hh} {x0:List Int} (o:OL Ls) (hx:x0∈Ls) (hs:sp<Ls.length) (b:Bad bd) (w:Wf h):∀d∈wrL Ls sp bd++[tpI x0,.edic],Wr h d:=by
 intro d hd
 have hl:=o.len
 have so:=o.sm.all
 have c1:cx Ls none (some (sp:Int))=Ls.take sp:=kY Ls sp
 have c2:cx Ls (some ((sp:Int)+1)) none=Ls.drop (sp+1):=nM Ls (sp+1)
 have c3:cx (List.replicate 21 Ls).flatten none (some (21:Int))=(List.replicate 21 Ls).flatten.take 21:=kY _ 21
 simp only[wrL,c1,c2,c3,List.cons_append,List.nil_append,List.mem_cons,List.not_mem_nil,or_false] at hd
 rcases hd with rfl | rfl | rfl | rfl | rfl | rfl | rfl | rfl | rfl
 ·have mm:∀e∈(Ls.take sp).map tpI++[bd]++(Ls.drop (sp+1)).map tpI,Th e/\RM e:=by
   intro e he
   rcases List.mem_append.mp he with he | he
   ·rcases List.mem_append.mp he with he | he
    ·obtain⟨x,hx,rfl⟩:=List.mem_map.mp he
     exact⟨jV (o.all x (List.mem_of_mem_take hx)),xT (so x (List.mem_of_mem_take hx))⟩
    ·rw[List.mem_singleton] at he;subst he;exact⟨b.th,b.rm⟩
   ·obtain⟨x,hx,rfl⟩:=List.mem_map.mp he
    exact⟨jV (o.all x (List.mem_of_mem_drop hx)),xT (so x (List.mem_of_mem_drop hx))⟩
  have ml:((Ls.take sp).map tpI++[bd]++(Ls.drop (sp+1)).map tpI).length=Ls.length:=by simp;omega
  refine⟨xZ (by intro z;rw[z] at ml;simp at ml;omega) (by rw[ml];omega) (fun e he=>(mm e he).2) h,?_⟩
  rw[iK (fun e he=>(mm e he).1) (by rw[ml];omega) w]
  have z:((Ls.take sp).map tpI++[bd]++(Ls.drop (sp+1)).map tpI).all ogD=false:=by
   rw[List.all_eq_false]
   exact⟨bd,by simp,by rw[b.og];decide⟩
  rw[z,Bool.and_false]
 ·exact⟨ni (DC (by omega) so) h,qw rfl fun ds e=>(nomatch e)⟩
 ·exact⟨ni (Bz (by decide) fun e he=>by cases he) h,by rw[iK (fun e he=>by cases he) (by decide) w];rfl⟩
 ·have lm:((List.replicate 21 Ls).flatten.take 21).length=21:=by
   rw[List.length_take,List.length_flatten,List.map_replicate,List.sum_replicate_nat];omega
  have am:∀xs∈(List.replicate 21 Ls).flatten.take 21,xs∈Ls:=fun xs hx=>by
   obtain⟨l,hl,hx⟩:=List.mem_flatten.mp (List.mem_of_mem_take hx)
   rw[List.eq_of_mem_replicate hl] at hx
   exact hx
  refine⟨ni (xH (by rw[lm];decide) fun xs hx=>so xs (am xs hx)) h,?_⟩
  rw[iK (fun e he=>by obtain⟨x,hx,rfl⟩:=List.mem_map.mp he;exact jV (o.all x (am x hx))) (by rw[List.length_map,lm];decide) w,List.length_map,lm]
  rfl
 ·exact⟨ni tW.th.rx h,qw rfl fun ds e=>(nomatch e)⟩
 ·exact⟨⟨"'0'", by kernel_rfl⟩,qw rfl fun ds e=>(nomatch e)⟩
 ·refine⟨ni (DA (by omega) so) h,?_⟩
  rw[iK (ds:=[.frl (Ls.map tpI)]) (fun e he=>by rw[List.mem_singleton] at he;subst he;exact⟨rfl,fun ds e=>(nomatch e),xH (by omega) so⟩) (show 1<=1000 by decide) w]
  rfl
 ·exact⟨ni (jV (o.all _ hx)).rx h,qw rfl fun ds e=>(nomatch e)⟩
 ·exact⟨⟨"{}", by kernel_rfl⟩,qw rfl fun ds e=>(nomatch e)⟩
theorem lU {h:Hh} (w:Wf h) {y0 y1 y2 y3 y4 y5 y7 y8 y9 y10 y11 y12:Option D}:∀(ds:List D) (y6 y13:Option D),(∀d∈ds,Wr h d)->∃z6 z13,ec (gN 13) B1 ds [y0,y1,y2,y3,y4,y5,y6,y7,y8,y9,y10,y11,y12,y13] h=.ok (.nx [y0,y1,y2,y3,y4,y5,z6,y7,y8,y9,y10,y11,y12,z13]) h
 | [],y6,y13,_=>⟨y6,y13,rfl⟩
 | d::ds,y6,y13,k=>by
  obtain⟨⟨s,e⟩,g⟩:=k d List.mem_cons_self
  have t:=CB w g
  have nr:=Ec (h:=h)
  have t1:(gN 13 d [y0,y1,y2,y3,y4,y5,y6,y7,y8,y9,y10,y11,y12,y13] h).bind B1=.ok (.nx [y0,y1,y2,y3,y4,y5,some (.str s),y7,y8,y9,y10,y11,y12,some d]) h:=by
   simp[B1,e,t,nr]
  obtain⟨z6,z13,q⟩:=lU w (y0:=y0) (y1:=y1) (y2:=y2) (y3:=y3) (y4:=y4) (y5:=y5) (y7:=y7) (y8:=y8) (y9:=y9) (y10:=y10) (y11:=y11) (y12:=y12) ds (some (.str s)) (some d) fun x hx=>k x (List.mem_cons_of_mem _ hx)
  refine⟨z6,z13,?_⟩
  rw[fP,<- bM,t1,br,ng]
  exact q
section
variable {d0 d1 d2 y2 y3 y4 y5 y6 y7 y8 y9 y10 y11 y12 y13:Option D} {h:Hh}
theorem Dh {c:Int}:S1 [d0,some (.int c),y2,y3,y4,y5,y6,y7,y8,y9,y10,y11,y12,y13] h=.ok (.nx [d0,some (.int c),some (.ref h.length),y3,y4,y5,y6,y7,y8,y9,y10,y11,y12,y13]) (h++[.lst (bp (sT c))]):=by
 simp[S1]
theorem DQ {p:Pen}:∃(M Q:Nat) (p':Pen),(1<=M/\M<=20)/\(1<=Q/\Q<=20)/\S2 [d0,d1,some (.ref h.length),y3,y4,y5,y6,y7,y8,y9,y10,y11,y12,y13] (h++[.lst (bp p)])=.ok (.nx [d0,d1,some (.ref h.length),some (.int M),some (.int Q),y5,y6,y7,y8,y9,y10,y11,y12,y13]) (h++[.lst (bp p')]):=by
 obtain⟨a,e1,b1⟩:=iU p 20 (by decide)
 obtain⟨b,e2,b2⟩:=iU (bw p 20) 3 (by decide)
 obtain⟨k,e3,b3⟩:=iU (bw (bw p 20) 3) 3 (by decide)
 obtain⟨q,e4,b4⟩:=iU (bw (bw (bw p 20) 3) 3) 20 (by decide)
 obtain⟨M,hM1,hM2,hM⟩:∃M:Nat,1<=M/\M<=20/\∀H:Hh,ixK [.int (1+(a:Int)),.int 20,.int (1+(b:Int))] (k:Int) H=.ok (.int M) H:=by
  have hk:k<3:=by omega
  match k,hk with
  | 0,_=>exact⟨1+a,by omega,by omega,fun H=>rfl⟩
  | 1,_=>exact⟨20,by omega,by omega,fun H=>rfl⟩
  | 2,_=>exact⟨1+b,by omega,by omega,fun H=>rfl⟩
 refine⟨M,1+q,bw (bw (bw (bw p 20) 3) 3) 20,⟨hM1,hM2⟩,⟨by omega,by omega⟩,?_⟩
 simp[S2,e1,e2,e3,e4,hM]
theorem AE:∀{ys:List D},(∀y∈ys,∃xs,y=tpI xs/\fV xs)->∃Ls:List (List Int),ys=Ls.map tpI/\∀xs∈Ls,fV xs
 | [],_=>⟨[],rfl,fun _ h=>by cases h⟩
 | y::ys,k=>by
  obtain⟨xs,rfl,o⟩:=k y List.mem_cons_self
  obtain⟨Ls,rfl,a⟩:=AE fun z hz=>k z (List.mem_cons_of_mem _ hz)
  refine⟨xs::Ls,rfl,fun z hz=>?_⟩
  rcases List.mem_cons.mp hz with rfl | hz
  ·exact o
  ·exact a z hz
theorem DG {p:Pen} {M Q:Nat} (w:Wf h) (hM:1<=M/\M<=20) (hQ:1<=Q/\Q<=20):∃(Ls:List (List Int)) (p':Pen),OL Ls/\Ls.length=M/\S3 [d0,d1,some (.ref h.length),some (.int M),some (.int Q),y5,y6,y7,y8,y9,y10,y11,y12,y13] (h++[.lst (bp p)])=.ok (.nx [d0,d1,some (.ref h.length),some (.int M),some (.int Q),some (.frl (Ls.map tpI)),y6,y7,y8,y9,y10,y11,y12,y13]) (h++[.lst (bp p')]):=by
 obtain⟨ys,p',e,k,l⟩:=lJ (te:=ag bx (aa (ah 1) (aa (ax (bK az) (cC (.int 1)) (ag aq (aa (ah 1) (aa (ah 2) aj)))) aj))) (ee:=fun x=>[some x,some (.ref h.length),some (.int Q)]) (fun p=>h++[.lst (bp p)]) (fun d=>∃xs,d=tpI xs/\fV xs) (fun x p=>by
  obtain⟨q,e1,b1⟩:=iU p (Q:Int) (by omega)
  have dn:0<(Q:Int)/\(Q:Int)<=10 ^ 20:=by omega
  have eq:(1:Int)+(q:Int)=((1+q:Nat):Int):=by omega
  have xo:=yf (p:=bw p Q) (k:=1+q) w (by omega)
  refine⟨_,mn (bw p Q) (1+q),?_,kE (bw p Q) (1+q),rfl,1+q,vW _ _,by omega,by omega⟩
  simp only[yH,xU,rj,x8,Ee,e_C,A7,br,oH dn,e1,B9,eq]
  exact xo) (cn 0 M) p
 obtain⟨Ls,rfl,a⟩:=AE k
 rw[List.length_map,uW] at l
 refine⟨Ls,p',⟨fun z=>by rw[z] at l;simp at l;omega,by omega,a⟩,l,?_⟩
 have c3:M<=1000000:=by omega
 simp[S3,e,c3]
theorem Et {Ls:List (List Int)} (o:OL Ls):S4 [d0,d1,d2,y3,y4,some (.frl (Ls.map tpI)),y6,y7,y8,y9,y10,y11,y12,y13] h=.ok (.nx [d0,d1,d2,y3,y4,some (.frl (Ls.map tpI)),some (.str (hV Ls)),y7,y8,y9,y10,y11,y12,y13]) h:=by
 have e:=pZ (h:=h) o.sm.all (by have:=o.len;omega)
 generalize Ls.map tpI=ts at e ⊢
 simp[S4,e]
theorem Eh {Ls:List (List Int)} (o:OL Ls):S5 [d0,d1,d2,y3,y4,some (.frl (Ls.map tpI)),y6,y7,y8,y9,y10,y11,y12,y13] h=.ok (.nx [d0,d1,d2,y3,y4,some (.frl (Ls.map tpI)),y6,some (.str (cY Ls)),y8,y9,y10,y11,y12,y13]) h:=by
 have q:=vG (h:=h) o
 have c3:(Ls.map tpI).length<=1000000:=by rw[List.length_map];have:=o.len;omega
 have c4:wgt (Ls.map cw)<=1048576:=Nat.le_trans (wg o.sm) (by decide)
 unfold cY
 generalize Ls.map cw=zs at q c4 ⊢
 generalize Ls.map tpI=ts at q c3 ⊢
 simp[S5,q,c3,qU sv.2 c4]
theorem El {Ls:List (List Int)} (o:OL Ls) (w:Wf h):S6 [d0,d1,d2,y3,y4,some (.frl (Ls.map tpI)),some (.str (hV Ls)),some (.str (cY Ls)),y8,y9,y10,y11,y12,y13] h=.ok (.nx [d0,d1,d2,y3,y4,some (.frl (Ls.map tpI)),some (.str (hV Ls)),some (.str (cY Ls)),y8,y9,y10,y11,y12,y13]) h:=by
 have e:=pZ (h:=h) o.sm.all (by have:=o.len;omega)
 have f:=x9 o w
 have t:=wL (h:=h) (z:=cY Ls) (fun c hc=>Al o.sm hc) (Nat.le_trans (qC o.sm) (by decide))
 generalize Ls.map tpI=ts at e f ⊢
 simp[S6,e,f,t]
theorem tY {Ls:List (List Int)} {i:Int} (o:OL Ls) (w:Wf h):(gN 8 (.int i) [d0,d1,d2,y3,y4,y5,some (.str (hV Ls)),some (.str (cY Ls)),y8,y9,y10,y11,y12,y13] h).bind B0=.ok (.nx [d0,d1,d2,y3,y4,y5,some (.str (hV Ls)),some (.str (cY Ls)),some (.int i),some (.ref h.length),y10,y11,y12,y13]) (h++[.lst (Ls.map tpI++[.tup []])]):=by
 have e:=Bo o w
 have r:=wN (h:=h++[.lst (Ls.map tpI)]) (n:=h.length) fc o.sm.all (by have:=o.len;omega)
 have c3:(Ls.map tpI).length<1000000:=by rw[List.length_map];have:=o.len;omega
 generalize Ls.map tpI=ts at e r c3 ⊢
 simp[B0,e,r,c3]
theorem s_ {k:Nat} (Ls:List (List Int)):jv k (.lst (Ls.map tpI++[.tup []]))=true:=by
 have:Ls.map tpI++[D.tup []]=(Ls++[[]]).map tpI:=by rw[List.map_append];rfl
 rw[this];exact wO _
theorem EA {Ls:List (List Int)} (o:OL Ls) (w:Wf h):∃z8 z9,S7 [d0,d1,d2,y3,y4,y5,some (.str (hV Ls)),some (.str (cY Ls)),y8,y9,y10,y11,y12,y13] h=.ok (.nx [d0,d1,d2,y3,y4,y5,some (.str (hV Ls)),some (.str (cY Ls)),z8,z9,y10,y11,y12,y13]) (h++[.lst (Ls.map tpI++[.tup []]),.lst (Ls.map tpI++[.tup []])])/\Wf (h++[.lst (Ls.map tpI++[.tup []]),.lst (Ls.map tpI++[.tup []])]):=by
 have w1:Wf (h++[.lst (Ls.map tpI++[.tup []])]):=w.app (s_ Ls)
 have w2:Wf ((h++[.lst (Ls.map tpI++[.tup []])])++[.lst (Ls.map tpI++[.tup []])]):=w1.app (s_ Ls)
 have t1:=tY (h:=h) (i:=0) (d0:=d0) (d1:=d1) (d2:=d2) (y3:=y3) (y4:=y4) (y5:=y5) (y8:=y8) (y9:=y9) (y10:=y10) (y11:=y11) (y12:=y12) (y13:=y13) o w
 have t2:=tY (h:=h++[.lst (Ls.map tpI++[.tup []])]) (i:=1) (d0:=d0) (d1:=d1) (d2:=d2) (y3:=y3) (y4:=y4) (y5:=y5) (y8:=some (.int 0)) (y9:=some (.ref h.length)) (y10:=y10) (y11:=y11) (y12:=y12) (y13:=y13) o w1
 rw[List.append_assoc] at w2
 refine⟨some (.int 1),some (.ref (h++[O.lst (Ls.map tpI++[.tup []])]).length),?_,w2⟩
 have q:ec (gN 8) B0 (cn 0 2) [d0,d1,d2,y3,y4,y5,some (.str (hV Ls)),some (.str (cY Ls)),y8,y9,y10,y11,y12,y13] h=.ok (.nx [d0,d1,d2,y3,y4,y5,some (.str (hV Ls)),some (.str (cY Ls)),some (.int 1),some (.ref (h++[O.lst (Ls.map tpI++[.tup []])]).length),y10,y11,y12,y13]) (h++[.lst (Ls.map tpI++[.tup []]),.lst (Ls.map tpI++[.tup []])]):=by
  rw[Cw,fP,<- bM,t1,br,ng,fP,<- bM,t2,br,ng,zO,List.append_assoc];rfl
 generalize Ls.map tpI++[.tup []]=tt at q ⊢
 simp[S7,q]
end
section
variable {d0 d1 d2 y2 y3 y4 y5 y6 y7 y8 y9 y10 y11 y12 y13:Option D} {h t:Hh}
theorem Dp {Ls:List (List Int)} (o:OL Ls) (w:Wf h):S8 [d0,d1,d2,y3,y4,some (.frl (Ls.map tpI)),y6,y7,y8,y9,y10,y11,y12,y13] h=.ok (.nx [d0,d1,d2,y3,y4,some (.frl (Ls.map tpI)),y6,y7,y8,y9,y10,y11,y12,y13]) h:=by
 have q:=vG (h:=h) o
 have q2:=tL (h:=h) o w
 have c3:(Ls.map tpI).length<=1000000:=by rw[List.length_map];have:=o.len;omega
 obtain⟨s,e⟩:=zk (h:=h) (zs:=Ls.map cw) (fun z hz c hc=>by
  obtain⟨x,hx,rfl⟩:=List.mem_map.mp hz
  have:=oU (o.sm.all x hx) hc
  omega) (fun z hz=>by
  obtain⟨x,hx,rfl⟩:=List.mem_map.mp hz
  exact lB (o.sm.all x hx)) (by rw[List.length_map];exact o.len)
 generalize (Ls.map cw).map D.str=zs at q q2 e
 generalize Ls.map tpI=ts at q q2 c3 ⊢
 simp[S8,q,q2,c3,e]
theorem Di {p:Pen} {x0:List Int} {r:List (List Int)} (o:fV x0):∃(bd:D) (p':Pen),Bad bd/\S9 [d0,d1,some (.ref h.length),y3,y4,some (.frl ((x0::r).map tpI)),y6,y7,y8,y9,y10,y11,y12,y13] (h++.lst (bp p)::t)=.ok (.nx [d0,d1,some (.ref h.length),y3,y4,some (.frl ((x0::r).map tpI)),y6,y7,y8,y9,some bd,y11,y12,y13]) (h++.lst (bp p')::t):=by
 obtain⟨bd,p',e,b⟩:=Ex (p:=p) (h:=h) (t:=t) o
 refine⟨bd,p',b,?_⟩
 have e:cz [.ref h.length,.tup (x0.map D.int)] (h++.lst (bp p)::t)=_:=e
 rw[List.map_cons]
 simp[S9,e]
theorem B_ {p:Pen} {M:Nat} (hM:1<=M/\M<=20):∃(sp:Nat) (p':Pen),sp<M/\S10 [d0,d1,some (.ref h.length),some (.int M),y4,y5,y6,y7,y8,y9,y10,y11,y12,y13] (h++.lst (bp p)::t)=.ok (.nx [d0,d1,some (.ref h.length),some (.int M),y4,y5,y6,y7,y8,y9,y10,some (.int sp),y12,y13]) (h++.lst (bp p')::t):=by
 obtain⟨sp,e1,b1⟩:=iU p (M:Int) (by omega)
 have dn:0<(M:Int)/\(M:Int)<=10 ^ 20:=by omega
 refine⟨sp,bw p M,by omega,?_⟩
 simp[S10,oH dn,e1]
theorem Bv {Ls:List (List Int)} {sp:Nat} {bd:D} (o:OL Ls):S11 [d0,d1,d2,y3,y4,some (.frl (Ls.map tpI)),y6,y7,y8,y9,some bd,some (.int sp),y12,y13] h=.ok (.nx [d0,d1,d2,y3,y4,some (.frl (Ls.map tpI)),y6,y7,y8,y9,some bd,some (.int sp),some (.frl (wrL Ls sp bd)),y13]) h:=by
 have hl:=o.len
 have c1:=k6 Ls none (some (sp:Int))
 have c2:=k6 Ls (some ((sp:Int)+1)) none
 have e1:cutD (Ls.map tpI) none (some (sp:Int))=(cx Ls none (some (sp:Int))).map tpI:=gJ _ _ _ _
 have e2:cutD (Ls.map tpI) (some ((sp:Int)+1)) none=(cx Ls (some ((sp:Int)+1)) none).map tpI:=gJ _ _ _ _
 have e3:(List.replicate 21 (Ls.map tpI)).flatten=(List.replicate 21 Ls).flatten.map tpI:=by rw[List.map_flatten,List.map_replicate]
 have e4:cutD ((List.replicate 21 Ls).flatten.map tpI) none (some 21)=(cx (List.replicate 21 Ls).flatten none (some 21)).map tpI:=gJ _ _ _ _
 have l0:(Ls.map tpI).length*21<=1000000:=by rw[List.length_map];omega
 have l1:((cx Ls none (some (sp:Int))).map tpI).length+1<=1000000:=by rw[List.length_map];omega
 have l2:((cx Ls none (some (sp:Int))).map tpI).length+1+((cx Ls (some ((sp:Int)+1)) none).map tpI).length<=1000000:=by rw[List.length_map,List.length_map];omega
 unfold wrL
 rw[<- e3] at e4
 generalize (cx Ls none (some (sp:Int))).map tpI=A at *
 generalize (cx Ls (some ((sp:Int)+1)) none).map tpI=B at *
 generalize (cx (List.replicate 21 Ls).flatten none (some 21)).map tpI=C at *
 generalize Ls.map tpI=ts at *
 simp[S11,e1,e2,l0,l1,l2]
 simpa using e4
theorem Cv {x0:List Int} {r:List (List Int)} {ws:List D} (hw:ws.length<=100):S12 [d0,d1,d2,y3,y4,some (.frl ((x0::r).map tpI)),y6,y7,y8,y9,y10,y11,some (.frl ws),y13] h=.ok (.nx [d0,d1,d2,y3,y4,some (.frl ((x0::r).map tpI)),y6,y7,y8,y9,y10,y11,some (.frl (ws++[tpI x0,.edic])),y13]) h:=by
 have c:ws.length+2<=1000000:=by omega
 rw[List.map_cons]
 simp[S12,c]
theorem CZ {Ls:List (List Int)} {bd:D} (o:OL Ls) (b:Bad bd) (w:Wf h):S13 [d0,d1,d2,y3,y4,some (.frl (Ls.map tpI)),y6,y7,y8,y9,some bd,y11,y12,y13] h=.ok (.nx [d0,d1,d2,y3,y4,some (.frl (Ls.map tpI)),y6,y7,y8,y9,some bd,y11,y12,y13]) h:=by
 have t1:=v_ b.th w b.og
 have t2:=v_ (d:=.frl (Ls.map tpI)) (h:=h) ⟨rfl,fun ds e=>(nomatch e),xH (by have:=o.len;omega) o.sm.all⟩ w rfl
 have n:=DT (h:=h)
 generalize Ls.map tpI=ts at *
 simp[S13,t1,t2,n]
end
theorem zS:ya:=by
 intro ns c y2 y3 y4 y5 y6 y7 y8 y9 y10 y11 y12 y13 h w
 rw[Ez]
 obtain⟨M,Q,p2,hM,hQ,e2⟩:=DQ (d0:=some (.scr (ns.map D.int))) (d1:=some (.int c)) (y3:=y3) (y4:=y4) (y5:=y5) (y6:=y6) (y7:=y7) (y8:=y8) (y9:=y9) (y10:=y10) (y11:=y11) (y12:=y12) (y13:=y13) (h:=h) (p:=sT c)
 obtain⟨Ls,p3,o,hl,e3⟩:=DG (d0:=some (.scr (ns.map D.int))) (d1:=some (.int c)) (y5:=y5) (y6:=y6) (y7:=y7) (y8:=y8) (y9:=y9) (y10:=y10) (y11:=y11) (y12:=y12) (y13:=y13) (p:=p2) w hM hQ
 have w1:Wf (h++[.lst (bp p3)]):=rO w p3
 obtain⟨z8,z9,e7,w7⟩:=EA (d0:=some (.scr (ns.map D.int))) (d1:=some (.int c)) (d2:=some (.ref h.length)) (y3:=some (.int M)) (y4:=some (.int Q)) (y5:=some (.frl (Ls.map tpI))) (y8:=y8) (y9:=y9) (y10:=y10) (y11:=y11) (y12:=y12) (y13:=y13) o w1
 rw[List.append_assoc] at e7 w7
 obtain⟨x0,r,rfl⟩:∃x0 r,Ls=x0::r:=by cases Ls with | nil=>exact absurd rfl o.ne | cons x r=>exact⟨x,r,rfl⟩
 have low2:∀p:Pen,Wf (h++.lst (bp p)::[.lst ((x0::r).map tpI++[.tup []]),.lst ((x0::r).map tpI++[.tup []])]):=fun p=>by
  have a:=((rO w p).app (s_ (x0::r))).app (s_ (x0::r))
  simpa using a
 obtain⟨bd,p9,b,e9⟩:=Di (d0:=some (.scr (ns.map D.int))) (d1:=some (.int c)) (y3:=some (.int M)) (y4:=some (.int Q)) (y6:=some (.str (hV (x0::r)))) (y7:=some (.str (cY (x0::r)))) (y8:=z8) (y9:=z9) (y10:=y10) (y11:=y11) (y12:=y12) (y13:=y13) (h:=h) (p:=p3) (r:=r) (t:=[.lst ((x0::r).map tpI++[.tup []]),.lst ((x0::r).map tpI++[.tup []])]) (o.all x0 (by simp))
 obtain⟨sp,p10,hs,e10⟩:=B_ (d0:=some (.scr (ns.map D.int))) (d1:=some (.int c)) (y4:=some (.int Q)) (y5:=some (.frl ((x0::r).map tpI))) (y6:=some (.str (hV (x0::r)))) (y7:=some (.str (cY (x0::r)))) (y8:=z8) (y9:=z9) (y10:=some bd) (y11:=y11) (y12:=y12) (y13:=y13) (h:=h) (p:=p9) (t:=[.lst ((x0::r).map tpI++[.tup []]),.lst ((x0::r).map tpI++[.tup []])]) hM
 obtain⟨z6,z13,e14⟩:=lU (low2 p10) (y0:=some (.scr (ns.map D.int))) (y1:=some (.int c)) (y2:=some (.ref h.length)) (y3:=some (.int M)) (y4:=some (.int Q)) (y5:=some (.frl ((x0::r).map tpI))) (y7:=some (.str (cY (x0::r)))) (y8:=z8) (y9:=z9) (y10:=some bd) (y11:=some (.int sp)) (y12:=some (.frl (wrL (x0::r) sp bd++[tpI x0,.edic]))) (wrL (x0::r) sp bd++[tpI x0,.edic]) (some (.str (hV (x0::r)))) y13 (Ck o (by simp) (by omega) b (low2 p10))
 have s8:=fun{y8 y9 y10 y11 y12 y13:Option D}=>Dp (d0:=some (.scr (ns.map D.int))) (d1:=some (.int c)) (d2:=some (.ref h.length)) (y3:=some (.int M)) (y4:=some (.int Q)) (y6:=some (.str (hV (x0::r)))) (y7:=some (.str (cY (x0::r)))) (y8:=y8) (y9:=y9) (y10:=y10) (y11:=y11) (y12:=y12) (y13:=y13) o (low2 p3)
 have e7':S7 _ (h++[.lst (bp p3)])=.ok _ (h++.lst (bp p3)::[.lst ((x0::r).map tpI++[.tup []]),.lst ((x0::r).map tpI++[.tup []])]):=e7
 have wl:(wrL (x0::r) sp bd).length<=100:=by show 7<=100;decide
 have l14:(wrL (x0::r) sp bd++[tpI x0,D.edic]).length<=1000000:=by show 9<=1000000;decide
 refine⟨.nx [some (.scr (ns.map D.int)),some (.int c),some (.ref h.length),some (.int M),some (.int Q),some (.frl ((x0::r).map tpI)),z6,some (.str (cY (x0::r))),z8,z9,some bd,some (.int sp),some (.frl (wrL (x0::r) sp bd++[tpI x0,.edic])),z13],h++.lst (bp p10)::[.lst ((x0::r).map tpI++[.tup []]),.lst ((x0::r).map tpI++[.tup []])],?_,_,_,_,_,_,_,_,_,_,_,_,_,rfl,low2 p10⟩
 have e14':S14 [some (.scr (ns.map D.int)),some (.int c),some (.ref h.length),some (.int M),some (.int Q),some (.frl ((x0::r).map tpI)),some (.str (hV (x0::r))),some (.str (cY (x0::r))),z8,z9,some bd,some (.int sp),some (.frl (wrL (x0::r) sp bd++[tpI x0,.edic])),y13] (h++.lst (bp p10)::[.lst ((x0::r).map tpI++[.tup []]),.lst ((x0::r).map tpI++[.tup []])])=.ok (.nx [some (.scr (ns.map D.int)),some (.int c),some (.ref h.length),some (.int M),some (.int Q),some (.frl ((x0::r).map tpI)),z6,some (.str (cY (x0::r))),z8,z9,some bd,some (.int sp),some (.frl (wrL (x0::r) sp bd++[tpI x0,.edic])),z13]) (h++.lst (bp p10)::[.lst ((x0::r).map tpI++[.tup []]),.lst ((x0::r).map tpI++[.tup []])]):=by
  generalize wrL (x0::r) sp bd++[tpI x0,D.edic]=ws at e14 l14 ⊢
  simp[S14,l14]
  simpa using e14
 simp only[AQ,Dh,br,F7,e2,e3,Et o,Eh o,El o w1,e7',s8,e9,e10,Bv o,Cv wl,CZ o b (low2 p10),e14']
theorem B3 (ns:List Int) (hl:ns.length<=63):∃h,lV [.scr (ns.map D.int)] []=.ok (.bl true) h:=BJ zS ns hl
end FC
open PySem PySem.W PyProof.Rows
local macro_rules | `(tactic| o_head $H)=>`(tactic| (refine holds_open (q:=FC.Q) (loose:=[]) (Xt:=(fun s=>xlAt FC.Q [] s&&recOk (RowW.records (OpenRow.toRowW (OpenLaw.row PySem.Challenge.rw_fallcounts_k91_orders_written))) s)) (XP:=XL FC.Q []) (Yf:=Hook.obs $H) (Ya:=Hook.val $H) (YP:=Hook.says $H) (N:=4900) (L2.FE.uj (by decide) (by kernel_rfl) (fun _=>by kernel_rfl) FC.Dn FC.Ef (fun w os=>by kernel_rfl)) (Hook.of $H) (Hook.keeps $H) (fun s e=>xl_of s (Bool.and_eq_true_iff.mp e).1) XL.keeps (by rfl) (by rfl) (by rfl) (fun s e=>recFacts_of (Bool.and_eq_true_iff.mp e).2) (by rfl) (by first | assumption | decide +kernel) (by decide +kernel) ⟨rfl,rfl,rfl,rfl,rfl,by decide +kernel⟩ ?hw ?hc))
set_option maxRecDepth 100000 in
set_option maxHeartbeats 0 in
theorem PySem.Challenge.cw_fallcounts_k91_orders_written_holds : PySem.Challenge.rw_fallcounts_k91_orders_written.Holds := by
 w_on;o_law;k_head;w_witness2
 k_fill
 refine FC.walk (l:=PySem.Challenge.rw_fallcounts_k91_orders_written) rfl rfl (fun w h Y=>by first | exact PySem.W.kIn_of Y | exact PySem.W.km_in_of Y) FC.B3 ?F
 case F=>
  intro w mg fa h KX G hmg
  have T:FC.Text (L2.KOf KX):=by
   dsimp only[L2.KOf]
   refine' ⟨?eW,?fA,?gM,?gw,?f7,?gW,?iD,?gv,?f_,?fE,?eS,?fw,?eQ,?fq,?fv,?iw,?eU,?eD,?gF,?xM,?cls,?jC,?f6,?yz,?qX,?gG,?xG,?fT,?wX,?rD,?wW,?oA,?su,?wR,?wu,?pw,?cA,?cH,?dJ⟩
   (case eW=>refine' L2.FE.bT ?a ?l ?c ?k;(case a=>k_is);(case l=>k_is);(case c=>k_is);(case k=>k_is))
   (case fA=>refine' L2.FE.bT ?a ?l ?c ?k;(case a=>k_is);(case l=>k_is);(case c=>k_is);(case k=>k_is))
   (case gM=>refine' L2.FE.bT ?a ?l ?c ?k;(case a=>k_is);(case l=>k_is);(case c=>k_is);(case k=>k_is))
   (case gw=>refine' L2.FE.bT ?a ?l ?c ?k;(case a=>k_is);(case l=>k_is);(case c=>k_is);(case k=>k_is))
   (case f7=>refine' L2.FE.bT ?a ?l ?c ?k;(case a=>k_is);(case l=>k_is);(case c=>k_is);(case k=>k_is))
   (case gW=>refine' L2.FE.bT ?a ?l ?c ?k;(case a=>k_is);(case l=>k_is);(case c=>k_is);(case k=>k_is))
   (case iD=>refine' L2.FE.bT ?a ?l ?c ?k;(case a=>k_is);(case l=>k_is);(case c=>k_is);(case k=>k_is))
   (case gv=>refine' L2.FE.bT ?a ?l ?c ?k;(case a=>k_is);(case l=>k_is);(case c=>k_is);(case k=>k_is))
   (case f_=>refine' L2.FE.bT ?a ?l ?c ?k;(case a=>k_is);(case l=>k_is);(case c=>k_is);(case k=>k_is))
   (case fE=>refine' L2.FE.bT ?a ?l ?c ?k;(case a=>k_is);(case l=>k_is);(case c=>k_is);(case k=>k_is))
   (case eS=>refine' L2.FE.bT ?a ?l ?c ?k;(case a=>k_is);(case l=>k_is);(case c=>k_is);(case k=>k_is))
   (case fw=>refine' L2.FE.bT ?a ?l ?c ?k;(case a=>k_is);(case l=>k_is);(case c=>k_is);(case k=>k_is))
   (case eQ=>refine' L2.FE.bT ?a ?l ?c ?k;(case a=>k_is);(case l=>k_is);(case c=>k_is);(case k=>k_is))
   (case fq=>refine' L2.FE.bT ?a ?l ?c ?k;(case a=>k_is);(case l=>k_is);(case c=>k_is);(case k=>k_is))
   (case fv=>refine' L2.FE.bT ?a ?l ?c ?k;(case a=>k_is);(case l=>k_is);(case c=>k_is);(case k=>k_is))
   (case iw=>refine' L2.FE.bT ?a ?l ?c ?k;(case a=>k_is);(case l=>k_is);(case c=>k_is);(case k=>k_is))
   (case eU=>refine' L2.FE.bT ?a ?l ?c ?k;(case a=>k_is);(case l=>k_is);(case c=>k_is);(case k=>k_is))
   (case eD=>refine' L2.FE.bT ?a ?l ?c ?k;(case a=>k_is);(case l=>k_is);(case c=>k_is);(case k=>k_is))
   (case gF=>refine' L2.FE.bT ?a ?l ?c ?k;(case a=>k_is);(case l=>k_is);(case c=>k_is);(case k=>k_is))
   (case xM=>refine' L2.FE.bT ?a ?l ?c ?k;(case a=>k_is);(case l=>k_is);(case c=>k_is);(case k=>k_is))
   (case cls=>refine' L2.Bc ?e0 ?e1 ?e2 ?e3 ?e4 ?e5 ?e6 ?e7 ?c;(case e0=>k_is);(case e1=>k_is);(case e2=>k_is);(case e3=>k_is);(case e4=>k_is);(case e5=>k_is);(case e6=>k_is);(case e7=>k_is);(case c=>kernel_rfl))
   (case jC=>refine' L2.zB ?a ?b ?l ?c ?k ?o FC.rh FC.pP FC.rC FC.sk (by decide);(case a=>k_is);(case b=>k_is);(case l=>k_is);(case c=>k_is);(case k=>k_is);(case o=>kernel_rfl))
   (case f6=>k_is)
   (case yz=>k_is)
   (case qX=>k_is)
   (case gG=>k_is)
   (case xG=>k_is)
   (case fT=>k_is)
   (case wX=>k_is)
   (case rD=>k_is)
   (case wW=>k_is)
   (case oA=>k_is)
   (case su=>k_is)
   (case wR=>k_is)
   (case wu=>k_is)
   (case pw=>k_is)
   (case cA=>exact⟨_,rfl⟩)
   (case cH=>exact⟨_,rfl⟩)
   (case dJ=>exact⟨_,rfl⟩)
  exact FC.all_mk KX G hmg T
